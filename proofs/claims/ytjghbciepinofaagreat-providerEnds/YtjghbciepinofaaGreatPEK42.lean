/- Parts of the proof: H1 H2 SO SP. -/
import Derived.Test.YtjghbciepinofaaGreatRows
import Derived.Test.YtjghbciepinofaaGreatPEK29
import Derived.Test.YtjghbciepinofaaGreatPEK33
import Derived.WalkKit
import Derived.Deep.RegionWith
import Derived.WalkSmall
import Derived.Below
import Derived.BigQuiet
import Derived.Deep.QuietTactic
import Derived.Deep.RegionHeld3
import Derived.Deep.DeepCutAuto
set_option maxRecDepth 100000
namespace Go.Proofs.YtjghbciepinofaaGreat
open Go.RowKit
theorem bond_end {w wq : World} (R : BAt wq (w.heap.size + 1) 0 0 0 0 0 0 0) (H : Below w.heap.size w wq) (r0 r1 r2 r3 r4 r5 r6 er : Int) (act : Act)
    (h8 : act.tmps.getD 6 undef = .pointer (some ⟨w.heap.size + 1, 0, none⟩)) (h9 : act.tmps.getD 7 undef = .int .i64 er) (hd : act.defers = []) :
    bodyPost Tryz.prog Tryz.f106 (fun e w' => e = .returned (.tuple #[.agg #[.int .i64 r0, .int .i64 r1, .int .i64 r2, .int .i64 r3, .int .i64 r4, .int .i64 r5, .int .i64 r6], .int .i64 er]) ∧ Below w.heap.size w w') Exit.ret act
      (set7 wq (w.heap.size + 1) r0 r1 r2 r3 r4 r5 r6) := by
  have HR := R.set7 r0 r1 r2 r3 r4 r5 r6
  have HW := set7_below (b := w.heap.size + 1) H (by omega) r0 r1 r2 r3 r4 r5 r6
  generalize set7 wq (w.heap.size + 1) r0 r1 r2 r3 r4 r5 r6 = w9 at *
  obtain ⟨u0, u1, u2, u3, u4, u5, u6⟩ := HR.cells
  have h8' : act.tmps[6]?.getD undef = .pointer (some ⟨w.heap.size + 1, 0, none⟩) := by simpa using h8
  have h9' : act.tmps[7]?.getD undef = .int .i64 er := by simpa using h9
  exact bodyPost_ret (v := .tuple #[.agg #[.int .i64 r0, .int .i64 r1, .int .i64 r2, .int .i64 r3, .int .i64 r4, .int .i64 r5, .int .i64 r6], .int .i64 er]) (by simp [results, Tryz.results106, go_sem, h8', h9', u0, u1, u2, u3, u4, u5, u6]) hd ⟨rfl, HW⟩
set_option maxHeartbeats 1000000 in
theorem bond_walk (f0 f1 f2 f3 bo wa bu d n r0 r1 r2 r3 r4 r5 r6 er : Int) (w : World) (h0 : 0 ≤ d) (h1 : d < 4)
    (hmv : ∀ (c : Nat) (w : World), w.cell? ⟨c, 0, none⟩ = some (.int .i64 d) → c < w.heap.size → Calls Tryz.prog 114 #[.agg #[.int .i64 f0, .int .i64 f1, .int .i64 f2, .int .i64 f3, .int .i64 bo, .int .i64 wa, .int .i64 bu], .func (.func 125) #[] #[.pointer (some ⟨c, 0, none⟩)], .func (.func 122) #[] #[], .int .i64 n] w
      fun e w' => e = .returned (.tuple #[.agg #[.int .i64 r0, .int .i64 r1, .int .i64 r2, .int .i64 r3, .int .i64 r4, .int .i64 r5, .int .i64 r6], .int .i64 er]) ∧ Below w.heap.size w w') :
    Calls Tryz.prog 106 #[.agg #[.int .i64 f0, .int .i64 f1, .int .i64 f2, .int .i64 f3, .int .i64 bo, .int .i64 wa, .int .i64 bu], .int .i64 d, .int .i64 n] w
      fun e w' => e = .returned (.tuple #[.agg #[.int .i64 r0, .int .i64 r1, .int .i64 r2, .int .i64 r3, .int .i64 r4, .int .i64 r5, .int .i64 r6], .int .i64 er]) ∧ Below w.heap.size w w' := by
  have hD := isDel_any d
  rw [decide_eq_true ⟨h0, h1⟩] at hD
  go_enter Tryz.func106, Tryz.ntmps106
  go_wp2_with (go_at_call 113; refine (hD _).mono ?_; rintro e w2 ⟨rfl, rfl⟩)
  have R0 : BAt ((w.alloc (.cells #[.int .i64 f0, .int .i64 f1, .int .i64 f2, .int .i64 f3, .int .i64 bo, .int .i64 wa, .int .i64 bu] 24)).alloc (.cells #[.int .i64 0, .int .i64 0, .int .i64 0, .int .i64 0, .int .i64 0, .int .i64 0, .int .i64 0] 24)) (w.heap.size + 1) 0 0 0 0 0 0 0 := by
    have := BAt.new (w.alloc (.cells #[.int .i64 f0, .int .i64 f1, .int .i64 f2, .int .i64 f3, .int .i64 bo, .int .i64 wa, .int .i64 bu] 24)) 0 0 0 0 0 0 0
    simpa using this
  have B0 := ((BAt.new w f0 f1 f2 f3 bo wa bu).alloc (.cells #[.int .i64 0, .int .i64 0, .int .i64 0, .int .i64 0, .int .i64 0, .int .i64 0, .int .i64 0] 24))
  have HB : Hid (Below w.heap.size w ((w.alloc (.cells #[.int .i64 f0, .int .i64 f1, .int .i64 f2, .int .i64 f3, .int .i64 bo, .int .i64 wa, .int .i64 bu] 24)).alloc (.cells #[.int .i64 0, .int .i64 0, .int .i64 0, .int .i64 0, .int .i64 0, .int .i64 0, .int .i64 0] 24))) := (((Below.refl _ w).alloc (Nat.le_refl _) _).alloc (by simp) _)
  generalize (w.alloc (.cells #[.int .i64 f0, .int .i64 f1, .int .i64 f2, .int .i64 f3, .int .i64 bo, .int .i64 wa, .int .i64 bu] 24)).alloc (.cells #[.int .i64 0, .int .i64 0, .int .i64 0, .int .i64 0, .int .i64 0, .int .i64 0, .int .i64 0] 24) = w0 at *
  obtain ⟨x0, x1, x2, x3, x4, x5, x6⟩ := B0.cells
  have hz0 : w.heap.size < w0.heap.size := B0.lt
  have hz1 : w.heap.size + 1 < w0.heap.size := R0.lt
  clear B0
  go_region_with (first
    | (go_at_call 85; refine (freeOf_any _ _).mono ?_; rintro e w2 ⟨rfl, rfl⟩)
    | (go_at_call 82; refine (bonded_any _).mono ?_; rintro e w2 ⟨rfl, rfl⟩)
    | (go_at_call 114; refine (hmv w0.heap.size _ (by simp) (by simp)).mono ?_; rintro e w5 ⟨rfl, hb5⟩; have R5 : BAt w5 (w.heap.size + 1) 0 0 0 0 0 0 0 := (hb5.block _ (by simp; omega)).trans (R0.alloc (.cells #[.int .i64 d] 3)); have HB5 : Hid (Below w.heap.size w w5) := ((HB.out.alloc (Nat.le_of_lt hz0) (.cells #[.int .i64 d] 3)).drew).trans (hb5.mono (by simp; omega)); obtain ⟨u0, u1, u2, u3, u4, u5, u6⟩ := R5.frees; obtain ⟨v0, v1, v2, v3, v4, v5, v6⟩ := R5.cells; have HR5 : Hid (BAt w5 (w.heap.size + 1) 0 0 0 0 0 0 0) := R5; clear R5 hb5))
  all_goals
    go_wp2
    exact bond_end HR5.out HB5.out r0 r1 r2 r3 r4 r5 r6 er _ rfl rfl rfl
set_option maxHeartbeats 1000000 in
theorem bond_no (f0 f1 f2 f3 bo wa bu d n : Int) (w : World) (h : ¬ (0 ≤ d ∧ d < 4)) :
    Calls Tryz.prog 106 #[.agg #[.int .i64 f0, .int .i64 f1, .int .i64 f2, .int .i64 f3, .int .i64 bo, .int .i64 wa, .int .i64 bu], .int .i64 d, .int .i64 n] w
      fun e w' => e = .returned (.tuple #[.agg #[.int .i64 f0, .int .i64 f1, .int .i64 f2, .int .i64 f3, .int .i64 bo, .int .i64 wa, .int .i64 bu], .int .i64 4]) ∧ Below w.heap.size w w' := by
  have hD := isDel_any d
  rw [decide_eq_false h] at hD
  clear h
  go_enter Tryz.func106, Tryz.ntmps106
  go_wp2_with fail
  have R0 : BAt ((w.alloc (.cells #[.int .i64 f0, .int .i64 f1, .int .i64 f2, .int .i64 f3, .int .i64 bo, .int .i64 wa, .int .i64 bu] 24)).alloc (.cells #[.int .i64 0, .int .i64 0, .int .i64 0, .int .i64 0, .int .i64 0, .int .i64 0, .int .i64 0] 24)) (w.heap.size + 1) 0 0 0 0 0 0 0 := by
    have := BAt.new (w.alloc (.cells #[.int .i64 f0, .int .i64 f1, .int .i64 f2, .int .i64 f3, .int .i64 bo, .int .i64 wa, .int .i64 bu] 24)) 0 0 0 0 0 0 0
    simpa using this
  have B0 := ((BAt.new w f0 f1 f2 f3 bo wa bu).alloc (.cells #[.int .i64 0, .int .i64 0, .int .i64 0, .int .i64 0, .int .i64 0, .int .i64 0, .int .i64 0] 24))
  have HB : Hid (Below w.heap.size w ((w.alloc (.cells #[.int .i64 f0, .int .i64 f1, .int .i64 f2, .int .i64 f3, .int .i64 bo, .int .i64 wa, .int .i64 bu] 24)).alloc (.cells #[.int .i64 0, .int .i64 0, .int .i64 0, .int .i64 0, .int .i64 0, .int .i64 0, .int .i64 0] 24))) := (((Below.refl _ w).alloc (Nat.le_refl _) _).alloc (by simp) _)
  generalize (w.alloc (.cells #[.int .i64 f0, .int .i64 f1, .int .i64 f2, .int .i64 f3, .int .i64 bo, .int .i64 wa, .int .i64 bu] 24)).alloc (.cells #[.int .i64 0, .int .i64 0, .int .i64 0, .int .i64 0, .int .i64 0, .int .i64 0, .int .i64 0] 24) = w0 at *
  obtain ⟨x0, x1, x2, x3, x4, x5, x6⟩ := B0.cells
  have hz0 : w.heap.size < w0.heap.size := B0.lt
  have hz1 : w.heap.size + 1 < w0.heap.size := R0.lt
  obtain ⟨u0, u1, u2, u3, u4, u5, u6⟩ := R0.frees
  obtain ⟨v0, v1, v2, v3, v4, v5, v6⟩ := R0.cells
  have HR5 : Hid (BAt w0 (w.heap.size + 1) 0 0 0 0 0 0 0) := R0
  clear B0 R0
  go_wp2_with (go_at_call 113; refine (hD _).mono ?_; rintro e w2 ⟨rfl, rfl⟩)
  exact bond_end HR5.out HB.out f0 f1 f2 f3 bo wa bu 4 _ rfl rfl rfl
end Go.Proofs.YtjghbciepinofaaGreat

set_option maxRecDepth 100000
namespace Go.Proofs.YtjghbciepinofaaGreat
open Go.RowKit
theorem pay_end {w wq : World} (R : BAt wq (w.heap.size + 1) 0 0 0 0 0 0 0) (H : Below w.heap.size w wq) (r0 r1 r2 r3 r4 r5 r6 er : Int) (act : Act)
    (h8 : act.tmps.getD 6 undef = .pointer (some ⟨w.heap.size + 1, 0, none⟩)) (h9 : act.tmps.getD 7 undef = .int .i64 er) (hd : act.defers = []) :
    bodyPost Tryz.prog Tryz.f69 (fun e w' => e = .returned (.tuple #[.agg #[.int .i64 r0, .int .i64 r1, .int .i64 r2, .int .i64 r3, .int .i64 r4, .int .i64 r5, .int .i64 r6], .int .i64 er]) ∧ Below w.heap.size w w') Exit.ret act
      (set7 wq (w.heap.size + 1) r0 r1 r2 r3 r4 r5 r6) := by
  have HR := R.set7 r0 r1 r2 r3 r4 r5 r6
  have HW := set7_below (b := w.heap.size + 1) H (by omega) r0 r1 r2 r3 r4 r5 r6
  generalize set7 wq (w.heap.size + 1) r0 r1 r2 r3 r4 r5 r6 = w9 at *
  obtain ⟨u0, u1, u2, u3, u4, u5, u6⟩ := HR.cells
  have h8' : act.tmps[6]?.getD undef = .pointer (some ⟨w.heap.size + 1, 0, none⟩) := by simpa using h8
  have h9' : act.tmps[7]?.getD undef = .int .i64 er := by simpa using h9
  exact bodyPost_ret (v := .tuple #[.agg #[.int .i64 r0, .int .i64 r1, .int .i64 r2, .int .i64 r3, .int .i64 r4, .int .i64 r5, .int .i64 r6], .int .i64 er]) (by simp [results, Tryz.results69, go_sem, h8', h9', u0, u1, u2, u3, u4, u5, u6]) hd ⟨rfl, HW⟩
set_option maxHeartbeats 1000000 in
theorem pay_walk (f0 f1 f2 f3 bo wa bu d n r0 r1 r2 r3 r4 r5 r6 er : Int) (w : World) (h0 : 0 ≤ d) (h1 : d < 4)
    (hmv : ∀ (c : Nat) (w : World), w.cell? ⟨c, 0, none⟩ = some (.int .i64 d) → c < w.heap.size → Calls Tryz.prog 114 #[.agg #[.int .i64 f0, .int .i64 f1, .int .i64 f2, .int .i64 f3, .int .i64 bo, .int .i64 wa, .int .i64 bu], .func (.func 123) #[] #[], .func (.func 125) #[] #[.pointer (some ⟨c, 0, none⟩)], .int .i64 n] w
      fun e w' => e = .returned (.tuple #[.agg #[.int .i64 r0, .int .i64 r1, .int .i64 r2, .int .i64 r3, .int .i64 r4, .int .i64 r5, .int .i64 r6], .int .i64 er]) ∧ Below w.heap.size w w') :
    Calls Tryz.prog 69 #[.agg #[.int .i64 f0, .int .i64 f1, .int .i64 f2, .int .i64 f3, .int .i64 bo, .int .i64 wa, .int .i64 bu], .int .i64 d, .int .i64 n] w
      fun e w' => e = .returned (.tuple #[.agg #[.int .i64 r0, .int .i64 r1, .int .i64 r2, .int .i64 r3, .int .i64 r4, .int .i64 r5, .int .i64 r6], .int .i64 er]) ∧ Below w.heap.size w w' := by
  have hD := isDel_any d
  rw [decide_eq_true ⟨h0, h1⟩] at hD
  go_enter Tryz.func69, Tryz.ntmps69
  go_wp2_with (go_at_call 113; refine (hD _).mono ?_; rintro e w2 ⟨rfl, rfl⟩)
  have R0 : BAt ((w.alloc (.cells #[.int .i64 f0, .int .i64 f1, .int .i64 f2, .int .i64 f3, .int .i64 bo, .int .i64 wa, .int .i64 bu] 24)).alloc (.cells #[.int .i64 0, .int .i64 0, .int .i64 0, .int .i64 0, .int .i64 0, .int .i64 0, .int .i64 0] 24)) (w.heap.size + 1) 0 0 0 0 0 0 0 := by
    have := BAt.new (w.alloc (.cells #[.int .i64 f0, .int .i64 f1, .int .i64 f2, .int .i64 f3, .int .i64 bo, .int .i64 wa, .int .i64 bu] 24)) 0 0 0 0 0 0 0
    simpa using this
  have B0 := ((BAt.new w f0 f1 f2 f3 bo wa bu).alloc (.cells #[.int .i64 0, .int .i64 0, .int .i64 0, .int .i64 0, .int .i64 0, .int .i64 0, .int .i64 0] 24))
  have HB : Hid (Below w.heap.size w ((w.alloc (.cells #[.int .i64 f0, .int .i64 f1, .int .i64 f2, .int .i64 f3, .int .i64 bo, .int .i64 wa, .int .i64 bu] 24)).alloc (.cells #[.int .i64 0, .int .i64 0, .int .i64 0, .int .i64 0, .int .i64 0, .int .i64 0, .int .i64 0] 24))) := (((Below.refl _ w).alloc (Nat.le_refl _) _).alloc (by simp) _)
  generalize (w.alloc (.cells #[.int .i64 f0, .int .i64 f1, .int .i64 f2, .int .i64 f3, .int .i64 bo, .int .i64 wa, .int .i64 bu] 24)).alloc (.cells #[.int .i64 0, .int .i64 0, .int .i64 0, .int .i64 0, .int .i64 0, .int .i64 0, .int .i64 0] 24) = w0 at *
  obtain ⟨x0, x1, x2, x3, x4, x5, x6⟩ := B0.cells
  have hz0 : w.heap.size < w0.heap.size := B0.lt
  have hz1 : w.heap.size + 1 < w0.heap.size := R0.lt
  clear B0
  go_region_with (first
    | (go_at_call 83; refine (waiting_any _).mono ?_; rintro e w2 ⟨rfl, rfl⟩)
    | (go_at_call 85; refine (freeOf_any _ _).mono ?_; rintro e w2 ⟨rfl, rfl⟩)
    | (go_at_call 114; refine (hmv w0.heap.size _ (by simp) (by simp)).mono ?_; rintro e w5 ⟨rfl, hb5⟩; have R5 : BAt w5 (w.heap.size + 1) 0 0 0 0 0 0 0 := (hb5.block _ (by simp; omega)).trans (R0.alloc (.cells #[.int .i64 d] 3)); have HB5 : Hid (Below w.heap.size w w5) := ((HB.out.alloc (Nat.le_of_lt hz0) (.cells #[.int .i64 d] 3)).drew).trans (hb5.mono (by simp; omega)); obtain ⟨u0, u1, u2, u3, u4, u5, u6⟩ := R5.frees; obtain ⟨v0, v1, v2, v3, v4, v5, v6⟩ := R5.cells; have HR5 : Hid (BAt w5 (w.heap.size + 1) 0 0 0 0 0 0 0) := R5; clear R5 hb5))
  all_goals
    go_wp2
    exact pay_end HR5.out HB5.out r0 r1 r2 r3 r4 r5 r6 er _ rfl rfl rfl
set_option maxHeartbeats 1000000 in
theorem pay_no (f0 f1 f2 f3 bo wa bu d n : Int) (w : World) (h : ¬ (0 ≤ d ∧ d < 4)) :
    Calls Tryz.prog 69 #[.agg #[.int .i64 f0, .int .i64 f1, .int .i64 f2, .int .i64 f3, .int .i64 bo, .int .i64 wa, .int .i64 bu], .int .i64 d, .int .i64 n] w
      fun e w' => e = .returned (.tuple #[.agg #[.int .i64 f0, .int .i64 f1, .int .i64 f2, .int .i64 f3, .int .i64 bo, .int .i64 wa, .int .i64 bu], .int .i64 4]) ∧ Below w.heap.size w w' := by
  have hD := isDel_any d
  rw [decide_eq_false h] at hD
  clear h
  go_enter Tryz.func69, Tryz.ntmps69
  go_wp2_with fail
  have R0 : BAt ((w.alloc (.cells #[.int .i64 f0, .int .i64 f1, .int .i64 f2, .int .i64 f3, .int .i64 bo, .int .i64 wa, .int .i64 bu] 24)).alloc (.cells #[.int .i64 0, .int .i64 0, .int .i64 0, .int .i64 0, .int .i64 0, .int .i64 0, .int .i64 0] 24)) (w.heap.size + 1) 0 0 0 0 0 0 0 := by
    have := BAt.new (w.alloc (.cells #[.int .i64 f0, .int .i64 f1, .int .i64 f2, .int .i64 f3, .int .i64 bo, .int .i64 wa, .int .i64 bu] 24)) 0 0 0 0 0 0 0
    simpa using this
  have B0 := ((BAt.new w f0 f1 f2 f3 bo wa bu).alloc (.cells #[.int .i64 0, .int .i64 0, .int .i64 0, .int .i64 0, .int .i64 0, .int .i64 0, .int .i64 0] 24))
  have HB : Hid (Below w.heap.size w ((w.alloc (.cells #[.int .i64 f0, .int .i64 f1, .int .i64 f2, .int .i64 f3, .int .i64 bo, .int .i64 wa, .int .i64 bu] 24)).alloc (.cells #[.int .i64 0, .int .i64 0, .int .i64 0, .int .i64 0, .int .i64 0, .int .i64 0, .int .i64 0] 24))) := (((Below.refl _ w).alloc (Nat.le_refl _) _).alloc (by simp) _)
  generalize (w.alloc (.cells #[.int .i64 f0, .int .i64 f1, .int .i64 f2, .int .i64 f3, .int .i64 bo, .int .i64 wa, .int .i64 bu] 24)).alloc (.cells #[.int .i64 0, .int .i64 0, .int .i64 0, .int .i64 0, .int .i64 0, .int .i64 0, .int .i64 0] 24) = w0 at *
  obtain ⟨x0, x1, x2, x3, x4, x5, x6⟩ := B0.cells
  have hz0 : w.heap.size < w0.heap.size := B0.lt
  have hz1 : w.heap.size + 1 < w0.heap.size := R0.lt
  obtain ⟨u0, u1, u2, u3, u4, u5, u6⟩ := R0.frees
  obtain ⟨v0, v1, v2, v3, v4, v5, v6⟩ := R0.cells
  have HR5 : Hid (BAt w0 (w.heap.size + 1) 0 0 0 0 0 0 0) := R0
  clear B0 R0
  go_wp2_with (go_at_call 113; refine (hD _).mono ?_; rintro e w2 ⟨rfl, rfl⟩)
  exact pay_end HR5.out HB.out f0 f1 f2 f3 bo wa bu 4 _ rfl rfl rfl
end Go.Proofs.YtjghbciepinofaaGreat

set_option maxRecDepth 100000
namespace Go.Proofs.YtjghbciepinofaaGreat
open Go.RowKit
def cmpI (x y : Int) : Int := if x < y then -1 else if y < x then 1 else 0
theorem cmpI_eq (x y : Int) : cmpI x y = if x < y then -1 else if y < x then 1 else 0 := rfl
def cmpV (a b : Int × Int) : Int := cmpI a.1 b.1
def cmpP (a b : Int × Int) : Int := if a.2 = b.2 then cmpV a b else cmpI b.2 a.2
theorem isnan_any (x : Int) (w : World) : Calls Tryz.prog 136 #[.int .i64 x] w fun e w' => e = .returned (.bool false) ∧ w = w' := by
  go_enter Tryz.func136, Tryz.ntmps136
  go_wp2
  go_ret
  exact ⟨by simp, rfl⟩
theorem cmpi_any (x y : Int) (w : World) : Calls Tryz.prog 88 #[.int .i64 x, .int .i64 y] w fun e w' => e = .returned (.int .i64 (cmpI x y)) ∧ w = w' := by
  have HC := hide (cmpI_eq x y)
  generalize cmpI x y = r at *
  go_enter Tryz.func88, Tryz.ntmps88
  go_wp2_with (go_at_call 136; refine (isnan_any _ _).mono ?_; rintro e w1 ⟨rfl, rfl⟩)
  all_goals (go_ret; refine ⟨?_, rfl⟩; have h := HC.out; first | (simp_all; done) | (simp_all; omega) | (rw [h, if_neg (by omega), if_neg (by omega)]; rfl) | (rw [h, if_neg (by omega), if_pos (by omega)]; rfl) | (rw [h, if_pos (by omega)]; rfl))
theorem byNumber_any (a b : Int × Int) (w : World) : Calls Tryz.prog 39 #[.agg #[.int .i64 a.1, .int .i64 a.2], .agg #[.int .i64 b.1, .int .i64 b.2]] w fun e w' => e = .returned (.int .i64 (cmpV a b)) ∧ Below w.heap.size w w' := by
  have hc := cmpi_any a.1 b.1
  unfold cmpV
  generalize cmpI a.1 b.1 = r at *
  go_enter Tryz.func39, Tryz.ntmps39
  go_wp2_with (go_at_call 88; refine (hc _).mono ?_; rintro e w1 ⟨rfl, rfl⟩)
  go_ret
  exact ⟨rfl, ((Below.refl _ _).alloc (Nat.le_refl _) _).alloc (by simp) _⟩
theorem byPower_any (a b : Int × Int) (w : World) : Calls Tryz.prog 38 #[.agg #[.int .i64 a.1, .int .i64 a.2], .agg #[.int .i64 b.1, .int .i64 b.2]] w fun e w' => e = .returned (.int .i64 (cmpP a b)) ∧ Below w.heap.size w w' := by
  have hc := cmpi_any b.2 a.2
  have hn := fun w => byNumber_any a b w
  by_cases h : a.2 = b.2
  · have e : cmpP a b = cmpV a b := if_pos h
    rw [e]
    generalize cmpV a b = r at *
    have hb : (a.2 != b.2) = false := by simpa using h
    clear hc
    obtain ⟨a1, a2⟩ := a
    obtain ⟨b1, b2⟩ := b
    simp only at *
    subst h
    go_enter Tryz.func38, Tryz.ntmps38
    go_wp2_with (go_at_call 39; refine (hn _).mono ?_; rintro e w1 ⟨rfl, h1⟩)
    go_ret
    exact ⟨rfl, (((Below.refl _ _).alloc (Nat.le_refl _) _).alloc (by simp) _).trans (h1.mono (by simp; omega))⟩
  · have e : cmpP a b = cmpI b.2 a.2 := if_neg h
    rw [e]
    generalize cmpI b.2 a.2 = r at *
    have hb : (a.2 != b.2) = true := by simpa using h
    go_enter Tryz.func38, Tryz.ntmps38
    go_wp2_with (go_at_call 88; refine (hc _).mono ?_; rintro e w1 ⟨rfl, rfl⟩)
    go_ret
    exact ⟨rfl, ((Below.refl _ _).alloc (Nat.le_refl _) _).alloc (by simp) _⟩
end Go.Proofs.YtjghbciepinofaaGreat

set_option maxRecDepth 100000
namespace Go.Proofs.YtjghbciepinofaaGreat
open Go.RowKit
theorem wrapI {n : Int} (h0 : -9223372036854775808 ≤ n) (h1 : n < 9223372036854775808) : IntKind.i64.wrap n = n := by
  rw [IntKind.wrap_i64]
  omega
abbrev Pw := Int × Int
def pz : Pw := (0, 0)
def swapAt (l : List Pw) (p : Nat) : List Pw := (l.set (p + 1) (l.getD p pz)).set p (l.getD (p + 1) pz)
/-- the element at a place goes down as long as it is less than the one ahead of it -/
def insG (lt : Pw → Pw → Bool) : Nat → List Pw → List Pw
  | 0, l => l
  | p + 1, l => if lt (l.getD (p + 1) pz) (l.getD p pz) = true then insG lt p (swapAt l p) else l
def sortTo (lt : Pw → Pw → Bool) (l : List Pw) : Nat → List Pw
  | 0 => l
  | m + 1 => insG lt (m + 1) (sortTo lt l m)
def isort (lt : Pw → Pw → Bool) (l : List Pw) : List Pw := sortTo lt l (l.length - 1)
def ltV (a b : Pw) : Bool := decide (cmpV a b < 0)
def ltP (a b : Pw) : Bool := decide (cmpP a b < 0)
/-- a row of powers lies at a block's beginning -/
def RowAt (w : World) (g : Nat) (l : List Pw) : Prop := ∃ cur, w.heap[g]? = some (.cells cur 74 (0, 0)) ∧ ∀ i x, l[i]? = some x → cur[i * 2]? = some (.int .i64 x.1) ∧ cur[i * 2 + 1]? = some (.int .i64 x.2)
theorem swap_length (l : List Pw) (p : Nat) : (swapAt l p).length = l.length := by simp [swapAt]
theorem ins_length (lt : Pw → Pw → Bool) : ∀ (j : Nat) (l : List Pw), (insG lt j l).length = l.length
  | 0, _ => rfl
  | p + 1, l => by rw [insG]; split; rw [ins_length lt p, swap_length]; rfl
theorem sortTo_length (lt : Pw → Pw → Bool) (l : List Pw) : ∀ m, (sortTo lt l m).length = l.length
  | 0 => rfl
  | m + 1 => by rw [sortTo, ins_length, sortTo_length lt l m]
/-- blocks that were there are as they were, but for one -/
structure ButB (g : Nat) (w w' : World) : Prop where
  os : w'.os = w.os
  tape : w'.tape = w.tape
  output : w'.output = w.output
  size : w.heap.size ≤ w'.heap.size
  block : ∀ k, k < w.heap.size → k ≠ g → w'.heap[k]? = w.heap[k]?
theorem ButB.refl (g : Nat) (w : World) : ButB g w w := ⟨rfl, rfl, rfl, Nat.le_refl _, fun _ _ _ => rfl⟩
theorem ButB.trans {g : Nat} {a b c : World} (h : ButB g a b) (k : ButB g b c) : ButB g a c :=
  ⟨k.os.trans h.os, k.tape.trans h.tape, k.output.trans h.output, Nat.le_trans h.size k.size, fun i hi hg => (k.block i (Nat.lt_of_lt_of_le hi h.size) hg).trans (h.block i hi hg)⟩
theorem ButB.of_below {g : Nat} {a b : World} (h : Below a.heap.size a b) : ButB g a b := ⟨h.os, h.tape, h.output, h.size, fun k hk _ => h.block k hk⟩
theorem ButB.set {g : Nat} {w w' : World} (h : ButB g w w') (o : Nat) (v : Value) : ButB g w (w'.setCell ⟨g, o, none⟩ v) :=
  ⟨h.os, h.tape, h.output, (by simp [World.setCell]; exact h.size), fun k hk hg => (Below.heap_setCell _ _ _ _ hg).trans (h.block k hk hg)⟩
theorem ButB.drew {g : Nat} {w w' : World} (h : ButB g w w') : ButB g w w'.drew := ⟨h.os, h.tape, h.output, h.size, h.block⟩
theorem ButB.drewN {g : Nat} {w w' : World} (h : ButB g w w') (n : Nat) : ButB g w (w'.drewN n) := ⟨h.os, h.tape, h.output, h.size, h.block⟩
theorem ButB.below {g B : Nat} {w w' : World} (h : ButB g w w') (hB : B ≤ g) (hs : B ≤ w.heap.size) : Below B w w' := ⟨h.os, h.tape, h.output, h.size, fun k hk => h.block k (by omega) (by omega)⟩
theorem RowAt.later {w w' : World} {g : Nat} {l : List Pw} (h : RowAt w g l) (hb : Below w.heap.size w w') : RowAt w' g l := by
  obtain ⟨cur, hc, hx⟩ := h
  exact ⟨cur, (hb.block g (Array.getElem?_eq_some_iff.1 hc).1).trans hc, hx⟩
theorem RowAt.cell {w : World} {g : Nat} {l : List Pw} (h : RowAt w g l) {i : Nat} (hi : i < l.length) : w.cell? ⟨g, i * 2, none⟩ = some (.int .i64 (l.getD i pz).1) ∧ w.cell? ⟨g, i * 2 + 1, none⟩ = some (.int .i64 (l.getD i pz).2) := by
  obtain ⟨cur, hc, hx⟩ := h
  have e : l[i]? = some (l.getD i pz) := by simp [List.getD, hi]
  obtain ⟨h1, h2⟩ := hx i _ e
  simp only [World.cell?, hc]
  simp [h1, h2]
theorem RowAt.free {w : World} {g : Nat} {l : List Pw} (h : RowAt w g l) (o : Nat) : w.frozen? ⟨g, o, none⟩ = false := by
  obtain ⟨cur, hc, _⟩ := h
  simp [World.frozen?, hc]
theorem RowAt.lt {w : World} {g : Nat} {l : List Pw} (h : RowAt w g l) : g < w.heap.size := by
  obtain ⟨cur, hc, _⟩ := h
  exact (Array.getElem?_eq_some_iff.1 hc).1
/-- an element is written -/
theorem RowAt.put {w : World} {g : Nat} {l : List Pw} (h : RowAt w g l) {i : Nat} (hi : i < l.length) (x : Pw) : RowAt ((w.setCell ⟨g, i * 2, none⟩ (.int .i64 x.1)).setCell ⟨g, i * 2 + 1, none⟩ (.int .i64 x.2)) g (l.set i x) := by
  have hc0 := h.cell hi
  obtain ⟨cur, hc, hx⟩ := h
  have s1 : i * 2 < cur.size := by
    have := (hx i _ (List.getElem?_eq_getElem hi)).1
    exact (Array.getElem?_eq_some_iff.1 this).1
  have s2 : i * 2 + 1 < cur.size := by
    have := (hx i _ (List.getElem?_eq_getElem hi)).2
    exact (Array.getElem?_eq_some_iff.1 this).1
  refine ⟨(cur.setIfInBounds (i * 2) (.int .i64 x.1)).setIfInBounds (i * 2 + 1) (.int .i64 x.2), ?_, fun j y hy => ?_⟩
  · simp [World.setCell, Array.getElem?_modify, hc]
  · rw [List.getElem?_set] at hy
    by_cases hj : i = j
    · subst hj
      rw [if_pos rfl, if_pos hi] at hy
      simp at hy
      subst hy
      simp [s1, s2]
    · rw [if_neg hj] at hy
      obtain ⟨h1, h2⟩ := hx j y hy
      simp only [Array.getElem?_setIfInBounds]
      rw [if_neg (by omega), if_neg (by omega), if_neg (by omega), if_neg (by omega)]
      exact ⟨h1, h2⟩
end Go.Proofs.YtjghbciepinofaaGreat

