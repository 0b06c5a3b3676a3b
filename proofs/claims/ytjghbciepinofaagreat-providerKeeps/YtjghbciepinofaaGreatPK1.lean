/- Parts of the proof: F G1. -/
import Derived.Test.YtjghbciepinofaaGreatRows
import Derived.Test.YtjghbciepinofaaGreatPK50
import Derived.WalkKit
set_option maxRecDepth 100000
namespace Go.Proofs.YtjghbciepinofaaGreat
open Go.RowKit
theorem move_end {w wq : World} (R : BAt wq (w.heap.size + 1) 0 0 0 0 0 0 0) (H : Below w.heap.size w wq) (r0 r1 r2 r3 r4 r5 r6 er : Int) (act : Act)
    (h8 : act.tmps.getD 8 undef = .pointer (some ⟨w.heap.size + 1, 0, none⟩)) (h9 : act.tmps.getD 9 undef = .int .i64 er) (hd : act.defers = []) :
    bodyPost Tryz.prog Tryz.f114 (fun e w' => e = .returned (.tuple #[.agg #[.int .i64 r0, .int .i64 r1, .int .i64 r2, .int .i64 r3, .int .i64 r4, .int .i64 r5, .int .i64 r6], .int .i64 er]) ∧ Below w.heap.size w w') Exit.ret act
      (set7 wq (w.heap.size + 1) r0 r1 r2 r3 r4 r5 r6) := by
  have HR := R.set7 r0 r1 r2 r3 r4 r5 r6
  have HW := set7_below (b := w.heap.size + 1) H (by omega) r0 r1 r2 r3 r4 r5 r6
  generalize set7 wq (w.heap.size + 1) r0 r1 r2 r3 r4 r5 r6 = w9 at *
  obtain ⟨u0, u1, u2, u3, u4, u5, u6⟩ := HR.cells
  have h8' : act.tmps[8]?.getD undef = .pointer (some ⟨w.heap.size + 1, 0, none⟩) := by simpa using h8
  have h9' : act.tmps[9]?.getD undef = .int .i64 er := by simpa using h9
  exact bodyPost_ret (v := .tuple #[.agg #[.int .i64 r0, .int .i64 r1, .int .i64 r2, .int .i64 r3, .int .i64 r4, .int .i64 r5, .int .i64 r6], .int .i64 er]) (by simp [results, Tryz.results114, go_sem, h8', h9', u0, u1, u2, u3, u4, u5, u6]) hd ⟨rfl, HW⟩
end Go.Proofs.YtjghbciepinofaaGreat

set_option maxRecDepth 100000
namespace Go.Proofs.YtjghbciepinofaaGreat
open Go.RowKit
set_option maxHeartbeats 2000000 in
theorem move_ok_04 (f0 f1 f2 f3 bo wa bu n : Int) (c : Nat) (w : World) (hc : w.cell? ⟨c, 0, none⟩ = some (.int .i64 0)) (hcl : c < w.heap.size) (hg : goodB f0 f1 f2 f3 bo wa bu = true) (hn0 : 0 ≤ n) (hn1 : n ≤ 1125899906842624) (hle : n ≤ f0) :
    Calls Tryz.prog 114 #[.agg #[.int .i64 f0, .int .i64 f1, .int .i64 f2, .int .i64 f3, .int .i64 bo, .int .i64 wa, .int .i64 bu], (.func (.func 125) #[] #[.pointer (some ⟨c, 0, none⟩)]), (.func (.func 122) #[] #[]), .int .i64 n] w fun e w' => e = .returned (.tuple #[.agg #[.int .i64 (f0 - n), .int .i64 f1, .int .i64 f2, .int .i64 f3, .int .i64 (bo + n), .int .i64 wa, .int .i64 bu], .int .i64 0]) ∧ Below w.heap.size w w' := by
  have hG := good_any f0 f1 f2 f3 bo wa bu
  rw [hg] at hG
  have hI := inn_any n
  rw [decide_eq_true ⟨hn0, hn1⟩] at hI
  unfold goodB at hg
  obtain ⟨g0, g1, g2, g3, g4, g5, g6, gs⟩ := of_decide_eq_true hg
  clear hg
  have k1 : wrap64 (f0 - n) = f0 - n := wrap64_small (by omega) (by omega)
  have k2 : wrap64 (bo + n) = bo + n := wrap64_small (by omega) (by omega)
  clear g0 g1 g2 g3 g4 g5 g6 gs hn0 hn1
  go_enter Tryz.func114, Tryz.ntmps114
  go_wp2_with fail
  refine (hG _).mono ?_
  rintro e w1 ⟨rfl, hb⟩
  have B1 := ((BAt.new w f0 f1 f2 f3 bo wa bu).alloc (.cells #[.int .i64 0, .int .i64 0, .int .i64 0, .int .i64 0, .int .i64 0, .int .i64 0, .int .i64 0] 24)).later hb (by simp; omega)
  have R1 : BAt w1 (w.heap.size + 1) 0 0 0 0 0 0 0 := by
    have := (BAt.new (w.alloc (.cells #[.int .i64 f0, .int .i64 f1, .int .i64 f2, .int .i64 f3, .int .i64 bo, .int .i64 wa, .int .i64 bu] 24)) 0 0 0 0 0 0 0).later hb (by simp)
    simpa using this
  have HB : Hid (Below w.heap.size w w1) := (((Below.refl _ w).alloc (Nat.le_refl _) _).alloc (by simp) _).trans (hb.mono (by simp; omega))
  clear hb
  have hc2 : w1.cell? ⟨c, 0, none⟩ = some (.int .i64 0) := (HB.out.cell hcl).trans hc
  skip
  clear hc hcl
  obtain ⟨x0, x1, x2, x3, x4, x5, x6⟩ := B1.cells
  have y0 := B1.frees.1
  have y1 := B1.frees.2.2.2.2.1
  obtain ⟨u0, u1, u2, u3, u4, u5, u6⟩ := R1.frees
  obtain ⟨v0, v1, v2, v3, v4, v5, v6⟩ := R1.cells
  have HR1 : Hid (BAt w1 (w.heap.size + 1) 0 0 0 0 0 0 0) := R1
  clear B1 R1
  go_wp2_with (first
    | (go_at_call 121; refine (hI _).mono ?_; rintro e w2 ⟨rfl, rfl⟩)
    | (go_at_call 125; refine (free1_at _ c 0 _ (by exact hc2) (by decide) (by decide)).mono ?_; rintro e w2 ⟨rfl, nq, rfl⟩)
    | (go_at_call 122; refine (bonded1_any _ _).mono ?_; rintro e w2 ⟨rfl, rfl⟩))
  exact move_end (wq := ((w1.drewN _).setCell ⟨w.heap.size, 0, none⟩ (.int .i64 (f0 - n))).setCell ⟨w.heap.size, 4, none⟩ (.int .i64 (bo + n))) ((BAt.other (w := w1.drewN _) HR1.out (by omega) _).other (by omega) _) (((below_drewN HB.out _).setCell (by simp) _).setCell (by simp) _) (f0 - n) f1 f2 f3 (bo + n) wa bu 0 _ rfl rfl rfl
set_option maxHeartbeats 2000000 in
theorem move_ok_14 (f0 f1 f2 f3 bo wa bu n : Int) (c : Nat) (w : World) (hc : w.cell? ⟨c, 0, none⟩ = some (.int .i64 1)) (hcl : c < w.heap.size) (hg : goodB f0 f1 f2 f3 bo wa bu = true) (hn0 : 0 ≤ n) (hn1 : n ≤ 1125899906842624) (hle : n ≤ f1) :
    Calls Tryz.prog 114 #[.agg #[.int .i64 f0, .int .i64 f1, .int .i64 f2, .int .i64 f3, .int .i64 bo, .int .i64 wa, .int .i64 bu], (.func (.func 125) #[] #[.pointer (some ⟨c, 0, none⟩)]), (.func (.func 122) #[] #[]), .int .i64 n] w fun e w' => e = .returned (.tuple #[.agg #[.int .i64 f0, .int .i64 (f1 - n), .int .i64 f2, .int .i64 f3, .int .i64 (bo + n), .int .i64 wa, .int .i64 bu], .int .i64 0]) ∧ Below w.heap.size w w' := by
  have hG := good_any f0 f1 f2 f3 bo wa bu
  rw [hg] at hG
  have hI := inn_any n
  rw [decide_eq_true ⟨hn0, hn1⟩] at hI
  unfold goodB at hg
  obtain ⟨g0, g1, g2, g3, g4, g5, g6, gs⟩ := of_decide_eq_true hg
  clear hg
  have k1 : wrap64 (f1 - n) = f1 - n := wrap64_small (by omega) (by omega)
  have k2 : wrap64 (bo + n) = bo + n := wrap64_small (by omega) (by omega)
  clear g0 g1 g2 g3 g4 g5 g6 gs hn0 hn1
  go_enter Tryz.func114, Tryz.ntmps114
  go_wp2_with fail
  refine (hG _).mono ?_
  rintro e w1 ⟨rfl, hb⟩
  have B1 := ((BAt.new w f0 f1 f2 f3 bo wa bu).alloc (.cells #[.int .i64 0, .int .i64 0, .int .i64 0, .int .i64 0, .int .i64 0, .int .i64 0, .int .i64 0] 24)).later hb (by simp; omega)
  have R1 : BAt w1 (w.heap.size + 1) 0 0 0 0 0 0 0 := by
    have := (BAt.new (w.alloc (.cells #[.int .i64 f0, .int .i64 f1, .int .i64 f2, .int .i64 f3, .int .i64 bo, .int .i64 wa, .int .i64 bu] 24)) 0 0 0 0 0 0 0).later hb (by simp)
    simpa using this
  have HB : Hid (Below w.heap.size w w1) := (((Below.refl _ w).alloc (Nat.le_refl _) _).alloc (by simp) _).trans (hb.mono (by simp; omega))
  clear hb
  have hc2 : w1.cell? ⟨c, 0, none⟩ = some (.int .i64 1) := (HB.out.cell hcl).trans hc
  skip
  clear hc hcl
  obtain ⟨x0, x1, x2, x3, x4, x5, x6⟩ := B1.cells
  have y0 := B1.frees.2.1
  have y1 := B1.frees.2.2.2.2.1
  obtain ⟨u0, u1, u2, u3, u4, u5, u6⟩ := R1.frees
  obtain ⟨v0, v1, v2, v3, v4, v5, v6⟩ := R1.cells
  have HR1 : Hid (BAt w1 (w.heap.size + 1) 0 0 0 0 0 0 0) := R1
  clear B1 R1
  go_wp2_with (first
    | (go_at_call 121; refine (hI _).mono ?_; rintro e w2 ⟨rfl, rfl⟩)
    | (go_at_call 125; refine (free1_at _ c 1 _ (by exact hc2) (by decide) (by decide)).mono ?_; rintro e w2 ⟨rfl, nq, rfl⟩)
    | (go_at_call 122; refine (bonded1_any _ _).mono ?_; rintro e w2 ⟨rfl, rfl⟩))
  exact move_end (wq := ((w1.drewN _).setCell ⟨w.heap.size, 1, none⟩ (.int .i64 (f1 - n))).setCell ⟨w.heap.size, 4, none⟩ (.int .i64 (bo + n))) ((BAt.other (w := w1.drewN _) HR1.out (by omega) _).other (by omega) _) (((below_drewN HB.out _).setCell (by simp) _).setCell (by simp) _) f0 (f1 - n) f2 f3 (bo + n) wa bu 0 _ rfl rfl rfl
set_option maxHeartbeats 2000000 in
theorem move_ok_24 (f0 f1 f2 f3 bo wa bu n : Int) (c : Nat) (w : World) (hc : w.cell? ⟨c, 0, none⟩ = some (.int .i64 2)) (hcl : c < w.heap.size) (hg : goodB f0 f1 f2 f3 bo wa bu = true) (hn0 : 0 ≤ n) (hn1 : n ≤ 1125899906842624) (hle : n ≤ f2) :
    Calls Tryz.prog 114 #[.agg #[.int .i64 f0, .int .i64 f1, .int .i64 f2, .int .i64 f3, .int .i64 bo, .int .i64 wa, .int .i64 bu], (.func (.func 125) #[] #[.pointer (some ⟨c, 0, none⟩)]), (.func (.func 122) #[] #[]), .int .i64 n] w fun e w' => e = .returned (.tuple #[.agg #[.int .i64 f0, .int .i64 f1, .int .i64 (f2 - n), .int .i64 f3, .int .i64 (bo + n), .int .i64 wa, .int .i64 bu], .int .i64 0]) ∧ Below w.heap.size w w' := by
  have hG := good_any f0 f1 f2 f3 bo wa bu
  rw [hg] at hG
  have hI := inn_any n
  rw [decide_eq_true ⟨hn0, hn1⟩] at hI
  unfold goodB at hg
  obtain ⟨g0, g1, g2, g3, g4, g5, g6, gs⟩ := of_decide_eq_true hg
  clear hg
  have k1 : wrap64 (f2 - n) = f2 - n := wrap64_small (by omega) (by omega)
  have k2 : wrap64 (bo + n) = bo + n := wrap64_small (by omega) (by omega)
  clear g0 g1 g2 g3 g4 g5 g6 gs hn0 hn1
  go_enter Tryz.func114, Tryz.ntmps114
  go_wp2_with fail
  refine (hG _).mono ?_
  rintro e w1 ⟨rfl, hb⟩
  have B1 := ((BAt.new w f0 f1 f2 f3 bo wa bu).alloc (.cells #[.int .i64 0, .int .i64 0, .int .i64 0, .int .i64 0, .int .i64 0, .int .i64 0, .int .i64 0] 24)).later hb (by simp; omega)
  have R1 : BAt w1 (w.heap.size + 1) 0 0 0 0 0 0 0 := by
    have := (BAt.new (w.alloc (.cells #[.int .i64 f0, .int .i64 f1, .int .i64 f2, .int .i64 f3, .int .i64 bo, .int .i64 wa, .int .i64 bu] 24)) 0 0 0 0 0 0 0).later hb (by simp)
    simpa using this
  have HB : Hid (Below w.heap.size w w1) := (((Below.refl _ w).alloc (Nat.le_refl _) _).alloc (by simp) _).trans (hb.mono (by simp; omega))
  clear hb
  have hc2 : w1.cell? ⟨c, 0, none⟩ = some (.int .i64 2) := (HB.out.cell hcl).trans hc
  skip
  clear hc hcl
  obtain ⟨x0, x1, x2, x3, x4, x5, x6⟩ := B1.cells
  have y0 := B1.frees.2.2.1
  have y1 := B1.frees.2.2.2.2.1
  obtain ⟨u0, u1, u2, u3, u4, u5, u6⟩ := R1.frees
  obtain ⟨v0, v1, v2, v3, v4, v5, v6⟩ := R1.cells
  have HR1 : Hid (BAt w1 (w.heap.size + 1) 0 0 0 0 0 0 0) := R1
  clear B1 R1
  go_wp2_with (first
    | (go_at_call 121; refine (hI _).mono ?_; rintro e w2 ⟨rfl, rfl⟩)
    | (go_at_call 125; refine (free1_at _ c 2 _ (by exact hc2) (by decide) (by decide)).mono ?_; rintro e w2 ⟨rfl, nq, rfl⟩)
    | (go_at_call 122; refine (bonded1_any _ _).mono ?_; rintro e w2 ⟨rfl, rfl⟩))
  exact move_end (wq := ((w1.drewN _).setCell ⟨w.heap.size, 2, none⟩ (.int .i64 (f2 - n))).setCell ⟨w.heap.size, 4, none⟩ (.int .i64 (bo + n))) ((BAt.other (w := w1.drewN _) HR1.out (by omega) _).other (by omega) _) (((below_drewN HB.out _).setCell (by simp) _).setCell (by simp) _) f0 f1 (f2 - n) f3 (bo + n) wa bu 0 _ rfl rfl rfl
set_option maxHeartbeats 2000000 in
theorem move_ok_34 (f0 f1 f2 f3 bo wa bu n : Int) (c : Nat) (w : World) (hc : w.cell? ⟨c, 0, none⟩ = some (.int .i64 3)) (hcl : c < w.heap.size) (hg : goodB f0 f1 f2 f3 bo wa bu = true) (hn0 : 0 ≤ n) (hn1 : n ≤ 1125899906842624) (hle : n ≤ f3) :
    Calls Tryz.prog 114 #[.agg #[.int .i64 f0, .int .i64 f1, .int .i64 f2, .int .i64 f3, .int .i64 bo, .int .i64 wa, .int .i64 bu], (.func (.func 125) #[] #[.pointer (some ⟨c, 0, none⟩)]), (.func (.func 122) #[] #[]), .int .i64 n] w fun e w' => e = .returned (.tuple #[.agg #[.int .i64 f0, .int .i64 f1, .int .i64 f2, .int .i64 (f3 - n), .int .i64 (bo + n), .int .i64 wa, .int .i64 bu], .int .i64 0]) ∧ Below w.heap.size w w' := by
  have hG := good_any f0 f1 f2 f3 bo wa bu
  rw [hg] at hG
  have hI := inn_any n
  rw [decide_eq_true ⟨hn0, hn1⟩] at hI
  unfold goodB at hg
  obtain ⟨g0, g1, g2, g3, g4, g5, g6, gs⟩ := of_decide_eq_true hg
  clear hg
  have k1 : wrap64 (f3 - n) = f3 - n := wrap64_small (by omega) (by omega)
  have k2 : wrap64 (bo + n) = bo + n := wrap64_small (by omega) (by omega)
  clear g0 g1 g2 g3 g4 g5 g6 gs hn0 hn1
  go_enter Tryz.func114, Tryz.ntmps114
  go_wp2_with fail
  refine (hG _).mono ?_
  rintro e w1 ⟨rfl, hb⟩
  have B1 := ((BAt.new w f0 f1 f2 f3 bo wa bu).alloc (.cells #[.int .i64 0, .int .i64 0, .int .i64 0, .int .i64 0, .int .i64 0, .int .i64 0, .int .i64 0] 24)).later hb (by simp; omega)
  have R1 : BAt w1 (w.heap.size + 1) 0 0 0 0 0 0 0 := by
    have := (BAt.new (w.alloc (.cells #[.int .i64 f0, .int .i64 f1, .int .i64 f2, .int .i64 f3, .int .i64 bo, .int .i64 wa, .int .i64 bu] 24)) 0 0 0 0 0 0 0).later hb (by simp)
    simpa using this
  have HB : Hid (Below w.heap.size w w1) := (((Below.refl _ w).alloc (Nat.le_refl _) _).alloc (by simp) _).trans (hb.mono (by simp; omega))
  clear hb
  have hc2 : w1.cell? ⟨c, 0, none⟩ = some (.int .i64 3) := (HB.out.cell hcl).trans hc
  skip
  clear hc hcl
  obtain ⟨x0, x1, x2, x3, x4, x5, x6⟩ := B1.cells
  have y0 := B1.frees.2.2.2.1
  have y1 := B1.frees.2.2.2.2.1
  obtain ⟨u0, u1, u2, u3, u4, u5, u6⟩ := R1.frees
  obtain ⟨v0, v1, v2, v3, v4, v5, v6⟩ := R1.cells
  have HR1 : Hid (BAt w1 (w.heap.size + 1) 0 0 0 0 0 0 0) := R1
  clear B1 R1
  go_wp2_with (first
    | (go_at_call 121; refine (hI _).mono ?_; rintro e w2 ⟨rfl, rfl⟩)
    | (go_at_call 125; refine (free1_at _ c 3 _ (by exact hc2) (by decide) (by decide)).mono ?_; rintro e w2 ⟨rfl, nq, rfl⟩)
    | (go_at_call 122; refine (bonded1_any _ _).mono ?_; rintro e w2 ⟨rfl, rfl⟩))
  exact move_end (wq := ((w1.drewN _).setCell ⟨w.heap.size, 3, none⟩ (.int .i64 (f3 - n))).setCell ⟨w.heap.size, 4, none⟩ (.int .i64 (bo + n))) ((BAt.other (w := w1.drewN _) HR1.out (by omega) _).other (by omega) _) (((below_drewN HB.out _).setCell (by simp) _).setCell (by simp) _) f0 f1 f2 (f3 - n) (bo + n) wa bu 0 _ rfl rfl rfl
end Go.Proofs.YtjghbciepinofaaGreat

