/- Parts of the proof: H2 H4. -/
import Derived.Test.YtjghbciepinofaaGreatRows
import Derived.Test.YtjghbciepinofaaGreatPK1
import Derived.WalkKit
import Derived.Deep.RegionWith
import Derived.Deep.RegionHeld3
import Derived.Deep.DeepCutAuto
set_option maxRecDepth 100000
namespace Go.Proofs.YtjghbciepinofaaGreat
open Go.RowKit
theorem pay_end {w wq : World} (R : BAt wq (w.heap.size + 1) 0 0 0 0 0 0 0) (H : Below w.heap.size w wq) (r0 r1 r2 r3 r4 r5 r6 er : Int) (act : Act)
    (h8 : act.tmps.getD 6 undef = .pointer (some ⟨w.heap.size + 1, 0, none⟩)) (h9 : act.tmps.getD 7 undef = .int .i64 er) (hd : act.defers = []) :
    bodyPost Tryz.prog Tryz.f69 (fun e w' => e = .returned (.tuple #[.agg #[.int .i64 r0, .int .i64 r1, .int .i64 r2, .int .i64 r3, .int .i64 r4, .int .i64 r5, .int .i64 r6], .int .i64 er]) ∧ Below w.heap.size w w') Exit.ret act
      (set7 wq (w.heap.size + 1) r0 r1 r2 r3 r4 r5 r6) := by
  have HR := R.set7 r0 r1 r2 r3 r4 r5 r6
  have HW := set7_below (b := w.heap.size + 1) H (by omega) r0 r1 r2 r3 r4 r5 r6
  generalize set7 wq (w.heap.size + 1) r0 r1 r2 r3 r4 r5 r6 = w9 at *
  obtain ⟨u0, u1, u2, u3, u4, u5, u6⟩ := HR.cells
  have h8' : act.tmps[6]?.getD undef = .pointer (some ⟨w.heap.size + 1, 0, none⟩) := by simpa using h8
  have h9' : act.tmps[7]?.getD undef = .int .i64 er := by simpa using h9
  exact bodyPost_ret (v := .tuple #[.agg #[.int .i64 r0, .int .i64 r1, .int .i64 r2, .int .i64 r3, .int .i64 r4, .int .i64 r5, .int .i64 r6], .int .i64 er]) (by simp [results, Tryz.results69, go_sem, h8', h9', u0, u1, u2, u3, u4, u5, u6]) hd ⟨rfl, HW⟩
set_option maxHeartbeats 1000000 in
theorem pay_walk (f0 f1 f2 f3 bo wa bu d n r0 r1 r2 r3 r4 r5 r6 er : Int) (w : World) (h0 : 0 ≤ d) (h1 : d < 4)
    (hmv : ∀ (c : Nat) (w : World), w.cell? ⟨c, 0, none⟩ = some (.int .i64 d) → c < w.heap.size → Calls Tryz.prog 114 #[.agg #[.int .i64 f0, .int .i64 f1, .int .i64 f2, .int .i64 f3, .int .i64 bo, .int .i64 wa, .int .i64 bu], .func (.func 123) #[] #[], .func (.func 125) #[] #[.pointer (some ⟨c, 0, none⟩)], .int .i64 n] w
      fun e w' => e = .returned (.tuple #[.agg #[.int .i64 r0, .int .i64 r1, .int .i64 r2, .int .i64 r3, .int .i64 r4, .int .i64 r5, .int .i64 r6], .int .i64 er]) ∧ Below w.heap.size w w') :
    Calls Tryz.prog 69 #[.agg #[.int .i64 f0, .int .i64 f1, .int .i64 f2, .int .i64 f3, .int .i64 bo, .int .i64 wa, .int .i64 bu], .int .i64 d, .int .i64 n] w
      fun e w' => e = .returned (.tuple #[.agg #[.int .i64 r0, .int .i64 r1, .int .i64 r2, .int .i64 r3, .int .i64 r4, .int .i64 r5, .int .i64 r6], .int .i64 er]) ∧ Below w.heap.size w w' := by
  have hD := isDel_any d
  rw [decide_eq_true ⟨h0, h1⟩] at hD
  go_enter Tryz.func69, Tryz.ntmps69
  go_wp2_with (go_at_call 113; refine (hD _).mono ?_; rintro e w2 ⟨rfl, rfl⟩)
  have R0 : BAt ((w.alloc (.cells #[.int .i64 f0, .int .i64 f1, .int .i64 f2, .int .i64 f3, .int .i64 bo, .int .i64 wa, .int .i64 bu] 24)).alloc (.cells #[.int .i64 0, .int .i64 0, .int .i64 0, .int .i64 0, .int .i64 0, .int .i64 0, .int .i64 0] 24)) (w.heap.size + 1) 0 0 0 0 0 0 0 := by
    have := BAt.new (w.alloc (.cells #[.int .i64 f0, .int .i64 f1, .int .i64 f2, .int .i64 f3, .int .i64 bo, .int .i64 wa, .int .i64 bu] 24)) 0 0 0 0 0 0 0
    simpa using this
  have B0 := ((BAt.new w f0 f1 f2 f3 bo wa bu).alloc (.cells #[.int .i64 0, .int .i64 0, .int .i64 0, .int .i64 0, .int .i64 0, .int .i64 0, .int .i64 0] 24))
  have HB : Hid (Below w.heap.size w ((w.alloc (.cells #[.int .i64 f0, .int .i64 f1, .int .i64 f2, .int .i64 f3, .int .i64 bo, .int .i64 wa, .int .i64 bu] 24)).alloc (.cells #[.int .i64 0, .int .i64 0, .int .i64 0, .int .i64 0, .int .i64 0, .int .i64 0, .int .i64 0] 24))) := (((Below.refl _ w).alloc (Nat.le_refl _) _).alloc (by simp) _)
  generalize (w.alloc (.cells #[.int .i64 f0, .int .i64 f1, .int .i64 f2, .int .i64 f3, .int .i64 bo, .int .i64 wa, .int .i64 bu] 24)).alloc (.cells #[.int .i64 0, .int .i64 0, .int .i64 0, .int .i64 0, .int .i64 0, .int .i64 0, .int .i64 0] 24) = w0 at *
  obtain ⟨x0, x1, x2, x3, x4, x5, x6⟩ := B0.cells
  have hz0 : w.heap.size < w0.heap.size := B0.lt
  have hz1 : w.heap.size + 1 < w0.heap.size := R0.lt
  clear B0
  go_region_with (first
    | (go_at_call 83; refine (waiting_any _).mono ?_; rintro e w2 ⟨rfl, rfl⟩)
    | (go_at_call 85; refine (freeOf_any _ _).mono ?_; rintro e w2 ⟨rfl, rfl⟩)
    | (go_at_call 114; refine (hmv w0.heap.size _ (by simp) (by simp)).mono ?_; rintro e w5 ⟨rfl, hb5⟩; have R5 : BAt w5 (w.heap.size + 1) 0 0 0 0 0 0 0 := (hb5.block _ (by simp; omega)).trans (R0.alloc (.cells #[.int .i64 d] 3)); have HB5 : Hid (Below w.heap.size w w5) := ((HB.out.alloc (Nat.le_of_lt hz0) (.cells #[.int .i64 d] 3)).drew).trans (hb5.mono (by simp; omega)); obtain ⟨u0, u1, u2, u3, u4, u5, u6⟩ := R5.frees; obtain ⟨v0, v1, v2, v3, v4, v5, v6⟩ := R5.cells; have HR5 : Hid (BAt w5 (w.heap.size + 1) 0 0 0 0 0 0 0) := R5; clear R5 hb5))
  all_goals
    go_wp2
    exact pay_end HR5.out HB5.out r0 r1 r2 r3 r4 r5 r6 er _ rfl rfl rfl
set_option maxHeartbeats 1000000 in
theorem pay_no (f0 f1 f2 f3 bo wa bu d n : Int) (w : World) (h : ¬ (0 ≤ d ∧ d < 4)) :
    Calls Tryz.prog 69 #[.agg #[.int .i64 f0, .int .i64 f1, .int .i64 f2, .int .i64 f3, .int .i64 bo, .int .i64 wa, .int .i64 bu], .int .i64 d, .int .i64 n] w
      fun e w' => e = .returned (.tuple #[.agg #[.int .i64 f0, .int .i64 f1, .int .i64 f2, .int .i64 f3, .int .i64 bo, .int .i64 wa, .int .i64 bu], .int .i64 4]) ∧ Below w.heap.size w w' := by
  have hD := isDel_any d
  rw [decide_eq_false h] at hD
  clear h
  go_enter Tryz.func69, Tryz.ntmps69
  go_wp2_with fail
  have R0 : BAt ((w.alloc (.cells #[.int .i64 f0, .int .i64 f1, .int .i64 f2, .int .i64 f3, .int .i64 bo, .int .i64 wa, .int .i64 bu] 24)).alloc (.cells #[.int .i64 0, .int .i64 0, .int .i64 0, .int .i64 0, .int .i64 0, .int .i64 0, .int .i64 0] 24)) (w.heap.size + 1) 0 0 0 0 0 0 0 := by
    have := BAt.new (w.alloc (.cells #[.int .i64 f0, .int .i64 f1, .int .i64 f2, .int .i64 f3, .int .i64 bo, .int .i64 wa, .int .i64 bu] 24)) 0 0 0 0 0 0 0
    simpa using this
  have B0 := ((BAt.new w f0 f1 f2 f3 bo wa bu).alloc (.cells #[.int .i64 0, .int .i64 0, .int .i64 0, .int .i64 0, .int .i64 0, .int .i64 0, .int .i64 0] 24))
  have HB : Hid (Below w.heap.size w ((w.alloc (.cells #[.int .i64 f0, .int .i64 f1, .int .i64 f2, .int .i64 f3, .int .i64 bo, .int .i64 wa, .int .i64 bu] 24)).alloc (.cells #[.int .i64 0, .int .i64 0, .int .i64 0, .int .i64 0, .int .i64 0, .int .i64 0, .int .i64 0] 24))) := (((Below.refl _ w).alloc (Nat.le_refl _) _).alloc (by simp) _)
  generalize (w.alloc (.cells #[.int .i64 f0, .int .i64 f1, .int .i64 f2, .int .i64 f3, .int .i64 bo, .int .i64 wa, .int .i64 bu] 24)).alloc (.cells #[.int .i64 0, .int .i64 0, .int .i64 0, .int .i64 0, .int .i64 0, .int .i64 0, .int .i64 0] 24) = w0 at *
  obtain ⟨x0, x1, x2, x3, x4, x5, x6⟩ := B0.cells
  have hz0 : w.heap.size < w0.heap.size := B0.lt
  have hz1 : w.heap.size + 1 < w0.heap.size := R0.lt
  obtain ⟨u0, u1, u2, u3, u4, u5, u6⟩ := R0.frees
  obtain ⟨v0, v1, v2, v3, v4, v5, v6⟩ := R0.cells
  have HR5 : Hid (BAt w0 (w.heap.size + 1) 0 0 0 0 0 0 0) := R0
  clear B0 R0
  go_wp2_with (go_at_call 113; refine (hD _).mono ?_; rintro e w2 ⟨rfl, rfl⟩)
  exact pay_end HR5.out HB.out f0 f1 f2 f3 bo wa bu 4 _ rfl rfl rfl
end Go.Proofs.YtjghbciepinofaaGreat

set_option maxRecDepth 100000
namespace Go.Proofs.YtjghbciepinofaaGreat
open Go.RowKit
theorem burn_end {w wq : World} (R : BAt wq (w.heap.size + 1) 0 0 0 0 0 0 0) (H : Below w.heap.size w wq) (r0 r1 r2 r3 r4 r5 r6 er : Int) (act : Act)
    (h8 : act.tmps.getD 6 undef = .pointer (some ⟨w.heap.size + 1, 0, none⟩)) (h9 : act.tmps.getD 7 undef = .int .i64 er) (hd : act.defers = []) :
    bodyPost Tryz.prog Tryz.f166 (fun e w' => e = .returned (.tuple #[.agg #[.int .i64 r0, .int .i64 r1, .int .i64 r2, .int .i64 r3, .int .i64 r4, .int .i64 r5, .int .i64 r6], .int .i64 er]) ∧ Below w.heap.size w w') Exit.ret act
      (set7 wq (w.heap.size + 1) r0 r1 r2 r3 r4 r5 r6) := by
  have HR := R.set7 r0 r1 r2 r3 r4 r5 r6
  have HW := set7_below (b := w.heap.size + 1) H (by omega) r0 r1 r2 r3 r4 r5 r6
  generalize set7 wq (w.heap.size + 1) r0 r1 r2 r3 r4 r5 r6 = w9 at *
  obtain ⟨u0, u1, u2, u3, u4, u5, u6⟩ := HR.cells
  have h8' : act.tmps[6]?.getD undef = .pointer (some ⟨w.heap.size + 1, 0, none⟩) := by simpa using h8
  have h9' : act.tmps[7]?.getD undef = .int .i64 er := by simpa using h9
  exact bodyPost_ret (v := .tuple #[.agg #[.int .i64 r0, .int .i64 r1, .int .i64 r2, .int .i64 r3, .int .i64 r4, .int .i64 r5, .int .i64 r6], .int .i64 er]) (by simp [results, Tryz.results166, go_sem, h8', h9', u0, u1, u2, u3, u4, u5, u6]) hd ⟨rfl, HW⟩
theorem cells_keep2 {f : Nat} {args : Array Value} {w0 w : World} {b : Nat} {v : Value} {f0 f1 f2 f3 bo wa bu : Int} (h : Calls Tryz.prog f args w fun e w' => e = .returned v ∧ Below w.heap.size w w')
    (hb : b < w0.heap.size) (hS : w.cell? ⟨b, 0, none⟩ = some (.int .i64 f0) ∧ w.cell? ⟨b, 1, none⟩ = some (.int .i64 f1) ∧ w.cell? ⟨b, 2, none⟩ = some (.int .i64 f2) ∧ w.cell? ⟨b, 3, none⟩ = some (.int .i64 f3) ∧ w.cell? ⟨b, 4, none⟩ = some (.int .i64 bo) ∧ w.cell? ⟨b, 5, none⟩ = some (.int .i64 wa) ∧ w.cell? ⟨b, 6, none⟩ = some (.int .i64 bu) ∧ Below w0.heap.size w0 w) :
    Calls Tryz.prog f args w fun e w' => e = .returned v ∧ (w'.cell? ⟨b, 0, none⟩ = some (.int .i64 f0) ∧ w'.cell? ⟨b, 1, none⟩ = some (.int .i64 f1) ∧ w'.cell? ⟨b, 2, none⟩ = some (.int .i64 f2) ∧ w'.cell? ⟨b, 3, none⟩ = some (.int .i64 f3) ∧ w'.cell? ⟨b, 4, none⟩ = some (.int .i64 bo) ∧ w'.cell? ⟨b, 5, none⟩ = some (.int .i64 wa) ∧ w'.cell? ⟨b, 6, none⟩ = some (.int .i64 bu) ∧ Below w0.heap.size w0 w') ∧ Below w.heap.size w w' := by
  refine h.mono ?_
  rintro e w' ⟨rfl, hb'⟩
  obtain ⟨h0, h1, h2, h3, h4, h5, h6, hB⟩ := hS
  have k : ∀ o, w'.cell? ⟨b, o, none⟩ = w.cell? ⟨b, o, none⟩ := fun o => hb'.cell (Nat.lt_of_lt_of_le hb hB.size)
  exact ⟨rfl, ⟨(k 0).trans h0, (k 1).trans h1, (k 2).trans h2, (k 3).trans h3, (k 4).trans h4, (k 5).trans h5, (k 6).trans h6, hB.trans (hb'.mono hB.size)⟩, hb'⟩
set_option maxHeartbeats 2000000 in
theorem burn_walk (f0 f1 f2 f3 bo wa bu n m r0 r1 r2 r3 r4 r5 r6 er s0 s1 s2 s3 s4 s5 s6 es t0 t1 t2 t3 t4 t5 t6 et : Int) (w : World)
    (hres : (er ≠ 0 ∧ f0 = t0 ∧ f1 = t1 ∧ f2 = t2 ∧ f3 = t3 ∧ bo = t4 ∧ wa = t5 ∧ bu = t6 ∧ er = et) ∨ (er = 0 ∧ es ≠ 0 ∧ f0 = t0 ∧ f1 = t1 ∧ f2 = t2 ∧ f3 = t3 ∧ bo = t4 ∧ wa = t5 ∧ bu = t6 ∧ es = et) ∨ (er = 0 ∧ es = 0 ∧ s0 = t0 ∧ s1 = t1 ∧ s2 = t2 ∧ s3 = t3 ∧ s4 = t4 ∧ s5 = t5 ∧ s6 = t6 ∧ 0 = et))
    (hm1 : ∀ w : World, Calls Tryz.prog 114 #[.agg #[.int .i64 f0, .int .i64 f1, .int .i64 f2, .int .i64 f3, .int .i64 bo, .int .i64 wa, .int .i64 bu], .func (.func 122) #[] #[], .func (.func 124) #[] #[], .int .i64 n] w fun e w' => e = .returned (.tuple #[.agg #[.int .i64 r0, .int .i64 r1, .int .i64 r2, .int .i64 r3, .int .i64 r4, .int .i64 r5, .int .i64 r6], .int .i64 er]) ∧ Below w.heap.size w w')
    (hm2 : ∀ w : World, Calls Tryz.prog 114 #[.agg #[.int .i64 r0, .int .i64 r1, .int .i64 r2, .int .i64 r3, .int .i64 r4, .int .i64 r5, .int .i64 r6], .func (.func 123) #[] #[], .func (.func 124) #[] #[], .int .i64 m] w fun e w' => e = .returned (.tuple #[.agg #[.int .i64 s0, .int .i64 s1, .int .i64 s2, .int .i64 s3, .int .i64 s4, .int .i64 s5, .int .i64 s6], .int .i64 es]) ∧ Below w.heap.size w w') :
    Calls Tryz.prog 166 #[.agg #[.int .i64 f0, .int .i64 f1, .int .i64 f2, .int .i64 f3, .int .i64 bo, .int .i64 wa, .int .i64 bu], .int .i64 n, .int .i64 m] w
      fun e w' => e = .returned (.tuple #[.agg #[.int .i64 t0, .int .i64 t1, .int .i64 t2, .int .i64 t3, .int .i64 t4, .int .i64 t5, .int .i64 t6], .int .i64 et]) ∧ Below w.heap.size w w' := by
  go_enter Tryz.func166, Tryz.ntmps166
  go_wp2_with fail
  have R0 : BAt ((w.alloc (.cells #[.int .i64 f0, .int .i64 f1, .int .i64 f2, .int .i64 f3, .int .i64 bo, .int .i64 wa, .int .i64 bu] 24)).alloc (.cells #[.int .i64 0, .int .i64 0, .int .i64 0, .int .i64 0, .int .i64 0, .int .i64 0, .int .i64 0] 24)) (w.heap.size + 1) 0 0 0 0 0 0 0 := by
    have := BAt.new (w.alloc (.cells #[.int .i64 f0, .int .i64 f1, .int .i64 f2, .int .i64 f3, .int .i64 bo, .int .i64 wa, .int .i64 bu] 24)) 0 0 0 0 0 0 0
    simpa using this
  have B0 := ((BAt.new w f0 f1 f2 f3 bo wa bu).alloc (.cells #[.int .i64 0, .int .i64 0, .int .i64 0, .int .i64 0, .int .i64 0, .int .i64 0, .int .i64 0] 24))
  have HB : Hid (Below w.heap.size w ((w.alloc (.cells #[.int .i64 f0, .int .i64 f1, .int .i64 f2, .int .i64 f3, .int .i64 bo, .int .i64 wa, .int .i64 bu] 24)).alloc (.cells #[.int .i64 0, .int .i64 0, .int .i64 0, .int .i64 0, .int .i64 0, .int .i64 0, .int .i64 0] 24))) := (((Below.refl _ w).alloc (Nat.le_refl _) _).alloc (by simp) _)
  generalize (w.alloc (.cells #[.int .i64 f0, .int .i64 f1, .int .i64 f2, .int .i64 f3, .int .i64 bo, .int .i64 wa, .int .i64 bu] 24)).alloc (.cells #[.int .i64 0, .int .i64 0, .int .i64 0, .int .i64 0, .int .i64 0, .int .i64 0, .int .i64 0] 24) = w0 at *
  obtain ⟨x0, x1, x2, x3, x4, x5, x6⟩ := B0.cells
  have hz0 : w.heap.size < w0.heap.size := B0.lt
  have hz1 : w.heap.size + 1 < w0.heap.size := R0.lt
  go_cut [8, 9] (fun p e wc => ∃ pb, p = .pointer (some ⟨pb, 0, none⟩) ∧ e = .int .i64 er ∧ w0.heap.size ≤ pb ∧ BAt wc pb r0 r1 r2 r3 r4 r5 r6 ∧ Below w0.heap.size w0 wc)
  case first =>
    clear B0
    have hbb : Below w0.heap.size w0 w0.drew := (Below.refl _ _).drew
    have hal : ∀ (wx : World) (o : Obj), Below w0.heap.size w0 wx → Below w0.heap.size w0 (wx.alloc o) := fun wx o h => h.alloc h.size o
    have hdr : ∀ (wx : World), Below w0.heap.size w0 wx → Below w0.heap.size w0 wx.drew := fun wx h => h.drew
    have hb0 : Below w0.heap.size w0 w0 := Below.refl _ _
    have hse : ∀ (wx : World) (v0 v1 v2 v3 v4 v5 v6 : Int), Below w0.heap.size w0 wx → Below w0.heap.size w0 (((((((wx.setCell ⟨w0.heap.size, 0, none⟩ (.int .i64 v0)).setCell ⟨w0.heap.size, 1, none⟩ (.int .i64 v1)).setCell ⟨w0.heap.size, 2, none⟩ (.int .i64 v2)).setCell ⟨w0.heap.size, 3, none⟩ (.int .i64 v3)).setCell ⟨w0.heap.size, 4, none⟩ (.int .i64 v4)).setCell ⟨w0.heap.size, 5, none⟩ (.int .i64 v5)).setCell ⟨w0.heap.size, 6, none⟩ (.int .i64 v6)) := fun wx v0 v1 v2 v3 v4 v5 v6 h => ((((((h.setCell (Nat.le_refl _) _).setCell (Nat.le_refl _) _).setCell (Nat.le_refl _) _).setCell (Nat.le_refl _) _).setCell (Nat.le_refl _) _).setCell (Nat.le_refl _) _).setCell (Nat.le_refl _) _
    have hso : ∀ (wx : World) (o k : Nat) (v : Value), (wx.setCell ⟨w0.heap.size, o, none⟩ v).cell? ⟨w.heap.size, k, none⟩ = wx.cell? ⟨w.heap.size, k, none⟩ := fun wx o k v => World.cell?_of_block (w := wx) (Below.heap_setCell _ _ _ _ (by simp; omega))
    go_region_held3 (fun w' => w'.cell? ⟨w.heap.size, 0, none⟩ = some (.int .i64 f0) ∧ w'.cell? ⟨w.heap.size, 1, none⟩ = some (.int .i64 f1) ∧ w'.cell? ⟨w.heap.size, 2, none⟩ = some (.int .i64 f2) ∧ w'.cell? ⟨w.heap.size, 3, none⟩ = some (.int .i64 f3) ∧ w'.cell? ⟨w.heap.size, 4, none⟩ = some (.int .i64 bo) ∧ w'.cell? ⟨w.heap.size, 5, none⟩ = some (.int .i64 wa) ∧ w'.cell? ⟨w.heap.size, 6, none⟩ = some (.int .i64 bu) ∧ Below w0.heap.size w0 w') (go_keep)
      (first
        | (go_at_call 82; refine (bonded_any _).mono ?_; rintro e w2 ⟨rfl, rfl⟩)
        | (go_at_call 84; refine (burnt_any _).mono ?_; rintro e w2 ⟨rfl, rfl⟩)
        | (go_at_call 114; refine (cells_keep2 (f0 := f0) (f1 := f1) (f2 := f2) (f3 := f3) (bo := bo) (wa := wa) (bu := bu) (hm1 _) hz0 ?_).mono ?_; (simp [*]); rintro e wA ⟨rfl, hA, hZ⟩; have hsA : w0.heap.size ≤ wA.heap.size := hA.2.2.2.2.2.2.2.size; have hAB : Below w0.heap.size w0 wA := hA.2.2.2.2.2.2.2; have hZ' : BAt wA w0.heap.size 0 0 0 0 0 0 0 := (hZ.block _ (by simp)).trans (BAt.new w0 0 0 0 0 0 0 0); obtain ⟨u0, u1, u2, u3, u4, u5, u6⟩ := hZ'.frees; obtain ⟨v0, v1, v2, v3, v4, v5, v6⟩ := hZ'.cells; have HZ : Hid (BAt wA w0.heap.size 0 0 0 0 0 0 0) := hZ'; clear hZ hZ')
        | (go_at_call 114; refine (cells_keep2 (f0 := f0) (f1 := f1) (f2 := f2) (f3 := f3) (bo := bo) (wa := wa) (bu := bu) (hm1 _) hz0 ?_).mono ?_; (simp [*]); rintro e wA ⟨rfl, hA, hZ⟩; have hsA : w0.heap.size ≤ wA.heap.size := hA.2.2.2.2.2.2.2.size; have hAB : Below w0.heap.size w0 wA := hA.2.2.2.2.2.2.2; clear hZ))
    all_goals
      clear hA
      go_wp2_with fail
      go_meet
      case rel => first | exact ⟨w0.heap.size, rfl, rfl, Nat.le_refl _, HZ.out.set7 r0 r1 r2 r3 r4 r5 r6, hse wA r0 r1 r2 r3 r4 r5 r6 hAB⟩ | exact ⟨wA.heap.size, rfl, rfl, hsA, BAt.new wA r0 r1 r2 r3 r4 r5 r6, hAB.alloc hsA _⟩
  case rest =>
    obtain ⟨pb, rfl, rfl, hpb, BH, hbc⟩ := hcut
    rename World => wb
    clear x0 x1 x2 x3 x4 x5 x6
    have B1 := B0.later hbc hz0
    have R1 := R0.later hbc hz1
    have HBc : Hid (Below w.heap.size w wb) := HB.out.trans (hbc.mono (Nat.le_of_lt hz0))
    have hz2 : w.heap.size < wb.heap.size := Nat.lt_of_lt_of_le hz0 hbc.size
    have hz3 : w.heap.size + 1 < wb.heap.size := Nat.lt_of_lt_of_le hz1 hbc.size
    clear B0 R0 HB hbc hz0 hz1 hm1
    obtain ⟨u0, u1, u2, u3, u4, u5, u6⟩ := R1.frees
    obtain ⟨v0, v1, v2, v3, v4, v5, v6⟩ := R1.cells
    have HR1 : Hid (BAt wb (w.heap.size + 1) 0 0 0 0 0 0 0) := R1
    clear R1
    by_cases her : er = 0
    · subst her
      have hpl : pb < wb.heap.size := BH.lt
      obtain ⟨y0, y1, y2, y3, y4, y5, y6⟩ := BH.cells
      clear BH u0 u1 u2 u3 u4 u5 u6 v0 v1 v2 v3 v4 v5 v6
      go_wp2_with fail
      go_cut [10, 9] (fun p e wd => ∃ pc, p = .pointer (some ⟨pc, 0, none⟩) ∧ e = .int .i64 es ∧ wb.heap.size ≤ pc ∧ BAt wd pc s0 s1 s2 s3 s4 s5 s6 ∧ Below wb.heap.size wb wd)
      case first =>
        clear B1 HR1 hres HBc hz2 hz3
        have hbb : Below wb.heap.size wb wb.drew := (Below.refl _ _).drew
        have hal : ∀ (wx : World) (o : Obj), Below wb.heap.size wb wx → Below wb.heap.size wb (wx.alloc o) := fun wx o h => h.alloc h.size o
        have hdr : ∀ (wx : World), Below wb.heap.size wb wx → Below wb.heap.size wb wx.drew := fun wx h => h.drew
        have hb0 : Below wb.heap.size wb wb := Below.refl _ _
        have hse : ∀ (wx : World) (v0 v1 v2 v3 v4 v5 v6 : Int), Below wb.heap.size wb wx → Below wb.heap.size wb (((((((wx.setCell ⟨wb.heap.size, 0, none⟩ (.int .i64 v0)).setCell ⟨wb.heap.size, 1, none⟩ (.int .i64 v1)).setCell ⟨wb.heap.size, 2, none⟩ (.int .i64 v2)).setCell ⟨wb.heap.size, 3, none⟩ (.int .i64 v3)).setCell ⟨wb.heap.size, 4, none⟩ (.int .i64 v4)).setCell ⟨wb.heap.size, 5, none⟩ (.int .i64 v5)).setCell ⟨wb.heap.size, 6, none⟩ (.int .i64 v6)) := fun wx v0 v1 v2 v3 v4 v5 v6 h => ((((((h.setCell (Nat.le_refl _) _).setCell (Nat.le_refl _) _).setCell (Nat.le_refl _) _).setCell (Nat.le_refl _) _).setCell (Nat.le_refl _) _).setCell (Nat.le_refl _) _).setCell (Nat.le_refl _) _
        have hso : ∀ (wx : World) (o k : Nat) (v : Value), (wx.setCell ⟨wb.heap.size, o, none⟩ v).cell? ⟨pb, k, none⟩ = wx.cell? ⟨pb, k, none⟩ := fun wx o k v => World.cell?_of_block (w := wx) (Below.heap_setCell _ _ _ _ (by simp; omega))
        go_region_held3 (fun w' => w'.cell? ⟨pb, 0, none⟩ = some (.int .i64 r0) ∧ w'.cell? ⟨pb, 1, none⟩ = some (.int .i64 r1) ∧ w'.cell? ⟨pb, 2, none⟩ = some (.int .i64 r2) ∧ w'.cell? ⟨pb, 3, none⟩ = some (.int .i64 r3) ∧ w'.cell? ⟨pb, 4, none⟩ = some (.int .i64 r4) ∧ w'.cell? ⟨pb, 5, none⟩ = some (.int .i64 r5) ∧ w'.cell? ⟨pb, 6, none⟩ = some (.int .i64 r6) ∧ Below wb.heap.size wb w') (go_keep)
          (first
            | (go_at_call 83; refine (waiting_any _).mono ?_; rintro e w2 ⟨rfl, rfl⟩)
            | (go_at_call 84; refine (burnt_any _).mono ?_; rintro e w2 ⟨rfl, rfl⟩)
            | (go_at_call 114; refine (cells_keep2 (f0 := r0) (f1 := r1) (f2 := r2) (f3 := r3) (bo := r4) (wa := r5) (bu := r6) (hm2 _) hpl ?_).mono ?_; (simp [*]); rintro e wA ⟨rfl, hA, hZ⟩; have hsA : wb.heap.size ≤ wA.heap.size := hA.2.2.2.2.2.2.2.size; have hAB : Below wb.heap.size wb wA := hA.2.2.2.2.2.2.2; have hZ' : BAt wA wb.heap.size 0 0 0 0 0 0 0 := (hZ.block _ (by simp)).trans (BAt.new wb 0 0 0 0 0 0 0); obtain ⟨u0, u1, u2, u3, u4, u5, u6⟩ := hZ'.frees; obtain ⟨v0, v1, v2, v3, v4, v5, v6⟩ := hZ'.cells; have HZ : Hid (BAt wA wb.heap.size 0 0 0 0 0 0 0) := hZ'; clear hZ hZ')
            | (go_at_call 114; refine (cells_keep2 (f0 := r0) (f1 := r1) (f2 := r2) (f3 := r3) (bo := r4) (wa := r5) (bu := r6) (hm2 _) hpl ?_).mono ?_; (simp [*]); rintro e wA ⟨rfl, hA, hZ⟩; have hsA : wb.heap.size ≤ wA.heap.size := hA.2.2.2.2.2.2.2.size; have hAB : Below wb.heap.size wb wA := hA.2.2.2.2.2.2.2; clear hZ))
        all_goals
          clear hA
          go_wp2_with fail
          go_meet
          case rel => first | exact ⟨wb.heap.size, rfl, rfl, Nat.le_refl _, HZ.out.set7 s0 s1 s2 s3 s4 s5 s6, hse wA s0 s1 s2 s3 s4 s5 s6 hAB⟩ | exact ⟨wA.heap.size, rfl, rfl, hsA, BAt.new wA s0 s1 s2 s3 s4 s5 s6, hAB.alloc hsA _⟩
      case rest =>
        obtain ⟨pc, rfl, rfl, hpc, BH, hbd⟩ := hcut
        clear y0 y1 y2 y3 y4 y5 y6
        have B2 := B1.later hbd hz2
        have R2 := HR1.out.later hbd hz3
        have HBd : Hid (Below w.heap.size w wc) := HBc.out.trans (hbd.mono (Nat.le_of_lt hz2))
        clear HBc hbd HR1 B1
        obtain ⟨u0, u1, u2, u3, u4, u5, u6⟩ := R2.frees
        obtain ⟨v0, v1, v2, v3, v4, v5, v6⟩ := R2.cells
        have HR2 : Hid (BAt wc (w.heap.size + 1) 0 0 0 0 0 0 0) := R2
        clear R2
        rcases hres with ⟨h, _⟩ | ⟨_, h, rfl, rfl, rfl, rfl, rfl, rfl, rfl, rfl⟩ | ⟨_, rfl, rfl, rfl, rfl, rfl, rfl, rfl, rfl, rfl⟩
        · exact absurd rfl h
        · have hb : (es != 0) = true := by simpa using h
          obtain ⟨x0, x1, x2, x3, x4, x5, x6⟩ := B2.cells
          clear B2 BH
          go_wp2
          exact burn_end HR2.out HBd.out f0 f1 f2 f3 bo wa bu es _ rfl rfl rfl
        · obtain ⟨x0, x1, x2, x3, x4, x5, x6⟩ := BH.cells
          clear B2 BH
          go_wp2
          exact burn_end HR2.out HBd.out s0 s1 s2 s3 s4 s5 s6 0 _ rfl rfl rfl
    · have hb : (er != 0) = true := by simpa using her
      rcases hres with ⟨_, rfl, rfl, rfl, rfl, rfl, rfl, rfl, rfl⟩ | ⟨h, _⟩ | ⟨h, _⟩
      · obtain ⟨x0, x1, x2, x3, x4, x5, x6⟩ := B1.cells
        clear B1 BH
        go_wp2
        exact burn_end HR1.out HBc.out f0 f1 f2 f3 bo wa bu er _ rfl rfl rfl
      · exact absurd h her
      · exact absurd h her
end Go.Proofs.YtjghbciepinofaaGreat

