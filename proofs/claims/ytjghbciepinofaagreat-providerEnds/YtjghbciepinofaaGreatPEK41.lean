/- Parts of the proof: G1 G2 G3 G4. -/
import Derived.Test.YtjghbciepinofaaGreatRows
import Derived.Test.YtjghbciepinofaaGreatPEK33
import Derived.WalkKit
set_option maxRecDepth 100000
namespace Go.Proofs.YtjghbciepinofaaGreat
open Go.RowKit
set_option maxHeartbeats 2000000 in
theorem move_ok_04 (f0 f1 f2 f3 bo wa bu n : Int) (c : Nat) (w : World) (hc : w.cell? ⟨c, 0, none⟩ = some (.int .i64 0)) (hcl : c < w.heap.size) (hg : goodB f0 f1 f2 f3 bo wa bu = true) (hn0 : 0 ≤ n) (hn1 : n ≤ 1125899906842624) (hle : n ≤ f0) :
    Calls Tryz.prog 114 #[.agg #[.int .i64 f0, .int .i64 f1, .int .i64 f2, .int .i64 f3, .int .i64 bo, .int .i64 wa, .int .i64 bu], (.func (.func 125) #[] #[.pointer (some ⟨c, 0, none⟩)]), (.func (.func 122) #[] #[]), .int .i64 n] w fun e w' => e = .returned (.tuple #[.agg #[.int .i64 (f0 - n), .int .i64 f1, .int .i64 f2, .int .i64 f3, .int .i64 (bo + n), .int .i64 wa, .int .i64 bu], .int .i64 0]) ∧ Below w.heap.size w w' := by
  have hG := good_any f0 f1 f2 f3 bo wa bu
  rw [hg] at hG
  have hI := inn_any n
  rw [decide_eq_true ⟨hn0, hn1⟩] at hI
  unfold goodB at hg
  obtain ⟨g0, g1, g2, g3, g4, g5, g6, gs⟩ := of_decide_eq_true hg
  clear hg
  have k1 : wrap64 (f0 - n) = f0 - n := wrap64_small (by omega) (by omega)
  have k2 : wrap64 (bo + n) = bo + n := wrap64_small (by omega) (by omega)
  clear g0 g1 g2 g3 g4 g5 g6 gs hn0 hn1
  go_enter Tryz.func114, Tryz.ntmps114
  go_wp2_with fail
  refine (hG _).mono ?_
  rintro e w1 ⟨rfl, hb⟩
  have B1 := ((BAt.new w f0 f1 f2 f3 bo wa bu).alloc (.cells #[.int .i64 0, .int .i64 0, .int .i64 0, .int .i64 0, .int .i64 0, .int .i64 0, .int .i64 0] 24)).later hb (by simp; omega)
  have R1 : BAt w1 (w.heap.size + 1) 0 0 0 0 0 0 0 := by
    have := (BAt.new (w.alloc (.cells #[.int .i64 f0, .int .i64 f1, .int .i64 f2, .int .i64 f3, .int .i64 bo, .int .i64 wa, .int .i64 bu] 24)) 0 0 0 0 0 0 0).later hb (by simp)
    simpa using this
  have HB : Hid (Below w.heap.size w w1) := (((Below.refl _ w).alloc (Nat.le_refl _) _).alloc (by simp) _).trans (hb.mono (by simp; omega))
  clear hb
  have hc2 : w1.cell? ⟨c, 0, none⟩ = some (.int .i64 0) := (HB.out.cell hcl).trans hc
  skip
  clear hc hcl
  obtain ⟨x0, x1, x2, x3, x4, x5, x6⟩ := B1.cells
  have y0 := B1.frees.1
  have y1 := B1.frees.2.2.2.2.1
  obtain ⟨u0, u1, u2, u3, u4, u5, u6⟩ := R1.frees
  obtain ⟨v0, v1, v2, v3, v4, v5, v6⟩ := R1.cells
  have HR1 : Hid (BAt w1 (w.heap.size + 1) 0 0 0 0 0 0 0) := R1
  clear B1 R1
  go_wp2_with (first
    | (go_at_call 121; refine (hI _).mono ?_; rintro e w2 ⟨rfl, rfl⟩)
    | (go_at_call 125; refine (free1_at _ c 0 _ (by exact hc2) (by decide) (by decide)).mono ?_; rintro e w2 ⟨rfl, nq, rfl⟩)
    | (go_at_call 122; refine (bonded1_any _ _).mono ?_; rintro e w2 ⟨rfl, rfl⟩))
  exact move_end (wq := ((w1.drewN _).setCell ⟨w.heap.size, 0, none⟩ (.int .i64 (f0 - n))).setCell ⟨w.heap.size, 4, none⟩ (.int .i64 (bo + n))) ((BAt.other (w := w1.drewN _) HR1.out (by omega) _).other (by omega) _) (((below_drewN HB.out _).setCell (by simp) _).setCell (by simp) _) (f0 - n) f1 f2 f3 (bo + n) wa bu 0 _ rfl rfl rfl
set_option maxHeartbeats 2000000 in
theorem move_ok_14 (f0 f1 f2 f3 bo wa bu n : Int) (c : Nat) (w : World) (hc : w.cell? ⟨c, 0, none⟩ = some (.int .i64 1)) (hcl : c < w.heap.size) (hg : goodB f0 f1 f2 f3 bo wa bu = true) (hn0 : 0 ≤ n) (hn1 : n ≤ 1125899906842624) (hle : n ≤ f1) :
    Calls Tryz.prog 114 #[.agg #[.int .i64 f0, .int .i64 f1, .int .i64 f2, .int .i64 f3, .int .i64 bo, .int .i64 wa, .int .i64 bu], (.func (.func 125) #[] #[.pointer (some ⟨c, 0, none⟩)]), (.func (.func 122) #[] #[]), .int .i64 n] w fun e w' => e = .returned (.tuple #[.agg #[.int .i64 f0, .int .i64 (f1 - n), .int .i64 f2, .int .i64 f3, .int .i64 (bo + n), .int .i64 wa, .int .i64 bu], .int .i64 0]) ∧ Below w.heap.size w w' := by
  have hG := good_any f0 f1 f2 f3 bo wa bu
  rw [hg] at hG
  have hI := inn_any n
  rw [decide_eq_true ⟨hn0, hn1⟩] at hI
  unfold goodB at hg
  obtain ⟨g0, g1, g2, g3, g4, g5, g6, gs⟩ := of_decide_eq_true hg
  clear hg
  have k1 : wrap64 (f1 - n) = f1 - n := wrap64_small (by omega) (by omega)
  have k2 : wrap64 (bo + n) = bo + n := wrap64_small (by omega) (by omega)
  clear g0 g1 g2 g3 g4 g5 g6 gs hn0 hn1
  go_enter Tryz.func114, Tryz.ntmps114
  go_wp2_with fail
  refine (hG _).mono ?_
  rintro e w1 ⟨rfl, hb⟩
  have B1 := ((BAt.new w f0 f1 f2 f3 bo wa bu).alloc (.cells #[.int .i64 0, .int .i64 0, .int .i64 0, .int .i64 0, .int .i64 0, .int .i64 0, .int .i64 0] 24)).later hb (by simp; omega)
  have R1 : BAt w1 (w.heap.size + 1) 0 0 0 0 0 0 0 := by
    have := (BAt.new (w.alloc (.cells #[.int .i64 f0, .int .i64 f1, .int .i64 f2, .int .i64 f3, .int .i64 bo, .int .i64 wa, .int .i64 bu] 24)) 0 0 0 0 0 0 0).later hb (by simp)
    simpa using this
  have HB : Hid (Below w.heap.size w w1) := (((Below.refl _ w).alloc (Nat.le_refl _) _).alloc (by simp) _).trans (hb.mono (by simp; omega))
  clear hb
  have hc2 : w1.cell? ⟨c, 0, none⟩ = some (.int .i64 1) := (HB.out.cell hcl).trans hc
  skip
  clear hc hcl
  obtain ⟨x0, x1, x2, x3, x4, x5, x6⟩ := B1.cells
  have y0 := B1.frees.2.1
  have y1 := B1.frees.2.2.2.2.1
  obtain ⟨u0, u1, u2, u3, u4, u5, u6⟩ := R1.frees
  obtain ⟨v0, v1, v2, v3, v4, v5, v6⟩ := R1.cells
  have HR1 : Hid (BAt w1 (w.heap.size + 1) 0 0 0 0 0 0 0) := R1
  clear B1 R1
  go_wp2_with (first
    | (go_at_call 121; refine (hI _).mono ?_; rintro e w2 ⟨rfl, rfl⟩)
    | (go_at_call 125; refine (free1_at _ c 1 _ (by exact hc2) (by decide) (by decide)).mono ?_; rintro e w2 ⟨rfl, nq, rfl⟩)
    | (go_at_call 122; refine (bonded1_any _ _).mono ?_; rintro e w2 ⟨rfl, rfl⟩))
  exact move_end (wq := ((w1.drewN _).setCell ⟨w.heap.size, 1, none⟩ (.int .i64 (f1 - n))).setCell ⟨w.heap.size, 4, none⟩ (.int .i64 (bo + n))) ((BAt.other (w := w1.drewN _) HR1.out (by omega) _).other (by omega) _) (((below_drewN HB.out _).setCell (by simp) _).setCell (by simp) _) f0 (f1 - n) f2 f3 (bo + n) wa bu 0 _ rfl rfl rfl
set_option maxHeartbeats 2000000 in
theorem move_ok_24 (f0 f1 f2 f3 bo wa bu n : Int) (c : Nat) (w : World) (hc : w.cell? ⟨c, 0, none⟩ = some (.int .i64 2)) (hcl : c < w.heap.size) (hg : goodB f0 f1 f2 f3 bo wa bu = true) (hn0 : 0 ≤ n) (hn1 : n ≤ 1125899906842624) (hle : n ≤ f2) :
    Calls Tryz.prog 114 #[.agg #[.int .i64 f0, .int .i64 f1, .int .i64 f2, .int .i64 f3, .int .i64 bo, .int .i64 wa, .int .i64 bu], (.func (.func 125) #[] #[.pointer (some ⟨c, 0, none⟩)]), (.func (.func 122) #[] #[]), .int .i64 n] w fun e w' => e = .returned (.tuple #[.agg #[.int .i64 f0, .int .i64 f1, .int .i64 (f2 - n), .int .i64 f3, .int .i64 (bo + n), .int .i64 wa, .int .i64 bu], .int .i64 0]) ∧ Below w.heap.size w w' := by
  have hG := good_any f0 f1 f2 f3 bo wa bu
  rw [hg] at hG
  have hI := inn_any n
  rw [decide_eq_true ⟨hn0, hn1⟩] at hI
  unfold goodB at hg
  obtain ⟨g0, g1, g2, g3, g4, g5, g6, gs⟩ := of_decide_eq_true hg
  clear hg
  have k1 : wrap64 (f2 - n) = f2 - n := wrap64_small (by omega) (by omega)
  have k2 : wrap64 (bo + n) = bo + n := wrap64_small (by omega) (by omega)
  clear g0 g1 g2 g3 g4 g5 g6 gs hn0 hn1
  go_enter Tryz.func114, Tryz.ntmps114
  go_wp2_with fail
  refine (hG _).mono ?_
  rintro e w1 ⟨rfl, hb⟩
  have B1 := ((BAt.new w f0 f1 f2 f3 bo wa bu).alloc (.cells #[.int .i64 0, .int .i64 0, .int .i64 0, .int .i64 0, .int .i64 0, .int .i64 0, .int .i64 0] 24)).later hb (by simp; omega)
  have R1 : BAt w1 (w.heap.size + 1) 0 0 0 0 0 0 0 := by
    have := (BAt.new (w.alloc (.cells #[.int .i64 f0, .int .i64 f1, .int .i64 f2, .int .i64 f3, .int .i64 bo, .int .i64 wa, .int .i64 bu] 24)) 0 0 0 0 0 0 0).later hb (by simp)
    simpa using this
  have HB : Hid (Below w.heap.size w w1) := (((Below.refl _ w).alloc (Nat.le_refl _) _).alloc (by simp) _).trans (hb.mono (by simp; omega))
  clear hb
  have hc2 : w1.cell? ⟨c, 0, none⟩ = some (.int .i64 2) := (HB.out.cell hcl).trans hc
  skip
  clear hc hcl
  obtain ⟨x0, x1, x2, x3, x4, x5, x6⟩ := B1.cells
  have y0 := B1.frees.2.2.1
  have y1 := B1.frees.2.2.2.2.1
  obtain ⟨u0, u1, u2, u3, u4, u5, u6⟩ := R1.frees
  obtain ⟨v0, v1, v2, v3, v4, v5, v6⟩ := R1.cells
  have HR1 : Hid (BAt w1 (w.heap.size + 1) 0 0 0 0 0 0 0) := R1
  clear B1 R1
  go_wp2_with (first
    | (go_at_call 121; refine (hI _).mono ?_; rintro e w2 ⟨rfl, rfl⟩)
    | (go_at_call 125; refine (free1_at _ c 2 _ (by exact hc2) (by decide) (by decide)).mono ?_; rintro e w2 ⟨rfl, nq, rfl⟩)
    | (go_at_call 122; refine (bonded1_any _ _).mono ?_; rintro e w2 ⟨rfl, rfl⟩))
  exact move_end (wq := ((w1.drewN _).setCell ⟨w.heap.size, 2, none⟩ (.int .i64 (f2 - n))).setCell ⟨w.heap.size, 4, none⟩ (.int .i64 (bo + n))) ((BAt.other (w := w1.drewN _) HR1.out (by omega) _).other (by omega) _) (((below_drewN HB.out _).setCell (by simp) _).setCell (by simp) _) f0 f1 (f2 - n) f3 (bo + n) wa bu 0 _ rfl rfl rfl
set_option maxHeartbeats 2000000 in
theorem move_ok_34 (f0 f1 f2 f3 bo wa bu n : Int) (c : Nat) (w : World) (hc : w.cell? ⟨c, 0, none⟩ = some (.int .i64 3)) (hcl : c < w.heap.size) (hg : goodB f0 f1 f2 f3 bo wa bu = true) (hn0 : 0 ≤ n) (hn1 : n ≤ 1125899906842624) (hle : n ≤ f3) :
    Calls Tryz.prog 114 #[.agg #[.int .i64 f0, .int .i64 f1, .int .i64 f2, .int .i64 f3, .int .i64 bo, .int .i64 wa, .int .i64 bu], (.func (.func 125) #[] #[.pointer (some ⟨c, 0, none⟩)]), (.func (.func 122) #[] #[]), .int .i64 n] w fun e w' => e = .returned (.tuple #[.agg #[.int .i64 f0, .int .i64 f1, .int .i64 f2, .int .i64 (f3 - n), .int .i64 (bo + n), .int .i64 wa, .int .i64 bu], .int .i64 0]) ∧ Below w.heap.size w w' := by
  have hG := good_any f0 f1 f2 f3 bo wa bu
  rw [hg] at hG
  have hI := inn_any n
  rw [decide_eq_true ⟨hn0, hn1⟩] at hI
  unfold goodB at hg
  obtain ⟨g0, g1, g2, g3, g4, g5, g6, gs⟩ := of_decide_eq_true hg
  clear hg
  have k1 : wrap64 (f3 - n) = f3 - n := wrap64_small (by omega) (by omega)
  have k2 : wrap64 (bo + n) = bo + n := wrap64_small (by omega) (by omega)
  clear g0 g1 g2 g3 g4 g5 g6 gs hn0 hn1
  go_enter Tryz.func114, Tryz.ntmps114
  go_wp2_with fail
  refine (hG _).mono ?_
  rintro e w1 ⟨rfl, hb⟩
  have B1 := ((BAt.new w f0 f1 f2 f3 bo wa bu).alloc (.cells #[.int .i64 0, .int .i64 0, .int .i64 0, .int .i64 0, .int .i64 0, .int .i64 0, .int .i64 0] 24)).later hb (by simp; omega)
  have R1 : BAt w1 (w.heap.size + 1) 0 0 0 0 0 0 0 := by
    have := (BAt.new (w.alloc (.cells #[.int .i64 f0, .int .i64 f1, .int .i64 f2, .int .i64 f3, .int .i64 bo, .int .i64 wa, .int .i64 bu] 24)) 0 0 0 0 0 0 0).later hb (by simp)
    simpa using this
  have HB : Hid (Below w.heap.size w w1) := (((Below.refl _ w).alloc (Nat.le_refl _) _).alloc (by simp) _).trans (hb.mono (by simp; omega))
  clear hb
  have hc2 : w1.cell? ⟨c, 0, none⟩ = some (.int .i64 3) := (HB.out.cell hcl).trans hc
  skip
  clear hc hcl
  obtain ⟨x0, x1, x2, x3, x4, x5, x6⟩ := B1.cells
  have y0 := B1.frees.2.2.2.1
  have y1 := B1.frees.2.2.2.2.1
  obtain ⟨u0, u1, u2, u3, u4, u5, u6⟩ := R1.frees
  obtain ⟨v0, v1, v2, v3, v4, v5, v6⟩ := R1.cells
  have HR1 : Hid (BAt w1 (w.heap.size + 1) 0 0 0 0 0 0 0) := R1
  clear B1 R1
  go_wp2_with (first
    | (go_at_call 121; refine (hI _).mono ?_; rintro e w2 ⟨rfl, rfl⟩)
    | (go_at_call 125; refine (free1_at _ c 3 _ (by exact hc2) (by decide) (by decide)).mono ?_; rintro e w2 ⟨rfl, nq, rfl⟩)
    | (go_at_call 122; refine (bonded1_any _ _).mono ?_; rintro e w2 ⟨rfl, rfl⟩))
  exact move_end (wq := ((w1.drewN _).setCell ⟨w.heap.size, 3, none⟩ (.int .i64 (f3 - n))).setCell ⟨w.heap.size, 4, none⟩ (.int .i64 (bo + n))) ((BAt.other (w := w1.drewN _) HR1.out (by omega) _).other (by omega) _) (((below_drewN HB.out _).setCell (by simp) _).setCell (by simp) _) f0 f1 f2 (f3 - n) (bo + n) wa bu 0 _ rfl rfl rfl
end Go.Proofs.YtjghbciepinofaaGreat

set_option maxRecDepth 100000
namespace Go.Proofs.YtjghbciepinofaaGreat
open Go.RowKit
set_option maxHeartbeats 2000000 in
theorem move_ok_50 (f0 f1 f2 f3 bo wa bu n : Int) (c : Nat) (w : World) (hc : w.cell? ⟨c, 0, none⟩ = some (.int .i64 0)) (hcl : c < w.heap.size) (hg : goodB f0 f1 f2 f3 bo wa bu = true) (hn0 : 0 ≤ n) (hn1 : n ≤ 1125899906842624) (hle : n ≤ wa) :
    Calls Tryz.prog 114 #[.agg #[.int .i64 f0, .int .i64 f1, .int .i64 f2, .int .i64 f3, .int .i64 bo, .int .i64 wa, .int .i64 bu], (.func (.func 123) #[] #[]), (.func (.func 125) #[] #[.pointer (some ⟨c, 0, none⟩)]), .int .i64 n] w fun e w' => e = .returned (.tuple #[.agg #[.int .i64 (f0 + n), .int .i64 f1, .int .i64 f2, .int .i64 f3, .int .i64 bo, .int .i64 (wa - n), .int .i64 bu], .int .i64 0]) ∧ Below w.heap.size w w' := by
  have hG := good_any f0 f1 f2 f3 bo wa bu
  rw [hg] at hG
  have hI := inn_any n
  rw [decide_eq_true ⟨hn0, hn1⟩] at hI
  unfold goodB at hg
  obtain ⟨g0, g1, g2, g3, g4, g5, g6, gs⟩ := of_decide_eq_true hg
  clear hg
  have k1 : wrap64 (wa - n) = wa - n := wrap64_small (by omega) (by omega)
  have k2 : wrap64 (f0 + n) = f0 + n := wrap64_small (by omega) (by omega)
  clear g0 g1 g2 g3 g4 g5 g6 gs hn0 hn1
  go_enter Tryz.func114, Tryz.ntmps114
  go_wp2_with fail
  refine (hG _).mono ?_
  rintro e w1 ⟨rfl, hb⟩
  have B1 := ((BAt.new w f0 f1 f2 f3 bo wa bu).alloc (.cells #[.int .i64 0, .int .i64 0, .int .i64 0, .int .i64 0, .int .i64 0, .int .i64 0, .int .i64 0] 24)).later hb (by simp; omega)
  have R1 : BAt w1 (w.heap.size + 1) 0 0 0 0 0 0 0 := by
    have := (BAt.new (w.alloc (.cells #[.int .i64 f0, .int .i64 f1, .int .i64 f2, .int .i64 f3, .int .i64 bo, .int .i64 wa, .int .i64 bu] 24)) 0 0 0 0 0 0 0).later hb (by simp)
    simpa using this
  have HB : Hid (Below w.heap.size w w1) := (((Below.refl _ w).alloc (Nat.le_refl _) _).alloc (by simp) _).trans (hb.mono (by simp; omega))
  clear hb
  have hc2 : w1.cell? ⟨c, 0, none⟩ = some (.int .i64 0) := (HB.out.cell hcl).trans hc
  have hc4 : (w1.setCell ⟨w.heap.size, 5, none⟩ (.int .i64 (wa - n))).cell? ⟨c, 0, none⟩ = some (.int .i64 0) := (World.cell?_of_block (w := w1) (Below.heap_setCell _ _ _ _ (by simp; omega))).trans hc2
  clear hc hcl
  obtain ⟨x0, x1, x2, x3, x4, x5, x6⟩ := B1.cells
  have y0 := B1.frees.2.2.2.2.2.1
  have y1 := B1.frees.1
  obtain ⟨u0, u1, u2, u3, u4, u5, u6⟩ := R1.frees
  obtain ⟨v0, v1, v2, v3, v4, v5, v6⟩ := R1.cells
  have HR1 : Hid (BAt w1 (w.heap.size + 1) 0 0 0 0 0 0 0) := R1
  clear B1 R1
  go_wp2_with (first
    | (go_at_call 121; refine (hI _).mono ?_; rintro e w2 ⟨rfl, rfl⟩)
    | (go_at_call 123; refine (waiting1_any _ _).mono ?_; rintro e w2 ⟨rfl, rfl⟩)
    | (go_at_call 125; refine (free1_at _ c 0 _ (by exact hc4) (by decide) (by decide)).mono ?_; rintro e w2 ⟨rfl, nq, rfl⟩))
  exact move_end (wq := ((w1.setCell ⟨w.heap.size, 5, none⟩ (.int .i64 (wa - n))).drewN nq).setCell ⟨w.heap.size, 0, none⟩ (.int .i64 (f0 + n))) (BAt.other (w := (w1.setCell ⟨w.heap.size, 5, none⟩ (.int .i64 (wa - n))).drewN nq) (HR1.out.other (by omega) _) (by omega) _) ((below_drewN (HB.out.setCell (by simp) _) nq).setCell (by simp) _) (f0 + n) f1 f2 f3 bo (wa - n) bu 0 _ rfl rfl rfl
set_option maxHeartbeats 2000000 in
theorem move_ok_51 (f0 f1 f2 f3 bo wa bu n : Int) (c : Nat) (w : World) (hc : w.cell? ⟨c, 0, none⟩ = some (.int .i64 1)) (hcl : c < w.heap.size) (hg : goodB f0 f1 f2 f3 bo wa bu = true) (hn0 : 0 ≤ n) (hn1 : n ≤ 1125899906842624) (hle : n ≤ wa) :
    Calls Tryz.prog 114 #[.agg #[.int .i64 f0, .int .i64 f1, .int .i64 f2, .int .i64 f3, .int .i64 bo, .int .i64 wa, .int .i64 bu], (.func (.func 123) #[] #[]), (.func (.func 125) #[] #[.pointer (some ⟨c, 0, none⟩)]), .int .i64 n] w fun e w' => e = .returned (.tuple #[.agg #[.int .i64 f0, .int .i64 (f1 + n), .int .i64 f2, .int .i64 f3, .int .i64 bo, .int .i64 (wa - n), .int .i64 bu], .int .i64 0]) ∧ Below w.heap.size w w' := by
  have hG := good_any f0 f1 f2 f3 bo wa bu
  rw [hg] at hG
  have hI := inn_any n
  rw [decide_eq_true ⟨hn0, hn1⟩] at hI
  unfold goodB at hg
  obtain ⟨g0, g1, g2, g3, g4, g5, g6, gs⟩ := of_decide_eq_true hg
  clear hg
  have k1 : wrap64 (wa - n) = wa - n := wrap64_small (by omega) (by omega)
  have k2 : wrap64 (f1 + n) = f1 + n := wrap64_small (by omega) (by omega)
  clear g0 g1 g2 g3 g4 g5 g6 gs hn0 hn1
  go_enter Tryz.func114, Tryz.ntmps114
  go_wp2_with fail
  refine (hG _).mono ?_
  rintro e w1 ⟨rfl, hb⟩
  have B1 := ((BAt.new w f0 f1 f2 f3 bo wa bu).alloc (.cells #[.int .i64 0, .int .i64 0, .int .i64 0, .int .i64 0, .int .i64 0, .int .i64 0, .int .i64 0] 24)).later hb (by simp; omega)
  have R1 : BAt w1 (w.heap.size + 1) 0 0 0 0 0 0 0 := by
    have := (BAt.new (w.alloc (.cells #[.int .i64 f0, .int .i64 f1, .int .i64 f2, .int .i64 f3, .int .i64 bo, .int .i64 wa, .int .i64 bu] 24)) 0 0 0 0 0 0 0).later hb (by simp)
    simpa using this
  have HB : Hid (Below w.heap.size w w1) := (((Below.refl _ w).alloc (Nat.le_refl _) _).alloc (by simp) _).trans (hb.mono (by simp; omega))
  clear hb
  have hc2 : w1.cell? ⟨c, 0, none⟩ = some (.int .i64 1) := (HB.out.cell hcl).trans hc
  have hc4 : (w1.setCell ⟨w.heap.size, 5, none⟩ (.int .i64 (wa - n))).cell? ⟨c, 0, none⟩ = some (.int .i64 1) := (World.cell?_of_block (w := w1) (Below.heap_setCell _ _ _ _ (by simp; omega))).trans hc2
  clear hc hcl
  obtain ⟨x0, x1, x2, x3, x4, x5, x6⟩ := B1.cells
  have y0 := B1.frees.2.2.2.2.2.1
  have y1 := B1.frees.2.1
  obtain ⟨u0, u1, u2, u3, u4, u5, u6⟩ := R1.frees
  obtain ⟨v0, v1, v2, v3, v4, v5, v6⟩ := R1.cells
  have HR1 : Hid (BAt w1 (w.heap.size + 1) 0 0 0 0 0 0 0) := R1
  clear B1 R1
  go_wp2_with (first
    | (go_at_call 121; refine (hI _).mono ?_; rintro e w2 ⟨rfl, rfl⟩)
    | (go_at_call 123; refine (waiting1_any _ _).mono ?_; rintro e w2 ⟨rfl, rfl⟩)
    | (go_at_call 125; refine (free1_at _ c 1 _ (by exact hc4) (by decide) (by decide)).mono ?_; rintro e w2 ⟨rfl, nq, rfl⟩))
  exact move_end (wq := ((w1.setCell ⟨w.heap.size, 5, none⟩ (.int .i64 (wa - n))).drewN nq).setCell ⟨w.heap.size, 1, none⟩ (.int .i64 (f1 + n))) (BAt.other (w := (w1.setCell ⟨w.heap.size, 5, none⟩ (.int .i64 (wa - n))).drewN nq) (HR1.out.other (by omega) _) (by omega) _) ((below_drewN (HB.out.setCell (by simp) _) nq).setCell (by simp) _) f0 (f1 + n) f2 f3 bo (wa - n) bu 0 _ rfl rfl rfl
set_option maxHeartbeats 2000000 in
theorem move_ok_52 (f0 f1 f2 f3 bo wa bu n : Int) (c : Nat) (w : World) (hc : w.cell? ⟨c, 0, none⟩ = some (.int .i64 2)) (hcl : c < w.heap.size) (hg : goodB f0 f1 f2 f3 bo wa bu = true) (hn0 : 0 ≤ n) (hn1 : n ≤ 1125899906842624) (hle : n ≤ wa) :
    Calls Tryz.prog 114 #[.agg #[.int .i64 f0, .int .i64 f1, .int .i64 f2, .int .i64 f3, .int .i64 bo, .int .i64 wa, .int .i64 bu], (.func (.func 123) #[] #[]), (.func (.func 125) #[] #[.pointer (some ⟨c, 0, none⟩)]), .int .i64 n] w fun e w' => e = .returned (.tuple #[.agg #[.int .i64 f0, .int .i64 f1, .int .i64 (f2 + n), .int .i64 f3, .int .i64 bo, .int .i64 (wa - n), .int .i64 bu], .int .i64 0]) ∧ Below w.heap.size w w' := by
  have hG := good_any f0 f1 f2 f3 bo wa bu
  rw [hg] at hG
  have hI := inn_any n
  rw [decide_eq_true ⟨hn0, hn1⟩] at hI
  unfold goodB at hg
  obtain ⟨g0, g1, g2, g3, g4, g5, g6, gs⟩ := of_decide_eq_true hg
  clear hg
  have k1 : wrap64 (wa - n) = wa - n := wrap64_small (by omega) (by omega)
  have k2 : wrap64 (f2 + n) = f2 + n := wrap64_small (by omega) (by omega)
  clear g0 g1 g2 g3 g4 g5 g6 gs hn0 hn1
  go_enter Tryz.func114, Tryz.ntmps114
  go_wp2_with fail
  refine (hG _).mono ?_
  rintro e w1 ⟨rfl, hb⟩
  have B1 := ((BAt.new w f0 f1 f2 f3 bo wa bu).alloc (.cells #[.int .i64 0, .int .i64 0, .int .i64 0, .int .i64 0, .int .i64 0, .int .i64 0, .int .i64 0] 24)).later hb (by simp; omega)
  have R1 : BAt w1 (w.heap.size + 1) 0 0 0 0 0 0 0 := by
    have := (BAt.new (w.alloc (.cells #[.int .i64 f0, .int .i64 f1, .int .i64 f2, .int .i64 f3, .int .i64 bo, .int .i64 wa, .int .i64 bu] 24)) 0 0 0 0 0 0 0).later hb (by simp)
    simpa using this
  have HB : Hid (Below w.heap.size w w1) := (((Below.refl _ w).alloc (Nat.le_refl _) _).alloc (by simp) _).trans (hb.mono (by simp; omega))
  clear hb
  have hc2 : w1.cell? ⟨c, 0, none⟩ = some (.int .i64 2) := (HB.out.cell hcl).trans hc
  have hc4 : (w1.setCell ⟨w.heap.size, 5, none⟩ (.int .i64 (wa - n))).cell? ⟨c, 0, none⟩ = some (.int .i64 2) := (World.cell?_of_block (w := w1) (Below.heap_setCell _ _ _ _ (by simp; omega))).trans hc2
  clear hc hcl
  obtain ⟨x0, x1, x2, x3, x4, x5, x6⟩ := B1.cells
  have y0 := B1.frees.2.2.2.2.2.1
  have y1 := B1.frees.2.2.1
  obtain ⟨u0, u1, u2, u3, u4, u5, u6⟩ := R1.frees
  obtain ⟨v0, v1, v2, v3, v4, v5, v6⟩ := R1.cells
  have HR1 : Hid (BAt w1 (w.heap.size + 1) 0 0 0 0 0 0 0) := R1
  clear B1 R1
  go_wp2_with (first
    | (go_at_call 121; refine (hI _).mono ?_; rintro e w2 ⟨rfl, rfl⟩)
    | (go_at_call 123; refine (waiting1_any _ _).mono ?_; rintro e w2 ⟨rfl, rfl⟩)
    | (go_at_call 125; refine (free1_at _ c 2 _ (by exact hc4) (by decide) (by decide)).mono ?_; rintro e w2 ⟨rfl, nq, rfl⟩))
  exact move_end (wq := ((w1.setCell ⟨w.heap.size, 5, none⟩ (.int .i64 (wa - n))).drewN nq).setCell ⟨w.heap.size, 2, none⟩ (.int .i64 (f2 + n))) (BAt.other (w := (w1.setCell ⟨w.heap.size, 5, none⟩ (.int .i64 (wa - n))).drewN nq) (HR1.out.other (by omega) _) (by omega) _) ((below_drewN (HB.out.setCell (by simp) _) nq).setCell (by simp) _) f0 f1 (f2 + n) f3 bo (wa - n) bu 0 _ rfl rfl rfl
set_option maxHeartbeats 2000000 in
theorem move_ok_53 (f0 f1 f2 f3 bo wa bu n : Int) (c : Nat) (w : World) (hc : w.cell? ⟨c, 0, none⟩ = some (.int .i64 3)) (hcl : c < w.heap.size) (hg : goodB f0 f1 f2 f3 bo wa bu = true) (hn0 : 0 ≤ n) (hn1 : n ≤ 1125899906842624) (hle : n ≤ wa) :
    Calls Tryz.prog 114 #[.agg #[.int .i64 f0, .int .i64 f1, .int .i64 f2, .int .i64 f3, .int .i64 bo, .int .i64 wa, .int .i64 bu], (.func (.func 123) #[] #[]), (.func (.func 125) #[] #[.pointer (some ⟨c, 0, none⟩)]), .int .i64 n] w fun e w' => e = .returned (.tuple #[.agg #[.int .i64 f0, .int .i64 f1, .int .i64 f2, .int .i64 (f3 + n), .int .i64 bo, .int .i64 (wa - n), .int .i64 bu], .int .i64 0]) ∧ Below w.heap.size w w' := by
  have hG := good_any f0 f1 f2 f3 bo wa bu
  rw [hg] at hG
  have hI := inn_any n
  rw [decide_eq_true ⟨hn0, hn1⟩] at hI
  unfold goodB at hg
  obtain ⟨g0, g1, g2, g3, g4, g5, g6, gs⟩ := of_decide_eq_true hg
  clear hg
  have k1 : wrap64 (wa - n) = wa - n := wrap64_small (by omega) (by omega)
  have k2 : wrap64 (f3 + n) = f3 + n := wrap64_small (by omega) (by omega)
  clear g0 g1 g2 g3 g4 g5 g6 gs hn0 hn1
  go_enter Tryz.func114, Tryz.ntmps114
  go_wp2_with fail
  refine (hG _).mono ?_
  rintro e w1 ⟨rfl, hb⟩
  have B1 := ((BAt.new w f0 f1 f2 f3 bo wa bu).alloc (.cells #[.int .i64 0, .int .i64 0, .int .i64 0, .int .i64 0, .int .i64 0, .int .i64 0, .int .i64 0] 24)).later hb (by simp; omega)
  have R1 : BAt w1 (w.heap.size + 1) 0 0 0 0 0 0 0 := by
    have := (BAt.new (w.alloc (.cells #[.int .i64 f0, .int .i64 f1, .int .i64 f2, .int .i64 f3, .int .i64 bo, .int .i64 wa, .int .i64 bu] 24)) 0 0 0 0 0 0 0).later hb (by simp)
    simpa using this
  have HB : Hid (Below w.heap.size w w1) := (((Below.refl _ w).alloc (Nat.le_refl _) _).alloc (by simp) _).trans (hb.mono (by simp; omega))
  clear hb
  have hc2 : w1.cell? ⟨c, 0, none⟩ = some (.int .i64 3) := (HB.out.cell hcl).trans hc
  have hc4 : (w1.setCell ⟨w.heap.size, 5, none⟩ (.int .i64 (wa - n))).cell? ⟨c, 0, none⟩ = some (.int .i64 3) := (World.cell?_of_block (w := w1) (Below.heap_setCell _ _ _ _ (by simp; omega))).trans hc2
  clear hc hcl
  obtain ⟨x0, x1, x2, x3, x4, x5, x6⟩ := B1.cells
  have y0 := B1.frees.2.2.2.2.2.1
  have y1 := B1.frees.2.2.2.1
  obtain ⟨u0, u1, u2, u3, u4, u5, u6⟩ := R1.frees
  obtain ⟨v0, v1, v2, v3, v4, v5, v6⟩ := R1.cells
  have HR1 : Hid (BAt w1 (w.heap.size + 1) 0 0 0 0 0 0 0) := R1
  clear B1 R1
  go_wp2_with (first
    | (go_at_call 121; refine (hI _).mono ?_; rintro e w2 ⟨rfl, rfl⟩)
    | (go_at_call 123; refine (waiting1_any _ _).mono ?_; rintro e w2 ⟨rfl, rfl⟩)
    | (go_at_call 125; refine (free1_at _ c 3 _ (by exact hc4) (by decide) (by decide)).mono ?_; rintro e w2 ⟨rfl, nq, rfl⟩))
  exact move_end (wq := ((w1.setCell ⟨w.heap.size, 5, none⟩ (.int .i64 (wa - n))).drewN nq).setCell ⟨w.heap.size, 3, none⟩ (.int .i64 (f3 + n))) (BAt.other (w := (w1.setCell ⟨w.heap.size, 5, none⟩ (.int .i64 (wa - n))).drewN nq) (HR1.out.other (by omega) _) (by omega) _) ((below_drewN (HB.out.setCell (by simp) _) nq).setCell (by simp) _) f0 f1 f2 (f3 + n) bo (wa - n) bu 0 _ rfl rfl rfl
end Go.Proofs.YtjghbciepinofaaGreat

set_option maxRecDepth 100000
namespace Go.Proofs.YtjghbciepinofaaGreat
open Go.RowKit
set_option maxHeartbeats 2000000 in
theorem move_ok_46 (f0 f1 f2 f3 bo wa bu n : Int) (w : World) (hg : goodB f0 f1 f2 f3 bo wa bu = true) (hn0 : 0 ≤ n) (hn1 : n ≤ 1125899906842624) (hle : n ≤ bo) :
    Calls Tryz.prog 114 #[.agg #[.int .i64 f0, .int .i64 f1, .int .i64 f2, .int .i64 f3, .int .i64 bo, .int .i64 wa, .int .i64 bu], (.func (.func 122) #[] #[]), (.func (.func 124) #[] #[]), .int .i64 n] w fun e w' => e = .returned (.tuple #[.agg #[.int .i64 f0, .int .i64 f1, .int .i64 f2, .int .i64 f3, .int .i64 (bo - n), .int .i64 wa, .int .i64 (bu + n)], .int .i64 0]) ∧ Below w.heap.size w w' := by
  have hG := good_any f0 f1 f2 f3 bo wa bu
  rw [hg] at hG
  have hI := inn_any n
  rw [decide_eq_true ⟨hn0, hn1⟩] at hI
  unfold goodB at hg
  obtain ⟨g0, g1, g2, g3, g4, g5, g6, gs⟩ := of_decide_eq_true hg
  clear hg
  have k1 : wrap64 (bo - n) = bo - n := wrap64_small (by omega) (by omega)
  have k2 : wrap64 (bu + n) = bu + n := wrap64_small (by omega) (by omega)
  clear g0 g1 g2 g3 g4 g5 g6 gs hn0 hn1
  go_enter Tryz.func114, Tryz.ntmps114
  go_wp2_with fail
  refine (hG _).mono ?_
  rintro e w1 ⟨rfl, hb⟩
  have B1 := ((BAt.new w f0 f1 f2 f3 bo wa bu).alloc (.cells #[.int .i64 0, .int .i64 0, .int .i64 0, .int .i64 0, .int .i64 0, .int .i64 0, .int .i64 0] 24)).later hb (by simp; omega)
  have R1 : BAt w1 (w.heap.size + 1) 0 0 0 0 0 0 0 := by
    have := (BAt.new (w.alloc (.cells #[.int .i64 f0, .int .i64 f1, .int .i64 f2, .int .i64 f3, .int .i64 bo, .int .i64 wa, .int .i64 bu] 24)) 0 0 0 0 0 0 0).later hb (by simp)
    simpa using this
  have HB : Hid (Below w.heap.size w w1) := (((Below.refl _ w).alloc (Nat.le_refl _) _).alloc (by simp) _).trans (hb.mono (by simp; omega))
  clear hb
  obtain ⟨x0, x1, x2, x3, x4, x5, x6⟩ := B1.cells
  have y0 := B1.frees.2.2.2.2.1
  have y1 := B1.frees.2.2.2.2.2.2
  obtain ⟨u0, u1, u2, u3, u4, u5, u6⟩ := R1.frees
  obtain ⟨v0, v1, v2, v3, v4, v5, v6⟩ := R1.cells
  have HR1 : Hid (BAt w1 (w.heap.size + 1) 0 0 0 0 0 0 0) := R1
  clear B1 R1
  go_wp2_with (first
    | (go_at_call 121; refine (hI _).mono ?_; rintro e w2 ⟨rfl, rfl⟩)
    | (go_at_call 122; refine (bonded1_any _ _).mono ?_; rintro e w2 ⟨rfl, rfl⟩)
    | (go_at_call 124; refine (burnt1_any _ _).mono ?_; rintro e w2 ⟨rfl, rfl⟩))
  exact move_end ((HR1.out.other (by omega) _).other (by omega) _) ((HB.out.setCell (by simp) _).setCell (by simp) _) f0 f1 f2 f3 (bo - n) wa (bu + n) 0 _ rfl rfl rfl
set_option maxHeartbeats 2000000 in
theorem move_ok_56 (f0 f1 f2 f3 bo wa bu n : Int) (w : World) (hg : goodB f0 f1 f2 f3 bo wa bu = true) (hn0 : 0 ≤ n) (hn1 : n ≤ 1125899906842624) (hle : n ≤ wa) :
    Calls Tryz.prog 114 #[.agg #[.int .i64 f0, .int .i64 f1, .int .i64 f2, .int .i64 f3, .int .i64 bo, .int .i64 wa, .int .i64 bu], (.func (.func 123) #[] #[]), (.func (.func 124) #[] #[]), .int .i64 n] w fun e w' => e = .returned (.tuple #[.agg #[.int .i64 f0, .int .i64 f1, .int .i64 f2, .int .i64 f3, .int .i64 bo, .int .i64 (wa - n), .int .i64 (bu + n)], .int .i64 0]) ∧ Below w.heap.size w w' := by
  have hG := good_any f0 f1 f2 f3 bo wa bu
  rw [hg] at hG
  have hI := inn_any n
  rw [decide_eq_true ⟨hn0, hn1⟩] at hI
  unfold goodB at hg
  obtain ⟨g0, g1, g2, g3, g4, g5, g6, gs⟩ := of_decide_eq_true hg
  clear hg
  have k1 : wrap64 (wa - n) = wa - n := wrap64_small (by omega) (by omega)
  have k2 : wrap64 (bu + n) = bu + n := wrap64_small (by omega) (by omega)
  clear g0 g1 g2 g3 g4 g5 g6 gs hn0 hn1
  go_enter Tryz.func114, Tryz.ntmps114
  go_wp2_with fail
  refine (hG _).mono ?_
  rintro e w1 ⟨rfl, hb⟩
  have B1 := ((BAt.new w f0 f1 f2 f3 bo wa bu).alloc (.cells #[.int .i64 0, .int .i64 0, .int .i64 0, .int .i64 0, .int .i64 0, .int .i64 0, .int .i64 0] 24)).later hb (by simp; omega)
  have R1 : BAt w1 (w.heap.size + 1) 0 0 0 0 0 0 0 := by
    have := (BAt.new (w.alloc (.cells #[.int .i64 f0, .int .i64 f1, .int .i64 f2, .int .i64 f3, .int .i64 bo, .int .i64 wa, .int .i64 bu] 24)) 0 0 0 0 0 0 0).later hb (by simp)
    simpa using this
  have HB : Hid (Below w.heap.size w w1) := (((Below.refl _ w).alloc (Nat.le_refl _) _).alloc (by simp) _).trans (hb.mono (by simp; omega))
  clear hb
  obtain ⟨x0, x1, x2, x3, x4, x5, x6⟩ := B1.cells
  have y0 := B1.frees.2.2.2.2.2.1
  have y1 := B1.frees.2.2.2.2.2.2
  obtain ⟨u0, u1, u2, u3, u4, u5, u6⟩ := R1.frees
  obtain ⟨v0, v1, v2, v3, v4, v5, v6⟩ := R1.cells
  have HR1 : Hid (BAt w1 (w.heap.size + 1) 0 0 0 0 0 0 0) := R1
  clear B1 R1
  go_wp2_with (first
    | (go_at_call 121; refine (hI _).mono ?_; rintro e w2 ⟨rfl, rfl⟩)
    | (go_at_call 123; refine (waiting1_any _ _).mono ?_; rintro e w2 ⟨rfl, rfl⟩)
    | (go_at_call 124; refine (burnt1_any _ _).mono ?_; rintro e w2 ⟨rfl, rfl⟩))
  exact move_end ((HR1.out.other (by omega) _).other (by omega) _) ((HB.out.setCell (by simp) _).setCell (by simp) _) f0 f1 f2 f3 bo (wa - n) (bu + n) 0 _ rfl rfl rfl
end Go.Proofs.YtjghbciepinofaaGreat

set_option maxRecDepth 100000
namespace Go.Proofs.YtjghbciepinofaaGreat
open Go.RowKit
set_option maxHeartbeats 2000000 in
theorem move_funds_0 (f0 f1 f2 f3 bo wa bu n : Int) (c : Nat) (tv : Value) (w : World) (hc : w.cell? ⟨c, 0, none⟩ = some (.int .i64 0)) (hcl : c < w.heap.size) (hg : goodB f0 f1 f2 f3 bo wa bu = true) (hn0 : 0 ≤ n) (hn1 : n ≤ 1125899906842624) (hle : f0 < n) :
    Calls Tryz.prog 114 #[.agg #[.int .i64 f0, .int .i64 f1, .int .i64 f2, .int .i64 f3, .int .i64 bo, .int .i64 wa, .int .i64 bu], (.func (.func 125) #[] #[.pointer (some ⟨c, 0, none⟩)]), tv, .int .i64 n] w fun e w' => e = .returned (.tuple #[.agg #[.int .i64 f0, .int .i64 f1, .int .i64 f2, .int .i64 f3, .int .i64 bo, .int .i64 wa, .int .i64 bu], .int .i64 7]) ∧ Below w.heap.size w w' := by
  have hG := good_any f0 f1 f2 f3 bo wa bu
  rw [hg] at hG
  have hI := inn_any n
  rw [decide_eq_true ⟨hn0, hn1⟩] at hI
  clear hg hn0 hn1
  go_enter Tryz.func114, Tryz.ntmps114
  go_wp2_with fail
  refine (hG _).mono ?_
  rintro e w1 ⟨rfl, hb⟩
  have B1 := ((BAt.new w f0 f1 f2 f3 bo wa bu).alloc (.cells #[.int .i64 0, .int .i64 0, .int .i64 0, .int .i64 0, .int .i64 0, .int .i64 0, .int .i64 0] 24)).later hb (by simp; omega)
  have R1 : BAt w1 (w.heap.size + 1) 0 0 0 0 0 0 0 := by
    have := (BAt.new (w.alloc (.cells #[.int .i64 f0, .int .i64 f1, .int .i64 f2, .int .i64 f3, .int .i64 bo, .int .i64 wa, .int .i64 bu] 24)) 0 0 0 0 0 0 0).later hb (by simp)
    simpa using this
  have HB : Hid (Below w.heap.size w w1) := (((Below.refl _ w).alloc (Nat.le_refl _) _).alloc (by simp) _).trans (hb.mono (by simp; omega))
  clear hb
  have hc2 : w1.cell? ⟨c, 0, none⟩ = some (.int .i64 0) := (HB.out.cell hcl).trans hc
  clear hc hcl
  obtain ⟨x0, x1, x2, x3, x4, x5, x6⟩ := B1.cells
  obtain ⟨u0, u1, u2, u3, u4, u5, u6⟩ := R1.frees
  obtain ⟨v0, v1, v2, v3, v4, v5, v6⟩ := R1.cells
  have HR1 : Hid (BAt w1 (w.heap.size + 1) 0 0 0 0 0 0 0) := R1
  clear B1 R1
  go_wp2_with (first
    | (go_at_call 121; refine (hI _).mono ?_; rintro e w2 ⟨rfl, rfl⟩)
    | (go_at_call 125; refine (free1_at _ c 0 _ (by exact hc2) (by decide) (by decide)).mono ?_; rintro e w2 ⟨rfl, nq, rfl⟩))
  exact move_end (wq := w1.drewN _) HR1.out (below_drewN HB.out _) f0 f1 f2 f3 bo wa bu 7 _ rfl rfl rfl
set_option maxHeartbeats 2000000 in
theorem move_funds_1 (f0 f1 f2 f3 bo wa bu n : Int) (c : Nat) (tv : Value) (w : World) (hc : w.cell? ⟨c, 0, none⟩ = some (.int .i64 1)) (hcl : c < w.heap.size) (hg : goodB f0 f1 f2 f3 bo wa bu = true) (hn0 : 0 ≤ n) (hn1 : n ≤ 1125899906842624) (hle : f1 < n) :
    Calls Tryz.prog 114 #[.agg #[.int .i64 f0, .int .i64 f1, .int .i64 f2, .int .i64 f3, .int .i64 bo, .int .i64 wa, .int .i64 bu], (.func (.func 125) #[] #[.pointer (some ⟨c, 0, none⟩)]), tv, .int .i64 n] w fun e w' => e = .returned (.tuple #[.agg #[.int .i64 f0, .int .i64 f1, .int .i64 f2, .int .i64 f3, .int .i64 bo, .int .i64 wa, .int .i64 bu], .int .i64 7]) ∧ Below w.heap.size w w' := by
  have hG := good_any f0 f1 f2 f3 bo wa bu
  rw [hg] at hG
  have hI := inn_any n
  rw [decide_eq_true ⟨hn0, hn1⟩] at hI
  clear hg hn0 hn1
  go_enter Tryz.func114, Tryz.ntmps114
  go_wp2_with fail
  refine (hG _).mono ?_
  rintro e w1 ⟨rfl, hb⟩
  have B1 := ((BAt.new w f0 f1 f2 f3 bo wa bu).alloc (.cells #[.int .i64 0, .int .i64 0, .int .i64 0, .int .i64 0, .int .i64 0, .int .i64 0, .int .i64 0] 24)).later hb (by simp; omega)
  have R1 : BAt w1 (w.heap.size + 1) 0 0 0 0 0 0 0 := by
    have := (BAt.new (w.alloc (.cells #[.int .i64 f0, .int .i64 f1, .int .i64 f2, .int .i64 f3, .int .i64 bo, .int .i64 wa, .int .i64 bu] 24)) 0 0 0 0 0 0 0).later hb (by simp)
    simpa using this
  have HB : Hid (Below w.heap.size w w1) := (((Below.refl _ w).alloc (Nat.le_refl _) _).alloc (by simp) _).trans (hb.mono (by simp; omega))
  clear hb
  have hc2 : w1.cell? ⟨c, 0, none⟩ = some (.int .i64 1) := (HB.out.cell hcl).trans hc
  clear hc hcl
  obtain ⟨x0, x1, x2, x3, x4, x5, x6⟩ := B1.cells
  obtain ⟨u0, u1, u2, u3, u4, u5, u6⟩ := R1.frees
  obtain ⟨v0, v1, v2, v3, v4, v5, v6⟩ := R1.cells
  have HR1 : Hid (BAt w1 (w.heap.size + 1) 0 0 0 0 0 0 0) := R1
  clear B1 R1
  go_wp2_with (first
    | (go_at_call 121; refine (hI _).mono ?_; rintro e w2 ⟨rfl, rfl⟩)
    | (go_at_call 125; refine (free1_at _ c 1 _ (by exact hc2) (by decide) (by decide)).mono ?_; rintro e w2 ⟨rfl, nq, rfl⟩))
  exact move_end (wq := w1.drewN _) HR1.out (below_drewN HB.out _) f0 f1 f2 f3 bo wa bu 7 _ rfl rfl rfl
set_option maxHeartbeats 2000000 in
theorem move_funds_2 (f0 f1 f2 f3 bo wa bu n : Int) (c : Nat) (tv : Value) (w : World) (hc : w.cell? ⟨c, 0, none⟩ = some (.int .i64 2)) (hcl : c < w.heap.size) (hg : goodB f0 f1 f2 f3 bo wa bu = true) (hn0 : 0 ≤ n) (hn1 : n ≤ 1125899906842624) (hle : f2 < n) :
    Calls Tryz.prog 114 #[.agg #[.int .i64 f0, .int .i64 f1, .int .i64 f2, .int .i64 f3, .int .i64 bo, .int .i64 wa, .int .i64 bu], (.func (.func 125) #[] #[.pointer (some ⟨c, 0, none⟩)]), tv, .int .i64 n] w fun e w' => e = .returned (.tuple #[.agg #[.int .i64 f0, .int .i64 f1, .int .i64 f2, .int .i64 f3, .int .i64 bo, .int .i64 wa, .int .i64 bu], .int .i64 7]) ∧ Below w.heap.size w w' := by
  have hG := good_any f0 f1 f2 f3 bo wa bu
  rw [hg] at hG
  have hI := inn_any n
  rw [decide_eq_true ⟨hn0, hn1⟩] at hI
  clear hg hn0 hn1
  go_enter Tryz.func114, Tryz.ntmps114
  go_wp2_with fail
  refine (hG _).mono ?_
  rintro e w1 ⟨rfl, hb⟩
  have B1 := ((BAt.new w f0 f1 f2 f3 bo wa bu).alloc (.cells #[.int .i64 0, .int .i64 0, .int .i64 0, .int .i64 0, .int .i64 0, .int .i64 0, .int .i64 0] 24)).later hb (by simp; omega)
  have R1 : BAt w1 (w.heap.size + 1) 0 0 0 0 0 0 0 := by
    have := (BAt.new (w.alloc (.cells #[.int .i64 f0, .int .i64 f1, .int .i64 f2, .int .i64 f3, .int .i64 bo, .int .i64 wa, .int .i64 bu] 24)) 0 0 0 0 0 0 0).later hb (by simp)
    simpa using this
  have HB : Hid (Below w.heap.size w w1) := (((Below.refl _ w).alloc (Nat.le_refl _) _).alloc (by simp) _).trans (hb.mono (by simp; omega))
  clear hb
  have hc2 : w1.cell? ⟨c, 0, none⟩ = some (.int .i64 2) := (HB.out.cell hcl).trans hc
  clear hc hcl
  obtain ⟨x0, x1, x2, x3, x4, x5, x6⟩ := B1.cells
  obtain ⟨u0, u1, u2, u3, u4, u5, u6⟩ := R1.frees
  obtain ⟨v0, v1, v2, v3, v4, v5, v6⟩ := R1.cells
  have HR1 : Hid (BAt w1 (w.heap.size + 1) 0 0 0 0 0 0 0) := R1
  clear B1 R1
  go_wp2_with (first
    | (go_at_call 121; refine (hI _).mono ?_; rintro e w2 ⟨rfl, rfl⟩)
    | (go_at_call 125; refine (free1_at _ c 2 _ (by exact hc2) (by decide) (by decide)).mono ?_; rintro e w2 ⟨rfl, nq, rfl⟩))
  exact move_end (wq := w1.drewN _) HR1.out (below_drewN HB.out _) f0 f1 f2 f3 bo wa bu 7 _ rfl rfl rfl
set_option maxHeartbeats 2000000 in
theorem move_funds_3 (f0 f1 f2 f3 bo wa bu n : Int) (c : Nat) (tv : Value) (w : World) (hc : w.cell? ⟨c, 0, none⟩ = some (.int .i64 3)) (hcl : c < w.heap.size) (hg : goodB f0 f1 f2 f3 bo wa bu = true) (hn0 : 0 ≤ n) (hn1 : n ≤ 1125899906842624) (hle : f3 < n) :
    Calls Tryz.prog 114 #[.agg #[.int .i64 f0, .int .i64 f1, .int .i64 f2, .int .i64 f3, .int .i64 bo, .int .i64 wa, .int .i64 bu], (.func (.func 125) #[] #[.pointer (some ⟨c, 0, none⟩)]), tv, .int .i64 n] w fun e w' => e = .returned (.tuple #[.agg #[.int .i64 f0, .int .i64 f1, .int .i64 f2, .int .i64 f3, .int .i64 bo, .int .i64 wa, .int .i64 bu], .int .i64 7]) ∧ Below w.heap.size w w' := by
  have hG := good_any f0 f1 f2 f3 bo wa bu
  rw [hg] at hG
  have hI := inn_any n
  rw [decide_eq_true ⟨hn0, hn1⟩] at hI
  clear hg hn0 hn1
  go_enter Tryz.func114, Tryz.ntmps114
  go_wp2_with fail
  refine (hG _).mono ?_
  rintro e w1 ⟨rfl, hb⟩
  have B1 := ((BAt.new w f0 f1 f2 f3 bo wa bu).alloc (.cells #[.int .i64 0, .int .i64 0, .int .i64 0, .int .i64 0, .int .i64 0, .int .i64 0, .int .i64 0] 24)).later hb (by simp; omega)
  have R1 : BAt w1 (w.heap.size + 1) 0 0 0 0 0 0 0 := by
    have := (BAt.new (w.alloc (.cells #[.int .i64 f0, .int .i64 f1, .int .i64 f2, .int .i64 f3, .int .i64 bo, .int .i64 wa, .int .i64 bu] 24)) 0 0 0 0 0 0 0).later hb (by simp)
    simpa using this
  have HB : Hid (Below w.heap.size w w1) := (((Below.refl _ w).alloc (Nat.le_refl _) _).alloc (by simp) _).trans (hb.mono (by simp; omega))
  clear hb
  have hc2 : w1.cell? ⟨c, 0, none⟩ = some (.int .i64 3) := (HB.out.cell hcl).trans hc
  clear hc hcl
  obtain ⟨x0, x1, x2, x3, x4, x5, x6⟩ := B1.cells
  obtain ⟨u0, u1, u2, u3, u4, u5, u6⟩ := R1.frees
  obtain ⟨v0, v1, v2, v3, v4, v5, v6⟩ := R1.cells
  have HR1 : Hid (BAt w1 (w.heap.size + 1) 0 0 0 0 0 0 0) := R1
  clear B1 R1
  go_wp2_with (first
    | (go_at_call 121; refine (hI _).mono ?_; rintro e w2 ⟨rfl, rfl⟩)
    | (go_at_call 125; refine (free1_at _ c 3 _ (by exact hc2) (by decide) (by decide)).mono ?_; rintro e w2 ⟨rfl, nq, rfl⟩))
  exact move_end (wq := w1.drewN _) HR1.out (below_drewN HB.out _) f0 f1 f2 f3 bo wa bu 7 _ rfl rfl rfl
set_option maxHeartbeats 2000000 in
theorem move_funds_4 (f0 f1 f2 f3 bo wa bu n : Int) (tv : Value) (w : World) (hg : goodB f0 f1 f2 f3 bo wa bu = true) (hn0 : 0 ≤ n) (hn1 : n ≤ 1125899906842624) (hle : bo < n) :
    Calls Tryz.prog 114 #[.agg #[.int .i64 f0, .int .i64 f1, .int .i64 f2, .int .i64 f3, .int .i64 bo, .int .i64 wa, .int .i64 bu], (.func (.func 122) #[] #[]), tv, .int .i64 n] w fun e w' => e = .returned (.tuple #[.agg #[.int .i64 f0, .int .i64 f1, .int .i64 f2, .int .i64 f3, .int .i64 bo, .int .i64 wa, .int .i64 bu], .int .i64 7]) ∧ Below w.heap.size w w' := by
  have hG := good_any f0 f1 f2 f3 bo wa bu
  rw [hg] at hG
  have hI := inn_any n
  rw [decide_eq_true ⟨hn0, hn1⟩] at hI
  clear hg hn0 hn1
  go_enter Tryz.func114, Tryz.ntmps114
  go_wp2_with fail
  refine (hG _).mono ?_
  rintro e w1 ⟨rfl, hb⟩
  have B1 := ((BAt.new w f0 f1 f2 f3 bo wa bu).alloc (.cells #[.int .i64 0, .int .i64 0, .int .i64 0, .int .i64 0, .int .i64 0, .int .i64 0, .int .i64 0] 24)).later hb (by simp; omega)
  have R1 : BAt w1 (w.heap.size + 1) 0 0 0 0 0 0 0 := by
    have := (BAt.new (w.alloc (.cells #[.int .i64 f0, .int .i64 f1, .int .i64 f2, .int .i64 f3, .int .i64 bo, .int .i64 wa, .int .i64 bu] 24)) 0 0 0 0 0 0 0).later hb (by simp)
    simpa using this
  have HB : Hid (Below w.heap.size w w1) := (((Below.refl _ w).alloc (Nat.le_refl _) _).alloc (by simp) _).trans (hb.mono (by simp; omega))
  clear hb
  obtain ⟨x0, x1, x2, x3, x4, x5, x6⟩ := B1.cells
  obtain ⟨u0, u1, u2, u3, u4, u5, u6⟩ := R1.frees
  obtain ⟨v0, v1, v2, v3, v4, v5, v6⟩ := R1.cells
  have HR1 : Hid (BAt w1 (w.heap.size + 1) 0 0 0 0 0 0 0) := R1
  clear B1 R1
  go_wp2_with (first
    | (go_at_call 121; refine (hI _).mono ?_; rintro e w2 ⟨rfl, rfl⟩)
    | (go_at_call 122; refine (bonded1_any _ _).mono ?_; rintro e w2 ⟨rfl, rfl⟩))
  exact move_end HR1.out HB.out f0 f1 f2 f3 bo wa bu 7 _ rfl rfl rfl
set_option maxHeartbeats 2000000 in
theorem move_funds_5 (f0 f1 f2 f3 bo wa bu n : Int) (tv : Value) (w : World) (hg : goodB f0 f1 f2 f3 bo wa bu = true) (hn0 : 0 ≤ n) (hn1 : n ≤ 1125899906842624) (hle : wa < n) :
    Calls Tryz.prog 114 #[.agg #[.int .i64 f0, .int .i64 f1, .int .i64 f2, .int .i64 f3, .int .i64 bo, .int .i64 wa, .int .i64 bu], (.func (.func 123) #[] #[]), tv, .int .i64 n] w fun e w' => e = .returned (.tuple #[.agg #[.int .i64 f0, .int .i64 f1, .int .i64 f2, .int .i64 f3, .int .i64 bo, .int .i64 wa, .int .i64 bu], .int .i64 7]) ∧ Below w.heap.size w w' := by
  have hG := good_any f0 f1 f2 f3 bo wa bu
  rw [hg] at hG
  have hI := inn_any n
  rw [decide_eq_true ⟨hn0, hn1⟩] at hI
  clear hg hn0 hn1
  go_enter Tryz.func114, Tryz.ntmps114
  go_wp2_with fail
  refine (hG _).mono ?_
  rintro e w1 ⟨rfl, hb⟩
  have B1 := ((BAt.new w f0 f1 f2 f3 bo wa bu).alloc (.cells #[.int .i64 0, .int .i64 0, .int .i64 0, .int .i64 0, .int .i64 0, .int .i64 0, .int .i64 0] 24)).later hb (by simp; omega)
  have R1 : BAt w1 (w.heap.size + 1) 0 0 0 0 0 0 0 := by
    have := (BAt.new (w.alloc (.cells #[.int .i64 f0, .int .i64 f1, .int .i64 f2, .int .i64 f3, .int .i64 bo, .int .i64 wa, .int .i64 bu] 24)) 0 0 0 0 0 0 0).later hb (by simp)
    simpa using this
  have HB : Hid (Below w.heap.size w w1) := (((Below.refl _ w).alloc (Nat.le_refl _) _).alloc (by simp) _).trans (hb.mono (by simp; omega))
  clear hb
  obtain ⟨x0, x1, x2, x3, x4, x5, x6⟩ := B1.cells
  obtain ⟨u0, u1, u2, u3, u4, u5, u6⟩ := R1.frees
  obtain ⟨v0, v1, v2, v3, v4, v5, v6⟩ := R1.cells
  have HR1 : Hid (BAt w1 (w.heap.size + 1) 0 0 0 0 0 0 0) := R1
  clear B1 R1
  go_wp2_with (first
    | (go_at_call 121; refine (hI _).mono ?_; rintro e w2 ⟨rfl, rfl⟩)
    | (go_at_call 123; refine (waiting1_any _ _).mono ?_; rintro e w2 ⟨rfl, rfl⟩))
  exact move_end HR1.out HB.out f0 f1 f2 f3 bo wa bu 7 _ rfl rfl rfl
set_option maxHeartbeats 2000000 in
theorem move_range_bad (f0 f1 f2 f3 bo wa bu n : Int) (fv tv : Value) (w : World) (hg : goodB f0 f1 f2 f3 bo wa bu = false) :
    Calls Tryz.prog 114 #[.agg #[.int .i64 f0, .int .i64 f1, .int .i64 f2, .int .i64 f3, .int .i64 bo, .int .i64 wa, .int .i64 bu], fv, tv, .int .i64 n] w fun e w' => e = .returned (.tuple #[.agg #[.int .i64 f0, .int .i64 f1, .int .i64 f2, .int .i64 f3, .int .i64 bo, .int .i64 wa, .int .i64 bu], .int .i64 2]) ∧ Below w.heap.size w w' := by
  have hG := good_any f0 f1 f2 f3 bo wa bu
  rw [hg] at hG
  clear hg
  go_enter Tryz.func114, Tryz.ntmps114
  go_wp2_with fail
  refine (hG _).mono ?_
  rintro e w1 ⟨rfl, hb⟩
  have B1 := ((BAt.new w f0 f1 f2 f3 bo wa bu).alloc (.cells #[.int .i64 0, .int .i64 0, .int .i64 0, .int .i64 0, .int .i64 0, .int .i64 0, .int .i64 0] 24)).later hb (by simp; omega)
  have R1 : BAt w1 (w.heap.size + 1) 0 0 0 0 0 0 0 := by
    have := (BAt.new (w.alloc (.cells #[.int .i64 f0, .int .i64 f1, .int .i64 f2, .int .i64 f3, .int .i64 bo, .int .i64 wa, .int .i64 bu] 24)) 0 0 0 0 0 0 0).later hb (by simp)
    simpa using this
  have HB : Hid (Below w.heap.size w w1) := (((Below.refl _ w).alloc (Nat.le_refl _) _).alloc (by simp) _).trans (hb.mono (by simp; omega))
  clear hb
  obtain ⟨x0, x1, x2, x3, x4, x5, x6⟩ := B1.cells
  obtain ⟨u0, u1, u2, u3, u4, u5, u6⟩ := R1.frees
  obtain ⟨v0, v1, v2, v3, v4, v5, v6⟩ := R1.cells
  have HR1 : Hid (BAt w1 (w.heap.size + 1) 0 0 0 0 0 0 0) := R1
  clear B1 R1
  go_wp2
  exact move_end HR1.out HB.out f0 f1 f2 f3 bo wa bu 2 _ rfl rfl rfl
set_option maxHeartbeats 2000000 in
theorem move_range_in (f0 f1 f2 f3 bo wa bu n : Int) (fv tv : Value) (w : World) (hg : goodB f0 f1 f2 f3 bo wa bu = true) (hn : ¬ (0 ≤ n ∧ n ≤ 1125899906842624)) :
    Calls Tryz.prog 114 #[.agg #[.int .i64 f0, .int .i64 f1, .int .i64 f2, .int .i64 f3, .int .i64 bo, .int .i64 wa, .int .i64 bu], fv, tv, .int .i64 n] w fun e w' => e = .returned (.tuple #[.agg #[.int .i64 f0, .int .i64 f1, .int .i64 f2, .int .i64 f3, .int .i64 bo, .int .i64 wa, .int .i64 bu], .int .i64 2]) ∧ Below w.heap.size w w' := by
  have hG := good_any f0 f1 f2 f3 bo wa bu
  rw [hg] at hG
  clear hg
  have hI := inn_any n
  rw [decide_eq_false hn] at hI
  clear hn
  go_enter Tryz.func114, Tryz.ntmps114
  go_wp2_with fail
  refine (hG _).mono ?_
  rintro e w1 ⟨rfl, hb⟩
  have B1 := ((BAt.new w f0 f1 f2 f3 bo wa bu).alloc (.cells #[.int .i64 0, .int .i64 0, .int .i64 0, .int .i64 0, .int .i64 0, .int .i64 0, .int .i64 0] 24)).later hb (by simp; omega)
  have R1 : BAt w1 (w.heap.size + 1) 0 0 0 0 0 0 0 := by
    have := (BAt.new (w.alloc (.cells #[.int .i64 f0, .int .i64 f1, .int .i64 f2, .int .i64 f3, .int .i64 bo, .int .i64 wa, .int .i64 bu] 24)) 0 0 0 0 0 0 0).later hb (by simp)
    simpa using this
  have HB : Hid (Below w.heap.size w w1) := (((Below.refl _ w).alloc (Nat.le_refl _) _).alloc (by simp) _).trans (hb.mono (by simp; omega))
  clear hb
  obtain ⟨x0, x1, x2, x3, x4, x5, x6⟩ := B1.cells
  obtain ⟨u0, u1, u2, u3, u4, u5, u6⟩ := R1.frees
  obtain ⟨v0, v1, v2, v3, v4, v5, v6⟩ := R1.cells
  have HR1 : Hid (BAt w1 (w.heap.size + 1) 0 0 0 0 0 0 0) := R1
  clear B1 R1
  go_wp2_with (go_at_call 121; refine (hI _).mono ?_; rintro e w2 ⟨rfl, rfl⟩)
  exact move_end HR1.out HB.out f0 f1 f2 f3 bo wa bu 2 _ rfl rfl rfl
end Go.Proofs.YtjghbciepinofaaGreat

