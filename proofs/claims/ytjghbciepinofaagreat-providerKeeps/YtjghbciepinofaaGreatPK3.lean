/- Parts of the proof: G4 H1. -/
import Derived.Test.YtjghbciepinofaaGreatRows
import Derived.Test.YtjghbciepinofaaGreatPK1
import Derived.WalkKit
import Derived.Deep.RegionWith
set_option maxRecDepth 100000
namespace Go.Proofs.YtjghbciepinofaaGreat
open Go.RowKit
set_option maxHeartbeats 2000000 in
theorem move_funds_0 (f0 f1 f2 f3 bo wa bu n : Int) (c : Nat) (tv : Value) (w : World) (hc : w.cell? ⟨c, 0, none⟩ = some (.int .i64 0)) (hcl : c < w.heap.size) (hg : goodB f0 f1 f2 f3 bo wa bu = true) (hn0 : 0 ≤ n) (hn1 : n ≤ 1125899906842624) (hle : f0 < n) :
    Calls Tryz.prog 114 #[.agg #[.int .i64 f0, .int .i64 f1, .int .i64 f2, .int .i64 f3, .int .i64 bo, .int .i64 wa, .int .i64 bu], (.func (.func 125) #[] #[.pointer (some ⟨c, 0, none⟩)]), tv, .int .i64 n] w fun e w' => e = .returned (.tuple #[.agg #[.int .i64 f0, .int .i64 f1, .int .i64 f2, .int .i64 f3, .int .i64 bo, .int .i64 wa, .int .i64 bu], .int .i64 7]) ∧ Below w.heap.size w w' := by
  have hG := good_any f0 f1 f2 f3 bo wa bu
  rw [hg] at hG
  have hI := inn_any n
  rw [decide_eq_true ⟨hn0, hn1⟩] at hI
  clear hg hn0 hn1
  go_enter Tryz.func114, Tryz.ntmps114
  go_wp2_with fail
  refine (hG _).mono ?_
  rintro e w1 ⟨rfl, hb⟩
  have B1 := ((BAt.new w f0 f1 f2 f3 bo wa bu).alloc (.cells #[.int .i64 0, .int .i64 0, .int .i64 0, .int .i64 0, .int .i64 0, .int .i64 0, .int .i64 0] 24)).later hb (by simp; omega)
  have R1 : BAt w1 (w.heap.size + 1) 0 0 0 0 0 0 0 := by
    have := (BAt.new (w.alloc (.cells #[.int .i64 f0, .int .i64 f1, .int .i64 f2, .int .i64 f3, .int .i64 bo, .int .i64 wa, .int .i64 bu] 24)) 0 0 0 0 0 0 0).later hb (by simp)
    simpa using this
  have HB : Hid (Below w.heap.size w w1) := (((Below.refl _ w).alloc (Nat.le_refl _) _).alloc (by simp) _).trans (hb.mono (by simp; omega))
  clear hb
  have hc2 : w1.cell? ⟨c, 0, none⟩ = some (.int .i64 0) := (HB.out.cell hcl).trans hc
  clear hc hcl
  obtain ⟨x0, x1, x2, x3, x4, x5, x6⟩ := B1.cells
  obtain ⟨u0, u1, u2, u3, u4, u5, u6⟩ := R1.frees
  obtain ⟨v0, v1, v2, v3, v4, v5, v6⟩ := R1.cells
  have HR1 : Hid (BAt w1 (w.heap.size + 1) 0 0 0 0 0 0 0) := R1
  clear B1 R1
  go_wp2_with (first
    | (go_at_call 121; refine (hI _).mono ?_; rintro e w2 ⟨rfl, rfl⟩)
    | (go_at_call 125; refine (free1_at _ c 0 _ (by exact hc2) (by decide) (by decide)).mono ?_; rintro e w2 ⟨rfl, nq, rfl⟩))
  exact move_end (wq := w1.drewN _) HR1.out (below_drewN HB.out _) f0 f1 f2 f3 bo wa bu 7 _ rfl rfl rfl
set_option maxHeartbeats 2000000 in
theorem move_funds_1 (f0 f1 f2 f3 bo wa bu n : Int) (c : Nat) (tv : Value) (w : World) (hc : w.cell? ⟨c, 0, none⟩ = some (.int .i64 1)) (hcl : c < w.heap.size) (hg : goodB f0 f1 f2 f3 bo wa bu = true) (hn0 : 0 ≤ n) (hn1 : n ≤ 1125899906842624) (hle : f1 < n) :
    Calls Tryz.prog 114 #[.agg #[.int .i64 f0, .int .i64 f1, .int .i64 f2, .int .i64 f3, .int .i64 bo, .int .i64 wa, .int .i64 bu], (.func (.func 125) #[] #[.pointer (some ⟨c, 0, none⟩)]), tv, .int .i64 n] w fun e w' => e = .returned (.tuple #[.agg #[.int .i64 f0, .int .i64 f1, .int .i64 f2, .int .i64 f3, .int .i64 bo, .int .i64 wa, .int .i64 bu], .int .i64 7]) ∧ Below w.heap.size w w' := by
  have hG := good_any f0 f1 f2 f3 bo wa bu
  rw [hg] at hG
  have hI := inn_any n
  rw [decide_eq_true ⟨hn0, hn1⟩] at hI
  clear hg hn0 hn1
  go_enter Tryz.func114, Tryz.ntmps114
  go_wp2_with fail
  refine (hG _).mono ?_
  rintro e w1 ⟨rfl, hb⟩
  have B1 := ((BAt.new w f0 f1 f2 f3 bo wa bu).alloc (.cells #[.int .i64 0, .int .i64 0, .int .i64 0, .int .i64 0, .int .i64 0, .int .i64 0, .int .i64 0] 24)).later hb (by simp; omega)
  have R1 : BAt w1 (w.heap.size + 1) 0 0 0 0 0 0 0 := by
    have := (BAt.new (w.alloc (.cells #[.int .i64 f0, .int .i64 f1, .int .i64 f2, .int .i64 f3, .int .i64 bo, .int .i64 wa, .int .i64 bu] 24)) 0 0 0 0 0 0 0).later hb (by simp)
    simpa using this
  have HB : Hid (Below w.heap.size w w1) := (((Below.refl _ w).alloc (Nat.le_refl _) _).alloc (by simp) _).trans (hb.mono (by simp; omega))
  clear hb
  have hc2 : w1.cell? ⟨c, 0, none⟩ = some (.int .i64 1) := (HB.out.cell hcl).trans hc
  clear hc hcl
  obtain ⟨x0, x1, x2, x3, x4, x5, x6⟩ := B1.cells
  obtain ⟨u0, u1, u2, u3, u4, u5, u6⟩ := R1.frees
  obtain ⟨v0, v1, v2, v3, v4, v5, v6⟩ := R1.cells
  have HR1 : Hid (BAt w1 (w.heap.size + 1) 0 0 0 0 0 0 0) := R1
  clear B1 R1
  go_wp2_with (first
    | (go_at_call 121; refine (hI _).mono ?_; rintro e w2 ⟨rfl, rfl⟩)
    | (go_at_call 125; refine (free1_at _ c 1 _ (by exact hc2) (by decide) (by decide)).mono ?_; rintro e w2 ⟨rfl, nq, rfl⟩))
  exact move_end (wq := w1.drewN _) HR1.out (below_drewN HB.out _) f0 f1 f2 f3 bo wa bu 7 _ rfl rfl rfl
set_option maxHeartbeats 2000000 in
theorem move_funds_2 (f0 f1 f2 f3 bo wa bu n : Int) (c : Nat) (tv : Value) (w : World) (hc : w.cell? ⟨c, 0, none⟩ = some (.int .i64 2)) (hcl : c < w.heap.size) (hg : goodB f0 f1 f2 f3 bo wa bu = true) (hn0 : 0 ≤ n) (hn1 : n ≤ 1125899906842624) (hle : f2 < n) :
    Calls Tryz.prog 114 #[.agg #[.int .i64 f0, .int .i64 f1, .int .i64 f2, .int .i64 f3, .int .i64 bo, .int .i64 wa, .int .i64 bu], (.func (.func 125) #[] #[.pointer (some ⟨c, 0, none⟩)]), tv, .int .i64 n] w fun e w' => e = .returned (.tuple #[.agg #[.int .i64 f0, .int .i64 f1, .int .i64 f2, .int .i64 f3, .int .i64 bo, .int .i64 wa, .int .i64 bu], .int .i64 7]) ∧ Below w.heap.size w w' := by
  have hG := good_any f0 f1 f2 f3 bo wa bu
  rw [hg] at hG
  have hI := inn_any n
  rw [decide_eq_true ⟨hn0, hn1⟩] at hI
  clear hg hn0 hn1
  go_enter Tryz.func114, Tryz.ntmps114
  go_wp2_with fail
  refine (hG _).mono ?_
  rintro e w1 ⟨rfl, hb⟩
  have B1 := ((BAt.new w f0 f1 f2 f3 bo wa bu).alloc (.cells #[.int .i64 0, .int .i64 0, .int .i64 0, .int .i64 0, .int .i64 0, .int .i64 0, .int .i64 0] 24)).later hb (by simp; omega)
  have R1 : BAt w1 (w.heap.size + 1) 0 0 0 0 0 0 0 := by
    have := (BAt.new (w.alloc (.cells #[.int .i64 f0, .int .i64 f1, .int .i64 f2, .int .i64 f3, .int .i64 bo, .int .i64 wa, .int .i64 bu] 24)) 0 0 0 0 0 0 0).later hb (by simp)
    simpa using this
  have HB : Hid (Below w.heap.size w w1) := (((Below.refl _ w).alloc (Nat.le_refl _) _).alloc (by simp) _).trans (hb.mono (by simp; omega))
  clear hb
  have hc2 : w1.cell? ⟨c, 0, none⟩ = some (.int .i64 2) := (HB.out.cell hcl).trans hc
  clear hc hcl
  obtain ⟨x0, x1, x2, x3, x4, x5, x6⟩ := B1.cells
  obtain ⟨u0, u1, u2, u3, u4, u5, u6⟩ := R1.frees
  obtain ⟨v0, v1, v2, v3, v4, v5, v6⟩ := R1.cells
  have HR1 : Hid (BAt w1 (w.heap.size + 1) 0 0 0 0 0 0 0) := R1
  clear B1 R1
  go_wp2_with (first
    | (go_at_call 121; refine (hI _).mono ?_; rintro e w2 ⟨rfl, rfl⟩)
    | (go_at_call 125; refine (free1_at _ c 2 _ (by exact hc2) (by decide) (by decide)).mono ?_; rintro e w2 ⟨rfl, nq, rfl⟩))
  exact move_end (wq := w1.drewN _) HR1.out (below_drewN HB.out _) f0 f1 f2 f3 bo wa bu 7 _ rfl rfl rfl
set_option maxHeartbeats 2000000 in
theorem move_funds_3 (f0 f1 f2 f3 bo wa bu n : Int) (c : Nat) (tv : Value) (w : World) (hc : w.cell? ⟨c, 0, none⟩ = some (.int .i64 3)) (hcl : c < w.heap.size) (hg : goodB f0 f1 f2 f3 bo wa bu = true) (hn0 : 0 ≤ n) (hn1 : n ≤ 1125899906842624) (hle : f3 < n) :
    Calls Tryz.prog 114 #[.agg #[.int .i64 f0, .int .i64 f1, .int .i64 f2, .int .i64 f3, .int .i64 bo, .int .i64 wa, .int .i64 bu], (.func (.func 125) #[] #[.pointer (some ⟨c, 0, none⟩)]), tv, .int .i64 n] w fun e w' => e = .returned (.tuple #[.agg #[.int .i64 f0, .int .i64 f1, .int .i64 f2, .int .i64 f3, .int .i64 bo, .int .i64 wa, .int .i64 bu], .int .i64 7]) ∧ Below w.heap.size w w' := by
  have hG := good_any f0 f1 f2 f3 bo wa bu
  rw [hg] at hG
  have hI := inn_any n
  rw [decide_eq_true ⟨hn0, hn1⟩] at hI
  clear hg hn0 hn1
  go_enter Tryz.func114, Tryz.ntmps114
  go_wp2_with fail
  refine (hG _).mono ?_
  rintro e w1 ⟨rfl, hb⟩
  have B1 := ((BAt.new w f0 f1 f2 f3 bo wa bu).alloc (.cells #[.int .i64 0, .int .i64 0, .int .i64 0, .int .i64 0, .int .i64 0, .int .i64 0, .int .i64 0] 24)).later hb (by simp; omega)
  have R1 : BAt w1 (w.heap.size + 1) 0 0 0 0 0 0 0 := by
    have := (BAt.new (w.alloc (.cells #[.int .i64 f0, .int .i64 f1, .int .i64 f2, .int .i64 f3, .int .i64 bo, .int .i64 wa, .int .i64 bu] 24)) 0 0 0 0 0 0 0).later hb (by simp)
    simpa using this
  have HB : Hid (Below w.heap.size w w1) := (((Below.refl _ w).alloc (Nat.le_refl _) _).alloc (by simp) _).trans (hb.mono (by simp; omega))
  clear hb
  have hc2 : w1.cell? ⟨c, 0, none⟩ = some (.int .i64 3) := (HB.out.cell hcl).trans hc
  clear hc hcl
  obtain ⟨x0, x1, x2, x3, x4, x5, x6⟩ := B1.cells
  obtain ⟨u0, u1, u2, u3, u4, u5, u6⟩ := R1.frees
  obtain ⟨v0, v1, v2, v3, v4, v5, v6⟩ := R1.cells
  have HR1 : Hid (BAt w1 (w.heap.size + 1) 0 0 0 0 0 0 0) := R1
  clear B1 R1
  go_wp2_with (first
    | (go_at_call 121; refine (hI _).mono ?_; rintro e w2 ⟨rfl, rfl⟩)
    | (go_at_call 125; refine (free1_at _ c 3 _ (by exact hc2) (by decide) (by decide)).mono ?_; rintro e w2 ⟨rfl, nq, rfl⟩))
  exact move_end (wq := w1.drewN _) HR1.out (below_drewN HB.out _) f0 f1 f2 f3 bo wa bu 7 _ rfl rfl rfl
set_option maxHeartbeats 2000000 in
theorem move_funds_4 (f0 f1 f2 f3 bo wa bu n : Int) (tv : Value) (w : World) (hg : goodB f0 f1 f2 f3 bo wa bu = true) (hn0 : 0 ≤ n) (hn1 : n ≤ 1125899906842624) (hle : bo < n) :
    Calls Tryz.prog 114 #[.agg #[.int .i64 f0, .int .i64 f1, .int .i64 f2, .int .i64 f3, .int .i64 bo, .int .i64 wa, .int .i64 bu], (.func (.func 122) #[] #[]), tv, .int .i64 n] w fun e w' => e = .returned (.tuple #[.agg #[.int .i64 f0, .int .i64 f1, .int .i64 f2, .int .i64 f3, .int .i64 bo, .int .i64 wa, .int .i64 bu], .int .i64 7]) ∧ Below w.heap.size w w' := by
  have hG := good_any f0 f1 f2 f3 bo wa bu
  rw [hg] at hG
  have hI := inn_any n
  rw [decide_eq_true ⟨hn0, hn1⟩] at hI
  clear hg hn0 hn1
  go_enter Tryz.func114, Tryz.ntmps114
  go_wp2_with fail
  refine (hG _).mono ?_
  rintro e w1 ⟨rfl, hb⟩
  have B1 := ((BAt.new w f0 f1 f2 f3 bo wa bu).alloc (.cells #[.int .i64 0, .int .i64 0, .int .i64 0, .int .i64 0, .int .i64 0, .int .i64 0, .int .i64 0] 24)).later hb (by simp; omega)
  have R1 : BAt w1 (w.heap.size + 1) 0 0 0 0 0 0 0 := by
    have := (BAt.new (w.alloc (.cells #[.int .i64 f0, .int .i64 f1, .int .i64 f2, .int .i64 f3, .int .i64 bo, .int .i64 wa, .int .i64 bu] 24)) 0 0 0 0 0 0 0).later hb (by simp)
    simpa using this
  have HB : Hid (Below w.heap.size w w1) := (((Below.refl _ w).alloc (Nat.le_refl _) _).alloc (by simp) _).trans (hb.mono (by simp; omega))
  clear hb
  obtain ⟨x0, x1, x2, x3, x4, x5, x6⟩ := B1.cells
  obtain ⟨u0, u1, u2, u3, u4, u5, u6⟩ := R1.frees
  obtain ⟨v0, v1, v2, v3, v4, v5, v6⟩ := R1.cells
  have HR1 : Hid (BAt w1 (w.heap.size + 1) 0 0 0 0 0 0 0) := R1
  clear B1 R1
  go_wp2_with (first
    | (go_at_call 121; refine (hI _).mono ?_; rintro e w2 ⟨rfl, rfl⟩)
    | (go_at_call 122; refine (bonded1_any _ _).mono ?_; rintro e w2 ⟨rfl, rfl⟩))
  exact move_end HR1.out HB.out f0 f1 f2 f3 bo wa bu 7 _ rfl rfl rfl
set_option maxHeartbeats 2000000 in
theorem move_funds_5 (f0 f1 f2 f3 bo wa bu n : Int) (tv : Value) (w : World) (hg : goodB f0 f1 f2 f3 bo wa bu = true) (hn0 : 0 ≤ n) (hn1 : n ≤ 1125899906842624) (hle : wa < n) :
    Calls Tryz.prog 114 #[.agg #[.int .i64 f0, .int .i64 f1, .int .i64 f2, .int .i64 f3, .int .i64 bo, .int .i64 wa, .int .i64 bu], (.func (.func 123) #[] #[]), tv, .int .i64 n] w fun e w' => e = .returned (.tuple #[.agg #[.int .i64 f0, .int .i64 f1, .int .i64 f2, .int .i64 f3, .int .i64 bo, .int .i64 wa, .int .i64 bu], .int .i64 7]) ∧ Below w.heap.size w w' := by
  have hG := good_any f0 f1 f2 f3 bo wa bu
  rw [hg] at hG
  have hI := inn_any n
  rw [decide_eq_true ⟨hn0, hn1⟩] at hI
  clear hg hn0 hn1
  go_enter Tryz.func114, Tryz.ntmps114
  go_wp2_with fail
  refine (hG _).mono ?_
  rintro e w1 ⟨rfl, hb⟩
  have B1 := ((BAt.new w f0 f1 f2 f3 bo wa bu).alloc (.cells #[.int .i64 0, .int .i64 0, .int .i64 0, .int .i64 0, .int .i64 0, .int .i64 0, .int .i64 0] 24)).later hb (by simp; omega)
  have R1 : BAt w1 (w.heap.size + 1) 0 0 0 0 0 0 0 := by
    have := (BAt.new (w.alloc (.cells #[.int .i64 f0, .int .i64 f1, .int .i64 f2, .int .i64 f3, .int .i64 bo, .int .i64 wa, .int .i64 bu] 24)) 0 0 0 0 0 0 0).later hb (by simp)
    simpa using this
  have HB : Hid (Below w.heap.size w w1) := (((Below.refl _ w).alloc (Nat.le_refl _) _).alloc (by simp) _).trans (hb.mono (by simp; omega))
  clear hb
  obtain ⟨x0, x1, x2, x3, x4, x5, x6⟩ := B1.cells
  obtain ⟨u0, u1, u2, u3, u4, u5, u6⟩ := R1.frees
  obtain ⟨v0, v1, v2, v3, v4, v5, v6⟩ := R1.cells
  have HR1 : Hid (BAt w1 (w.heap.size + 1) 0 0 0 0 0 0 0) := R1
  clear B1 R1
  go_wp2_with (first
    | (go_at_call 121; refine (hI _).mono ?_; rintro e w2 ⟨rfl, rfl⟩)
    | (go_at_call 123; refine (waiting1_any _ _).mono ?_; rintro e w2 ⟨rfl, rfl⟩))
  exact move_end HR1.out HB.out f0 f1 f2 f3 bo wa bu 7 _ rfl rfl rfl
set_option maxHeartbeats 2000000 in
theorem move_range_bad (f0 f1 f2 f3 bo wa bu n : Int) (fv tv : Value) (w : World) (hg : goodB f0 f1 f2 f3 bo wa bu = false) :
    Calls Tryz.prog 114 #[.agg #[.int .i64 f0, .int .i64 f1, .int .i64 f2, .int .i64 f3, .int .i64 bo, .int .i64 wa, .int .i64 bu], fv, tv, .int .i64 n] w fun e w' => e = .returned (.tuple #[.agg #[.int .i64 f0, .int .i64 f1, .int .i64 f2, .int .i64 f3, .int .i64 bo, .int .i64 wa, .int .i64 bu], .int .i64 2]) ∧ Below w.heap.size w w' := by
  have hG := good_any f0 f1 f2 f3 bo wa bu
  rw [hg] at hG
  clear hg
  go_enter Tryz.func114, Tryz.ntmps114
  go_wp2_with fail
  refine (hG _).mono ?_
  rintro e w1 ⟨rfl, hb⟩
  have B1 := ((BAt.new w f0 f1 f2 f3 bo wa bu).alloc (.cells #[.int .i64 0, .int .i64 0, .int .i64 0, .int .i64 0, .int .i64 0, .int .i64 0, .int .i64 0] 24)).later hb (by simp; omega)
  have R1 : BAt w1 (w.heap.size + 1) 0 0 0 0 0 0 0 := by
    have := (BAt.new (w.alloc (.cells #[.int .i64 f0, .int .i64 f1, .int .i64 f2, .int .i64 f3, .int .i64 bo, .int .i64 wa, .int .i64 bu] 24)) 0 0 0 0 0 0 0).later hb (by simp)
    simpa using this
  have HB : Hid (Below w.heap.size w w1) := (((Below.refl _ w).alloc (Nat.le_refl _) _).alloc (by simp) _).trans (hb.mono (by simp; omega))
  clear hb
  obtain ⟨x0, x1, x2, x3, x4, x5, x6⟩ := B1.cells
  obtain ⟨u0, u1, u2, u3, u4, u5, u6⟩ := R1.frees
  obtain ⟨v0, v1, v2, v3, v4, v5, v6⟩ := R1.cells
  have HR1 : Hid (BAt w1 (w.heap.size + 1) 0 0 0 0 0 0 0) := R1
  clear B1 R1
  go_wp2
  exact move_end HR1.out HB.out f0 f1 f2 f3 bo wa bu 2 _ rfl rfl rfl
set_option maxHeartbeats 2000000 in
theorem move_range_in (f0 f1 f2 f3 bo wa bu n : Int) (fv tv : Value) (w : World) (hg : goodB f0 f1 f2 f3 bo wa bu = true) (hn : ¬ (0 ≤ n ∧ n ≤ 1125899906842624)) :
    Calls Tryz.prog 114 #[.agg #[.int .i64 f0, .int .i64 f1, .int .i64 f2, .int .i64 f3, .int .i64 bo, .int .i64 wa, .int .i64 bu], fv, tv, .int .i64 n] w fun e w' => e = .returned (.tuple #[.agg #[.int .i64 f0, .int .i64 f1, .int .i64 f2, .int .i64 f3, .int .i64 bo, .int .i64 wa, .int .i64 bu], .int .i64 2]) ∧ Below w.heap.size w w' := by
  have hG := good_any f0 f1 f2 f3 bo wa bu
  rw [hg] at hG
  clear hg
  have hI := inn_any n
  rw [decide_eq_false hn] at hI
  clear hn
  go_enter Tryz.func114, Tryz.ntmps114
  go_wp2_with fail
  refine (hG _).mono ?_
  rintro e w1 ⟨rfl, hb⟩
  have B1 := ((BAt.new w f0 f1 f2 f3 bo wa bu).alloc (.cells #[.int .i64 0, .int .i64 0, .int .i64 0, .int .i64 0, .int .i64 0, .int .i64 0, .int .i64 0] 24)).later hb (by simp; omega)
  have R1 : BAt w1 (w.heap.size + 1) 0 0 0 0 0 0 0 := by
    have := (BAt.new (w.alloc (.cells #[.int .i64 f0, .int .i64 f1, .int .i64 f2, .int .i64 f3, .int .i64 bo, .int .i64 wa, .int .i64 bu] 24)) 0 0 0 0 0 0 0).later hb (by simp)
    simpa using this
  have HB : Hid (Below w.heap.size w w1) := (((Below.refl _ w).alloc (Nat.le_refl _) _).alloc (by simp) _).trans (hb.mono (by simp; omega))
  clear hb
  obtain ⟨x0, x1, x2, x3, x4, x5, x6⟩ := B1.cells
  obtain ⟨u0, u1, u2, u3, u4, u5, u6⟩ := R1.frees
  obtain ⟨v0, v1, v2, v3, v4, v5, v6⟩ := R1.cells
  have HR1 : Hid (BAt w1 (w.heap.size + 1) 0 0 0 0 0 0 0) := R1
  clear B1 R1
  go_wp2_with (go_at_call 121; refine (hI _).mono ?_; rintro e w2 ⟨rfl, rfl⟩)
  exact move_end HR1.out HB.out f0 f1 f2 f3 bo wa bu 2 _ rfl rfl rfl
end Go.Proofs.YtjghbciepinofaaGreat

set_option maxRecDepth 100000
namespace Go.Proofs.YtjghbciepinofaaGreat
open Go.RowKit
theorem bond_end {w wq : World} (R : BAt wq (w.heap.size + 1) 0 0 0 0 0 0 0) (H : Below w.heap.size w wq) (r0 r1 r2 r3 r4 r5 r6 er : Int) (act : Act)
    (h8 : act.tmps.getD 6 undef = .pointer (some ⟨w.heap.size + 1, 0, none⟩)) (h9 : act.tmps.getD 7 undef = .int .i64 er) (hd : act.defers = []) :
    bodyPost Tryz.prog Tryz.f106 (fun e w' => e = .returned (.tuple #[.agg #[.int .i64 r0, .int .i64 r1, .int .i64 r2, .int .i64 r3, .int .i64 r4, .int .i64 r5, .int .i64 r6], .int .i64 er]) ∧ Below w.heap.size w w') Exit.ret act
      (set7 wq (w.heap.size + 1) r0 r1 r2 r3 r4 r5 r6) := by
  have HR := R.set7 r0 r1 r2 r3 r4 r5 r6
  have HW := set7_below (b := w.heap.size + 1) H (by omega) r0 r1 r2 r3 r4 r5 r6
  generalize set7 wq (w.heap.size + 1) r0 r1 r2 r3 r4 r5 r6 = w9 at *
  obtain ⟨u0, u1, u2, u3, u4, u5, u6⟩ := HR.cells
  have h8' : act.tmps[6]?.getD undef = .pointer (some ⟨w.heap.size + 1, 0, none⟩) := by simpa using h8
  have h9' : act.tmps[7]?.getD undef = .int .i64 er := by simpa using h9
  exact bodyPost_ret (v := .tuple #[.agg #[.int .i64 r0, .int .i64 r1, .int .i64 r2, .int .i64 r3, .int .i64 r4, .int .i64 r5, .int .i64 r6], .int .i64 er]) (by simp [results, Tryz.results106, go_sem, h8', h9', u0, u1, u2, u3, u4, u5, u6]) hd ⟨rfl, HW⟩
set_option maxHeartbeats 1000000 in
theorem bond_walk (f0 f1 f2 f3 bo wa bu d n r0 r1 r2 r3 r4 r5 r6 er : Int) (w : World) (h0 : 0 ≤ d) (h1 : d < 4)
    (hmv : ∀ (c : Nat) (w : World), w.cell? ⟨c, 0, none⟩ = some (.int .i64 d) → c < w.heap.size → Calls Tryz.prog 114 #[.agg #[.int .i64 f0, .int .i64 f1, .int .i64 f2, .int .i64 f3, .int .i64 bo, .int .i64 wa, .int .i64 bu], .func (.func 125) #[] #[.pointer (some ⟨c, 0, none⟩)], .func (.func 122) #[] #[], .int .i64 n] w
      fun e w' => e = .returned (.tuple #[.agg #[.int .i64 r0, .int .i64 r1, .int .i64 r2, .int .i64 r3, .int .i64 r4, .int .i64 r5, .int .i64 r6], .int .i64 er]) ∧ Below w.heap.size w w') :
    Calls Tryz.prog 106 #[.agg #[.int .i64 f0, .int .i64 f1, .int .i64 f2, .int .i64 f3, .int .i64 bo, .int .i64 wa, .int .i64 bu], .int .i64 d, .int .i64 n] w
      fun e w' => e = .returned (.tuple #[.agg #[.int .i64 r0, .int .i64 r1, .int .i64 r2, .int .i64 r3, .int .i64 r4, .int .i64 r5, .int .i64 r6], .int .i64 er]) ∧ Below w.heap.size w w' := by
  have hD := isDel_any d
  rw [decide_eq_true ⟨h0, h1⟩] at hD
  go_enter Tryz.func106, Tryz.ntmps106
  go_wp2_with (go_at_call 113; refine (hD _).mono ?_; rintro e w2 ⟨rfl, rfl⟩)
  have R0 : BAt ((w.alloc (.cells #[.int .i64 f0, .int .i64 f1, .int .i64 f2, .int .i64 f3, .int .i64 bo, .int .i64 wa, .int .i64 bu] 24)).alloc (.cells #[.int .i64 0, .int .i64 0, .int .i64 0, .int .i64 0, .int .i64 0, .int .i64 0, .int .i64 0] 24)) (w.heap.size + 1) 0 0 0 0 0 0 0 := by
    have := BAt.new (w.alloc (.cells #[.int .i64 f0, .int .i64 f1, .int .i64 f2, .int .i64 f3, .int .i64 bo, .int .i64 wa, .int .i64 bu] 24)) 0 0 0 0 0 0 0
    simpa using this
  have B0 := ((BAt.new w f0 f1 f2 f3 bo wa bu).alloc (.cells #[.int .i64 0, .int .i64 0, .int .i64 0, .int .i64 0, .int .i64 0, .int .i64 0, .int .i64 0] 24))
  have HB : Hid (Below w.heap.size w ((w.alloc (.cells #[.int .i64 f0, .int .i64 f1, .int .i64 f2, .int .i64 f3, .int .i64 bo, .int .i64 wa, .int .i64 bu] 24)).alloc (.cells #[.int .i64 0, .int .i64 0, .int .i64 0, .int .i64 0, .int .i64 0, .int .i64 0, .int .i64 0] 24))) := (((Below.refl _ w).alloc (Nat.le_refl _) _).alloc (by simp) _)
  generalize (w.alloc (.cells #[.int .i64 f0, .int .i64 f1, .int .i64 f2, .int .i64 f3, .int .i64 bo, .int .i64 wa, .int .i64 bu] 24)).alloc (.cells #[.int .i64 0, .int .i64 0, .int .i64 0, .int .i64 0, .int .i64 0, .int .i64 0, .int .i64 0] 24) = w0 at *
  obtain ⟨x0, x1, x2, x3, x4, x5, x6⟩ := B0.cells
  have hz0 : w.heap.size < w0.heap.size := B0.lt
  have hz1 : w.heap.size + 1 < w0.heap.size := R0.lt
  clear B0
  go_region_with (first
    | (go_at_call 85; refine (freeOf_any _ _).mono ?_; rintro e w2 ⟨rfl, rfl⟩)
    | (go_at_call 82; refine (bonded_any _).mono ?_; rintro e w2 ⟨rfl, rfl⟩)
    | (go_at_call 114; refine (hmv w0.heap.size _ (by simp) (by simp)).mono ?_; rintro e w5 ⟨rfl, hb5⟩; have R5 : BAt w5 (w.heap.size + 1) 0 0 0 0 0 0 0 := (hb5.block _ (by simp; omega)).trans (R0.alloc (.cells #[.int .i64 d] 3)); have HB5 : Hid (Below w.heap.size w w5) := ((HB.out.alloc (Nat.le_of_lt hz0) (.cells #[.int .i64 d] 3)).drew).trans (hb5.mono (by simp; omega)); obtain ⟨u0, u1, u2, u3, u4, u5, u6⟩ := R5.frees; obtain ⟨v0, v1, v2, v3, v4, v5, v6⟩ := R5.cells; have HR5 : Hid (BAt w5 (w.heap.size + 1) 0 0 0 0 0 0 0) := R5; clear R5 hb5))
  all_goals
    go_wp2
    exact bond_end HR5.out HB5.out r0 r1 r2 r3 r4 r5 r6 er _ rfl rfl rfl
set_option maxHeartbeats 1000000 in
theorem bond_no (f0 f1 f2 f3 bo wa bu d n : Int) (w : World) (h : ¬ (0 ≤ d ∧ d < 4)) :
    Calls Tryz.prog 106 #[.agg #[.int .i64 f0, .int .i64 f1, .int .i64 f2, .int .i64 f3, .int .i64 bo, .int .i64 wa, .int .i64 bu], .int .i64 d, .int .i64 n] w
      fun e w' => e = .returned (.tuple #[.agg #[.int .i64 f0, .int .i64 f1, .int .i64 f2, .int .i64 f3, .int .i64 bo, .int .i64 wa, .int .i64 bu], .int .i64 4]) ∧ Below w.heap.size w w' := by
  have hD := isDel_any d
  rw [decide_eq_false h] at hD
  clear h
  go_enter Tryz.func106, Tryz.ntmps106
  go_wp2_with fail
  have R0 : BAt ((w.alloc (.cells #[.int .i64 f0, .int .i64 f1, .int .i64 f2, .int .i64 f3, .int .i64 bo, .int .i64 wa, .int .i64 bu] 24)).alloc (.cells #[.int .i64 0, .int .i64 0, .int .i64 0, .int .i64 0, .int .i64 0, .int .i64 0, .int .i64 0] 24)) (w.heap.size + 1) 0 0 0 0 0 0 0 := by
    have := BAt.new (w.alloc (.cells #[.int .i64 f0, .int .i64 f1, .int .i64 f2, .int .i64 f3, .int .i64 bo, .int .i64 wa, .int .i64 bu] 24)) 0 0 0 0 0 0 0
    simpa using this
  have B0 := ((BAt.new w f0 f1 f2 f3 bo wa bu).alloc (.cells #[.int .i64 0, .int .i64 0, .int .i64 0, .int .i64 0, .int .i64 0, .int .i64 0, .int .i64 0] 24))
  have HB : Hid (Below w.heap.size w ((w.alloc (.cells #[.int .i64 f0, .int .i64 f1, .int .i64 f2, .int .i64 f3, .int .i64 bo, .int .i64 wa, .int .i64 bu] 24)).alloc (.cells #[.int .i64 0, .int .i64 0, .int .i64 0, .int .i64 0, .int .i64 0, .int .i64 0, .int .i64 0] 24))) := (((Below.refl _ w).alloc (Nat.le_refl _) _).alloc (by simp) _)
  generalize (w.alloc (.cells #[.int .i64 f0, .int .i64 f1, .int .i64 f2, .int .i64 f3, .int .i64 bo, .int .i64 wa, .int .i64 bu] 24)).alloc (.cells #[.int .i64 0, .int .i64 0, .int .i64 0, .int .i64 0, .int .i64 0, .int .i64 0, .int .i64 0] 24) = w0 at *
  obtain ⟨x0, x1, x2, x3, x4, x5, x6⟩ := B0.cells
  have hz0 : w.heap.size < w0.heap.size := B0.lt
  have hz1 : w.heap.size + 1 < w0.heap.size := R0.lt
  obtain ⟨u0, u1, u2, u3, u4, u5, u6⟩ := R0.frees
  obtain ⟨v0, v1, v2, v3, v4, v5, v6⟩ := R0.cells
  have HR5 : Hid (BAt w0 (w.heap.size + 1) 0 0 0 0 0 0 0) := R0
  clear B0 R0
  go_wp2_with (go_at_call 113; refine (hD _).mono ?_; rintro e w2 ⟨rfl, rfl⟩)
  exact bond_end HR5.out HB.out f0 f1 f2 f3 bo wa bu 4 _ rfl rfl rfl
end Go.Proofs.YtjghbciepinofaaGreat

