/- The reference's Move, granted: to a delegator. -/
import Derived.Test.YtjdjflkagopgoabT2
import Derived.WalkKit
namespace Go.Proofs.Ytjdjflkagopgoab
open Go.RowKit
set_option maxHeartbeats 2000000 in
theorem rmove_ok_50 (f0 f1 f2 f3 bo wa bu n : Int) (w : World) (hg : goodB f0 f1 f2 f3 bo wa bu = true) (hn0 : 0 ≤ n) (hn1 : n ≤ 1125899906842624) (hle : n ≤ wa) :
    Calls Try.prog 38 #[.agg #[.int .i64 f0, .int .i64 f1, .int .i64 f2, .int .i64 f3, .int .i64 bo, .int .i64 wa, .int .i64 bu], .int .i64 5, .int .i64 0, .int .i64 n] w fun e w' => e = .returned (.tuple #[.agg #[.int .i64 (f0 + n), .int .i64 f1, .int .i64 f2, .int .i64 f3, .int .i64 bo, .int .i64 (wa - n), .int .i64 bu], .int .i64 0]) ∧ Below w.heap.size w w' := by
  have hG := rgood_any f0 f1 f2 f3 bo wa bu
  rw [hg] at hG
  have hI := rin_any n
  rw [decide_eq_true ⟨hn0, hn1⟩] at hI
  unfold goodB at hg
  obtain ⟨g0, g1, g2, g3, g4, g5, g6, gs⟩ := of_decide_eq_true hg
  clear hg
  have k1 : wrap64 (wa - n) = wa - n := wrap64_small (by omega) (by omega)
  have k2 : wrap64 (f0 + n) = f0 + n := wrap64_small (by omega) (by omega)
  clear g0 g1 g2 g3 g4 g5 g6 gs hn0 hn1
  go_enter Try.func38, Try.ntmps38
  go_wp2_with fail
  refine (hG _).mono ?_
  rintro e w1 ⟨rfl, hb⟩
  have B1 := ((BAt.new w f0 f1 f2 f3 bo wa bu).alloc (.cells #[.int .i64 0, .int .i64 0, .int .i64 0, .int .i64 0, .int .i64 0, .int .i64 0, .int .i64 0] 33)).later hb (by simp; omega)
  have R1 : BAt w1 (w.heap.size + 1) 0 0 0 0 0 0 0 := by
    have := (BAt.new (w.alloc (.cells #[.int .i64 f0, .int .i64 f1, .int .i64 f2, .int .i64 f3, .int .i64 bo, .int .i64 wa, .int .i64 bu] 33)) 0 0 0 0 0 0 0).later hb (by simp)
    simpa using this
  have HB : Hid (Below w.heap.size w w1) := (((Below.refl _ w).alloc (Nat.le_refl _) _).alloc (by simp) _).trans (hb.mono (by simp; omega))
  clear hb
  obtain ⟨x0, x1, x2, x3, x4, x5, x6⟩ := B1.cells
  go_wp2_with (first
    | (go_at_call 12; refine (hI _).mono ?_; rintro e wI ⟨rfl, rfl⟩)
    | (go_at_call 42; refine (rplaces_any f0 f1 f2 f3 bo wa bu _).mono ?_; rintro e w2 ⟨rfl, h2⟩; have R2 := R1.later h2 R1.lt; have B2 := B1.later h2 B1.lt; have HB2 : Hid (Below w.heap.size w w2) := HB.out.trans (h2.mono HB.out.size); have hz2 : w.heap.size < w2.heap.size := B2.lt; have hz3 : w.heap.size + 1 < w2.heap.size := R2.lt; clear h2; clear B1 R1 HB B2 x0 x1 x2 x3 x4 x5 x6)
    | (go_at_call 44; refine (rbanked_any (f0 + n) f1 f2 f3 bo (wa - n) bu _).mono ?_; rintro e w3 ⟨rfl, h3⟩; have R3 := (R2.alloc _).later h3 (by simp; omega); have HB3 : Hid (Below w.heap.size w w3) := (HB2.out.alloc (Nat.le_of_lt hz2) _).trans (h3.mono (by simp; omega)); obtain ⟨u0, u1, u2, u3, u4, u5, u6⟩ := R3.frees; obtain ⟨v0, v1, v2, v3, v4, v5, v6⟩ := R3.cells; have HR3 : Hid (BAt w3 (w.heap.size + 1) 0 0 0 0 0 0 0) := R3; clear R2 R3 h3 HB2))
  exact rmove_end HR3.out HB3.out (f0 + n) f1 f2 f3 bo (wa - n) bu 0 _ rfl rfl rfl
set_option maxHeartbeats 2000000 in
theorem rmove_ok_51 (f0 f1 f2 f3 bo wa bu n : Int) (w : World) (hg : goodB f0 f1 f2 f3 bo wa bu = true) (hn0 : 0 ≤ n) (hn1 : n ≤ 1125899906842624) (hle : n ≤ wa) :
    Calls Try.prog 38 #[.agg #[.int .i64 f0, .int .i64 f1, .int .i64 f2, .int .i64 f3, .int .i64 bo, .int .i64 wa, .int .i64 bu], .int .i64 5, .int .i64 1, .int .i64 n] w fun e w' => e = .returned (.tuple #[.agg #[.int .i64 f0, .int .i64 (f1 + n), .int .i64 f2, .int .i64 f3, .int .i64 bo, .int .i64 (wa - n), .int .i64 bu], .int .i64 0]) ∧ Below w.heap.size w w' := by
  have hG := rgood_any f0 f1 f2 f3 bo wa bu
  rw [hg] at hG
  have hI := rin_any n
  rw [decide_eq_true ⟨hn0, hn1⟩] at hI
  unfold goodB at hg
  obtain ⟨g0, g1, g2, g3, g4, g5, g6, gs⟩ := of_decide_eq_true hg
  clear hg
  have k1 : wrap64 (wa - n) = wa - n := wrap64_small (by omega) (by omega)
  have k2 : wrap64 (f1 + n) = f1 + n := wrap64_small (by omega) (by omega)
  clear g0 g1 g2 g3 g4 g5 g6 gs hn0 hn1
  go_enter Try.func38, Try.ntmps38
  go_wp2_with fail
  refine (hG _).mono ?_
  rintro e w1 ⟨rfl, hb⟩
  have B1 := ((BAt.new w f0 f1 f2 f3 bo wa bu).alloc (.cells #[.int .i64 0, .int .i64 0, .int .i64 0, .int .i64 0, .int .i64 0, .int .i64 0, .int .i64 0] 33)).later hb (by simp; omega)
  have R1 : BAt w1 (w.heap.size + 1) 0 0 0 0 0 0 0 := by
    have := (BAt.new (w.alloc (.cells #[.int .i64 f0, .int .i64 f1, .int .i64 f2, .int .i64 f3, .int .i64 bo, .int .i64 wa, .int .i64 bu] 33)) 0 0 0 0 0 0 0).later hb (by simp)
    simpa using this
  have HB : Hid (Below w.heap.size w w1) := (((Below.refl _ w).alloc (Nat.le_refl _) _).alloc (by simp) _).trans (hb.mono (by simp; omega))
  clear hb
  obtain ⟨x0, x1, x2, x3, x4, x5, x6⟩ := B1.cells
  go_wp2_with (first
    | (go_at_call 12; refine (hI _).mono ?_; rintro e wI ⟨rfl, rfl⟩)
    | (go_at_call 42; refine (rplaces_any f0 f1 f2 f3 bo wa bu _).mono ?_; rintro e w2 ⟨rfl, h2⟩; have R2 := R1.later h2 R1.lt; have B2 := B1.later h2 B1.lt; have HB2 : Hid (Below w.heap.size w w2) := HB.out.trans (h2.mono HB.out.size); have hz2 : w.heap.size < w2.heap.size := B2.lt; have hz3 : w.heap.size + 1 < w2.heap.size := R2.lt; clear h2; clear B1 R1 HB B2 x0 x1 x2 x3 x4 x5 x6)
    | (go_at_call 44; refine (rbanked_any f0 (f1 + n) f2 f3 bo (wa - n) bu _).mono ?_; rintro e w3 ⟨rfl, h3⟩; have R3 := (R2.alloc _).later h3 (by simp; omega); have HB3 : Hid (Below w.heap.size w w3) := (HB2.out.alloc (Nat.le_of_lt hz2) _).trans (h3.mono (by simp; omega)); obtain ⟨u0, u1, u2, u3, u4, u5, u6⟩ := R3.frees; obtain ⟨v0, v1, v2, v3, v4, v5, v6⟩ := R3.cells; have HR3 : Hid (BAt w3 (w.heap.size + 1) 0 0 0 0 0 0 0) := R3; clear R2 R3 h3 HB2))
  exact rmove_end HR3.out HB3.out f0 (f1 + n) f2 f3 bo (wa - n) bu 0 _ rfl rfl rfl
set_option maxHeartbeats 2000000 in
theorem rmove_ok_52 (f0 f1 f2 f3 bo wa bu n : Int) (w : World) (hg : goodB f0 f1 f2 f3 bo wa bu = true) (hn0 : 0 ≤ n) (hn1 : n ≤ 1125899906842624) (hle : n ≤ wa) :
    Calls Try.prog 38 #[.agg #[.int .i64 f0, .int .i64 f1, .int .i64 f2, .int .i64 f3, .int .i64 bo, .int .i64 wa, .int .i64 bu], .int .i64 5, .int .i64 2, .int .i64 n] w fun e w' => e = .returned (.tuple #[.agg #[.int .i64 f0, .int .i64 f1, .int .i64 (f2 + n), .int .i64 f3, .int .i64 bo, .int .i64 (wa - n), .int .i64 bu], .int .i64 0]) ∧ Below w.heap.size w w' := by
  have hG := rgood_any f0 f1 f2 f3 bo wa bu
  rw [hg] at hG
  have hI := rin_any n
  rw [decide_eq_true ⟨hn0, hn1⟩] at hI
  unfold goodB at hg
  obtain ⟨g0, g1, g2, g3, g4, g5, g6, gs⟩ := of_decide_eq_true hg
  clear hg
  have k1 : wrap64 (wa - n) = wa - n := wrap64_small (by omega) (by omega)
  have k2 : wrap64 (f2 + n) = f2 + n := wrap64_small (by omega) (by omega)
  clear g0 g1 g2 g3 g4 g5 g6 gs hn0 hn1
  go_enter Try.func38, Try.ntmps38
  go_wp2_with fail
  refine (hG _).mono ?_
  rintro e w1 ⟨rfl, hb⟩
  have B1 := ((BAt.new w f0 f1 f2 f3 bo wa bu).alloc (.cells #[.int .i64 0, .int .i64 0, .int .i64 0, .int .i64 0, .int .i64 0, .int .i64 0, .int .i64 0] 33)).later hb (by simp; omega)
  have R1 : BAt w1 (w.heap.size + 1) 0 0 0 0 0 0 0 := by
    have := (BAt.new (w.alloc (.cells #[.int .i64 f0, .int .i64 f1, .int .i64 f2, .int .i64 f3, .int .i64 bo, .int .i64 wa, .int .i64 bu] 33)) 0 0 0 0 0 0 0).later hb (by simp)
    simpa using this
  have HB : Hid (Below w.heap.size w w1) := (((Below.refl _ w).alloc (Nat.le_refl _) _).alloc (by simp) _).trans (hb.mono (by simp; omega))
  clear hb
  obtain ⟨x0, x1, x2, x3, x4, x5, x6⟩ := B1.cells
  go_wp2_with (first
    | (go_at_call 12; refine (hI _).mono ?_; rintro e wI ⟨rfl, rfl⟩)
    | (go_at_call 42; refine (rplaces_any f0 f1 f2 f3 bo wa bu _).mono ?_; rintro e w2 ⟨rfl, h2⟩; have R2 := R1.later h2 R1.lt; have B2 := B1.later h2 B1.lt; have HB2 : Hid (Below w.heap.size w w2) := HB.out.trans (h2.mono HB.out.size); have hz2 : w.heap.size < w2.heap.size := B2.lt; have hz3 : w.heap.size + 1 < w2.heap.size := R2.lt; clear h2; clear B1 R1 HB B2 x0 x1 x2 x3 x4 x5 x6)
    | (go_at_call 44; refine (rbanked_any f0 f1 (f2 + n) f3 bo (wa - n) bu _).mono ?_; rintro e w3 ⟨rfl, h3⟩; have R3 := (R2.alloc _).later h3 (by simp; omega); have HB3 : Hid (Below w.heap.size w w3) := (HB2.out.alloc (Nat.le_of_lt hz2) _).trans (h3.mono (by simp; omega)); obtain ⟨u0, u1, u2, u3, u4, u5, u6⟩ := R3.frees; obtain ⟨v0, v1, v2, v3, v4, v5, v6⟩ := R3.cells; have HR3 : Hid (BAt w3 (w.heap.size + 1) 0 0 0 0 0 0 0) := R3; clear R2 R3 h3 HB2))
  exact rmove_end HR3.out HB3.out f0 f1 (f2 + n) f3 bo (wa - n) bu 0 _ rfl rfl rfl
set_option maxHeartbeats 2000000 in
theorem rmove_ok_53 (f0 f1 f2 f3 bo wa bu n : Int) (w : World) (hg : goodB f0 f1 f2 f3 bo wa bu = true) (hn0 : 0 ≤ n) (hn1 : n ≤ 1125899906842624) (hle : n ≤ wa) :
    Calls Try.prog 38 #[.agg #[.int .i64 f0, .int .i64 f1, .int .i64 f2, .int .i64 f3, .int .i64 bo, .int .i64 wa, .int .i64 bu], .int .i64 5, .int .i64 3, .int .i64 n] w fun e w' => e = .returned (.tuple #[.agg #[.int .i64 f0, .int .i64 f1, .int .i64 f2, .int .i64 (f3 + n), .int .i64 bo, .int .i64 (wa - n), .int .i64 bu], .int .i64 0]) ∧ Below w.heap.size w w' := by
  have hG := rgood_any f0 f1 f2 f3 bo wa bu
  rw [hg] at hG
  have hI := rin_any n
  rw [decide_eq_true ⟨hn0, hn1⟩] at hI
  unfold goodB at hg
  obtain ⟨g0, g1, g2, g3, g4, g5, g6, gs⟩ := of_decide_eq_true hg
  clear hg
  have k1 : wrap64 (wa - n) = wa - n := wrap64_small (by omega) (by omega)
  have k2 : wrap64 (f3 + n) = f3 + n := wrap64_small (by omega) (by omega)
  clear g0 g1 g2 g3 g4 g5 g6 gs hn0 hn1
  go_enter Try.func38, Try.ntmps38
  go_wp2_with fail
  refine (hG _).mono ?_
  rintro e w1 ⟨rfl, hb⟩
  have B1 := ((BAt.new w f0 f1 f2 f3 bo wa bu).alloc (.cells #[.int .i64 0, .int .i64 0, .int .i64 0, .int .i64 0, .int .i64 0, .int .i64 0, .int .i64 0] 33)).later hb (by simp; omega)
  have R1 : BAt w1 (w.heap.size + 1) 0 0 0 0 0 0 0 := by
    have := (BAt.new (w.alloc (.cells #[.int .i64 f0, .int .i64 f1, .int .i64 f2, .int .i64 f3, .int .i64 bo, .int .i64 wa, .int .i64 bu] 33)) 0 0 0 0 0 0 0).later hb (by simp)
    simpa using this
  have HB : Hid (Below w.heap.size w w1) := (((Below.refl _ w).alloc (Nat.le_refl _) _).alloc (by simp) _).trans (hb.mono (by simp; omega))
  clear hb
  obtain ⟨x0, x1, x2, x3, x4, x5, x6⟩ := B1.cells
  go_wp2_with (first
    | (go_at_call 12; refine (hI _).mono ?_; rintro e wI ⟨rfl, rfl⟩)
    | (go_at_call 42; refine (rplaces_any f0 f1 f2 f3 bo wa bu _).mono ?_; rintro e w2 ⟨rfl, h2⟩; have R2 := R1.later h2 R1.lt; have B2 := B1.later h2 B1.lt; have HB2 : Hid (Below w.heap.size w w2) := HB.out.trans (h2.mono HB.out.size); have hz2 : w.heap.size < w2.heap.size := B2.lt; have hz3 : w.heap.size + 1 < w2.heap.size := R2.lt; clear h2; clear B1 R1 HB B2 x0 x1 x2 x3 x4 x5 x6)
    | (go_at_call 44; refine (rbanked_any f0 f1 f2 (f3 + n) bo (wa - n) bu _).mono ?_; rintro e w3 ⟨rfl, h3⟩; have R3 := (R2.alloc _).later h3 (by simp; omega); have HB3 : Hid (Below w.heap.size w w3) := (HB2.out.alloc (Nat.le_of_lt hz2) _).trans (h3.mono (by simp; omega)); obtain ⟨u0, u1, u2, u3, u4, u5, u6⟩ := R3.frees; obtain ⟨v0, v1, v2, v3, v4, v5, v6⟩ := R3.cells; have HR3 : Hid (BAt w3 (w.heap.size + 1) 0 0 0 0 0 0 0) := R3; clear R2 R3 h3 HB2))
  exact rmove_end HR3.out HB3.out f0 f1 f2 (f3 + n) bo (wa - n) bu 0 _ rfl rfl rfl
end Go.Proofs.Ytjdjflkagopgoab
