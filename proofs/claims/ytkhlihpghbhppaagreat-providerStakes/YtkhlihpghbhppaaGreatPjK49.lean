/- Parts of the proof: CZ T5. -/
import Derived.Test.YtkhlihpghbhppaaGreatRows
import Derived.Test.YtkhlihpghbhppaaGreatPjK5
import Derived.Test.YtkhlihpghbhppaaGreatPjK13
import Derived.Test.YtkhlihpghbhppaaGreatPjK36
import Derived.WalkKit
set_option maxRecDepth 100000
namespace Go.Proofs.YtkhlihpghbhppaaGreat.Cd
open Go.RowKit
/-- the steps of a packet's bytes -/
def p1 (l : List Int) : Int × (List Int × Bool) := tk 1 (l, false)
def p2 (l : List Int) : Int × (List Int × Bool) := tk 6 (p1 l).2
def p3 (l : List Int) : Int × (List Int × Bool) := tk 1 (p2 l).2
def p4 (l : List Int) : Int × (List Int × Bool) := tk 7 (p3 l).2
def p5 (l : List Int) : Int × (List Int × Bool) := tk 1 (p4 l).2
def p6 (l : List Int) : List (Int × Int) × (List Int × Bool) := tkP (p5 l).1.toNat (p5 l).2
theorem flat_get (l : List (Int × Int)) : ∀ i, i < l.length → (l.flatMap fun p => [Value.int .i64 p.1, Value.int .i64 p.2])[i * 2]? = some (.int .i64 (l.getD i (0, 0)).1) ∧ (l.flatMap fun p => [Value.int .i64 p.1, Value.int .i64 p.2])[i * 2 + 1]? = some (.int .i64 (l.getD i (0, 0)).2) := by
  induction l with
  | nil => intro i hi; simp at hi
  | cons a t ih =>
    intro i hi
    match i with
    | 0 => simp
    | i + 1 =>
      have := ih i (by simpa using hi)
      rw [List.flatMap_cons, show (i + 1) * 2 = i * 2 + 1 + 1 by omega]
      simpa using this
theorem Row2.lies {w : World} {B : Nat} {u : Value} {l : List (Int × Int)} (h : Row2 w B u l) : ∃ a c g, u = .slice a l.length c ∧ l.length ≤ maxLen ∧ (0 < l.length → a = some ⟨g, 0, none⟩) ∧ PwsAt w g 0 l ∧ (0 < l.length → B ≤ g) ∧ ((a = none → c = 0) ∧ l.length ≤ c) := by
  rcases h.2 with ⟨rfl, h0⟩ | ⟨g, cap, cur, rfl, hb, hh, hn, hm, hs, ht⟩
  · exact ⟨none, 0, 0, by rw [h0], by omega, by omega, fun i hi => by omega, by omega, fun _ => rfl, by omega⟩
  · refine ⟨_, cap, g, rfl, by omega, fun _ => rfl, fun i hi => ?_, fun _ => hb, fun h => (by cases h), hn⟩
    have h' : w.ownsRow B 104 2 (.slice (some ⟨g, 0, none⟩) l.length cap) l.length (l.flatMap fun p => [Value.int .i64 p.1, Value.int .i64 p.2]) := h
    rw [Nat.zero_add, h'.cellAt _ (by omega), h'.cellAt _ (by omega)]
    exact flat_get l i hi
theorem Row1.lies {w : World} {B : Nat} {u : Value} {l : List Int} (h : Row1 w B u l) : ∃ a c g, u = .slice a l.length c ∧ l.length ≤ maxLen ∧ (0 < l.length → a = some ⟨g, 0, none⟩) ∧ IntsAt w g 0 l ∧ (0 < l.length → B ≤ g) ∧ ((a = none → c = 0) ∧ l.length ≤ c) := by
  rcases h.2 with ⟨rfl, h0⟩ | ⟨g, cap, cur, rfl, hb, hh, hn, hm, hs, ht⟩
  · exact ⟨none, 0, 0, by rw [h0], by omega, by omega, fun i hi => by omega, by omega, fun _ => rfl, by omega⟩
  · refine ⟨_, cap, g, rfl, by omega, fun _ => rfl, fun i hi => ?_, fun _ => hb, fun h => (by cases h), hn⟩
    have h' : w.ownsRow B 3 1 (.slice (some ⟨g, 0, none⟩) l.length cap) l.length (l.map (Value.int .i64)) := h
    rw [Nat.zero_add, h'.cellAt _ (by omega)]
    simp [List.getD, hi]
theorem BoxAt.six {w : World} {b : Nat} {k i v n s d : Value} (h : BoxAt w b k i v n s d) : ∀ o, o < 6 → ∃ u, w.cell? ⟨b, o, none⟩ = some u := fun o ho => by
  obtain ⟨d0, d1, d2, d3, d4, d5, _⟩ := h.cells
  match o, ho with
  | 0, _ => exact ⟨_, d0⟩
  | 1, _ => exact ⟨_, d1⟩
  | 2, _ => exact ⟨_, d2⟩
  | 3, _ => exact ⟨_, d3⟩
  | 4, _ => exact ⟨_, d4⟩
  | 5, _ => exact ⟨_, d5⟩
theorem Lies.set6 {w : World} {S : List (Int × Int)} {D : List Int} {sa da : Option Addr} {sb so db dO : Nat} (L : Lies w S D sa da sb so db dO) (c : Nat) (hc : (0 < S.length → sb ≠ c) ∧ (0 < D.length → db ≠ c)) (v0 v1 v2 v3 v4 v5 : Value) : Lies (set6 w c v0 v1 v2 v3 v4 v5) S D sa da sb so db dO := by
  refine ⟨L.hls, L.hld, L.hsa, L.hda, fun i hi => ?_, fun i hi => ?_⟩
  · have h := L.PS i hi
    exact ⟨(cell_of_heap (set6_other v0 v1 v2 v3 v4 v5 (hc.1 (by omega))) _).trans h.1, (cell_of_heap (set6_other v0 v1 v2 v3 v4 v5 (hc.1 (by omega))) _).trans h.2⟩
  · exact (cell_of_heap (set6_other v0 v1 v2 v3 v4 v5 (hc.2 (by omega))) _).trans (L.PD i hi)
end Go.Proofs.YtkhlihpghbhppaaGreat.Cd

set_option maxRecDepth 100000
namespace Go.Proofs.YtkhlihpghbhppaaGreat
open Go.RowKit
set_option maxHeartbeats 2000000 in
theorem rmove_ok_45 (f0 f1 f2 f3 bo wa bu n : Int) (w : World) (hg : goodB f0 f1 f2 f3 bo wa bu = true) (hn0 : 0 ≤ n) (hn1 : n ≤ 1125899906842624) (hle : n ≤ bo) :
    Calls Tryz.prog 156 #[.agg #[.int .i64 f0, .int .i64 f1, .int .i64 f2, .int .i64 f3, .int .i64 bo, .int .i64 wa, .int .i64 bu], .int .i64 4, .int .i64 5, .int .i64 n] w fun e w' => e = .returned (.tuple #[.agg #[.int .i64 f0, .int .i64 f1, .int .i64 f2, .int .i64 f3, .int .i64 (bo - n), .int .i64 (wa + n), .int .i64 bu], .int .i64 0]) ∧ Below w.heap.size w w' := by
  have hG := rgood_any f0 f1 f2 f3 bo wa bu
  rw [hg] at hG
  have hI := rin_any n
  rw [decide_eq_true ⟨hn0, hn1⟩] at hI
  unfold goodB at hg
  obtain ⟨g0, g1, g2, g3, g4, g5, g6, gs⟩ := of_decide_eq_true hg
  clear hg
  have k1 : wrap64 (bo - n) = bo - n := wrap64_small (by omega) (by omega)
  have k2 : wrap64 (wa + n) = wa + n := wrap64_small (by omega) (by omega)
  clear g0 g1 g2 g3 g4 g5 g6 gs hn0 hn1
  go_enter Tryz.func156, Tryz.ntmps156
  go_wp2_with fail
  refine (hG _).mono ?_
  rintro e w1 ⟨rfl, hb⟩
  have B1 := ((BAt.new w f0 f1 f2 f3 bo wa bu).alloc (.cells #[.int .i64 0, .int .i64 0, .int .i64 0, .int .i64 0, .int .i64 0, .int .i64 0, .int .i64 0] 24)).later hb (by simp; omega)
  have R1 : BAt w1 (w.heap.size + 1) 0 0 0 0 0 0 0 := by
    have := (BAt.new (w.alloc (.cells #[.int .i64 f0, .int .i64 f1, .int .i64 f2, .int .i64 f3, .int .i64 bo, .int .i64 wa, .int .i64 bu] 24)) 0 0 0 0 0 0 0).later hb (by simp)
    simpa using this
  have HB : Hid (Below w.heap.size w w1) := (((Below.refl _ w).alloc (Nat.le_refl _) _).alloc (by simp) _).trans (hb.mono (by simp; omega))
  clear hb
  obtain ⟨x0, x1, x2, x3, x4, x5, x6⟩ := B1.cells
  go_wp2_with (first
    | (go_at_call 115; refine (hI _).mono ?_; rintro e wI ⟨rfl, rfl⟩)
    | (go_at_call 158; refine (rplaces_any f0 f1 f2 f3 bo wa bu _).mono ?_; rintro e w2 ⟨rfl, h2⟩; have R2 := R1.later h2 R1.lt; have B2 := B1.later h2 B1.lt; have HB2 : Hid (Below w.heap.size w w2) := HB.out.trans (h2.mono HB.out.size); have hz2 : w.heap.size < w2.heap.size := B2.lt; have hz3 : w.heap.size + 1 < w2.heap.size := R2.lt; clear h2; clear B1 R1 HB B2 x0 x1 x2 x3 x4 x5 x6)
    | (go_at_call 159; refine (rbanked_any f0 f1 f2 f3 (bo - n) (wa + n) bu _).mono ?_; rintro e w3 ⟨rfl, h3⟩; have R3 := (R2.alloc _).later h3 (by simp; omega); have HB3 : Hid (Below w.heap.size w w3) := (HB2.out.alloc (Nat.le_of_lt hz2) _).trans (h3.mono (by simp; omega)); obtain ⟨u0, u1, u2, u3, u4, u5, u6⟩ := R3.frees; obtain ⟨v0, v1, v2, v3, v4, v5, v6⟩ := R3.cells; have HR3 : Hid (BAt w3 (w.heap.size + 1) 0 0 0 0 0 0 0) := R3; clear R2 R3 h3 HB2))
  exact rmove_end HR3.out HB3.out f0 f1 f2 f3 (bo - n) (wa + n) bu 0 _ rfl rfl rfl
set_option maxHeartbeats 2000000 in
theorem rmove_ok_46 (f0 f1 f2 f3 bo wa bu n : Int) (w : World) (hg : goodB f0 f1 f2 f3 bo wa bu = true) (hn0 : 0 ≤ n) (hn1 : n ≤ 1125899906842624) (hle : n ≤ bo) :
    Calls Tryz.prog 156 #[.agg #[.int .i64 f0, .int .i64 f1, .int .i64 f2, .int .i64 f3, .int .i64 bo, .int .i64 wa, .int .i64 bu], .int .i64 4, .int .i64 6, .int .i64 n] w fun e w' => e = .returned (.tuple #[.agg #[.int .i64 f0, .int .i64 f1, .int .i64 f2, .int .i64 f3, .int .i64 (bo - n), .int .i64 wa, .int .i64 (bu + n)], .int .i64 0]) ∧ Below w.heap.size w w' := by
  have hG := rgood_any f0 f1 f2 f3 bo wa bu
  rw [hg] at hG
  have hI := rin_any n
  rw [decide_eq_true ⟨hn0, hn1⟩] at hI
  unfold goodB at hg
  obtain ⟨g0, g1, g2, g3, g4, g5, g6, gs⟩ := of_decide_eq_true hg
  clear hg
  have k1 : wrap64 (bo - n) = bo - n := wrap64_small (by omega) (by omega)
  have k2 : wrap64 (bu + n) = bu + n := wrap64_small (by omega) (by omega)
  clear g0 g1 g2 g3 g4 g5 g6 gs hn0 hn1
  go_enter Tryz.func156, Tryz.ntmps156
  go_wp2_with fail
  refine (hG _).mono ?_
  rintro e w1 ⟨rfl, hb⟩
  have B1 := ((BAt.new w f0 f1 f2 f3 bo wa bu).alloc (.cells #[.int .i64 0, .int .i64 0, .int .i64 0, .int .i64 0, .int .i64 0, .int .i64 0, .int .i64 0] 24)).later hb (by simp; omega)
  have R1 : BAt w1 (w.heap.size + 1) 0 0 0 0 0 0 0 := by
    have := (BAt.new (w.alloc (.cells #[.int .i64 f0, .int .i64 f1, .int .i64 f2, .int .i64 f3, .int .i64 bo, .int .i64 wa, .int .i64 bu] 24)) 0 0 0 0 0 0 0).later hb (by simp)
    simpa using this
  have HB : Hid (Below w.heap.size w w1) := (((Below.refl _ w).alloc (Nat.le_refl _) _).alloc (by simp) _).trans (hb.mono (by simp; omega))
  clear hb
  obtain ⟨x0, x1, x2, x3, x4, x5, x6⟩ := B1.cells
  go_wp2_with (first
    | (go_at_call 115; refine (hI _).mono ?_; rintro e wI ⟨rfl, rfl⟩)
    | (go_at_call 158; refine (rplaces_any f0 f1 f2 f3 bo wa bu _).mono ?_; rintro e w2 ⟨rfl, h2⟩; have R2 := R1.later h2 R1.lt; have B2 := B1.later h2 B1.lt; have HB2 : Hid (Below w.heap.size w w2) := HB.out.trans (h2.mono HB.out.size); have hz2 : w.heap.size < w2.heap.size := B2.lt; have hz3 : w.heap.size + 1 < w2.heap.size := R2.lt; clear h2; clear B1 R1 HB B2 x0 x1 x2 x3 x4 x5 x6)
    | (go_at_call 159; refine (rbanked_any f0 f1 f2 f3 (bo - n) wa (bu + n) _).mono ?_; rintro e w3 ⟨rfl, h3⟩; have R3 := (R2.alloc _).later h3 (by simp; omega); have HB3 : Hid (Below w.heap.size w w3) := (HB2.out.alloc (Nat.le_of_lt hz2) _).trans (h3.mono (by simp; omega)); obtain ⟨u0, u1, u2, u3, u4, u5, u6⟩ := R3.frees; obtain ⟨v0, v1, v2, v3, v4, v5, v6⟩ := R3.cells; have HR3 : Hid (BAt w3 (w.heap.size + 1) 0 0 0 0 0 0 0) := R3; clear R2 R3 h3 HB2))
  exact rmove_end HR3.out HB3.out f0 f1 f2 f3 (bo - n) wa (bu + n) 0 _ rfl rfl rfl
set_option maxHeartbeats 2000000 in
theorem rmove_ok_56 (f0 f1 f2 f3 bo wa bu n : Int) (w : World) (hg : goodB f0 f1 f2 f3 bo wa bu = true) (hn0 : 0 ≤ n) (hn1 : n ≤ 1125899906842624) (hle : n ≤ wa) :
    Calls Tryz.prog 156 #[.agg #[.int .i64 f0, .int .i64 f1, .int .i64 f2, .int .i64 f3, .int .i64 bo, .int .i64 wa, .int .i64 bu], .int .i64 5, .int .i64 6, .int .i64 n] w fun e w' => e = .returned (.tuple #[.agg #[.int .i64 f0, .int .i64 f1, .int .i64 f2, .int .i64 f3, .int .i64 bo, .int .i64 (wa - n), .int .i64 (bu + n)], .int .i64 0]) ∧ Below w.heap.size w w' := by
  have hG := rgood_any f0 f1 f2 f3 bo wa bu
  rw [hg] at hG
  have hI := rin_any n
  rw [decide_eq_true ⟨hn0, hn1⟩] at hI
  unfold goodB at hg
  obtain ⟨g0, g1, g2, g3, g4, g5, g6, gs⟩ := of_decide_eq_true hg
  clear hg
  have k1 : wrap64 (wa - n) = wa - n := wrap64_small (by omega) (by omega)
  have k2 : wrap64 (bu + n) = bu + n := wrap64_small (by omega) (by omega)
  clear g0 g1 g2 g3 g4 g5 g6 gs hn0 hn1
  go_enter Tryz.func156, Tryz.ntmps156
  go_wp2_with fail
  refine (hG _).mono ?_
  rintro e w1 ⟨rfl, hb⟩
  have B1 := ((BAt.new w f0 f1 f2 f3 bo wa bu).alloc (.cells #[.int .i64 0, .int .i64 0, .int .i64 0, .int .i64 0, .int .i64 0, .int .i64 0, .int .i64 0] 24)).later hb (by simp; omega)
  have R1 : BAt w1 (w.heap.size + 1) 0 0 0 0 0 0 0 := by
    have := (BAt.new (w.alloc (.cells #[.int .i64 f0, .int .i64 f1, .int .i64 f2, .int .i64 f3, .int .i64 bo, .int .i64 wa, .int .i64 bu] 24)) 0 0 0 0 0 0 0).later hb (by simp)
    simpa using this
  have HB : Hid (Below w.heap.size w w1) := (((Below.refl _ w).alloc (Nat.le_refl _) _).alloc (by simp) _).trans (hb.mono (by simp; omega))
  clear hb
  obtain ⟨x0, x1, x2, x3, x4, x5, x6⟩ := B1.cells
  go_wp2_with (first
    | (go_at_call 115; refine (hI _).mono ?_; rintro e wI ⟨rfl, rfl⟩)
    | (go_at_call 158; refine (rplaces_any f0 f1 f2 f3 bo wa bu _).mono ?_; rintro e w2 ⟨rfl, h2⟩; have R2 := R1.later h2 R1.lt; have B2 := B1.later h2 B1.lt; have HB2 : Hid (Below w.heap.size w w2) := HB.out.trans (h2.mono HB.out.size); have hz2 : w.heap.size < w2.heap.size := B2.lt; have hz3 : w.heap.size + 1 < w2.heap.size := R2.lt; clear h2; clear B1 R1 HB B2 x0 x1 x2 x3 x4 x5 x6)
    | (go_at_call 159; refine (rbanked_any f0 f1 f2 f3 bo (wa - n) (bu + n) _).mono ?_; rintro e w3 ⟨rfl, h3⟩; have R3 := (R2.alloc _).later h3 (by simp; omega); have HB3 : Hid (Below w.heap.size w w3) := (HB2.out.alloc (Nat.le_of_lt hz2) _).trans (h3.mono (by simp; omega)); obtain ⟨u0, u1, u2, u3, u4, u5, u6⟩ := R3.frees; obtain ⟨v0, v1, v2, v3, v4, v5, v6⟩ := R3.cells; have HR3 : Hid (BAt w3 (w.heap.size + 1) 0 0 0 0 0 0 0) := R3; clear R2 R3 h3 HB2))
  exact rmove_end HR3.out HB3.out f0 f1 f2 f3 bo (wa - n) (bu + n) 0 _ rfl rfl rfl
end Go.Proofs.YtkhlihpghbhppaaGreat

