/- Parts of the proof: CZ. -/
import Derived.Test.YtdkalcnlncjgiaaRows
import Derived.Test.YtdkalcnlncjgiaaAK53
set_option maxRecDepth 100000
namespace Go.Proofs.Ytdkalcnlncjgiaa.Cd
open Go.RowKit
/-- the steps of a packet's bytes -/
def p1 (l : List Int) : Int × (List Int × Bool) := tk 1 (l, false)
def p2 (l : List Int) : Int × (List Int × Bool) := tk 6 (p1 l).2
def p3 (l : List Int) : Int × (List Int × Bool) := tk 1 (p2 l).2
theorem flat_get (l : List (Int × Int)) : ∀ i, i < l.length → (l.flatMap fun p => [Value.int .i64 p.1, Value.int .i64 p.2])[i * 2]? = some (.int .i64 (l.getD i (0, 0)).1) ∧ (l.flatMap fun p => [Value.int .i64 p.1, Value.int .i64 p.2])[i * 2 + 1]? = some (.int .i64 (l.getD i (0, 0)).2) := by
  induction l with
  | nil => intro i hi; simp at hi
  | cons a t ih =>
    intro i hi
    match i with
    | 0 => simp
    | i + 1 =>
      have := ih i (by simpa using hi)
      rw [List.flatMap_cons, show (i + 1) * 2 = i * 2 + 1 + 1 by omega]
      simpa using this
theorem Row2.lies {w : World} {B : Nat} {u : Value} {l : List (Int × Int)} (h : Row2 w B u l) : ∃ a c g, u = .slice a l.length c ∧ l.length ≤ maxLen ∧ (0 < l.length → a = some ⟨g, 0, none⟩) ∧ PwsAt w g 0 l ∧ (0 < l.length → B ≤ g) ∧ ((a = none → c = 0) ∧ l.length ≤ c) := by
  rcases h.2 with ⟨rfl, h0⟩ | ⟨g, cap, cur, rfl, hb, hh, hn, hm, hs, ht⟩
  · exact ⟨none, 0, 0, by rw [h0], by omega, by omega, fun i hi => by omega, by omega, fun _ => rfl, by omega⟩
  · refine ⟨_, cap, g, rfl, by omega, fun _ => rfl, fun i hi => ?_, fun _ => hb, fun h => (by cases h), hn⟩
    have h' : w.ownsRow B 64 2 (.slice (some ⟨g, 0, none⟩) l.length cap) l.length (l.flatMap fun p => [Value.int .i64 p.1, Value.int .i64 p.2]) := h
    rw [Nat.zero_add, h'.cellAt _ (by omega), h'.cellAt _ (by omega)]
    exact flat_get l i hi
theorem Row1.lies {w : World} {B : Nat} {u : Value} {l : List Int} (h : Row1 w B u l) : ∃ a c g, u = .slice a l.length c ∧ l.length ≤ maxLen ∧ (0 < l.length → a = some ⟨g, 0, none⟩) ∧ IntsAt w g 0 l ∧ (0 < l.length → B ≤ g) ∧ ((a = none → c = 0) ∧ l.length ≤ c) := by
  rcases h.2 with ⟨rfl, h0⟩ | ⟨g, cap, cur, rfl, hb, hh, hn, hm, hs, ht⟩
  · exact ⟨none, 0, 0, by rw [h0], by omega, by omega, fun i hi => by omega, by omega, fun _ => rfl, by omega⟩
  · refine ⟨_, cap, g, rfl, by omega, fun _ => rfl, fun i hi => ?_, fun _ => hb, fun h => (by cases h), hn⟩
    have h' : w.ownsRow B 3 1 (.slice (some ⟨g, 0, none⟩) l.length cap) l.length (l.map (Value.int .i64)) := h
    rw [Nat.zero_add, h'.cellAt _ (by omega)]
    simp [List.getD, hi]
theorem BoxAt.six {w : World} {b : Nat} {k i v n s d : Value} (h : BoxAt w b k i v n s d) : ∀ o, o < 6 → ∃ u, w.cell? ⟨b, o, none⟩ = some u := fun o ho => by
  obtain ⟨d0, d1, d2, d3, d4, d5, _⟩ := h.cells
  match o, ho with
  | 0, _ => exact ⟨_, d0⟩
  | 1, _ => exact ⟨_, d1⟩
  | 2, _ => exact ⟨_, d2⟩
  | 3, _ => exact ⟨_, d3⟩
  | 4, _ => exact ⟨_, d4⟩
  | 5, _ => exact ⟨_, d5⟩
theorem Lies.set6 {w : World} {S : List (Int × Int)} {D : List Int} {sa da : Option Addr} {sb so db dO : Nat} (L : Lies w S D sa da sb so db dO) (c : Nat) (hc : (0 < S.length → sb ≠ c) ∧ (0 < D.length → db ≠ c)) (v0 v1 v2 v3 v4 v5 : Value) : Lies (set6 w c v0 v1 v2 v3 v4 v5) S D sa da sb so db dO := by
  refine ⟨L.hls, L.hld, L.hsa, L.hda, fun i hi => ?_, fun i hi => ?_⟩
  · have h := L.PS i hi
    exact ⟨(cell_of_heap (set6_other v0 v1 v2 v3 v4 v5 (hc.1 (by omega))) _).trans h.1, (cell_of_heap (set6_other v0 v1 v2 v3 v4 v5 (hc.1 (by omega))) _).trans h.2⟩
  · exact (cell_of_heap (set6_other v0 v1 v2 v3 v4 v5 (hc.2 (by omega))) _).trans (L.PD i hi)
end Go.Proofs.Ytdkalcnlncjgiaa.Cd

