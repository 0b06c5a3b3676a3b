/- Parts of the proof: CZ DF0. -/
import Derived.Test.YtdkalcnlncjgiaaRows
import Derived.Test.YtdkalcnlncjgiaaBK51
set_option maxRecDepth 100000
namespace Go.Proofs.Ytdkalcnlncjgiaa.Cd
open Go.RowKit
/-- the steps of a packet's bytes -/
def p1 (l : List Int) : Int × (List Int × Bool) := tk 1 (l, false)
def p2 (l : List Int) : Int × (List Int × Bool) := tk 6 (p1 l).2
def p3 (l : List Int) : Int × (List Int × Bool) := tk 1 (p2 l).2
def p4 (l : List Int) : Int × (List Int × Bool) := tk 7 (p3 l).2
def p5 (l : List Int) : Int × (List Int × Bool) := tk 1 (p4 l).2
def p6 (l : List Int) : List (Int × Int) × (List Int × Bool) := tkP (p5 l).1.toNat (p5 l).2
def p7 (l : List Int) : Int × (List Int × Bool) := tk 1 (p6 l).2
def p8 (l : List Int) : List Int × (List Int × Bool) := tkD (p7 l).1.toNat (p7 l).2
theorem flat_get (l : List (Int × Int)) : ∀ i, i < l.length → (l.flatMap fun p => [Value.int .i64 p.1, Value.int .i64 p.2])[i * 2]? = some (.int .i64 (l.getD i (0, 0)).1) ∧ (l.flatMap fun p => [Value.int .i64 p.1, Value.int .i64 p.2])[i * 2 + 1]? = some (.int .i64 (l.getD i (0, 0)).2) := by
  induction l with
  | nil => intro i hi; simp at hi
  | cons a t ih =>
    intro i hi
    match i with
    | 0 => simp
    | i + 1 =>
      have := ih i (by simpa using hi)
      rw [List.flatMap_cons, show (i + 1) * 2 = i * 2 + 1 + 1 by omega]
      simpa using this
theorem Row2.lies {w : World} {B : Nat} {u : Value} {l : List (Int × Int)} (h : Row2 w B u l) : ∃ a c g, u = .slice a l.length c ∧ l.length ≤ maxLen ∧ (0 < l.length → a = some ⟨g, 0, none⟩) ∧ PwsAt w g 0 l ∧ (0 < l.length → B ≤ g) ∧ ((a = none → c = 0) ∧ l.length ≤ c) := by
  rcases h.2 with ⟨rfl, h0⟩ | ⟨g, cap, cur, rfl, hb, hh, hn, hm, hs, ht⟩
  · exact ⟨none, 0, 0, by rw [h0], by omega, by omega, fun i hi => by omega, by omega, fun _ => rfl, by omega⟩
  · refine ⟨_, cap, g, rfl, by omega, fun _ => rfl, fun i hi => ?_, fun _ => hb, fun h => (by cases h), hn⟩
    have h' : w.ownsRow B 64 2 (.slice (some ⟨g, 0, none⟩) l.length cap) l.length (l.flatMap fun p => [Value.int .i64 p.1, Value.int .i64 p.2]) := h
    rw [Nat.zero_add, h'.cellAt _ (by omega), h'.cellAt _ (by omega)]
    exact flat_get l i hi
theorem Row1.lies {w : World} {B : Nat} {u : Value} {l : List Int} (h : Row1 w B u l) : ∃ a c g, u = .slice a l.length c ∧ l.length ≤ maxLen ∧ (0 < l.length → a = some ⟨g, 0, none⟩) ∧ IntsAt w g 0 l ∧ (0 < l.length → B ≤ g) ∧ ((a = none → c = 0) ∧ l.length ≤ c) := by
  rcases h.2 with ⟨rfl, h0⟩ | ⟨g, cap, cur, rfl, hb, hh, hn, hm, hs, ht⟩
  · exact ⟨none, 0, 0, by rw [h0], by omega, by omega, fun i hi => by omega, by omega, fun _ => rfl, by omega⟩
  · refine ⟨_, cap, g, rfl, by omega, fun _ => rfl, fun i hi => ?_, fun _ => hb, fun h => (by cases h), hn⟩
    have h' : w.ownsRow B 3 1 (.slice (some ⟨g, 0, none⟩) l.length cap) l.length (l.map (Value.int .i64)) := h
    rw [Nat.zero_add, h'.cellAt _ (by omega)]
    simp [List.getD, hi]
theorem BoxAt.six {w : World} {b : Nat} {k i v n s d : Value} (h : BoxAt w b k i v n s d) : ∀ o, o < 6 → ∃ u, w.cell? ⟨b, o, none⟩ = some u := fun o ho => by
  obtain ⟨d0, d1, d2, d3, d4, d5, _⟩ := h.cells
  match o, ho with
  | 0, _ => exact ⟨_, d0⟩
  | 1, _ => exact ⟨_, d1⟩
  | 2, _ => exact ⟨_, d2⟩
  | 3, _ => exact ⟨_, d3⟩
  | 4, _ => exact ⟨_, d4⟩
  | 5, _ => exact ⟨_, d5⟩
theorem Lies.set6 {w : World} {S : List (Int × Int)} {D : List Int} {sa da : Option Addr} {sb so db dO : Nat} (L : Lies w S D sa da sb so db dO) (c : Nat) (hc : (0 < S.length → sb ≠ c) ∧ (0 < D.length → db ≠ c)) (v0 v1 v2 v3 v4 v5 : Value) : Lies (set6 w c v0 v1 v2 v3 v4 v5) S D sa da sb so db dO := by
  refine ⟨L.hls, L.hld, L.hsa, L.hda, fun i hi => ?_, fun i hi => ?_⟩
  · have h := L.PS i hi
    exact ⟨(cell_of_heap (set6_other v0 v1 v2 v3 v4 v5 (hc.1 (by omega))) _).trans h.1, (cell_of_heap (set6_other v0 v1 v2 v3 v4 v5 (hc.1 (by omega))) _).trans h.2⟩
  · exact (cell_of_heap (set6_other v0 v1 v2 v3 v4 v5 (hc.2 (by omega))) _).trans (L.PD i hi)
end Go.Proofs.Ytdkalcnlncjgiaa.Cd

set_option maxRecDepth 100000
namespace Go.Proofs.Ytdkalcnlncjgiaa.Df
abbrev Pw := Int × Int
/-- a power is put in its validator's place -/
def putP (P : Nat → Int) (x : Pw) : Nat → Int := if 0 ≤ x.1 ∧ x.1 < 6 then (fun i => if i = x.1.toNat then x.2 else P i) else P
def zeroP : Nat → Int := fun _ => 0
/-- the first one counts -/
def firstP (l : List Pw) : Nat → Int := l.foldr (fun x P => putP P x) zeroP
/-- the last one counts -/
def lastP (P : Nat → Int) (l : List Pw) : Nat → Int := l.foldl putP P
/-- those of the first n that are wanted, with their powers -/
def those (c : Nat → Bool) (f : Nat → Int) (n : Nat) : List Pw := (List.range n).filterMap fun v => if c v = true then some ((v : Int), f v) else none
theorem those_succ (c : Nat → Bool) (f : Nat → Int) (n : Nat) : those c f (n + 1) = if c n = true then those c f n ++ [((n : Int), f n)] else those c f n := by
  unfold those
  rw [List.range_succ, List.filterMap_append]
  cases h : c n <;> simp [h]
theorem those_len (c : Nat → Bool) (f : Nat → Int) : ∀ n, (those c f n).length ≤ n
  | 0 => by simp [those]
  | n + 1 => by
    have := those_len c f n
    rw [those_succ]
    split
    · rw [List.length_append]; simp; omega
    · omega
def applyL (a d : List Pw) : List Pw := those (fun v => decide (0 < lastP (lastP zeroP a) d v)) (lastP (lastP zeroP a) d) 6
theorem put_at {P : Nat → Int} {n : Nat} {x : Int} (hn : n < 6) (i : Nat) : putP P ((n : Int), x) i = if i = n then x else P i := by
  unfold putP
  rw [if_pos (by simp; omega)]
  simp
theorem foldr_drop (l : List Pw) (k : Nat) (hk : k < l.length) : firstP (l.drop k) = putP (firstP (l.drop (k + 1))) (l.getD k (0, 0)) := by
  unfold firstP
  rw [List.drop_eq_getElem_cons hk, List.foldr_cons, show l.getD k (0, 0) = l[k] by simp [List.getD, hk]]
theorem foldl_take (P : Nat → Int) (l : List Pw) (k : Nat) (hk : k < l.length) : lastP P (l.take (k + 1)) = putP (lastP P (l.take k)) (l.getD k (0, 0)) := by
  unfold lastP
  rw [List.take_succ_eq_append_getElem hk, List.foldl_append]
  simp [List.getD, hk]
end Go.Proofs.Ytdkalcnlncjgiaa.Df

