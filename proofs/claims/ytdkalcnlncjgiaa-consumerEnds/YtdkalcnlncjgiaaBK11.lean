/- Parts of the proof: SS. -/
import Derived.Test.YtdkalcnlncjgiaaRows
import Derived.Test.YtdkalcnlncjgiaaBK10
import Derived.Maps.AppendAt
set_option maxRecDepth 100000
namespace Go.Proofs.Ytdkalcnlncjgiaa
open Go.RowKit
def pwL : List Pw → List Value
  | [] => []
  | x :: r => .int .i64 x.1 :: .int .i64 x.2 :: pwL r
theorem pwL_append : ∀ (a b : List Pw), pwL (a ++ b) = pwL a ++ pwL b
  | [], _ => rfl
  | x :: r, b => by simp only [List.cons_append, pwL, pwL_append r b]
theorem pwL_get : ∀ (l : List Pw) (i : Nat) (x : Pw), l[i]? = some x → (pwL l)[i * 2]? = some (.int .i64 x.1) ∧ (pwL l)[i * 2 + 1]? = some (.int .i64 x.2)
  | [], i, x, h => by simp at h
  | y :: r, 0, x, h => by simp at h; subst h; exact ⟨rfl, rfl⟩
  | y :: r, i + 1, x, h => by
    have := pwL_get r i x (by simpa using h)
    rw [show (i + 1) * 2 = i * 2 + 1 + 1 by omega]
    simpa [pwL] using this
theorem infoPw : (Try.prog.info? 64).map (fun i => (i.zero, i.size, i.bytes)) = some (some (.agg #[.int .i64 0, .int .i64 0]), 2, 16) := by kernel_rfl
/-- a row of powers of the call's own -/
def Pows (w : World) (B : Nat) (v : Value) (l : List Pw) : Prop := w.ownsRow B 64 2 v l.length (pwL l)
theorem Pows.nil (w : World) (B : Nat) : Pows w B (.slice none 0 0) [] := ⟨rfl, .inl ⟨rfl, rfl⟩⟩
theorem Pows.row {w : World} {B : Nat} {v : Value} {l : List Pw} (h : Pows w B v l) : (v = .slice none 0 0 ∧ l = []) ∨ ∃ g cap, v = .slice (some ⟨g, 0, none⟩) l.length cap ∧ B ≤ g ∧ RowAt w g l ∧ l.length ≤ cap ∧ cap ≤ maxLen := by
  obtain ⟨_, h⟩ := h
  rcases h with ⟨h1, h2⟩ | ⟨g, cap, cur, h1, h2, h3, h4, h5, h6, h7⟩
  · exact .inl ⟨h1, List.length_eq_zero_iff.1 h2⟩
  · refine .inr ⟨g, cap, h1, h2, ⟨cur, h3, fun i x hx => ?_⟩, h4, h5⟩
    obtain ⟨g1, g2⟩ := pwL_get l i x hx
    have hi := (List.getElem?_eq_some_iff.1 hx).1
    rw [← h7, List.getElem?_take_of_lt (by omega)] at g1 g2
    exact ⟨by simpa using g1, by simpa using g2⟩
/-- a row of powers that a call answers -/
def PRow (w : World) (B : Nat) (v : Value) (l : List Pw) : Prop := (v = .slice none 0 0 ∧ l = []) ∨ ∃ g cap, v = .slice (some ⟨g, 0, none⟩) l.length cap ∧ B ≤ g ∧ RowAt w g l ∧ l.length ≤ cap ∧ cap ≤ maxLen
theorem PRow.later {w w' : World} {B : Nat} {v : Value} {l : List Pw} (h : PRow w B v l) (hb : Below w.heap.size w w') : PRow w' B v l := by
  rcases h with h | ⟨g, cap, h1, h2, h3, h4⟩
  · exact .inl h
  · exact .inr ⟨g, cap, h1, h2, h3.later hb, h4⟩
theorem PRow.mono {w : World} {B B' : Nat} {v : Value} {l : List Pw} (h : PRow w B v l) (hb : B' ≤ B) : PRow w B' v l := by
  rcases h with h | ⟨g, cap, h1, h2, h3⟩
  · exact .inl h
  · exact .inr ⟨g, cap, h1, Nat.le_trans hb h2, h3⟩
theorem pw_news (w : World) (a b : Int) (t : TypeId) : ∀ j u, ([.int .i64 a, .int .i64 b] : List Value)[j]? = some u → (w.alloc (.cells #[.int .i64 a, .int .i64 b] t)).cell? ((⟨w.heap.size, 0, none⟩ : Addr).add j) = some u := by
  intro j u hj
  rcases j with _ | _ | j
  · simp at hj; subst hj; simp [Addr.add]
  · simp at hj; subst hj; simp [Addr.add]
  · simp at hj
theorem Pows.append {w : World} {B : Nat} {v : Value} {l : List Pw} {x : Pw} {n : Nat} (h : w.ownsRow B 64 2 v n (pwL l ++ [.int .i64 x.1, .int .i64 x.2])) (hn : n = l.length + 1) : Pows w B v (l ++ [x]) := by
  unfold Pows
  rw [List.length_append, pwL_append]
  subst hn
  exact h
theorem Pows.own {w : World} {B : Nat} {v : Value} {l : List Pw} (h : Pows w B v l) : ∀ k, v.ownBlock = some k → B ≤ k := by
  intro k hk
  rcases h.row with ⟨rfl, _⟩ | ⟨g, cap, rfl, hg, _⟩
  · simp [Value.ownBlock] at hk
  · simp [Value.ownBlock] at hk; omega
theorem Pows.grow {w w1 : World} {B C : Nat} {v : Value} {l : List Pw} {a : World} {o : Obj} (h : Pows w B v l) (hb : Below C a w) (hg : (w.alloc o).grownBy w1 v.ownBlock) (hB : C ≤ B) (hs : B ≤ w.heap.size) : Below C a w1 :=
  (hb.alloc (Nat.le_trans hB hs) o).grown hg (by simp; omega) (fun k hk => Nat.le_trans hB (h.own k hk))
end Go.Proofs.Ytdkalcnlncjgiaa

