/- Parts of the proof: SRL MG1. -/
import Derived.Test.YtkhlihpghbhppaaGreatRows
import Derived.Test.YtkhlihpghbhppaaGreatProviderHearsK24
import Derived.Test.YtkhlihpghbhppaaGreatProviderHearsK25
import Derived.Test.YtkhlihpghbhppaaGreatProviderHearsK26
import Derived.Test.YtkhlihpghbhppaaGreatProviderHearsK27
set_option maxRecDepth 100000
namespace Go.Proofs.YtkhlihpghbhppaaGreat
open Go.RowKit
/-- a hold is given up -/
def relX (c : Nat) (h : Int) (x : Wt) : Wt := if c = 0 then (if x.h0 ≤ h then { x with h0 := 0 } else x) else (if x.h1 ≤ h then { x with h1 := 0 } else x)
def relW (c : Nat) (h : Int) (W : List Wt) : List Wt := W.map (relX c h)
theorem wsL_setg : ∀ (W : List Wt) (k : Nat) (x x' : Wt) (j : Nat) (v : Value), W[k]? = some x → j < 8 → wtL x' = (wtL x).set j v → wsL (W.set k x') = (wsL W).set (k * 8 + j) v
  | [], k, x, x', j, v, h, _, _ => by simp at h
  | z :: W, 0, x, x', j, v, h, hj, he => by
    simp at h
    subst h
    show wtL x' ++ wsL W = (wtL z ++ wsL W).set _ _
    rw [List.set_append_left _ _ (by rw [wtL_length]; omega), he]
    simp
  | z :: W, k + 1, x, x', j, v, h, hj, he => by
    have ih := wsL_setg W k x x' j v (by simpa using h) hj he
    show wtL z ++ wsL (W.set k _) = (wtL z ++ wsL W).set _ _
    rw [List.set_append_right _ _ (by rw [wtL_length]; omega), wtL_length, ih]
    congr 2
    omega
theorem OwnW.put {B : Nat} {w : World} {g C : Nat} {W : List Wt} (h : OwnW B w (some ⟨g, 0, none⟩) C W) {k : Nat} {x : Wt} (hx : W[k]? = some x) (x' : Wt) (j : Nat) (v : Value) (hj : j < 8) (he : wtL x' = (wtL x).set j v) : OwnW B (w.setCell ⟨g, k * 8 + j, none⟩ v) (some ⟨g, 0, none⟩) C (W.set k x') := by
  have h1 := (World.ownsRow.stored h (k * 8 + j) v).1
  unfold OwnW
  rw [wsL_setg W k x x' j v hx hj he, List.length_set]
  exact h1
theorem OwnW.holds {B : Nat} {w : World} {A : Option Addr} {C : Nat} {W : List Wt} (h : OwnW B w A C W) (h0 : 0 < W.length) : ∃ g, A = some ⟨g, 0, none⟩ ∧ B ≤ g ∧ g < w.heap.size ∧ ∀ k x, W[k]? = some x → (w.cell? ⟨g, k * 8 + 6, none⟩ = some (.int .i64 x.h0) ∧ w.cell? ⟨g, k * 8 + 7, none⟩ = some (.int .i64 x.h1) ∧ w.frozen? ⟨g, k * 8 + 6, none⟩ = false ∧ w.frozen? ⟨g, k * 8 + 7, none⟩ = false) := by
  have h' := h
  rcases h.2 with ⟨hv, hn⟩ | ⟨g, cap, cur, hv, hb, hg, hrest⟩
  · omega
  · cases hv
    refine ⟨g, rfl, hb, (Array.getElem?_eq_some_iff.1 hg).1, fun k x hx => ?_⟩
    have c : ∀ j v, (wtL x)[j]? = some v → j < 8 → w.cell? ⟨g, k * 8 + j, none⟩ = some v := fun j v hj hl => by
      have := World.ownsRow.cells h' (g := g) rfl (k * 8 + j) v ((wsL_get W k x j hx hl).trans hj)
      rwa [Addr.add_lit, Nat.zero_add] at this
    exact ⟨c 6 _ rfl (by omega), c 7 _ rfl (by omega), World.ownsRow.frozenAt h' _, World.ownsRow.frozenAt h' _⟩
end Go.Proofs.YtkhlihpghbhppaaGreat

set_option maxRecDepth 100000
namespace Go.Proofs.YtkhlihpghbhppaaGreat
structure Kp (s : St) (r : St × Int) : Prop where
  good : goodS r.1 = true
  bu : s.b.bu ≤ r.1.b.bu
  dead : ∀ k, k < 6 → (s.V k).dead = true → (r.1.V k).dead = true
  lost : ∀ k, k < 6 → (s.V k).lost ≤ (r.1.V k).lost
  no : r.2 ≠ 0 → r.1 = s
theorem Kp.same {s : St} (hg : goodS s = true) (e : Int) : Kp s (s, e) := ⟨hg, Int.le_refl _, fun _ _ h => h, fun _ _ => Int.le_refl _, fun _ => rfl⟩
theorem kp_pay {s : St} (hg : goodS s = true) (t : Int) : Kp s (payS s t, 0) := by
  obtain ⟨a1, a2, a3, a4⟩ := pay_all hg t
  exact ⟨pay_good hg t, by show s.b.bu ≤ (payS s t).b.bu; omega, fun k hk h => h, fun k hk => Int.le_refl _, fun h => absurd rfl h⟩
end Go.Proofs.YtkhlihpghbhppaaGreat

