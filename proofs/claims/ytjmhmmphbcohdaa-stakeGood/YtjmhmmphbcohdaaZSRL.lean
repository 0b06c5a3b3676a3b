/- Release. -/
import Derived.Test.YtjmhmmphbcohdaaZSSL
set_option maxRecDepth 100000
namespace Go.Proofs.Ytjmhmmphbcohdaa
open Go.RowKit
/-- a hold is given up -/
def relX (c : Nat) (h : Int) (x : Wt) : Wt := if c = 0 then (if x.h0 ≤ h then { x with h0 := 0 } else x) else (if x.h1 ≤ h then { x with h1 := 0 } else x)
def relW (c : Nat) (h : Int) (W : List Wt) : List Wt := W.map (relX c h)
theorem map_step (F : Wt → Wt) {W : List Wt} {k : Nat} {x : Wt} (hx : W[k]? = some x) : (W.take (k + 1)).map F ++ W.drop (k + 1) = ((W.take k).map F ++ W.drop k).set k (F x) ∧ ((W.take k).map F ++ W.drop k)[k]? = some x ∧ ((W.take k).map F ++ W.drop k).length = W.length := by
  obtain ⟨hk, he⟩ := List.getElem?_eq_some_iff.1 hx
  have hl : ((W.take k).map F).length = k := by rw [List.length_map, List.length_take]; omega
  have hd : W.drop k = x :: W.drop (k + 1) := by rw [← he]; exact List.drop_eq_getElem_cons hk
  refine ⟨?_, ?_, ?_⟩
  · rw [take_snoc hx, hd, List.map_append, List.set_append_right _ _ (by omega), hl, Nat.sub_self, List.append_assoc]
    rfl
  · rw [List.getElem?_append_right (by omega), hl, Nat.sub_self, hd]
    rfl
  · rw [List.length_append, List.length_map, ← List.length_append, List.take_append_drop]
theorem wsL_setg : ∀ (W : List Wt) (k : Nat) (x x' : Wt) (j : Nat) (v : Value), W[k]? = some x → j < 8 → wtL x' = (wtL x).set j v → wsL (W.set k x') = (wsL W).set (k * 8 + j) v
  | [], k, x, x', j, v, h, _, _ => by simp at h
  | z :: W, 0, x, x', j, v, h, hj, he => by
    simp at h
    subst h
    show wtL x' ++ wsL W = (wtL z ++ wsL W).set _ _
    rw [List.set_append_left _ _ (by rw [wtL_length]; omega), he]
    simp
  | z :: W, k + 1, x, x', j, v, h, hj, he => by
    have ih := wsL_setg W k x x' j v (by simpa using h) hj he
    show wtL z ++ wsL (W.set k _) = (wtL z ++ wsL W).set _ _
    rw [List.set_append_right _ _ (by rw [wtL_length]; omega), wtL_length, ih]
    congr 2
    omega
theorem OwnW.put {B : Nat} {w : World} {g C : Nat} {W : List Wt} (h : OwnW B w (some ⟨g, 0, none⟩) C W) {k : Nat} {x : Wt} (hx : W[k]? = some x) (x' : Wt) (j : Nat) (v : Value) (hj : j < 8) (he : wtL x' = (wtL x).set j v) : OwnW B (w.setCell ⟨g, k * 8 + j, none⟩ v) (some ⟨g, 0, none⟩) C (W.set k x') := by
  have h1 := (World.ownsRow.stored h (k * 8 + j) v).1
  unfold OwnW
  rw [wsL_setg W k x x' j v hx hj he, List.length_set]
  exact h1
theorem OwnW.holds {B : Nat} {w : World} {A : Option Addr} {C : Nat} {W : List Wt} (h : OwnW B w A C W) (h0 : 0 < W.length) : ∃ g, A = some ⟨g, 0, none⟩ ∧ B ≤ g ∧ g < w.heap.size ∧ ∀ k x, W[k]? = some x → (w.cell? ⟨g, k * 8 + 6, none⟩ = some (.int .i64 x.h0) ∧ w.cell? ⟨g, k * 8 + 7, none⟩ = some (.int .i64 x.h1) ∧ w.frozen? ⟨g, k * 8 + 6, none⟩ = false ∧ w.frozen? ⟨g, k * 8 + 7, none⟩ = false) := by
  have h' := h
  rcases h.2 with ⟨hv, hn⟩ | ⟨g, cap, cur, hv, hb, hg, hrest⟩
  · omega
  · cases hv
    refine ⟨g, rfl, hb, (Array.getElem?_eq_some_iff.1 hg).1, fun k x hx => ?_⟩
    have c : ∀ j v, (wtL x)[j]? = some v → j < 8 → w.cell? ⟨g, k * 8 + j, none⟩ = some v := fun j v hj hl => by
      have := World.ownsRow.cells h' (g := g) rfl (k * 8 + j) v ((wsL_get W k x j hx hl).trans hj)
      rwa [Addr.add_lit, Nat.zero_add] at this
    exact ⟨c 6 _ rfl (by omega), c 7 _ rfl (by omega), World.ownsRow.frozenAt h' _, World.ownsRow.frozenAt h' _⟩
end Go.Proofs.Ytjmhmmphbcohdaa
