/- A stake copied: the copy's list is a row of its own. -/
import Derived.Test.YtjmhmmphbcohdaaZRC2
import Derived.Test.YtjmhmmphbcohdaaZSW1
import Derived.Deep.AppendLies
set_option maxRecDepth 100000
namespace Go.Proofs.Ytjmhmmphbcohdaa
open Go.RowKit
theorem own_of {w w' : World} {b e z n : Nat} {v : Value} {xs : List Value} (h : w.ownsRow b e z v n xs) (hk : ∀ k, v.ownBlock = some k → w'.heap[k]? = w.heap[k]?) : w'.ownsRow b e z v n xs := by
  refine ⟨h.1, ?_⟩
  rcases h.2 with hn | ⟨g, cap, cur, rfl, hb, hg, rest⟩
  · exact .inl hn
  · exact .inr ⟨g, cap, cur, rfl, hb, (hk g rfl).trans hg, rest⟩
theorem own_copy (w : World) (ao : Option Addr) (n : Nat) (h : Src w ao n 8 64) : (cpW w ao n 8 54 (.agg #[.int .i64 0, .int .i64 0, .int .i64 0, .int .i64 0, .int .i64 0, .int .i64 0, .int .i64 0, .int .i64 0])).ownsRow w.heap.size 54 8 (.slice (cpA w n) n (cpC w n 54)) n (srcCells w ao (n * 8)) := by
  refine ⟨by simp [srcCells], ?_⟩
  by_cases h0 : n = 0
  · left
    subst h0
    exact ⟨rfl, rfl⟩
  · right
    have hl : (srcCells w ao (n * 8)).length = n * 8 := by simp [srcCells]
    have h1 := h.1
    rw [cpA, cpC, cpW, if_neg h0, if_neg h0, if_neg h0]
    refine ⟨w.heap.size, _, _, rfl, Nat.le_refl _, heap_alloc_new w.drew _, grownCap_ge _ _ _ _, grownCap_le_maxLen _ _ _ _ (by simp only [maxLen]; omega), ?_, ?_⟩
    · have := grownCap_ge w n 0 54
      simp only [Array.size_append, List.size_toArray, size_zeroCells, hl]
      simp only [Value.cells, List.size_toArray, List.length_cons, List.length_nil]
      omega
    · simp only [Array.toList_append]
      exact List.take_left' hl
theorem wpList_copyW3 {ops : Array Oper} {rest : List Oper} {o : Oper} {a : Act} {w : World} {Q : Exit → Act → World → Prop} (hg : o.guard = none) (hty : o.type = 32) (s x : Operand)
    (hop : o.op = Op.call { callee := Callee.builtin Builtin.append, args := #[s, x], argTypes := #[32, 32] }) (ao : Option Addr) (n c : Nat) (hs : a.eval s = .slice none 0 0) (hx : a.eval x = .slice ao n c) (h : Src w ao n 8 64)
    (hK : ∀ A C w', Copied w ao n 8 A w' ∧ w'.ownsRow w.heap.size 54 8 (.slice A n C) n (srcCells w ao (n * 8)) → wpList Try.prog ops Q rest (a.put o.dst (.slice A n C)) w') : wpList Try.prog ops Q (o :: rest) a w := by
  refine wpList_plain hg fun _ hK' => ?_
  unfold Oper.wp
  have hr := apW w ao n c h
  simp [execOp, hop, resolve, invoke, builtin, hs, hx, hty, hr, Result.andThen]
  exact hK' _ _ (hK _ _ _ ⟨copied_of w ao n 8 64 54 _ h, own_copy w ao n h⟩)
theorem src_ws {w : World} {ao : Option Addr} {sb so : Nat} {W : List Wt} (hW : WsAt w ao sb so W) : srcCells w ao (W.length * 8) = wsL W := by
  apply List.ext_getElem?
  intro j
  have hl := wsL_length W
  by_cases hj : j < W.length * 8
  · have h0 : 0 < W.length := by omega
    have hv : (wsL W)[j]? = some ((wsL W)[j]'(by omega)) := List.getElem?_eq_getElem (by omega)
    have hc := ws_cells hW j _ hv
    rw [hv, hW.adr h0]
    simp [srcCells, hj, Addr.add_lit, hc]
  · have hs : (srcCells w ao (W.length * 8)).length = W.length * 8 := by simp [srcCells]
    rw [List.getElem?_eq_none (show (srcCells w ao (W.length * 8)).length ≤ j by omega), List.getElem?_eq_none (show (wsL W).length ≤ j by omega)]
/-- the waits lie in a row of the call's own -/
def OwnW (B : Nat) (w : World) (A : Option Addr) (C : Nat) (W : List Wt) : Prop := w.ownsRow B 54 8 (.slice A W.length C) W.length (wsL W)
theorem OwnW.to {B : Nat} {w w' : World} {A : Option Addr} {C : Nat} {W : List Wt} (h : OwnW B w A C W) (hk : ∀ k, B ≤ k → k < w.heap.size → w'.heap[k]? = w.heap[k]?) : OwnW B w' A C W := own_of h fun k hv => hk k (h.lt k hv).1 (h.lt k hv).2
theorem OwnW.over {B : Nat} {w w' : World} {A : Option Addr} {C : Nat} {W : List Wt} (h : OwnW B w A C W) (hb : Below w.heap.size w w') : OwnW B w' A C W := h.to fun k _ hk => hb.block k hk
theorem OwnW.cap {B : Nat} {w : World} {A : Option Addr} {C : Nat} {W : List Wt} (h : OwnW B w A C W) : W.length ≤ C := by
  rcases h.2 with ⟨hv, hn⟩ | ⟨g, cap, cur, hv, _, _, hc, _⟩
  · omega
  · cases hv; exact hc
theorem OwnW.ws {B : Nat} {w : World} {A : Option Addr} {C : Nat} {W : List Wt} (h : OwnW B w A C W) (hl : W.length * 64 ≤ 140737488351232) : ∃ g, WsAt w A g 0 W ∧ (0 < W.length → B ≤ g ∧ g < w.heap.size) := by
  rcases h.2 with ⟨hv, hn⟩ | ⟨g, cap, cur, hv, hb, hg, hrest⟩
  · refine ⟨0, ⟨fun h => by omega, hl, fun i x hx => ?_⟩, fun h => by omega⟩
    have := (List.getElem?_eq_some_iff.1 hx).1
    omega
  · cases hv
    refine ⟨g, ws_of_cells hl fun j v hj => ?_, fun _ => ⟨hb, (Array.getElem?_eq_some_iff.1 hg).1⟩⟩
    have := World.ownsRow.cells h (g := g) rfl j v hj
    rwa [Addr.add_lit, Nat.zero_add] at this
/-- one wait more, behind a row of one's own -/
theorem ap3 (B : Nat) (w : World) (A : Option Addr) (C y : Nat) (W : List Wt) (x : Wt) (h : OwnW B w A C W) (h60 : W.length ≤ 60) (hB : B ≤ w.heap.size) (hy : ∀ j v, (wtL x)[j]? = some v → w.cell? ⟨y, j, none⟩ = some v) :
    ∃ g C' w', (Builtin.append_ #[32, 32] 32 #[.slice A W.length C, .slice (some ⟨y, 0, none⟩) 1 1]).run Try.prog w = .ok (.slice (some ⟨g, 0, none⟩) (W.length + 1) C') w' ∧ OwnW B w' (some ⟨g, 0, none⟩) C' (W ++ [x]) ∧ B ≤ g ∧ g < w'.heap.size ∧ Below B w w' ∧ (∀ k, k < w.heap.size → some k ≠ (Value.slice A W.length C).ownBlock → g ≠ k ∧ w'.heap[k]? = w.heap[k]?) := by
  obtain ⟨i0, hi, hz0, hz1, hz2⟩ := info_parts info44
  have hL : wsL (W ++ [x]) = wsL W ++ wtL x := by unfold wsL; rw [List.flatMap_append]; simp
  obtain ⟨g, cap, w', hr, ho, hg, hat, hlt⟩ := run_append_lies (P := Try.prog) w 32 32 B 54 i0 _ 8 64 Try.underlying32 hi hz0 hz1 hz2 rfl (by omega) (.slice A W.length C) W.length (wsL W) h ⟨y, 0, none⟩ 1 1 (wtL x) rfl (fun j v hv => by rw [Addr.add_lit, Nat.zero_add]; exact hy j v hv) (by intro u hu; simp [wtL] at hu; rcases hu with rfl | rfl | rfl | rfl | rfl | rfl | rfl | rfl <;> rfl) (by omega) (by simp only [maxLen]; omega) (by omega) hB _ rfl
  have ho' : OwnW B w' (some ⟨g, 0, none⟩) cap (W ++ [x]) := by
    unfold OwnW
    rw [hL, List.length_append]
    exact ho
  refine ⟨g, cap, w', hr, ho', ?_, hlt, ⟨hg.os, hg.tape, hg.output, hg.size, fun k hk => hg.block k (by omega) (fun he => ?_)⟩, fun k hk hne => ⟨?_, hg.block k hk hne⟩⟩
  · exact (ho'.lt g rfl).1
  · have := (h.lt k he.symm).1
    omega
  · rcases hat with hat | hat
    · rintro rfl
      exact hne hat.symm
    · omega
theorem wpList_ap3 {ops : Array Oper} {rest : List Oper} {o : Oper} {a : Act} {w : World} {Q : Exit → Act → World → Prop} (hg : o.guard = none) (hty : o.type = 32) (p q : Operand)
    (hop : o.op = Op.call { callee := Callee.builtin Builtin.append, args := #[p, q], argTypes := #[32, 32] }) (B : Nat) (A : Option Addr) (C y : Nat) (W : List Wt) (x : Wt) (hs : a.eval p = .slice A W.length C) (hx : a.eval q = .slice (some ⟨y, 0, none⟩) 1 1)
    (h : OwnW B w A C W) (h60 : W.length ≤ 60) (hB : B ≤ w.heap.size) (hy : ∀ j v, (wtL x)[j]? = some v → w.cell? ⟨y, j, none⟩ = some v)
    (hK : ∀ g C' w', OwnW B w' (some ⟨g, 0, none⟩) C' (W ++ [x]) ∧ B ≤ g ∧ g < w'.heap.size ∧ Below B w w' ∧ (∀ k, k < w.heap.size → some k ≠ (Value.slice A W.length C).ownBlock → g ≠ k ∧ w'.heap[k]? = w.heap[k]?) → wpList Try.prog ops Q rest (a.put o.dst (.slice (some ⟨g, 0, none⟩) (W.length + 1) C')) w') : wpList Try.prog ops Q (o :: rest) a w := by
  refine wpList_plain hg fun _ hK' => ?_
  unfold Oper.wp
  obtain ⟨g, C', w', hr, h1⟩ := ap3 B w A C y W x h h60 hB hy
  simp [execOp, hop, resolve, invoke, builtin, hs, hx, hty, hr, Result.andThen]
  exact hK' _ _ (hK _ _ _ h1)
end Go.Proofs.Ytjmhmmphbcohdaa
