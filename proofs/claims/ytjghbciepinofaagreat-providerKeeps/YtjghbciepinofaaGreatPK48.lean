/- Parts of the proof: RC1 SW1 RC3 OR3. -/
import Derived.Test.YtjghbciepinofaaGreatRows
import Derived.Test.YtjghbciepinofaaGreatPK47
import Derived.WalkKit
import Derived.WalkSmall
import Derived.Below
import Derived.Maps.AppendAt
import Derived.Deep.MidRow
import Derived.Deep.DeepCutAuto
import Derived.Deep.AppendLies
import Derived.Test.YtjghbciepinofaaGreatProg
import Derived.OrdersHeld
import Derived.RegionTactic
set_option maxRecDepth 100000
namespace Go.Proofs.YtjghbciepinofaaGreat
open Go.RowKit
/-- what may be copied: nothing, or cells that are there, not too many -/
def Src (w : World) (ao : Option Addr) (n size bytes : Nat) : Prop := n * bytes ≤ 140737488351232 ∧ (n = 0 ∨ ∃ a, ao = some a ∧ ∀ j, j < n * size → ∃ u, w.cell? (a.add j) = some u)
theorem info44 : (Tryz.prog.info? 127).map (fun i => (i.zero, i.size, i.bytes)) = some (some (.agg #[.int .i64 0, .int .i64 0, .int .i64 0, .int .i64 0, .int .i64 0, .int .i64 0, .int .i64 0, .int .i64 0]), 8, 64) := by kernel_rfl
theorem Src.later {w w' : World} {ao : Option Addr} {n size bytes : Nat} (h : Src w ao n size bytes) (hb : Below w.heap.size w w') : Src w' ao n size bytes := by
  refine ⟨h.1, ?_⟩
  rcases h.2 with h0 | ⟨a, rfl, hs⟩
  · exact .inl h0
  · refine .inr ⟨a, rfl, fun j hj => ?_⟩
    obtain ⟨u, hu⟩ := hs j hj
    exact ⟨u, (hb.cell (p := a.add j) (World.block_lt_of_cell? w _ hu)).trans hu⟩
/-- n elements have been copied behind an address: into new memory; old memory is as it was -/
structure Copied (w : World) (ao : Option Addr) (n size : Nat) (A : Option Addr) (w' : World) : Prop where
  below : Below w.heap.size w w'
  cells : 0 < n → ∃ a g, ao = some a ∧ A = some ⟨g, 0, none⟩ ∧ w.heap.size ≤ g ∧ ∀ j, j < n * size → w'.cell? ⟨g, j, none⟩ = w.cell? (a.add j)
end Go.Proofs.YtjghbciepinofaaGreat

set_option maxRecDepth 100000
namespace Go.Proofs.YtjghbciepinofaaGreat
open Go.RowKit
def wtL (x : Wt) : List Value := [.int .i64 x.num, .int .i64 x.d, .int .i64 x.v, .int .i64 x.amt, .int .i64 x.hei, .int .i64 x.due, .int .i64 x.h0, .int .i64 x.h1]
theorem wtL_length (x : Wt) : (wtL x).length = 8 := rfl
def wsL (W : List Wt) : List Value := W.flatMap wtL
theorem wsL_length : ∀ W : List Wt, (wsL W).length = W.length * 8
  | [] => rfl
  | x :: W => by show (wtL x ++ wsL W).length = _; rw [List.length_append, wsL_length W, wtL_length, List.length_cons]; omega
theorem wsL_get : ∀ (W : List Wt) (i : Nat) (x : Wt) (j : Nat), W[i]? = some x → j < 8 → (wsL W)[i * 8 + j]? = (wtL x)[j]?
  | [], i, x, j, h, _ => by simp at h
  | y :: W, 0, x, j, h, hj => by
    simp at h
    subst h
    show (wtL y ++ wsL W)[0 * 8 + j]? = _
    rw [List.getElem?_append_left (by rw [wtL_length]; omega), Nat.zero_mul, Nat.zero_add]
  | y :: W, i + 1, x, j, h, hj => by
    show (wtL y ++ wsL W)[(i + 1) * 8 + j]? = _
    rw [List.getElem?_append_right (by rw [wtL_length]; omega), wtL_length, show (i + 1) * 8 + j - 8 = i * 8 + j by omega]
    exact wsL_get W i x j (by simpa using h) hj
theorem ws_cells {w : World} {ao : Option Addr} {b o : Nat} {W : List Wt} (h : WsAt w ao b o W) : ∀ j v, (wsL W)[j]? = some v → w.cell? ⟨b, o + j, none⟩ = some v := by
  intro j v hj
  have hl := (List.getElem?_eq_some_iff.1 hj).1
  rw [wsL_length] at hl
  have hi : j / 8 < W.length := by omega
  have hx : W[j / 8]? = some (W[j / 8]'hi) := List.getElem?_eq_getElem hi
  have e := wsL_get W (j / 8) _ (j % 8) hx (by omega)
  rw [show j / 8 * 8 + j % 8 = j by omega, hj] at e
  obtain ⟨c0, c1, c2, c3, c4, c5, c6, c7⟩ := h.cell _ _ hx
  have hd : j = j / 8 * 8 + j % 8 := by omega
  generalize W[j / 8]'hi = x at *
  generalize hq : j / 8 = q at *
  have hr : j % 8 < 8 := by omega
  generalize j % 8 = r at *
  subst hd
  rcases (show r = 0 ∨ r = 1 ∨ r = 2 ∨ r = 3 ∨ r = 4 ∨ r = 5 ∨ r = 6 ∨ r = 7 by omega) with rfl | rfl | rfl | rfl | rfl | rfl | rfl | rfl <;> simp [wtL] at e <;> subst e <;> rw [← Nat.add_assoc] <;> assumption
theorem ws_of_cells {w : World} {b : Nat} {W : List Wt} (hl : W.length * 64 ≤ 140737488351232) (h : ∀ j v, (wsL W)[j]? = some v → w.cell? ⟨b, j, none⟩ = some v) : WsAt w (some ⟨b, 0, none⟩) b 0 W := by
  refine ⟨fun _ => rfl, hl, fun i x hx => ?_⟩
  have k : ∀ j, j < 8 → ∀ v, (wtL x)[j]? = some v → w.cell? ⟨b, 0 + i * 8 + j, none⟩ = some v := fun j hj v hv => by
    rw [Nat.zero_add]
    exact h _ _ ((wsL_get W i x j hx hj).trans hv)
  exact ⟨k 0 (by omega) _ rfl, k 1 (by omega) _ rfl, k 2 (by omega) _ rfl, k 3 (by omega) _ rfl, k 4 (by omega) _ rfl, k 5 (by omega) _ rfl, k 6 (by omega) _ rfl, k 7 (by omega) _ rfl⟩
end Go.Proofs.YtjghbciepinofaaGreat

set_option maxRecDepth 100000
namespace Go.Proofs.YtjghbciepinofaaGreat
open Go.RowKit
theorem own_of {w w' : World} {b e z n : Nat} {v : Value} {xs : List Value} (h : w.ownsRow b e z v n xs) (hk : ∀ k, v.ownBlock = some k → w'.heap[k]? = w.heap[k]?) : w'.ownsRow b e z v n xs := by
  refine ⟨h.1, ?_⟩
  rcases h.2 with hn | ⟨g, cap, cur, rfl, hb, hg, rest⟩
  · exact .inl hn
  · exact .inr ⟨g, cap, cur, rfl, hb, (hk g rfl).trans hg, rest⟩
/-- the waits lie in a row of the call's own -/
def OwnW (B : Nat) (w : World) (A : Option Addr) (C : Nat) (W : List Wt) : Prop := w.ownsRow B 127 8 (.slice A W.length C) W.length (wsL W)
theorem OwnW.to {B : Nat} {w w' : World} {A : Option Addr} {C : Nat} {W : List Wt} (h : OwnW B w A C W) (hk : ∀ k, B ≤ k → k < w.heap.size → w'.heap[k]? = w.heap[k]?) : OwnW B w' A C W := own_of h fun k hv => hk k (h.lt k hv).1 (h.lt k hv).2
theorem OwnW.over {B : Nat} {w w' : World} {A : Option Addr} {C : Nat} {W : List Wt} (h : OwnW B w A C W) (hb : Below w.heap.size w w') : OwnW B w' A C W := h.to fun k _ hk => hb.block k hk
theorem OwnW.cap {B : Nat} {w : World} {A : Option Addr} {C : Nat} {W : List Wt} (h : OwnW B w A C W) : W.length ≤ C := by
  rcases h.2 with ⟨hv, hn⟩ | ⟨g, cap, cur, hv, _, _, hc, _⟩
  · omega
  · cases hv; exact hc
theorem OwnW.ws {B : Nat} {w : World} {A : Option Addr} {C : Nat} {W : List Wt} (h : OwnW B w A C W) (hl : W.length * 64 ≤ 140737488351232) : ∃ g, WsAt w A g 0 W ∧ (0 < W.length → B ≤ g ∧ g < w.heap.size) := by
  rcases h.2 with ⟨hv, hn⟩ | ⟨g, cap, cur, hv, hb, hg, hrest⟩
  · refine ⟨0, ⟨fun h => by omega, hl, fun i x hx => ?_⟩, fun h => by omega⟩
    have := (List.getElem?_eq_some_iff.1 hx).1
    omega
  · cases hv
    refine ⟨g, ws_of_cells hl fun j v hj => ?_, fun _ => ⟨hb, (Array.getElem?_eq_some_iff.1 hg).1⟩⟩
    have := World.ownsRow.cells h (g := g) rfl j v hj
    rwa [Addr.add_lit, Nat.zero_add] at this
/-- one wait more, behind a row of one's own -/
theorem ap3 (B : Nat) (w : World) (A : Option Addr) (C y : Nat) (W : List Wt) (x : Wt) (h : OwnW B w A C W) (h60 : W.length ≤ 60) (hB : B ≤ w.heap.size) (hy : ∀ j v, (wtL x)[j]? = some v → w.cell? ⟨y, j, none⟩ = some v) :
    ∃ g C' w', (Builtin.append_ #[30, 30] 30 #[.slice A W.length C, .slice (some ⟨y, 0, none⟩) 1 1]).run Tryz.prog w = .ok (.slice (some ⟨g, 0, none⟩) (W.length + 1) C') w' ∧ OwnW B w' (some ⟨g, 0, none⟩) C' (W ++ [x]) ∧ B ≤ g ∧ g < w'.heap.size ∧ Below B w w' ∧ (∀ k, k < w.heap.size → some k ≠ (Value.slice A W.length C).ownBlock → g ≠ k ∧ w'.heap[k]? = w.heap[k]?) := by
  obtain ⟨i0, hi, hz0, hz1, hz2⟩ := info_parts info44
  have hL : wsL (W ++ [x]) = wsL W ++ wtL x := by unfold wsL; rw [List.flatMap_append]; simp
  obtain ⟨g, cap, w', hr, ho, hg, hat, hlt⟩ := run_append_lies (P := Tryz.prog) w 30 30 B 127 i0 _ 8 64 Tryz.underlying30 hi hz0 hz1 hz2 rfl (by omega) (.slice A W.length C) W.length (wsL W) h ⟨y, 0, none⟩ 1 1 (wtL x) rfl (fun j v hv => by rw [Addr.add_lit, Nat.zero_add]; exact hy j v hv) (by intro u hu; simp [wtL] at hu; rcases hu with rfl | rfl | rfl | rfl | rfl | rfl | rfl | rfl <;> rfl) (by omega) (by simp only [maxLen]; omega) (by omega) hB _ rfl
  have ho' : OwnW B w' (some ⟨g, 0, none⟩) cap (W ++ [x]) := by
    unfold OwnW
    rw [hL, List.length_append]
    exact ho
  refine ⟨g, cap, w', hr, ho', ?_, hlt, ⟨hg.os, hg.tape, hg.output, hg.size, fun k hk => hg.block k (by omega) (fun he => ?_)⟩, fun k hk hne => ⟨?_, hg.block k hk hne⟩⟩
  · exact (ho'.lt g rfl).1
  · have := (h.lt k he.symm).1
    omega
  · rcases hat with hat | hat
    · rintro rfl
      exact hne hat.symm
    · omega
theorem wpList_ap3 {ops : Array Oper} {rest : List Oper} {o : Oper} {a : Act} {w : World} {Q : Exit → Act → World → Prop} (hg : o.guard = none) (hty : o.type = 30) (p q : Operand)
    (hop : o.op = Op.call { callee := Callee.builtin Builtin.append, args := #[p, q], argTypes := #[30, 30] }) (B : Nat) (A : Option Addr) (C y : Nat) (W : List Wt) (x : Wt) (hs : a.eval p = .slice A W.length C) (hx : a.eval q = .slice (some ⟨y, 0, none⟩) 1 1)
    (h : OwnW B w A C W) (h60 : W.length ≤ 60) (hB : B ≤ w.heap.size) (hy : ∀ j v, (wtL x)[j]? = some v → w.cell? ⟨y, j, none⟩ = some v)
    (hK : ∀ g C' w', OwnW B w' (some ⟨g, 0, none⟩) C' (W ++ [x]) ∧ B ≤ g ∧ g < w'.heap.size ∧ Below B w w' ∧ (∀ k, k < w.heap.size → some k ≠ (Value.slice A W.length C).ownBlock → g ≠ k ∧ w'.heap[k]? = w.heap[k]?) → wpList Tryz.prog ops Q rest (a.put o.dst (.slice (some ⟨g, 0, none⟩) (W.length + 1) C')) w') : wpList Tryz.prog ops Q (o :: rest) a w := by
  refine wpList_plain hg fun _ hK' => ?_
  unfold Oper.wp
  obtain ⟨g, C', w', hr, h1⟩ := ap3 B w A C y W x h h60 hB hy
  simp [execOp, hop, resolve, invoke, builtin, hs, hx, hty, hr, Result.andThen]
  exact hK' _ _ (hK _ _ _ h1)
end Go.Proofs.YtjghbciepinofaaGreat

set_option maxRecDepth 100000
namespace Go.Proofs.YtjghbciepinofaaGreat.Od
open Go
section
variable {P : Program} {md : Region.Mode} {ops : Array Oper} {Q : Exit → Act → World → Prop} {S : World → Prop} {c : Nat}
theorem anyH_sl {i : Nat} {oi : Oper} {v : Value} {n : Nat} {L : Array Bool} {a : Act} {w : World} (dd : Option Tmp) (hi : ops[i]? = some oi) (hd : oi.dst = dd)
    (hs : Region.noSelect ops = true) (hf : Region.free md ops L i = true) (hr : (Region.ready md ops L).contains i = true)
    (hQ : ∀ c a w, Q (.panic c) (a.put dd v) w → Q (.panic c) a w) (hy : YieldsIf P ops S oi v a) (hS : S w)
    (h : wpAnyH P md ops Q S n (L.setIfInBounds i true) (a.put dd v) w) : wpAnyH P md ops Q S (n + 1) L a w := by
  subst hd
  exact wpAnyH_take hi hs hf hr hQ hy hS h
/-- one alone may come up, and nothing guards it -/
theorem anyH_one {i : Nat} {o : Oper} {n : Nat} {L : Array Bool} {a : Act} {w : World} (hr : Region.ready md ops L = [i]) (ho : ops[i]? = some o) (hg : o.guard = none)
    (h : ∀ K' : Act → World → Prop, (∀ a w, S w → wpAnyH P md ops Q S n (L.setIfInBounds i true) a w → K' a w) → Oper.wp P o a w K' Q) : wpAnyH P md ops Q S (n + 1) L a w := by
  refine ⟨fun h0 => (by rw [hr] at h0; cases h0), fun j hj => ?_⟩
  rw [hr, List.mem_singleton] at hj
  subst hj
  refine wpOp_step ho fun K' hK => ?_
  rw [if_pos (show Region.wanted o (yielded ops a.tmps) = true by simp [Region.wanted, hg])]
  exact h K' fun a w hS hA => hK a w ⟨hS, hA⟩
theorem anyH_two {i j : Nat} {oi oj : Oper} {n : Nat} {L : Array Bool} {a : Act} {w : World} (hr : Region.ready md ops L = [i, j]) (hoi : ops[i]? = some oi) (hgi : oi.guard = none) (hoj : ops[j]? = some oj) (hgj : oj.guard = none)
    (h1 : ∀ K' : Act → World → Prop, (∀ a w, S w → wpAnyH P md ops Q S n (L.setIfInBounds i true) a w → K' a w) → Oper.wp P oi a w K' Q)
    (h2 : ∀ K' : Act → World → Prop, (∀ a w, S w → wpAnyH P md ops Q S n (L.setIfInBounds j true) a w → K' a w) → Oper.wp P oj a w K' Q) : wpAnyH P md ops Q S (n + 1) L a w := by
  refine ⟨fun h0 => (by rw [hr] at h0; cases h0), fun k hk => ?_⟩
  rw [hr] at hk
  rcases List.mem_cons.1 hk with rfl | hk
  · refine wpOp_step hoi fun K' hK => ?_
    rw [if_pos (show Region.wanted oi (yielded ops a.tmps) = true by simp [Region.wanted, hgi])]
    exact h1 K' fun a w hS hA => hK a w ⟨hS, hA⟩
  · rw [List.mem_singleton] at hk
    subst hk
    refine wpOp_step hoj fun K' hK => ?_
    rw [if_pos (show Region.wanted oj (yielded ops a.tmps) = true by simp [Region.wanted, hgj])]
    exact h2 K' fun a w hS hA => hK a w ⟨hS, hA⟩
end
end Go.Proofs.YtjghbciepinofaaGreat.Od

