/- Parts of the proof: RC3. -/
import Derived.Test.YtnamphhchecaeaaGreatRows
import Derived.Test.YtnamphhchecaeaaGreatAK7
import Derived.Test.YtnamphhchecaeaaGreatAK8
import Derived.Deep.AppendLies
set_option maxRecDepth 100000
namespace Go.Proofs.YtnamphhchecaeaaGreat
open Go.RowKit
theorem own_of {w w' : World} {b e z n : Nat} {v : Value} {xs : List Value} (h : w.ownsRow b e z v n xs) (hk : ∀ k, v.ownBlock = some k → w'.heap[k]? = w.heap[k]?) : w'.ownsRow b e z v n xs := by
  refine ⟨h.1, ?_⟩
  rcases h.2 with hn | ⟨g, cap, cur, rfl, hb, hg, rest⟩
  · exact .inl hn
  · exact .inr ⟨g, cap, cur, rfl, hb, (hk g rfl).trans hg, rest⟩
/-- the waits lie in a row of the call's own -/
def OwnW (B : Nat) (w : World) (A : Option Addr) (C : Nat) (W : List Wt) : Prop := w.ownsRow B 93 8 (.slice A W.length C) W.length (wsL W)
theorem OwnW.to {B : Nat} {w w' : World} {A : Option Addr} {C : Nat} {W : List Wt} (h : OwnW B w A C W) (hk : ∀ k, B ≤ k → k < w.heap.size → w'.heap[k]? = w.heap[k]?) : OwnW B w' A C W := own_of h fun k hv => hk k (h.lt k hv).1 (h.lt k hv).2
theorem OwnW.over {B : Nat} {w w' : World} {A : Option Addr} {C : Nat} {W : List Wt} (h : OwnW B w A C W) (hb : Below w.heap.size w w') : OwnW B w' A C W := h.to fun k _ hk => hb.block k hk
theorem OwnW.cap {B : Nat} {w : World} {A : Option Addr} {C : Nat} {W : List Wt} (h : OwnW B w A C W) : W.length ≤ C := by
  rcases h.2 with ⟨hv, hn⟩ | ⟨g, cap, cur, hv, _, _, hc, _⟩
  · omega
  · cases hv; exact hc
theorem OwnW.ws {B : Nat} {w : World} {A : Option Addr} {C : Nat} {W : List Wt} (h : OwnW B w A C W) (hl : W.length * 64 ≤ 140737488351232) : ∃ g, WsAt w A g 0 W ∧ (0 < W.length → B ≤ g ∧ g < w.heap.size) := by
  rcases h.2 with ⟨hv, hn⟩ | ⟨g, cap, cur, hv, hb, hg, hrest⟩
  · refine ⟨0, ⟨fun h => by omega, hl, fun i x hx => ?_⟩, fun h => by omega⟩
    have := (List.getElem?_eq_some_iff.1 hx).1
    omega
  · cases hv
    refine ⟨g, ws_of_cells hl fun j v hj => ?_, fun _ => ⟨hb, (Array.getElem?_eq_some_iff.1 hg).1⟩⟩
    have := World.ownsRow.cells h (g := g) rfl j v hj
    rwa [Addr.add_lit, Nat.zero_add] at this
end Go.Proofs.YtnamphhchecaeaaGreat

