/- Parts of the proof: SB. -/
import Derived.Test.YtnamphhchecaeaaGreatRows
import Derived.Test.YtnamphhchecaeaaGreatAK4
import Derived.WalkKit
import Derived.WalkSmall
import Derived.Below
set_option maxRecDepth 100000
namespace Go.Proofs.YtnamphhchecaeaaGreat
open Go.RowKit
/-- a list of waits lies in memory -/
structure WsAt (w : World) (ao : Option Addr) (b o : Nat) (W : List Wt) : Prop where
  adr : 0 < W.length → ao = some ⟨b, o, none⟩
  len : W.length * 64 ≤ 140737488351232
  cell : ∀ i x, W[i]? = some x → w.cell? ⟨b, o + i * 8, none⟩ = some (.int .i64 x.num) ∧ w.cell? ⟨b, o + i * 8 + 1, none⟩ = some (.int .i64 x.d) ∧ w.cell? ⟨b, o + i * 8 + 2, none⟩ = some (.int .i64 x.v) ∧ w.cell? ⟨b, o + i * 8 + 3, none⟩ = some (.int .i64 x.amt) ∧
    w.cell? ⟨b, o + i * 8 + 4, none⟩ = some (.int .i64 x.hei) ∧ w.cell? ⟨b, o + i * 8 + 5, none⟩ = some (.int .i64 x.due) ∧ w.cell? ⟨b, o + i * 8 + 6, none⟩ = some (.int .i64 x.h0) ∧ w.cell? ⟨b, o + i * 8 + 7, none⟩ = some (.int .i64 x.h1)
theorem WsAt.later {w w' : World} {ao : Option Addr} {b o B : Nat} {W : List Wt} (h : WsAt w ao b o W) (hb : Below B w w') (hB : 0 < W.length → b < B) : WsAt w' ao b o W := by
  refine ⟨h.adr, h.len, fun i x hx => ?_⟩
  have hlt : b < B := hB (by have := (List.getElem?_eq_some_iff.1 hx).1; omega)
  have k : ∀ o, w'.cell? ⟨b, o, none⟩ = w.cell? ⟨b, o, none⟩ := fun o => hb.cell hlt
  obtain ⟨h0, h1, h2, h3, h4, h5, h6, h7⟩ := h.cell i x hx
  exact ⟨(k _).trans h0, (k _).trans h1, (k _).trans h2, (k _).trans h3, (k _).trans h4, (k _).trans h5, (k _).trans h6, (k _).trans h7⟩
theorem WsAt.lt {w : World} {ao : Option Addr} {b o : Nat} {W : List Wt} (h : WsAt w ao b o W) (h0 : 0 < W.length) : b < w.heap.size := by
  obtain ⟨x, hx⟩ : ∃ x, W[0]? = some x := ⟨W[0], List.getElem?_eq_getElem h0⟩
  exact World.block_lt_of_cell? w _ (h.cell 0 x hx).1
theorem WsAt.over {w w' : World} {ao : Option Addr} {b o : Nat} {W : List Wt} (h : WsAt w ao b o W) (hb : Below w.heap.size w w') : WsAt w' ao b o W := h.later hb h.lt
theorem drop_at {α : Type} {l : List α} {k : Nat} (h : k < l.length) : ∃ x, l[k]? = some x ∧ l.drop k = x :: l.drop (k + 1) := ⟨l[k], List.getElem?_eq_getElem h, List.drop_eq_getElem_cons h⟩
def wtC (x : Wt) : Array Value := #[.int .i64 x.num, .int .i64 x.d, .int .i64 x.v, .int .i64 x.amt, .int .i64 x.hei, .int .i64 x.due, .int .i64 x.h0, .int .i64 x.h1]
end Go.Proofs.YtnamphhchecaeaaGreat

