/- Parts of the proof: SJ2 SJ3. -/
import Derived.Test.YtjghbciepinofaaGreatRows
import Derived.Test.YtjghbciepinofaaGreatOK54
set_option maxRecDepth 100000
namespace Go.Proofs.YtjghbciepinofaaGreat
open Go.RowKit
theorem cell_sets {b k o : Nat} (hk : k ≠ b) (vs : List Value) (p : Nat) (w : World) : (w.setCells b p vs).cell? ⟨k, o, none⟩ = w.cell? ⟨k, o, none⟩ := World.cell?_of_block (w := w) (heap_sets hk vs p w)
theorem WsAt.sets {w : World} {ao : Option Addr} {b o g : Nat} {W : List Wt} (h : WsAt w ao b o W) (hg : 0 < W.length → b ≠ g) (vs : List Value) (p : Nat) : WsAt (w.setCells g p vs) ao b o W := by
  refine ⟨h.adr, h.len, fun i x hx => ?_⟩
  have hne : b ≠ g := hg (by have := (List.getElem?_eq_some_iff.1 hx).1; omega)
  obtain ⟨h0, h1, h2, h3, h4, h5, h6, h7⟩ := h.cell i x hx
  exact ⟨(cell_sets hne _ _ _).trans h0, (cell_sets hne _ _ _).trans h1, (cell_sets hne _ _ _).trans h2, (cell_sets hne _ _ _).trans h3, (cell_sets hne _ _ _).trans h4, (cell_sets hne _ _ _).trans h5, (cell_sets hne _ _ _).trans h6, (cell_sets hne _ _ _).trans h7⟩
theorem WsAt.set {w : World} {ao : Option Addr} {b o g p : Nat} {W : List Wt} {v : Value} (h : WsAt w ao b o W) (hg : 0 < W.length → b ≠ g) : WsAt (w.setCell ⟨g, p, none⟩ v) ao b o W := h.sets hg [v] p
theorem WsAt.alloc {w : World} {ao : Option Addr} {b o : Nat} {W : List Wt} (h : WsAt w ao b o W) (x : Obj) : WsAt (w.alloc x) ao b o W := h.over ((Below.refl _ w).alloc (Nat.le_refl _) x)
theorem WsAt.but {w w' : World} {ao : Option Addr} {b o g : Nat} {W : List Wt} (h : WsAt w ao b o W) (hb : But g w w') (hg : 0 < W.length → b ≠ g) : WsAt w' ao b o W := by
  refine ⟨h.adr, h.len, fun i x hx => ?_⟩
  have hne : b ≠ g := hg (by have := (List.getElem?_eq_some_iff.1 hx).1; omega)
  have k : ∀ o, w'.cell? ⟨b, o, none⟩ = w.cell? ⟨b, o, none⟩ := fun o => World.cell?_of_block (w := w) (hb.block b hne)
  obtain ⟨h0, h1, h2, h3, h4, h5, h6, h7⟩ := h.cell i x hx
  exact ⟨(k _).trans h0, (k _).trans h1, (k _).trans h2, (k _).trans h3, (k _).trans h4, (k _).trans h5, (k _).trans h6, (k _).trans h7⟩
end Go.Proofs.YtjghbciepinofaaGreat

set_option maxRecDepth 100000
namespace Go.Proofs.YtjghbciepinofaaGreat
open Go.RowKit
/-- a stake is loaded -/
def loadS (v : Value) : Sem Value := Instr.loadAt 32 v
theorem loadS_eq (v : Value) : Instr.loadAt 32 v = loadS v := rfl
theorem SAt.loadS {w : World} {b : Nat} {cs : Array Value} (h : SAt w b cs) (hs : cs.size = 63) : (loadS (.pointer (some ⟨b, 0, none⟩))).run Tryz.prog w = .ok (.agg cs) w := h.load hs
end Go.Proofs.YtjghbciepinofaaGreat

