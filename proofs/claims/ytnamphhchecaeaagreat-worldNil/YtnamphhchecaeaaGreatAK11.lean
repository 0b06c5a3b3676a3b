/- Parts of the proof: LD. -/
import Derived.Test.YtnamphhchecaeaaGreatRows
import Derived.Test.YtnamphhchecaeaaGreatAK10
import Derived.Deep.DeepCutAuto
set_option maxRecDepth 100000
namespace Go.Proofs.YtnamphhchecaeaaGreat.Ln
open Go.RowKit
/-- four cells of a block -/
def FAt (w : World) (b : Nat) (v0 v1 v2 v3 : Value) : Prop := w.heap[b]? = some (.cells #[v0, v1, v2, v3] 46)
section
variable {w w' : World} {b B : Nat} {v0 v1 v2 v3 : Value}
theorem FAt.later (h : FAt w b v0 v1 v2 v3) (hb : Below B w w') (hB : b < B) : FAt w' b v0 v1 v2 v3 := (hb.block b hB).trans h
theorem FAt.new (w : World) (v0 v1 v2 v3 : Value) : FAt (w.alloc (.cells #[v0, v1, v2, v3] 46)) w.heap.size v0 v1 v2 v3 := heap_alloc_new _ _
theorem FAt.lt (h : FAt w b v0 v1 v2 v3) : b < w.heap.size := (Array.getElem?_eq_some_iff.1 h).1
theorem FAt.alloc (h : FAt w b v0 v1 v2 v3) (o : Obj) : FAt (w.alloc o) b v0 v1 v2 v3 := (Below.heap_alloc _ _ _ h.lt).trans h
theorem FAt.other {c o : Nat} (h : FAt w b v0 v1 v2 v3) (hb : b ≠ c) (v : Value) : FAt (w.setCell ⟨c, o, none⟩ v) b v0 v1 v2 v3 := (Below.heap_setCell _ _ _ _ hb).trans h
theorem FAt.facts (h : FAt w b v0 v1 v2 v3) : (w.cell? ⟨b, 0, none⟩ = some v0 ∧ w.cell? ⟨b, 1, none⟩ = some v1 ∧ w.cell? ⟨b, 2, none⟩ = some v2 ∧ w.cell? ⟨b, 3, none⟩ = some v3) ∧ (w.frozen? ⟨b, 0, none⟩ = false ∧ w.frozen? ⟨b, 1, none⟩ = false ∧ w.frozen? ⟨b, 2, none⟩ = false ∧ w.frozen? ⟨b, 3, none⟩ = false) := by
  unfold FAt at h
  simp [World.cell?, World.frozen?, h]
end
theorem cell_of_heap {w w' : World} {b : Nat} (h : w'.heap[b]? = w.heap[b]?) (o : Nat) : w'.cell? ⟨b, o, none⟩ = w.cell? ⟨b, o, none⟩ := World.cell?_of_block (w := w) (a := ⟨b, o, none⟩) h
/-- a line's lists in a world that has changed in one block alone -/
theorem LAt.set {w w' : World} {x : Line} {sa da : Option Addr} {cs cd sb so db dO : Nat} (h : LAt w x sa da cs cd sb so db dO) (hS : 0 < x.S.length → w'.heap[sb]? = w.heap[sb]?) (hD : 0 < x.D.length → w'.heap[db]? = w.heap[db]?) : LAt w' x sa da cs cd sb so db dO :=
  ⟨h.hls, h.hld, h.hsa, h.hda, h.ncs, h.ncd, fun i hi => (cell_of_heap (hS (by omega)) _).trans (h.PS i hi), fun i hi => (cell_of_heap (hD (by omega)) _).trans (h.PD i hi)⟩
theorem FAt.new2 (w : World) (o : Obj) (v0 v1 v2 v3 : Value) : FAt ((w.alloc o).alloc (.cells #[v0, v1, v2, v3] 46)) (w.heap.size + 1) v0 v1 v2 v3 := by
  have := FAt.new (w.alloc o) v0 v1 v2 v3
  rwa [show (w.alloc o).heap.size = w.heap.size + 1 by simp] at this
/-- what is known once the line lies in a block, and a block for the answer is there -/
structure Begun (w w0 : World) (x : Line) (sa da : Option Addr) (cs cd sb so db dO : Nat) : Prop where
  F1 : FAt w0 w.heap.size (.slice sa x.S.length cs) (.slice da x.D.length cd) (.int .i64 x.g) (.bool x.cl)
  F2 : FAt w0 (w.heap.size + 1) (.slice none 0 0) (.slice none 0 0) (.int .i64 0) (.bool false)
  L : LAt w0 x sa da cs cd sb so db dO
  ltS : 0 < x.S.length → sb < w.heap.size
  ltD : 0 < x.D.length → db < w.heap.size
  below : Below w.heap.size w w0
  size : w.heap.size + 2 ≤ w0.heap.size
theorem Begun.over {w w0 w1 : World} {x : Line} {sa da : Option Addr} {cs cd sb so db dO : Nat} (h : Begun w w0 x sa da cs cd sb so db dO) (hb : Below w0.heap.size w0 w1) : Begun w w1 x sa da cs cd sb so db dO :=
  ⟨h.F1.later hb h.F1.lt, h.F2.later hb h.F2.lt, h.L.later hb, h.ltS, h.ltD, below_then h.below hb, Nat.le_trans h.size hb.size⟩
end Go.Proofs.YtnamphhchecaeaaGreat.Ln

