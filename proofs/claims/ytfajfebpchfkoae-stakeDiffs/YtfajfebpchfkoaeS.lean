/- How a bank's seven numbers lie in a block, and what a store leaves there. -/
import Derived.Test.YtfajfebpchfkoaeProg
import Derived.WalkKit
import Derived.WalkSmall
import Derived.Below
set_option maxRecDepth 100000
namespace Go.Proofs.Ytfajfebpchfkoae
open Go.RowKit
/-- a bank's numbers lie in a block -/
def BAt (w : World) (b : Nat) (f0 f1 f2 f3 bo wa bu : Int) : Prop := w.heap[b]? = some (.cells #[.int .i64 f0, .int .i64 f1, .int .i64 f2, .int .i64 f3, .int .i64 bo, .int .i64 wa, .int .i64 bu] 35)
section
variable {w w' : World} {b B : Nat} {f0 f1 f2 f3 bo wa bu : Int}
theorem BAt.later (h : BAt w b f0 f1 f2 f3 bo wa bu) (hb : Below B w w') (hB : b < B) : BAt w' b f0 f1 f2 f3 bo wa bu := (hb.block b hB).trans h
theorem BAt.new (w : World) (f0 f1 f2 f3 bo wa bu : Int) : BAt (w.alloc (.cells #[.int .i64 f0, .int .i64 f1, .int .i64 f2, .int .i64 f3, .int .i64 bo, .int .i64 wa, .int .i64 bu] 35)) w.heap.size f0 f1 f2 f3 bo wa bu := heap_alloc_new _ _
theorem BAt.other {c o : Nat} (h : BAt w b f0 f1 f2 f3 bo wa bu) (hb : b ≠ c) (v : Value) : BAt (w.setCell ⟨c, o, none⟩ v) b f0 f1 f2 f3 bo wa bu := (Below.heap_setCell _ _ _ _ hb).trans h
theorem BAt.alloc (h : BAt w b f0 f1 f2 f3 bo wa bu) (o : Obj) : BAt (w.alloc o) b f0 f1 f2 f3 bo wa bu := (Below.heap_alloc _ _ _ (Array.getElem?_eq_some_iff.1 h).1).trans h
theorem BAt.lt (h : BAt w b f0 f1 f2 f3 bo wa bu) : b < w.heap.size := (Array.getElem?_eq_some_iff.1 h).1
theorem BAt.cells (h : BAt w b f0 f1 f2 f3 bo wa bu) : w.cell? ⟨b, 0, none⟩ = some (.int .i64 f0) ∧ w.cell? ⟨b, 1, none⟩ = some (.int .i64 f1) ∧ w.cell? ⟨b, 2, none⟩ = some (.int .i64 f2) ∧ w.cell? ⟨b, 3, none⟩ = some (.int .i64 f3) ∧ w.cell? ⟨b, 4, none⟩ = some (.int .i64 bo) ∧ w.cell? ⟨b, 5, none⟩ = some (.int .i64 wa) ∧ w.cell? ⟨b, 6, none⟩ = some (.int .i64 bu) := by
  unfold BAt at h
  simp [World.cell?, h]
theorem BAt.frees (h : BAt w b f0 f1 f2 f3 bo wa bu) : w.frozen? ⟨b, 0, none⟩ = false ∧ w.frozen? ⟨b, 1, none⟩ = false ∧ w.frozen? ⟨b, 2, none⟩ = false ∧ w.frozen? ⟨b, 3, none⟩ = false ∧ w.frozen? ⟨b, 4, none⟩ = false ∧ w.frozen? ⟨b, 5, none⟩ = false ∧ w.frozen? ⟨b, 6, none⟩ = false := by
  unfold BAt at h
  simp [World.frozen?, h]
theorem BAt.set_0 (h : BAt w b f0 f1 f2 f3 bo wa bu) (v : Int) : BAt (w.setCell ⟨b, 0, none⟩ (.int .i64 v)) b v f1 f2 f3 bo wa bu := by
  unfold BAt at *
  simp [World.setCell, Array.getElem?_modify, h]
theorem BAt.set_1 (h : BAt w b f0 f1 f2 f3 bo wa bu) (v : Int) : BAt (w.setCell ⟨b, 1, none⟩ (.int .i64 v)) b f0 v f2 f3 bo wa bu := by
  unfold BAt at *
  simp [World.setCell, Array.getElem?_modify, h]
theorem BAt.set_2 (h : BAt w b f0 f1 f2 f3 bo wa bu) (v : Int) : BAt (w.setCell ⟨b, 2, none⟩ (.int .i64 v)) b f0 f1 v f3 bo wa bu := by
  unfold BAt at *
  simp [World.setCell, Array.getElem?_modify, h]
theorem BAt.set_3 (h : BAt w b f0 f1 f2 f3 bo wa bu) (v : Int) : BAt (w.setCell ⟨b, 3, none⟩ (.int .i64 v)) b f0 f1 f2 v bo wa bu := by
  unfold BAt at *
  simp [World.setCell, Array.getElem?_modify, h]
theorem BAt.set_4 (h : BAt w b f0 f1 f2 f3 bo wa bu) (v : Int) : BAt (w.setCell ⟨b, 4, none⟩ (.int .i64 v)) b f0 f1 f2 f3 v wa bu := by
  unfold BAt at *
  simp [World.setCell, Array.getElem?_modify, h]
theorem BAt.set_5 (h : BAt w b f0 f1 f2 f3 bo wa bu) (v : Int) : BAt (w.setCell ⟨b, 5, none⟩ (.int .i64 v)) b f0 f1 f2 f3 bo v bu := by
  unfold BAt at *
  simp [World.setCell, Array.getElem?_modify, h]
theorem BAt.set_6 (h : BAt w b f0 f1 f2 f3 bo wa bu) (v : Int) : BAt (w.setCell ⟨b, 6, none⟩ (.int .i64 v)) b f0 f1 f2 f3 bo wa v := by
  unfold BAt at *
  simp [World.setCell, Array.getElem?_modify, h]
/-- the seven numbers are written -/
def set7 (w : World) (b : Nat) (v0 v1 v2 v3 v4 v5 v6 : Int) : World := ((((((w.setCell ⟨b, 0, none⟩ (.int .i64 v0)).setCell ⟨b, 1, none⟩ (.int .i64 v1)).setCell ⟨b, 2, none⟩ (.int .i64 v2)).setCell ⟨b, 3, none⟩ (.int .i64 v3)).setCell ⟨b, 4, none⟩ (.int .i64 v4)).setCell ⟨b, 5, none⟩ (.int .i64 v5)).setCell ⟨b, 6, none⟩ (.int .i64 v6)
theorem BAt.set7 (h : BAt w b f0 f1 f2 f3 bo wa bu) (v0 v1 v2 v3 v4 v5 v6 : Int) : BAt (set7 w b v0 v1 v2 v3 v4 v5 v6) b v0 v1 v2 v3 v4 v5 v6 :=
  ((((((h.set_0 v0).set_1 v1).set_2 v2).set_3 v3).set_4 v4).set_5 v5).set_6 v6
theorem set7_below (h : Below B w w') (hB : B ≤ b) (v0 v1 v2 v3 v4 v5 v6 : Int) : Below B w (Go.Proofs.Ytfajfebpchfkoae.set7 w' b v0 v1 v2 v3 v4 v5 v6) :=
  ((((((h.setCell hB _).setCell hB _).setCell hB _).setCell hB _).setCell hB _).setCell hB _).setCell hB _
theorem BAt.other7 {c : Nat} (h : BAt w b f0 f1 f2 f3 bo wa bu) (hb : b ≠ c) (v0 v1 v2 v3 v4 v5 v6 : Int) : BAt (Go.Proofs.Ytfajfebpchfkoae.set7 w c v0 v1 v2 v3 v4 v5 v6) b f0 f1 f2 f3 bo wa bu :=
  ((((((h.other hb _).other hb _).other hb _).other hb _).other hb _).other hb _).other hb _
end
end Go.Proofs.Ytfajfebpchfkoae
