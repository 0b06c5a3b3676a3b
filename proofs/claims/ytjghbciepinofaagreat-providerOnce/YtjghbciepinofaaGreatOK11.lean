/- Parts of the proof: SW2 SW3. -/
import Derived.Test.YtjghbciepinofaaGreatRows
import Derived.Test.YtjghbciepinofaaGreatOK0
import Derived.Test.YtjghbciepinofaaGreatOK10
import Derived.Test.YtjghbciepinofaaGreatOK47
import Derived.Deep.RegionLaw
set_option maxRecDepth 100000
namespace Go.Proofs.YtjghbciepinofaaGreat
open Go.RowKit
/-- a wait's eight cells lie in a block -/
def YAt (w : World) (y : Nat) (x : Wt) : Prop := w.heap[y]? = some (.cells #[.int .i64 x.num, .int .i64 x.d, .int .i64 x.v, .int .i64 x.amt, .int .i64 x.hei, .int .i64 x.due, .int .i64 x.h0, .int .i64 x.h1] 127)
theorem YAt.later {w w' : World} {y B : Nat} {x : Wt} (h : YAt w y x) (hb : Below B w w') (hB : y < B) : YAt w' y x := (hb.block y hB).trans h
theorem YAt.lt {w : World} {y : Nat} {x : Wt} (h : YAt w y x) : y < w.heap.size := (Array.getElem?_eq_some_iff.1 h).1
theorem YAt.cells {w : World} {y : Nat} {x : Wt} (h : YAt w y x) : w.cell? ⟨y, 0, none⟩ = some (.int .i64 x.num) ∧ w.cell? ⟨y, 1, none⟩ = some (.int .i64 x.d) ∧ w.cell? ⟨y, 2, none⟩ = some (.int .i64 x.v) ∧ w.cell? ⟨y, 3, none⟩ = some (.int .i64 x.amt) ∧ w.cell? ⟨y, 4, none⟩ = some (.int .i64 x.hei) ∧ w.cell? ⟨y, 5, none⟩ = some (.int .i64 x.due) ∧ w.cell? ⟨y, 6, none⟩ = some (.int .i64 x.h0) ∧ w.cell? ⟨y, 7, none⟩ = some (.int .i64 x.h1) := by
  unfold YAt at h
  simp [World.cell?, h]
theorem YAt.new (w : World) (o p : Obj) (x : Wt) : YAt (((w.alloc o).alloc (.cells #[.int .i64 x.num, .int .i64 x.d, .int .i64 x.v, .int .i64 x.amt, .int .i64 x.hei, .int .i64 x.due, .int .i64 x.h0, .int .i64 x.h1] 127)).alloc p) (w.heap.size + 1) x := by
  have h : YAt ((w.alloc o).alloc (.cells #[.int .i64 x.num, .int .i64 x.d, .int .i64 x.v, .int .i64 x.amt, .int .i64 x.hei, .int .i64 x.due, .int .i64 x.h0, .int .i64 x.h1] 127)) (w.alloc o).heap.size x := heap_alloc_new _ _
  rw [show (w.alloc o).heap.size = w.heap.size + 1 by simp] at h
  exact h.later ((Below.refl _ _).alloc (Nat.le_refl _) _) h.lt
end Go.Proofs.YtjghbciepinofaaGreat

set_option maxRecDepth 100000
namespace Go.Proofs.YtjghbciepinofaaGreat
open Go.RowKit
theorem step_wanted {ops : Array Oper} {o : Oper} {a : Act} {w : World} {K : Act → World → Prop} {Q : Exit → Act → World → Prop} {E : Prop} (hg : o.guard = none) (h : Oper.wp Tryz.prog o a w K Q) :
    if Region.wanted o (yielded ops a.tmps) = true then Oper.wp Tryz.prog o a w K Q else E := by
  have hw : Region.wanted o (yielded ops a.tmps) = true := by simp [Region.wanted, hg]
  rw [if_pos hw]; exact h
theorem wt_new (w : World) (x : Wt) (e : TypeId) : ∀ j v, (wtL x)[j]? = some v → (w.alloc (.cells #[.int .i64 x.num, .int .i64 x.d, .int .i64 x.v, .int .i64 x.amt, .int .i64 x.hei, .int .i64 x.due, .int .i64 x.h0, .int .i64 x.h1] e)).cell? ⟨w.heap.size, j, none⟩ = some v := by
  intro j v hj
  rw [World.cell?_alloc_at _ _ _ _ rfl]
  simpa [wtL] using hj
theorem YAt.set4 {w : World} {b : Nat} {x : Wt} (h : YAt w b x) (a1 a2 a3 a4 : Int) : YAt ((((w.setCell ⟨b, 0, none⟩ (.int .i64 a1)).setCell ⟨b, 1, none⟩ (.int .i64 a2)).setCell ⟨b, 2, none⟩ (.int .i64 a3)).setCell ⟨b, 3, none⟩ (.int .i64 a4)) b { x with num := a1, d := a2, v := a3, amt := a4 } := by
  unfold YAt at *
  simp [World.setCell, Array.getElem?_modify, h]
theorem YAt.free {w : World} {b : Nat} {x : Wt} (h : YAt w b x) (o : Nat) : w.frozen? ⟨b, o, none⟩ = false := by
  unfold YAt at h
  simp [World.frozen?, h]
end Go.Proofs.YtjghbciepinofaaGreat

