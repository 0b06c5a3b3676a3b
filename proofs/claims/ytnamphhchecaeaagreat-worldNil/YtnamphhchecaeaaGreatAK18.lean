/- Parts of the proof: CU. -/
import Derived.Test.YtnamphhchecaeaaGreatRows
import Derived.Test.YtnamphhchecaeaaGreatAK17
import Derived.Deep.RegionLaw
set_option maxRecDepth 100000
namespace Go.Proofs.YtnamphhchecaeaaGreat.Cd
open Go.RowKit
/-- what may be copied: nothing, or cells that are there, not too many -/
def Src (w : World) (ao : Option Addr) (n size bytes : Nat) : Prop := n * bytes ≤ 140737488351232 ∧ (n = 0 ∨ ∃ a, ao = some a ∧ ∀ j, j < n * size → ∃ u, w.cell? (a.add j) = some u)
theorem Src.later {w w' : World} {ao : Option Addr} {n size bytes : Nat} (h : Src w ao n size bytes) (hb : Below w.heap.size w w') : Src w' ao n size bytes := by
  refine ⟨h.1, ?_⟩
  rcases h.2 with h0 | ⟨a, rfl, hs⟩
  · exact .inl h0
  · refine .inr ⟨a, rfl, fun j hj => ?_⟩
    obtain ⟨u, hu⟩ := hs j hj
    exact ⟨u, (hb.cell (p := a.add j) (World.block_lt_of_cell? w _ hu)).trans hu⟩
/-- n elements have been copied behind an address: into new memory; old memory is as it was -/
structure Copied (w : World) (ao : Option Addr) (n size : Nat) (A : Option Addr) (C : Nat) (w' : World) : Prop where
  below : Below w.heap.size w w'
  nil : A = none → C = 0
  cap : n ≤ C
  cells : 0 < n → ∃ a g, ao = some a ∧ A = some ⟨g, 0, none⟩ ∧ w.heap.size ≤ g ∧ ∀ j, j < n * size → w'.cell? ⟨g, j, none⟩ = w.cell? (a.add j)
theorem PkAt.set {w : World} {b : Nat} {k i v n : Int} {s d s' d' : Value} (h : PkAt w b k i v n s d) : PkAt ((w.setCell ⟨b, 4, none⟩ s').setCell ⟨b, 5, none⟩ d') b k i v n s' d' := by
  obtain ⟨h0, h1, h2, h3, h4, h5⟩ := h
  refine ⟨?_, ?_, ?_, ?_, ?_, ?_⟩
  · rw [World.cell?_setCell_other _ _ _ _ (by simp), World.cell?_setCell_other _ _ _ _ (by simp)]; exact h0
  · rw [World.cell?_setCell_other _ _ _ _ (by simp), World.cell?_setCell_other _ _ _ _ (by simp)]; exact h1
  · rw [World.cell?_setCell_other _ _ _ _ (by simp), World.cell?_setCell_other _ _ _ _ (by simp)]; exact h2
  · rw [World.cell?_setCell_other _ _ _ _ (by simp), World.cell?_setCell_other _ _ _ _ (by simp)]; exact h3
  · rw [World.cell?_setCell_other _ _ _ _ (by simp)]; exact World.cell?_setCell_same _ _ _ h4
  · exact World.cell?_setCell_same _ _ _ ((World.cell?_setCell_other _ _ _ _ (by simp)).trans h5)
theorem so {w : World} {b i j : Nat} {v u : Value} (hij : i ≠ j) (h : w.cell? ⟨b, j, none⟩ = some u) : (w.setCell ⟨b, i, none⟩ v).cell? ⟨b, j, none⟩ = some u :=
  (World.cell?_setCell_other _ _ _ _ (fun e => hij (by cases e; rfl))).trans h
end Go.Proofs.YtnamphhchecaeaaGreat.Cd

