/- Parts of the proof: OS0. -/
import Derived.Test.YtnfigdecgkcgcaaRows
import Derived.WalkKit
import Derived.ProofKit
import Derived.OpenShut
import Derived.Deep.Slices
import Derived.SizedLaws
import Derived.Laws.IdiomArrays
set_option maxRecDepth 100000
namespace Go.Proofs.Ytnfigdecgkcgcaa
open Go.ChangeShapes Go.WideShapes Go.ChangeAt Go.RowKit Go.Deep
theorem pick_all {β : Type} {p : Nat → β → Prop} (d : β) {n : Nat} (h : ∀ i, i < n → ∃ y, p i y) : ∃ f : Nat → β, ∀ i, i < n → p i (f i) := by
  refine ⟨fun i => if hi : i < n then Classical.choose (h i hi) else d, fun i hi => ?_⟩
  simp only [dif_pos hi]
  exact Classical.choose_spec (h i hi)
section
variable {H : Type} {enc : TypeId × Value → H} {W : World}
theorem open_i {m : Nat} {l : List Value} {y : DataW H × List MemPlace} (h : DataW.trod enc Try.prog W 0 (fun _ => true) true m 3 l = some y) : ∃ b : Int, l = [.int .i64 b] := by
  obtain ⟨q, e, _⟩ := DataW.trod_int Try.underlying3 h
  exact ⟨q, e⟩
theorem cI : Try.prog.cellsOf 3 = 1 := by kernel_rfl
end
end Go.Proofs.Ytnfigdecgkcgcaa

