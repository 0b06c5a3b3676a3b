/- Parts of the proof: KO. -/
import Derived.Test.YtnfigdecgkcgcaaRows
import Derived.Test.YtnfigdecgkcgcaaBK26
import Derived.Test.YtnfigdecgkcgcaaBK53
set_option maxRecDepth 100000
namespace Go.Proofs.Ytnfigdecgkcgcaa.Kc
open Go.ChangeShapes Go.WideShapes Go.ChangeAt Go.RowKit Go.Deep Pv
section
variable {H : Type} {enc : TypeId × Value → H} {W : World}
theorem open_intl {r : Reach} {b0 : Nat} {v : Value} {d : DataW H} {p : List MemPlace} (hv : Value.okWide Try.prog W r b0 27 v) (h : DataW.Trod enc Try.prog W 0 (fun _ => true) true 27 v d p) (hw : ∀ x ∈ DataW.weights Try.prog 27 d, x ≤ reachBytes) : ∃ L : List Int, Rep (fun _ => True) W v 1 8 (inC L) := by
  obtain ⟨a0, len, cap, rfl⟩ := okWide_slice Try.underlying27 hv
  obtain ⟨fuel, hf⟩ := h
  obtain ⟨L, u, e, r⟩ := rep_ints hf hw
  simp [Value.cells] at e
  subst e
  exact ⟨L, r⟩
end
end Go.Proofs.Ytnfigdecgkcgcaa.Kc

