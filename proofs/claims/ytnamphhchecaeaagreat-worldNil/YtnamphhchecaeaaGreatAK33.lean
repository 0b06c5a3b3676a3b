/- Parts of the proof: PVS. -/
import Derived.Test.YtnamphhchecaeaaGreatRows
import Derived.Test.YtnamphhchecaeaaGreatAK25
import Derived.Test.YtnamphhchecaeaaGreatAK28
import Derived.Test.YtnamphhchecaeaaGreatAK32
set_option maxRecDepth 100000
namespace Go.Proofs.YtnamphhchecaeaaGreat.Pv
open Go.RowKit
section
variable {P P' : Nat → Prop} {w : World}
theorem sames_rep (s : St) (v v' : Value) (h : Rep P w v 8 64 (wsL s.W)) (h' : Rep P' w v' 8 64 (wsL s.W)) : Calls Tryz.prog 11 #[.agg (stC s v), .agg (stC s v')] w fun e w' => e = .returned (.bool true) ∧ Below w.heap.size w w' := by
  obtain ⟨A, C, b, o, rfl, W, -, -⟩ := h.wsAt
  obtain ⟨A', C', b', o', rfl, W', -, -⟩ := h'.wsAt
  exact same_any s A A' b o b' o' C C' w W W'
end
end Go.Proofs.YtnamphhchecaeaaGreat.Pv

