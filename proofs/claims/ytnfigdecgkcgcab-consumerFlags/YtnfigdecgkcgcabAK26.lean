/- Parts of the proof: SM. -/
import Derived.Test.YtnfigdecgkcgcabRows
import Derived.Test.YtnfigdecgkcgcabAK25
set_option maxRecDepth 100000
namespace Go.Proofs.Ytnfigdecgkcgcab
def isV (v : Int) : Bool := decide (0 ≤ v ∧ v < 6)
theorem isV_iff {n : Int} : isV n = true ↔ 0 ≤ n ∧ n < 6 := decide_eq_true_iff
end Go.Proofs.Ytnfigdecgkcgcab

