/- Parts of the proof: SM. -/
import Derived.Test.YtdkalcnlncjgiaaRows
import Derived.Test.YtdkalcnlncjgiaaAK4
set_option maxRecDepth 100000
namespace Go.Proofs.Ytdkalcnlncjgiaa
def isV (v : Int) : Bool := decide (0 ≤ v ∧ v < 6)
theorem isV_iff {n : Int} : isV n = true ↔ 0 ≤ n ∧ n < 6 := decide_eq_true_iff
end Go.Proofs.Ytdkalcnlncjgiaa

