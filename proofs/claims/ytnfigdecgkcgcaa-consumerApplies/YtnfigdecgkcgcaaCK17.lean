/- Parts of the proof: PVGR. -/
import Derived.Test.YtnfigdecgkcgcaaRows
import Derived.Test.YtnfigdecgkcgcaaCK6
import Derived.Test.YtnfigdecgkcgcaaCK13
set_option maxRecDepth 100000
namespace Go.Proofs.Ytnfigdecgkcgcaa.Pv
open Go.RowKit
def setB1 (last : Int) (x : Int × Int) : Bool := decide (last < x.1) && decide (x.1 ≤ 5) && decide (1 ≤ x.2) && decide (x.2 ≤ 1125899906842624)
/-- a set: validators that rise, with powers -/
def setB (last : Int) : List (Int × Int) → Bool
  | [] => true
  | x :: l => setB1 last x && setB x.1 l
theorem drop_at' {α : Type} {l : List α} {k : Nat} (h : k < l.length) : ∃ x, l[k]? = some x ∧ l.drop k = x :: l.drop (k + 1) := ⟨l[k], List.getElem?_eq_getElem h, List.drop_eq_getElem_cons h⟩
end Go.Proofs.Ytnfigdecgkcgcaa.Pv

