/- Parts of the proof: RJ1. -/
import Derived.Test.YtkhlihpghbhppaaGreatRows
import Derived.Test.YtkhlihpghbhppaaGreatPjK25
import Derived.Test.YtkhlihpghbhppaaGreatPjK41
import Derived.Test.YtkhlihpghbhppaaGreatPjK44
import Derived.Test.YtkhlihpghbhppaaGreatPjK51
set_option maxRecDepth 100000
namespace Go.Proofs.YtkhlihpghbhppaaGreat
open Go.RowKit
theorem refOf_zero (s : St) (v : Int) : refOfE s 0 v = refE s v := by
  unfold refOfE
  split
  · rw [if_pos (by decide)]; omega
  · rfl
end Go.Proofs.YtkhlihpghbhppaaGreat

