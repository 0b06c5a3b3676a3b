/- Parts of the proof: D. -/
import Derived.Test.YtnamphhchecaeaaGreatRows
import Derived.Test.YtnamphhchecaeaaGreatAK29
import Derived.Test.YtnamphhchecaeaaGreatAK34
import Derived.WalkKit
import Derived.LoopN
import Derived.WalkSmall
set_option maxRecDepth 100000
namespace Go.Proofs.YtnamphhchecaeaaGreat
open Go.RowKit
def cl (n : Int) : Int := min (max n 0) 400000
/-- how far the numbers are brought to their bounds, behind k rounds -/
def Mid (w : World) (b k : Nat) (f0 f1 f2 f3 bo wa bu : Int) : Prop :=
  BAt w b (if 3 < k then cl f0 else f0) (if 4 < k then cl f1 else f1) (if 5 < k then cl f2 else f2) (if 6 < k then cl f3 else f3) (if 0 < k then cl bo else bo) (if 1 < k then cl wa else wa) (if 2 < k then cl bu else bu)
end Go.Proofs.YtnamphhchecaeaaGreat

