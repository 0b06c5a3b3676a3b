/- Parts of the proof: CM. -/
import Derived.Test.YtnamphhchecaeaaGreatRows
import Derived.Test.YtnamphhchecaeaaGreatAK16
set_option maxRecDepth 100000
namespace Go.Proofs.YtnamphhchecaeaaGreat.Cd
open Go.RowKit

/-- the number of bytes, behind a number -/
def numF (acc : Int) (l : List Int) : Int := l.foldl (fun n c => n * 256 + c) acc
end Go.Proofs.YtnamphhchecaeaaGreat.Cd

