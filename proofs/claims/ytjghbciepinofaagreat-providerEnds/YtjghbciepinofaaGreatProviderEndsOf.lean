/- Parts of the proof: . -/
import Derived.Test.YtjghbciepinofaaGreatRows
import Derived.Test.YtjghbciepinofaaGreatPK34
import Derived.ChangeOld
import Derived.SliceStrings
set_option maxRecDepth 100000
set_option maxHeartbeats 16000000
namespace Go.Proofs.YtjghbciepinofaaGreat
open Go.Proofs.Tryz
open Value renaming int->J,slice->J1,pointer->J2,bool->J3,agg->J4
open IntKind renaming i64->I
open Obj renaming cells->J5

end Go.Proofs.YtjghbciepinofaaGreat
