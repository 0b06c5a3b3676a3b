/- Parts of the proof: SA. -/
import Derived.Test.YtnamphhchecaeaaGreatRows
import Derived.Test.YtnamphhchecaeaaGreatAK3
import Derived.WalkKit
import Derived.WalkSmall
import Derived.Below
import Derived.Test.YtnamphhchecaeaaGreatProg
import Derived.BigQuiet
import Derived.Deep.QuietTactic
set_option maxRecDepth 100000
namespace Go.Proofs.YtnamphhchecaeaaGreat
open Go.RowKit
theorem hide {p : Prop} (h : p) : Hid p := h
end Go.Proofs.YtnamphhchecaeaaGreat

