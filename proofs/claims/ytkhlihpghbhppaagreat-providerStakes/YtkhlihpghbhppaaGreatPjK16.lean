/- Parts of the proof: RF1. -/
import Derived.Test.YtkhlihpghbhppaaGreatRows
import Derived.Test.YtkhlihpghbhppaaGreatPjK25
import Derived.Test.YtkhlihpghbhppaaGreatPjK30
import Derived.Test.YtkhlihpghbhppaaGreatPjK36
import Derived.Test.YtkhlihpghbhppaaGreatPjK41
import Derived.Test.YtkhlihpghbhppaaGreatPjK51
set_option maxRecDepth 100000
namespace Go.Proofs.YtkhlihpghbhppaaGreat
open Go.RowKit
theorem rmuldiv_any (a b c : Int) (w : World) (a1 : a ≤ 9223372036854775807) (b1 : b ≤ 9223372036854775807) (c1 : c ≤ 9223372036854775807) :
    Calls Tryz.prog 100 #[.int .i64 a, .int .i64 b, .int .i64 c] w fun e w' => e = .returned (.tuple #[.int .i64 (mdN a b c), .int .i64 (mdE a b c)]) ∧ Below w.heap.size w w' := Ra.refmd a b c a1 b1 c1 w
end Go.Proofs.YtkhlihpghbhppaaGreat

