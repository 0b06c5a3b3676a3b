/- Parts of the proof: two rows that are wanted often. -/
import Derived.Test.YtjghbciepinofaaGreatRows
import Derived.Below
namespace Go.Proofs.YtjghbciepinofaaGreat
open Go.RowKit
abbrev Bl (w w' : World) : Prop := Below w.heap.size w w'
theorem zbt {w w1 w2 : World} (a : Below w.heap.size w w1) (b : Below w1.heap.size w1 w2) : Below w.heap.size w w2 := a.trans (b.mono a.size)
theorem znw (w : World) (o : Obj) : Below w.heap.size w (w.alloc o) := (Below.refl _ w).alloc (Nat.le_refl _) o
end Go.Proofs.YtjghbciepinofaaGreat
