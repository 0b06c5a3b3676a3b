/- Parts of the proof: SM2 T1. -/
import Derived.Test.YtkhlihpghbhppabGreatRows
import Derived.Test.YtkhlihpghbhppabGreatProviderRemovesK17
import Derived.Test.YtkhlihpghbhppabGreatProviderRemovesK52
import Derived.WalkKit
import Derived.LoopN
set_option maxRecDepth 100000
namespace Go.Proofs.YtkhlihpghbhppabGreat
/-- Delegate -/
def delegS (s : St) (d v n : Int) : St × Int :=
  if refOfE s d v = 0 then
    if (s.V v.toNat).dead = true then (s, 15)
    else if (decide (0 < n) && inA n) = true then
      if shE (s.V v.toNat) n = 0 then
        if (bondR s.b d n).2 = 0 then (addS { s with b := (bondR s.b d n).1 } d.toNat v.toNat n (shN (s.V v.toNat) n), 0)
        else (s, (bondR s.b d n).2)
      else (s, shE (s.V v.toNat) n)
    else (s, 2)
  else (s, refOfE s d v)
end Go.Proofs.YtkhlihpghbhppabGreat

set_option maxRecDepth 100000
namespace Go.Proofs.YtkhlihpghbhppabGreat
open Go.RowKit
def inr (n : Int) : Prop := 0 ≤ n ∧ n ≤ 400000
end Go.Proofs.YtkhlihpghbhppabGreat

