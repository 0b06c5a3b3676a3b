/- Parts of the proof: PB. -/
import Derived.Test.YtnamphhchecaeaaGreatRows
set_option maxRecDepth 100000
namespace Go.Proofs.YtnamphhchecaeaaGreat
/-- a bank: four free ones, bonded, waiting, burnt -/
structure Bk where
  f0 : Int
  f1 : Int
  f2 : Int
  f3 : Int
  bo : Int
  wa : Int
  bu : Int
def Bk.put (b : Bk) (k : Nat) (x : Int) : Bk :=
  match k with
  | 0 => { b with f0 := x }
  | 1 => { b with f1 := x }
  | 2 => { b with f2 := x }
  | 3 => { b with f3 := x }
  | 4 => { b with bo := x }
  | 5 => { b with wa := x }
  | _ => { b with bu := x }
end Go.Proofs.YtnamphhchecaeaaGreat

