/- Parts of the proof: SM. -/
import Derived.Test.YtnamphhchecaeaaGreatRows
import Derived.Test.YtnamphhchecaeaaGreatAK2
set_option maxRecDepth 100000
namespace Go.Proofs.YtnamphhchecaeaaGreat
structure Vd where
  tok : Int
  sh : Int
  lost : Int
  jail : Bool
  dead : Bool
structure Wt where
  num : Int
  d : Int
  v : Int
  amt : Int
  hei : Int
  due : Int
  h0 : Int
  h1 : Int
structure St where
  b : Bk
  V : Nat → Vd
  S : Nat → Nat → Int
  W : List Wt
  next : Int
end Go.Proofs.YtnamphhchecaeaaGreat

