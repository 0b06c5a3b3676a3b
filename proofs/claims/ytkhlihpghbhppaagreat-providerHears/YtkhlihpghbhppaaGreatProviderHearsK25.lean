/- Parts of the proof: MS1 MS2. -/
import Derived.Test.YtkhlihpghbhppaaGreatRows
import Derived.Test.YtkhlihpghbhppaaGreatProviderHearsK24
import Derived.Test.YtkhlihpghbhppaaGreatProviderHearsK51
set_option maxRecDepth 100000
namespace Go.Proofs.YtkhlihpghbhppaaGreat
def ptN (n f : Int) : Int := Ra.ptN n f
/-- is a wait touched? -/
def hitW (v h : Int) (x : Wt) : Bool := decide (x.v = v) && decide (h ≤ x.hei)
def slX (v h f : Int) (x : Wt) : Wt := if hitW v h x = true then { x with amt := x.amt - ptN x.amt f } else x
def slW (v h f : Int) (W : List Wt) : List Wt := W.map (slX v h f)
def slP (v h f : Int) (x : Wt) : Int := if hitW v h x = true then ptN x.amt f else 0
def slN (v h f : Int) : List Wt → Int
  | [] => 0
  | x :: W => slP v h f x + slN v h f W
end Go.Proofs.YtkhlihpghbhppaaGreat

set_option maxRecDepth 100000
namespace Go.Proofs.YtkhlihpghbhppaaGreat
def slashV (x : Vd) (pb pw : Int) : Vd := { x with tok := x.tok - pb, lost := x.lost + (pb + pw) }
def slashS (s : St) (v : Nat) (h f : Int) : St := { s with b := (burnR s.b (ptN (s.V v).tok f) (slN v h f s.W)).1, V := setV s.V v (slashV (s.V v) (ptN (s.V v).tok f) (slN v h f s.W)), W := slW v h f s.W }
end Go.Proofs.YtkhlihpghbhppaaGreat

