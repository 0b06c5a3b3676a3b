/- Parts of the proof: KM. -/
import Derived.Test.YtdkalcnlncjgiaaRows
import Derived.Test.YtdkalcnlncjgiaaBK0
import Derived.Test.YtdkalcnlncjgiaaBK42
import Derived.Test.YtdkalcnlncjgiaaBK54
set_option maxRecDepth 100000
namespace Go.Proofs.Ytdkalcnlncjgiaa.Kc
open Go.RowKit Pv
def goodK (x : Pkt) : Bool := decide (x.k = 1) && decide (Cd.goodN x.k x.i x.v x.n x.S x.D = 0)
def goodR (x : Int × Int) : Bool := decide (1 ≤ x.1) && decide (x.1 ≤ 1099511627776) && decide (0 ≤ x.2)
/-- P8.1 -/
def goodC (c : Cs) : Bool := (!(c.on && c.gone) && decide (0 ≤ c.h) && decide (c.h < 1099511627776) && isT c.t && isT c.id) && (setB (-1) c.set && c.pd.all goodK && c.rp.all goodR && Ln.goodL c.out)
def refC (c : Cs) : Int := if goodC c = true then (if c.on = true then 0 else 4) else 2
/-- P8.1 -/
def beginC (set : List (Int × Int)) (id now : Int) : Cs := ⟨true, false, 0, now, id, set, [], [], fun _ => false, ⟨[], [], 0, false⟩, 0, 0, 0, 0⟩
/-- P8.3 -/
def sayC (c : Cs) (k i v n : Int) (now : Int) : Cs × Int :=
  if Cd.goodN k i v n [] [] = 0 then ({ c with out := Ln.sayL c.out (Cd.encS k i v n [] []) (now + 40) }, Ln.sayE c.out (now + 40)) else (c, Cd.goodN k i v n [] [])
/-- P8.7 -/
def removeC (c : Cs) : Cs := if c.on = true then { c with on := false, gone := true, out := { c.out with cl := true } } else c
/-- P8.4 -/
def flagsOff (f : Nat → Bool) (l : List Int) : Nat → Bool := l.foldl (fun f v => updF f v.toNat false) f
def takeC (c : Cs) (x : Pkt) : Cs := { c with set := Df.applyL c.set x.S, id := x.i, fl := flagsOff c.fl x.D, rp := c.rp ++ [(x.i, c.t + 15)] }
def ripeC (c : Cs) : List (Int × Int) → Cs
  | [] => { c with rp := [] }
  | x :: l => if x.2 ≤ c.t then (if (sayC c 2 x.1 0 0 c.t).2 = 0 then ripeC (sayC c 2 x.1 0 0 c.t).1 l else { c with rp := x :: l }) else { c with rp := x :: l }
def takesC (c : Cs) : Cs := c.pd.foldl takeC c
def doneC (c : Cs) : Cs := ripeC { takesC c with pd := [] } (takesC c).rp
def endC (c : Cs) (now : Int) : Cs × Int :=
  if refC c = 0 then
    if isT now = true ∧ c.t ≤ now then (doneC { c with h := c.h + 1, t := now }, 0) else (c, 2)
  else (c, refC c)
end Go.Proofs.Ytdkalcnlncjgiaa.Kc

