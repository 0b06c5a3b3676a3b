/- A stake as numbers, and when it is good: plain definitions. -/
import Derived.Test.YtfajfebpchfkoaePB
set_option maxRecDepth 100000
namespace Go.Proofs.Ytfajfebpchfkoae
structure Vd where
  tok : Int
  sh : Int
  lost : Int
  jail : Bool
  dead : Bool
structure Wt where
  num : Int
  d : Int
  v : Int
  amt : Int
  hei : Int
  due : Int
  h0 : Int
  h1 : Int
structure St where
  b : Bk
  V : Nat → Vd
  S : Nat → Nat → Int
  W : List Wt
  next : Int
/-- an amount -/
def inA (n : Int) : Bool := decide (0 ≤ n ∧ n ≤ 1125899906842624)
def isV (v : Int) : Bool := decide (0 ≤ v ∧ v < 6)
def isD (d : Int) : Bool := decide (0 ≤ d ∧ d < 4)
/-- a validator's numbers are right -/
def vOk (x : Vd) : Bool := inA x.tok && inA x.sh && inA x.lost && !(decide (0 < x.tok) && decide (x.sh = 0)) && (x.jail || !x.dead)
/-- the shares of the first delegators on a validator -/
def psh (S : Nat → Nat → Int) (v : Nat) : Nat → Int
  | 0 => 0
  | j + 1 => psh S v j + S j v
/-- the first delegators' shares on a validator are amounts -/
def pshOk (S : Nat → Nat → Int) (v : Nat) : Nat → Bool
  | 0 => true
  | j + 1 => pshOk S v j && inA (S j v)
def shOk (S : Nat → Nat → Int) (v : Nat) (sh : Int) : Bool := pshOk S v 4 && decide (psh S v 4 = sh)
def wOk1 (last next : Int) (w : Wt) : Bool := decide (last < w.num) && decide (w.num < next) && isD w.d && isV w.v && inA w.amt && decide (0 ≤ w.hei) && decide (0 ≤ w.due)
/-- the waits are right, their numbers rising -/
def wOk (next : Int) : Int → List Wt → Bool
  | _, [] => true
  | last, w :: r => wOk1 last next w && wOk next w.num r
def amts : List Wt → Int
  | [] => 0
  | w :: r => w.amt + amts r
def ptok (V : Nat → Vd) : Nat → Int
  | 0 => 0
  | k + 1 => ptok V k + (V k).tok
def plost (V : Nat → Vd) : Nat → Int
  | 0 => 0
  | k + 1 => plost V k + (V k).lost
def vsOk (s : St) (v : Nat) : Bool := vOk (s.V v) && shOk s.S v (s.V v).sh
def pvs (s : St) : Nat → Bool
  | 0 => true
  | k + 1 => pvs s k && vsOk s k
def bal (s : St) : Bool := decide (ptok s.V 6 = s.b.bo) && decide (amts s.W = s.b.wa) && decide (plost s.V 6 = s.b.bu)
def goodS (s : St) : Bool := s.b.good && decide (1 ≤ s.next) && decide (s.next ≤ 1125899906842624) && decide (s.W.length ≤ 60) && wOk s.next 0 s.W && pvs s 6 && bal s
/-- what a call on a validator says first -/
def refE (s : St) (v : Int) : Int := if goodS s = true then if isV v = true then 0 else 4 else 2
def refOfE (s : St) (d v : Int) : Int := if refE s v = 0 then if isD d = true then 0 else 4 else refE s v
/-- a times b by c, rounded down, where it is an amount; and its error -/
def mdN (a b c : Int) : Int := if a < 0 ∨ b < 0 ∨ c < 1 then 0 else if a * b / c ≤ 1125899906842624 then a * b / c else 0
def mdE (a b c : Int) : Int := if a < 0 ∨ b < 0 ∨ c < 1 then 2 else if a * b / c ≤ 1125899906842624 then 0 else 2
/-- how many shares n tokens more bring, and the error -/
def shN (x : Vd) (n : Int) : Int := if x.sh = 0 then n else if x.tok = 0 then 0 else if mdE n x.sh x.tok = 0 ∧ inA (x.sh + mdN n x.sh x.tok) = true then mdN n x.sh x.tok else 0
def shE (x : Vd) (n : Int) : Int := if x.sh = 0 then 0 else if x.tok = 0 then 8 else if mdE n x.sh x.tok = 0 ∧ inA (x.sh + mdN n x.sh x.tok) = true then if mdN n x.sh x.tok = 0 then 8 else 0 else 6
/-- how many tokens shares are worth, and the error -/
def woN (x : Vd) (n : Int) : Int := if mdE n x.tok x.sh = 0 then mdN n x.tok x.sh else 0
def woE (x : Vd) (n : Int) : Int := if mdE n x.tok x.sh = 0 then if mdN n x.tok x.sh = 0 then 8 else 0 else mdE n x.tok x.sh
def setV (V : Nat → Vd) (v : Nat) (x : Vd) : Nat → Vd := fun i => if i = v then x else V i
def setSh (S : Nat → Nat → Int) (d v : Nat) (n : Int) : Nat → Nat → Int := fun i j => if i = d ∧ j = v then n else S i j
/-- tokens and shares more on a validator -/
def addS (s : St) (d v : Nat) (t n : Int) : St := { s with V := setV s.V v { s.V v with tok := (s.V v).tok + t, sh := (s.V v).sh + n }, S := setSh s.S d v (s.S d v + n) }
theorem inA_iff {n : Int} : inA n = true ↔ 0 ≤ n ∧ n ≤ 1125899906842624 := decide_eq_true_iff
theorem isV_iff {n : Int} : isV n = true ↔ 0 ≤ n ∧ n < 6 := decide_eq_true_iff
theorem isD_iff {n : Int} : isD n = true ↔ 0 ≤ n ∧ n < 4 := decide_eq_true_iff
end Go.Proofs.Ytfajfebpchfkoae
