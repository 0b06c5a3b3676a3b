/- Parts of the proof: PB. -/
import Derived.Test.YtdkalcnlncjgiaaRows
set_option maxRecDepth 100000
namespace Go.Proofs.Ytdkalcnlncjgiaa
/-- a good bank -/
def goodB (f0 f1 f2 f3 bo wa bu : Int) : Bool := decide ((0 ≤ f0 ∧ f0 ≤ 400000) ∧ (0 ≤ f1 ∧ f1 ≤ 400000) ∧ (0 ≤ f2 ∧ f2 ≤ 400000) ∧ (0 ≤ f3 ∧ f3 ≤ 400000) ∧ (0 ≤ bo ∧ bo ≤ 400000) ∧ (0 ≤ wa ∧ wa ≤ 400000) ∧ (0 ≤ bu ∧ bu ≤ 400000) ∧ f0 + f1 + f2 + f3 + bo + wa + bu = 400000)
/-- a bank: four free ones, bonded, waiting, burnt -/
structure Bk where
  f0 : Int
  f1 : Int
  f2 : Int
  f3 : Int
  bo : Int
  wa : Int
  bu : Int
def Bk.good (b : Bk) : Bool := goodB b.f0 b.f1 b.f2 b.f3 b.bo b.wa b.bu
def Bk.put (b : Bk) (k : Nat) (x : Int) : Bk :=
  match k with
  | 0 => { b with f0 := x }
  | 1 => { b with f1 := x }
  | 2 => { b with f2 := x }
  | 3 => { b with f3 := x }
  | 4 => { b with bo := x }
  | 5 => { b with wa := x }
  | _ => { b with bu := x }
end Go.Proofs.Ytdkalcnlncjgiaa

