/- A bank as numbers, and what moves in it: plain definitions. -/
set_option maxRecDepth 100000
namespace Go.Proofs.Ytfajfebpchfkoae
/-- a good bank -/
def goodB (f0 f1 f2 f3 bo wa bu : Int) : Bool := decide ((0 ≤ f0 ∧ f0 ≤ 400000) ∧ (0 ≤ f1 ∧ f1 ≤ 400000) ∧ (0 ≤ f2 ∧ f2 ≤ 400000) ∧ (0 ≤ f3 ∧ f3 ≤ 400000) ∧ (0 ≤ bo ∧ bo ≤ 400000) ∧ (0 ≤ wa ∧ wa ≤ 400000) ∧ (0 ≤ bu ∧ bu ≤ 400000) ∧ f0 + f1 + f2 + f3 + bo + wa + bu = 400000)
/-- a bank: four free ones, bonded, waiting, burnt -/
structure Bk where
  f0 : Int
  f1 : Int
  f2 : Int
  f3 : Int
  bo : Int
  wa : Int
  bu : Int
def Bk.good (b : Bk) : Bool := goodB b.f0 b.f1 b.f2 b.f3 b.bo b.wa b.bu
def Bk.get (b : Bk) : Nat → Int
  | 0 => b.f0
  | 1 => b.f1
  | 2 => b.f2
  | 3 => b.f3
  | 4 => b.bo
  | 5 => b.wa
  | _ => b.bu
def Bk.put (b : Bk) (k : Nat) (x : Int) : Bk :=
  match k with
  | 0 => { b with f0 := x }
  | 1 => { b with f1 := x }
  | 2 => { b with f2 := x }
  | 3 => { b with f3 := x }
  | 4 => { b with bo := x }
  | 5 => { b with wa := x }
  | _ => { b with bu := x }
/-- to move n from one place to another -/
def mv (b : Bk) (f t : Nat) (n : Int) : Bk × Int :=
  if b.good = false ∨ ¬ (0 ≤ n ∧ n ≤ 1125899906842624) then (b, 2) else if b.get f < n then (b, 7) else ((b.put f (b.get f - n)).put t (b.get t + n), 0)
def bondR (b : Bk) (d n : Int) : Bk × Int := if 0 ≤ d ∧ d < 4 then mv b d.toNat 4 n else (b, 4)
def unbondR (b : Bk) (n : Int) : Bk × Int := mv b 4 5 n
def payR (b : Bk) (d n : Int) : Bk × Int := if 0 ≤ d ∧ d < 4 then mv b 5 d.toNat n else (b, 4)
def burnR (b : Bk) (x y : Int) : Bk × Int :=
  if (mv b 4 6 x).2 = 0 then if (mv (mv b 4 6 x).1 5 6 y).2 = 0 then ((mv (mv b 4 6 x).1 5 6 y).1, 0) else (b, (mv (mv b 4 6 x).1 5 6 y).2) else (b, (mv b 4 6 x).2)
end Go.Proofs.Ytfajfebpchfkoae
