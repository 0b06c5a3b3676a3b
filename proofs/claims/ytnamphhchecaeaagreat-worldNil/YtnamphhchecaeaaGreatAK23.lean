/- Parts of the proof: PV7. -/
import Derived.Test.YtnamphhchecaeaaGreatRows
import Derived.Test.YtnamphhchecaeaaGreatAK21
import Derived.Test.YtnamphhchecaeaaGreatAK22
import Derived.Deep.RegionHeld3
import Derived.Deep.DeepCutAuto
set_option maxRecDepth 100000
namespace Go.Proofs.YtnamphhchecaeaaGreat.Pv
open Go.RowKit
/-- a link's four lists, copied -/
structure Lk4 (B : Nat) (w : World) (x : Lk) (T D S U : Value) : Prop where
  told : Rep (fun b => B ≤ b) w T 2 16 (pwC x.told)
  done : Rep (fun b => B ≤ b) w D 1 8 (inC x.done)
  said : Rep (fun b => B ≤ b) w S 1 16 (txC x.out.S)
  due : Rep (fun b => B ≤ b) w U 1 8 (inC x.out.D)
end Go.Proofs.YtnamphhchecaeaaGreat.Pv

