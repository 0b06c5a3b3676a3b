/- Parts of the proof: CO. -/
import Derived.Test.YtnamphhchecaeaaGreatRows
import Derived.Test.YtnamphhchecaeaaGreatAK16
import Derived.ProofKit
import Derived.Deep.SlicePairs
set_option maxRecDepth 100000
namespace Go.Proofs.YtnamphhchecaeaaGreat.Cd
open Go.ChangeShapes Go.WideShapes Go.ChangeAt Go.RowKit Go.Deep

/-- the two lists of a packet lie in memory -/
structure Lies (w : World) (S : List (Int × Int)) (D : List Int) (sa da : Option Addr) (sb so db dO : Nat) : Prop where
  hls : S.length ≤ maxLen
  hld : D.length ≤ maxLen
  hsa : 0 < S.length → sa = some ⟨sb, so, none⟩
  hda : 0 < D.length → da = some ⟨db, dO, none⟩
  PS : PwsAt w sb so S
  PD : IntsAt w db dO D
theorem Lies.later {w w' : World} {S : List (Int × Int)} {D : List Int} {sa da : Option Addr} {sb so db dO : Nat} (h : Lies w S D sa da sb so db dO) (hb : Below w.heap.size w w') : Lies w' S D sa da sb so db dO :=
  ⟨h.hls, h.hld, h.hsa, h.hda, h.PS.later hb, h.PD.later hb⟩

section
variable {H : Type} {enc : TypeId × Value → H} {W : World}
end
end Go.Proofs.YtnamphhchecaeaaGreat.Cd

