/- Parts of the proof: SJ3. -/
import Derived.Test.YtnamphhchecaeaaGreatRows
import Derived.Test.YtnamphhchecaeaaGreatAK37
set_option maxRecDepth 100000
namespace Go.Proofs.YtnamphhchecaeaaGreat
open Go.RowKit
/-- a stake is loaded -/
def loadS (v : Value) : Sem Value := Instr.loadAt 41 v
theorem loadS_eq (v : Value) : Instr.loadAt 41 v = loadS v := rfl
theorem SAt.loadS {w : World} {b : Nat} {cs : Array Value} (h : SAt w b cs) (hs : cs.size = 63) : (loadS (.pointer (some ⟨b, 0, none⟩))).run Tryz.prog w = .ok (.agg cs) w := h.load hs
end Go.Proofs.YtnamphhchecaeaaGreat

