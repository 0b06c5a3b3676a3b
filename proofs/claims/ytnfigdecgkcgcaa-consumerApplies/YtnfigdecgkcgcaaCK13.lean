/- Parts of the proof: CN. -/
import Derived.Test.YtnfigdecgkcgcaaRows
import Derived.Test.YtnfigdecgkcgcaaCK3
import Derived.Test.YtnfigdecgkcgcaaCK4
import Derived.Test.YtnfigdecgkcgcaaCK10
set_option maxRecDepth 100000
namespace Go.Proofs.Ytnfigdecgkcgcaa.Cd
open Go.RowKit
/-- Encode, in one: its bytes, or none -/
def encS (k i v n : Int) (S : List (Int × Int)) (D : List Int) : ByteArray := if goodN k i v n S D = 0 then strOfNums (enc k i v n S D) else ⟨#[]⟩
theorem encode_any (k i v n : Int) (S : List (Int × Int)) (D : List Int) (sa da : Option Addr) (cs cd sb so db dO : Nat) (w : World) (L : Lies w S D sa da sb so db dO) :
    Calls Try.prog 30 #[.agg #[.int .i64 k, .int .i64 i, .int .i64 v, .int .i64 n, .slice sa S.length cs, .slice da D.length cd]] w fun e w' => e = .returned (.tuple #[.string (encS k i v n S D), .int .i64 (goodN k i v n S D)]) ∧ Below w.heap.size w w' := by
  by_cases h : goodN k i v n S D = 0
  · rw [encS, if_pos h, h]; exact encode_ok k i v n S D sa da cs cd sb so db dO w L.hls L.hld L.hsa L.hda L.PS L.PD h
  · rw [encS, if_neg h]; exact encode_bad k i v n S D sa da cs cd sb so db dO w L.hls L.hld L.hsa L.hda L.PS L.PD h
end Go.Proofs.Ytnfigdecgkcgcaa.Cd

