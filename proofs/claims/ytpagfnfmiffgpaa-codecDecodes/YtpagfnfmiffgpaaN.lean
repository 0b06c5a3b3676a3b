/- Encode in one contract; when the bytes of two right packets are alike; strings held against each other. -/
import Derived.Test.YtpagfnfmiffgpaaF
import Derived.Test.YtpagfnfmiffgpaaM
import Derived.Test.YtpagfnfmiffgpaaO
namespace Go.Proofs.Ytpagfnfmiffgpaa
open Go.RowKit
/-- Encode, in one: its bytes, or none -/
def encS (k i v n : Int) (S : List (Int × Int)) (D : List Int) : ByteArray := if goodN k i v n S D = 0 then strOfNums (enc k i v n S D) else ⟨#[]⟩
theorem encode_any (k i v n : Int) (S : List (Int × Int)) (D : List Int) (sa da : Option Addr) (cs cd sb so db dO : Nat) (w : World) (L : Lies w S D sa da sb so db dO) :
    Calls Try.prog 9 #[.agg #[.int .i64 k, .int .i64 i, .int .i64 v, .int .i64 n, .slice sa S.length cs, .slice da D.length cd]] w fun e w' => e = .returned (.tuple #[.string (encS k i v n S D), .int .i64 (goodN k i v n S D)]) ∧ Below w.heap.size w w' := by
  by_cases h : goodN k i v n S D = 0
  · rw [encS, if_pos h, h]; exact encode_ok k i v n S D sa da cs cd sb so db dO w L.hls L.hld L.hsa L.hda L.PS L.PD h
  · rw [encS, if_neg h]; exact encode_bad k i v n S D sa da cs cd sb so db dO w L.hls L.hld L.hsa L.hda L.PS L.PD h
theorem encS_inj {k i v n k' i' v' n' : Int} {S S' : List (Int × Int)} {D D' : List Int} (h : goodN k i v n S D = 0) (h' : goodN k' i' v' n' S' D' = 0) :
    encS k i v n S D = encS k' i' v' n' S' D' ↔ (k = k' ∧ i = i' ∧ v = v' ∧ n = n' ∧ S = S' ∧ D = D') := by
  constructor
  · intro he
    rw [encS, encS, if_pos h, if_pos h'] at he
    exact enc_inj h h' (strOfNums_inj (enc_byte _ _ _ _ _ _) (enc_byte _ _ _ _ _ _) he)
  · rintro ⟨rfl, rfl, rfl, rfl, rfl, rfl⟩; rfl
theorem str_ne {a b : ByteArray} (h : a ≠ b) : (a.toList == b.toList) = false := by
  rw [ByteArray.toList_eq, ByteArray.toList_eq]
  simpa using fun h2 : a.data.toList = b.data.toList => h (WideShapes.bytes_inj h2)
end Go.Proofs.Ytpagfnfmiffgpaa
