/- Parts of the proof: KI0. -/
import Derived.Test.YtnfigdecgkcgcaaRows
import Derived.Test.YtnfigdecgkcgcaaCK22
set_option maxRecDepth 100000
namespace Go.Proofs.Ytnfigdecgkcgcaa.Kc
open Go.RowKit Pv
theorem bs_encS {k i v n : Int} {S : List (Int × Int)} {D : List Int} (h : Cd.goodN k i v n S D = 0) : Cd.bs (Cd.encS k i v n S D) = Cd.enc k i v n S D := by
  rw [Cd.encS, if_pos h]
  show ((Cd.enc k i v n S D).map (fun n => UInt8.ofNat n.toNat)).map (fun u => (u.toNat : Int)) = _
  rw [List.map_map]
  conv => rhs; rw [← List.map_id (Cd.enc k i v n S D)]
  refine List.map_congr_left fun c hc => ?_
  have := Cd.enc_byte _ _ _ _ _ _ c hc
  simp only [Function.comp, id, UInt8.toNat_ofNat']
  omega
theorem dec_encS {k i v n : Int} {S : List (Int × Int)} {D : List Int} (h : Cd.goodN k i v n S D = 0) : Cd.decE (Cd.bs (Cd.encS k i v n S D)) = 0 ∧ Cd.decP (Cd.bs (Cd.encS k i v n S D)) = (k, i, v, n, S, D) := by
  rw [bs_encS h]
  exact Cd.dec_enc h
theorem encS_size {k i v n : Int} {S : List (Int × Int)} {D : List Int} (h : Cd.goodN k i v n S D = 0) : (Cd.encS k i v n S D).size = 17 + 8 * S.length + D.length := by
  rw [← Cd.bs_length, bs_encS h, Cd.enc_length]
theorem pktOf_encS {k i v n : Int} {S : List (Int × Int)} {D : List Int} (h : Cd.goodN k i v n S D = 0) : pktOf (Cd.bs (Cd.encS k i v n S D)) = ⟨k, i, v, n, S, D⟩ := by
  unfold pktOf
  rw [(dec_encS h).2]
theorem ref_of {c : Cs} (h : goodC c = true) (h2 : c.on = true) : refC c = 0 := by unfold refC; rw [if_pos h, if_pos h2]
end Go.Proofs.Ytnfigdecgkcgcaa.Kc

