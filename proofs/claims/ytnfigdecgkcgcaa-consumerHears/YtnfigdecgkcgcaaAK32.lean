/- Parts of the proof: CH. -/
import Derived.Test.YtnfigdecgkcgcaaRows
import Derived.Test.YtnfigdecgkcgcaaAK49
import Derived.Laws.IdiomStrings
set_option maxRecDepth 100000
namespace Go.Proofs.Ytnfigdecgkcgcaa.Cd
open Go.RowKit
theorem conv_bytes (s : ByteArray) (w : World) : ∃ cap w1, (convert 9 89 (.string s)).run Try.prog w = .ok (.slice (some ⟨w.heap.size, 0, none⟩) s.size cap) w1 ∧ Below w.heap.size w w1 ∧ ∀ j, j < s.size → w1.cell? ⟨w.heap.size, j, none⟩ = some (.int .u8 ((bs s).getD j 0)) := by
  refine ⟨_, _, run_bytes_of_string (P := Try.prog) w 9 89 5 s Try.underlying9 Try.underlying89 Try.underlying5, (Below.refl _ _).drew.alloc (Nat.le_refl _) _, fun j hj => ?_⟩
  have h1 := World.cell?_alloc_mark w.drew (bytesRow s (grownCap w s.size 0 5)) 5 ((bytesRow s (grownCap w s.size 0 5)).size, (bytesRow s (grownCap w s.size 0 5)).size + 1) j
  have h2 := bytesRow_at s (grownCap w s.size 0 5) j hj
  rw [bs_get s j hj]
  exact h1.trans h2
set_option maxHeartbeats 400000 in
theorem numberOf_any (s : ByteArray) (w : World) (hs : s.size ≤ 7) :
    Calls Try.prog 65 #[.string s] w fun e w' => e = .returned (.int .i64 (numF 0 (bs s))) ∧ Below w.heap.size w w' := by
  obtain ⟨cap, w1, hcv, hb1, hc⟩ := conv_bytes s w
  have HB : Hid (Below w.heap.size w w1) := hb1
  have HC : Hid _ := hc
  clear hb1 hc
  go_enter Try.func65, Try.ntmps65
  go_wp2
  clear hcv
  go_loop [3, 9] (fun n i => ∃ j : Nat, j ≤ s.size ∧ i = .int .i64 j ∧ n = .int .i64 (numF 0 ((bs s).take j))) (fun _ i => s.size - (intOf i).toNat)
  case atStart => exact ⟨0, Nat.zero_le _, rfl, by simp [numF]⟩
  case round =>
    obtain ⟨j, hj, rfl, rfl⟩ := hrel
    by_cases h : j < s.size
    · have hbd := numF_bound ((bs s).take j) 0 0 (fun c hc => bs_byte s c (List.mem_of_mem_take hc)) (by omega) (by omega)
      have hlj : ((bs s).take j).length = j := by rw [List.length_take, bs_length]; omega
      rw [hlj, Nat.zero_add] at hbd
      have hb1 : 0 ≤ numF 0 ((bs s).take j) := hbd.1
      have hb2 : numF 0 ((bs s).take j) < 281474976710656 := by
        have hp : (2 : Int) ^ (8 * j) ≤ 281474976710656 := pow_le6 (by omega)
        have := hbd.2
        omega
      have HN := numF_take (bs s) j (by rw [bs_length]; exact h)
      have hcell := HC.out j h
      have hcb := bs_byte s ((bs s).getD j 0) (by simp [List.getD, bs_length, h])
      obtain ⟨hcb1, hcb2⟩ := hcb
      have HNN : Hid _ := HN
      clear hbd hlj HN
      generalize numF 0 ((bs s).take j) = q at *
      generalize (bs s).getD j 0 = c at *
      go_wp2
      go_round
      case rel => exact ⟨j + 1, by omega, by go_num, by rw [HNN.out]; go_num⟩
      case measure => simp [intOf]; omega
    · have hjm : j = s.size := by omega
      subst hjm
      have HE : Hid (numF 0 ((bs s).take s.size) = numF 0 (bs s)) := by rw [List.take_of_length_le (by rw [bs_length]; exact Nat.le_refl _)]; rfl
      go_wp2
      go_ret
      exact ⟨by rw [← HE.out]; rfl, HB.out⟩
end Go.Proofs.Ytnfigdecgkcgcaa.Cd

