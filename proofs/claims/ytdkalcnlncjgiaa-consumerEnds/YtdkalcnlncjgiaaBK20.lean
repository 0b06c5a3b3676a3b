/- Parts of the proof: CR. -/
import Derived.Test.YtdkalcnlncjgiaaRows
import Derived.Test.YtdkalcnlncjgiaaBK51
set_option maxRecDepth 100000
namespace Go.Proofs.Ytdkalcnlncjgiaa.Cd
open Go.RowKit
theorem conv_one (w : World) (b : Int) (g : Nat) (hg : g = w.heap.size) : (convert 84 9 (.slice (some ⟨g, 0, none⟩) 1 1)).run Try.prog (w.alloc (.cells #[.int .u8 b] 5)) = .ok (.string (strOfNums [b])) (w.alloc (.cells #[.int .u8 b] 5)) := by
  subst hg
  refine run_convert_bytes_arg (P := Try.prog) _ 84 5 Try.underlying84 Try.underlying5 w.heap.size 0 1 1 [b] rfl (fun j hj => ?_) 9 Try.underlying9
  have : j = 0 := by omega
  subst this
  simp [World.cell?_alloc_at]
theorem str_append (a b : List Int) : strOfNums a ++ strOfNums b = strOfNums (a ++ b) := by
  apply WideShapes.bytes_inj
  rw [ByteArray.data_append]
  simp [strOfNums_data]
theorem ediv_step (v : Int) (j : Nat) : v / 2 ^ (8 * j) / 256 = v / 2 ^ (8 * (j + 1)) := by
  rw [pow_succ8, Int.ediv_ediv_of_nonneg (Int.le_of_lt (pow_pos8 j))]
set_option maxHeartbeats 400000 in
theorem bytesOf_any (v : Int) (n : Nat) (w : World) (hv : 0 ≤ v) (hv2 : v ≤ 9223372036854775807) (hn : n ≤ 7) :
    Calls Try.prog 51 #[.int .i64 v, .int .i64 n] w fun e w' => e = .returned (.string (strOfNums (be v n))) ∧ Below w.heap.size w w' := by
  have hcv := conv_one
  go_enter Try.func51, Try.ntmps51
  go_wp2
  go_loopw [0, 1, 5] (fun x c s wl => ∃ (j : Nat), j ≤ n ∧ x = .int .i64 (v / 2 ^ (8 * j)) ∧ c = .int .i64 ((n : Int) - j) ∧ s = .string (strOfNums (be v j)) ∧ Hid (Below w.heap.size w wl)) (fun _ c _ _ => (intOf c).toNat)
  case atStart => exact ⟨0, Nat.zero_le _, by simp, by simp, rfl, Below.refl _ _⟩
  case round =>
    obtain ⟨j, hj, rfl, rfl, rfl, HB⟩ := hrel
    have hd1 : 0 ≤ v / 2 ^ (8 * j) := Int.ediv_nonneg hv (Int.le_of_lt (pow_pos8 j))
    have hd2 : v / 2 ^ (8 * j) ≤ 9223372036854775807 := Int.le_trans (Int.ediv_le_self _ hv) hv2
    have HS : Hid (v / 2 ^ (8 * j) / 256 = v / 2 ^ (8 * (j + 1))) := ediv_step v j
    have hszl : (strOfNums (be v j)).size ≤ 7 := by rw [strOfNums_size, be_length]; omega
    have hbe : Hid (be v (j + 1) = v / 2 ^ (8 * j) % 256 :: be v j) := rfl
    generalize v / 2 ^ (8 * j) = q at *
    by_cases hlt : j < n
    · have h0 : (0 : Int) < (n : Int) - j := by omega
      have h1 : (strOfNums [q % 256]).size ≤ 1 := by rw [strOfNums_size]; simp
      go_wp2
      go_roundw
      case rel => exact ⟨j + 1, by omega, by rw [HS.out], by go_num, by rw [str_append, hbe.out]; rfl, HB.out.alloc HB.out.size _⟩
      case measure => simp [intOf]; omega
    · have hjn : j = n := by omega
      subst hjn
      go_wp2
      go_ret
      exact ⟨rfl, HB.out⟩
end Go.Proofs.Ytdkalcnlncjgiaa.Cd

