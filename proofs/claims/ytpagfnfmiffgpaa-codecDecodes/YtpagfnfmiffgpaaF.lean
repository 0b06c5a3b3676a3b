/- The walks of the two functions codes: they answer true. -/
import Derived.Test.YtpagfnfmiffgpaaD
namespace Go.Proofs.Ytpagfnfmiffgpaa
open Go.RowKit
theorem encode_one (w : World) : Calls Try.prog 9 #[.agg #[.int .i64 2, .int .i64 1, .int .i64 0, .int .i64 0, .slice none 0 0, .slice none 0 0]] w
    fun e w' => ∃ s : ByteArray, s.size = 17 ∧ e = .returned (.tuple #[.string s, .int .i64 0]) ∧ Below w.heap.size w w' :=
  (encode_ok 2 1 0 0 [] [] none none 0 0 0 0 0 0 w (by decide) (by decide) (by simp) (by simp) (fun i hi => absurd hi (by simp)) (fun i hi => absurd hi (by simp)) (by decide)).mono
    fun _ _ h => ⟨_, by rw [strOfNums_size, enc_length]; rfl, h⟩
set_option maxHeartbeats 400000 in
theorem codes18 (w : World) : Calls Try.prog 18 #[] w fun e w' => e = .returned (.bool true) ∧ Below w.heap.size w w' := by
  go_enter Try.func18, Try.ntmps18
  go_wp2_with (go_at_call 9; refine (encode_one _).mono ?_; rintro e w1 ⟨s, hs, rfl, hb⟩)
  go_ret
  exact ⟨rfl, hb⟩
set_option maxHeartbeats 400000 in
theorem codes14 (w : World) : Calls Try.prog 14 #[] w fun e w' => e = .returned (.bool true) ∧ Below w.heap.size w w' := by
  go_enter Try.func14, Try.ntmps14
  go_wp2_with (go_at_call 9; refine (encode_one _).mono ?_; rintro e w1 ⟨s, hs, rfl, hb⟩)
  go_ret
  exact ⟨rfl, hb⟩

end Go.Proofs.Ytpagfnfmiffgpaa
