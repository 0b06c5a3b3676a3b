/- 'lines': does line answer at all? -/
import Derived.Test.YtpocbkgkgpflaaaLE
set_option maxRecDepth 100000
namespace Go.Proofs.Ytpocbkgkgpflaaa.Ln
open Go.RowKit
def nilL : Line := ⟨[], [], 0, false⟩
theorem nil_at (w : World) : LAt w nilL none none 0 0 0 0 0 0 := ⟨by simp [nilL], by simp [nilL], by simp [nilL], by simp [nilL], fun _ => rfl, fun _ => rfl, fun i hi => by simp [nilL] at hi, fun i hi => by simp [nilL] at hi⟩
theorem say_nil (s : ByteArray) : (sayL nilL s 5, sayE nilL 5) = (⟨[s], [5], 0, false⟩, 0) := by
  have : sayE nilL 5 = 0 := by decide
  unfold sayL
  rw [if_pos this, this]
  rfl
theorem one_good (s : ByteArray) : goodL ⟨[s], [5], 0, false⟩ = true := by simp [goodL, nonneg]
set_option maxHeartbeats 1000000 in
theorem llines_any (w : World) : Calls Try.prog 14 #[] w fun e w' => e = .returned (.bool true) ∧ Below w.heap.size w w' := by
  have HS : Hid (∀ s w, Calls Try.prog 9 #[.agg #[.slice none 0 0, .slice none 0 0, .int .i64 0, .bool false], .string s, .int .i64 5] w fun e w' => Ans 0 0 nilL w (⟨[s], [5], 0, false⟩, 0) e w') := fun s w => by
    rw [← say_nil s]
    exact say_any nilL none none 0 0 0 0 0 0 s 5 w (nil_at w)
  go_enter Try.func14, Try.ntmps14
  go_wp2_with (first
    | (go_at_call 9; refine (HS.out _ _).mono ?_; rintro e w1 ⟨v, rfl, ⟨sa, da, cs, cd, sb, so, db, dO, rfl, L, -, -⟩, hb⟩; have HL := hide L; have HB := hide hb; clear L hb)
    | (go_at_call 12; refine (good_any ⟨_, [5], 0, false⟩ sa da cs cd sb so db dO _ (HL.out.later (below_new _ _))).mono ?_; rintro e w2 ⟨rfl, hb2⟩; rw [one_good]))
  go_ret
  exact ⟨rfl, below_then HB.out (below_step hb2)⟩
set_option maxHeartbeats 1000000 in
theorem klines_any (w : World) : Calls Try.prog 19 #[] w fun e w' => e = .returned (.bool true) ∧ Below w.heap.size w w' := by
  have HS : Hid (∀ s w, Calls Try.prog 9 #[.agg #[.slice none 0 0, .slice none 0 0, .int .i64 0, .bool false], .string s, .int .i64 5] w fun e w' => Ans 0 0 nilL w (⟨[s], [5], 0, false⟩, 0) e w') := fun s w => by
    rw [← say_nil s]
    exact say_any nilL none none 0 0 0 0 0 0 s 5 w (nil_at w)
  go_enter Try.func19, Try.ntmps19
  go_wp2_with (first
    | (go_at_call 9; refine (HS.out _ _).mono ?_; rintro e w1 ⟨v, rfl, ⟨sa, da, cs, cd, sb, so, db, dO, rfl, L, -, -⟩, hb⟩; have HL := hide L; have HB := hide hb; clear L hb)
    | (go_at_call 12; refine (good_any ⟨_, [5], 0, false⟩ sa da cs cd sb so db dO _ (HL.out.later (below_new _ _))).mono ?_; rintro e w2 ⟨rfl, hb2⟩; rw [one_good]))
  go_ret
  exact ⟨rfl, below_then HB.out (below_step hb2)⟩
end Go.Proofs.Ytpocbkgkgpflaaa.Ln
