/- sharesGood. -/
import Derived.Test.YtfajfebpchfkoaeSC
set_option maxRecDepth 100000
namespace Go.Proofs.Ytfajfebpchfkoae
open Go.RowKit
theorem wrap64_in {n : Int} (h0 : -9223372036854775808 ≤ n) (h1 : n < 9223372036854775808) : wrap64 n = n := by
  unfold wrap64
  omega
theorem psh_bound {S : Nat → Nat → Int} {v : Nat} : ∀ j, pshOk S v j = true → 0 ≤ psh S v j ∧ psh S v j ≤ 1125899906842624 * (j : Int)
  | 0, _ => by simp [psh]
  | j + 1, h => by
    simp only [pshOk, Bool.and_eq_true, inA_iff] at h
    have h1 := psh_bound j h.1
    have h2 := h.2
    simp only [psh]
    omega
theorem shOk_false {S : Nat → Nat → Int} {v j : Nat} {x : Int} (hj : j < 4) (hin : inA (S j v) = false) : shOk S v x = false := by
  unfold shOk
  rcases (show j = 0 ∨ j = 1 ∨ j = 2 ∨ j = 3 by omega) with rfl | rfl | rfl | rfl <;> simp [pshOk, hin]
theorem shOk_dec {S : Nat → Nat → Int} {v : Nat} {x : Int} (h : pshOk S v 4 = true) : shOk S v x = decide (psh S v 4 = x) := by
  unfold shOk
  rw [h, Bool.true_and]
set_option maxHeartbeats 1000000 in
theorem sharesGood_any (s : St) (sl : Value) (b v : Nat) (hv : v < 6) (w : World) (h : SAt w b (stC s sl)) :
    Calls Try.prog 47 #[.pointer (some ⟨b, 0, none⟩), .int .i64 (v : Int)] w fun e w' => e = .returned (.bool (shOk s.S v (s.V v).sh)) ∧ w = w' := by
  have HS : Hid (SAt w b (stC s sl)) := h
  have hv' : (v : Int) < 6 := by omega
  obtain ⟨_, hsh, _⟩ := h.val v hv
  clear h
  go_enter Try.func47, Try.ntmps47
  go_wp2
  go_loop [5, 8] (fun s5 i => ∃ (j : Nat), j ≤ 4 ∧ i = .int .i64 (j : Int) ∧ s5 = .int .i64 (psh s.S v j) ∧ Hid (pshOk s.S v j = true)) (fun _ i => (4 - intOf i).toNat)
  case atStart => exact ⟨0, by omega, rfl, rfl, rfl⟩
  case round =>
    obtain ⟨j, hj, rfl, rfl, HR⟩ := hrel
    by_cases hlt : j < 4
    · have hlt' : (j : Int) < 4 := by omega
      have hc := HS.out.shr j v hlt hv
      have i1 := inA_any (s.S j v)
      have hpb := psh_bound j HR.out
      by_cases hin : inA (s.S j v) = true
      · rw [hin] at i1
        have HR2 : Hid (pshOk s.S v (j + 1) = true) := by show (pshOk s.S v j && inA (s.S j v)) = true; rw [HR.out, hin]; rfl
        rw [inA_iff] at hin
        have hps : psh s.S v (j + 1) = psh s.S v j + s.S j v := rfl
        have HP : Hid (psh s.S v (j + 1) = psh s.S v j + s.S j v) := hps
        clear hps
        go_wp2_with (go_at_call 76; refine (i1 _).mono ?_; rintro e w5 ⟨rfl, rfl⟩)
        go_round
        case rel => exact ⟨j + 1, by omega, by go_num, by rw [HP.out], HR2.out⟩
        case measure => simp [intOf]; omega
      · simp only [Bool.not_eq_true] at hin
        rw [hin] at i1
        have HF : Hid (shOk s.S v (s.V v).sh = false) := shOk_false hlt hin
        clear hin
        go_wp2_with (go_at_call 76; refine (i1 _).mono ?_; rintro e w5 ⟨rfl, rfl⟩)
        go_ret
        exact ⟨by rw [HF.out]; rfl, rfl⟩
    · obtain rfl : j = 4 := by omega
      have HF : Hid (shOk s.S v (s.V v).sh = decide (psh s.S v 4 = (s.V v).sh)) := shOk_dec HR.out
      go_wp2
      go_ret
      exact ⟨by rw [HF.out]; congr 1, rfl⟩
end Go.Proofs.Ytfajfebpchfkoae
