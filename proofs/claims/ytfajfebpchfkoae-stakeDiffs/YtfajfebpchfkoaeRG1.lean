/- The other functions: the reference's MulDiv, In, Part, divides. -/
import Derived.Test.YtfajfebpchfkoaeRE
set_option maxRecDepth 100000
namespace Go.Proofs.Ytfajfebpchfkoae.Ra
open Go.RowKit

/-- Whether a number is an amount. -/
def inB (n : Int) : Bool := decide (0 ≤ n) && decide (n ≤ 1125899906842624)
theorem inB_true {n : Int} (h0 : 0 ≤ n) (h1 : n ≤ 1125899906842624) : inB n = true := by simp [inB, h0, h1]
theorem inB_low {n : Int} (h : ¬ 0 ≤ n) : inB n = false := by simp [inB, h]
theorem inB_high {n : Int} (h : ¬ n ≤ 1125899906842624) : inB n = false := by simp [inB, h]
theorem inB_iff {n : Int} : inB n = true ↔ 0 ≤ n ∧ n ≤ 1125899906842624 := by simp [inB]

theorem in10 (n : Int) (w : World) : Calls Try.prog 76 #[.int .i64 n] w fun e w' => e = .returned (.bool (inB n)) ∧ w' = w := by
  by_cases h0 : 0 ≤ n
  · by_cases h1 : n ≤ 1125899906842624
    · rw [inB_true h0 h1]
      go_enter Try.func76, Try.ntmps76
      go_wp2
      go_ret
      exact ⟨rfl, rfl⟩
    · rw [inB_high h1]
      go_enter Try.func76, Try.ntmps76
      go_wp2
      go_ret
      exact ⟨rfl, rfl⟩
  · rw [inB_low h0]
    go_enter Try.func76, Try.ntmps76
    go_wp2
    go_ret
    exact ⟨rfl, rfl⟩
/-- What Part answers. -/
def ptN (n f : Int) : Int := if inB n = true ∧ 0 ≤ f ∧ f ≤ 1000 then n * f / 1000 else 0
def ptE (n f : Int) : Int := if inB n = true ∧ 0 ≤ f ∧ f ≤ 1000 then 0 else 2
theorem pt_good {n f : Int} (h : inB n = true ∧ 0 ≤ f ∧ f ≤ 1000) : ptN n f = n * f / 1000 ∧ ptE n f = 0 := by unfold ptN ptE; rw [if_pos h, if_pos h]; exact ⟨rfl, rfl⟩
theorem pt_bad {n f : Int} (h : ¬ (inB n = true ∧ 0 ≤ f ∧ f ≤ 1000)) : ptN n f = 0 ∧ ptE n f = 2 := by unfold ptN ptE; rw [if_neg h, if_neg h]; exact ⟨rfl, rfl⟩
theorem pt_le {n f : Int} (h0 : 0 ≤ n) (f0 : 0 ≤ f) (f1 : f ≤ 1000) : 0 ≤ n * f / 1000 ∧ n * f / 1000 ≤ n := by
  have h1 : 0 ≤ n * f := Int.mul_nonneg h0 f0
  have h2 := Int.mul_le_mul_of_nonneg_left f1 h0
  omega
theorem pt_split {n f : Int} : n / 1000 * f + n % 1000 * f / 1000 = n * f / 1000 := by
  have e : n * f = n % 1000 * f + n / 1000 * f * 1000 := by
    have := Int.mul_ediv_add_emod n 1000
    have e2 : (1000 * (n / 1000) + n % 1000) * f = n * f := by rw [this]
    rw [Int.add_mul, Int.mul_assoc] at e2
    omega
  rw [e, Int.add_mul_ediv_right _ _ (by decide)]
  omega

theorem part_key {n f : Int} (n0 : 0 ≤ n) (n1 : n ≤ 1125899906842624) (f0 : 0 ≤ f) (f1 : f ≤ 1000) : wrap64 (wrap64 (n / 1000 * f) + wrap64 ((wrap64 (n % 1000 * f)).tdiv 1000)) = n * f / 1000 := by
  have a0 : 0 ≤ n / 1000 * f := Int.mul_nonneg (by omega) f0
  have a1 := Int.mul_le_mul_of_nonneg_left f1 (show 0 ≤ n / 1000 by omega)
  have b0 : 0 ≤ n % 1000 * f := Int.mul_nonneg (by omega) f0
  have b1 := Int.mul_le_mul_of_nonneg_left f1 (show 0 ≤ n % 1000 by omega)
  rw [← pt_split]
  generalize n / 1000 * f = A at *
  generalize n % 1000 * f = B at *
  have e1 : wrap64 A = A := by unfold wrap64; omega
  have e2 : wrap64 B = B := by unfold wrap64; omega
  rw [e1, e2, Int.tdiv_eq_ediv_of_nonneg b0]
  unfold wrap64
  omega

theorem part13 (n f : Int) (w : World) : Calls Try.prog 68 #[.int .i64 n, .int .i64 f] w fun e w' => e = .returned (.tuple #[.int .i64 (ptN n f), .int .i64 (ptE n f)]) ∧ Below w.heap.size w w' := by
  have ci := in10 n
  by_cases hi : inB n = true
  · obtain ⟨n0, n1⟩ := inB_iff.1 hi
    by_cases f0 : f < 0
    · obtain ⟨e1, e2⟩ := pt_bad (n := n) (f := f) (by omega)
      rw [e1, e2]
      rw [hi] at ci
      clear e1 e2 hi
      go_enter Try.func68, Try.ntmps68
      go_wp2_with (go_at_call 76; refine (ci _).mono ?_; rintro e w' ⟨rfl, rfl⟩)
      go_ret2
      exact ⟨rfl, ⟨rfl, rfl, rfl, Nat.le_refl _, fun _ _ => rfl⟩⟩
    · by_cases f1 : 1000 < f
      · obtain ⟨e1, e2⟩ := pt_bad (n := n) (f := f) (by omega)
        rw [e1, e2]
        rw [hi] at ci
        clear e1 e2 hi
        go_enter Try.func68, Try.ntmps68
        go_wp2_with (go_at_call 76; refine (ci _).mono ?_; rintro e w' ⟨rfl, rfl⟩)
        go_ret2
        exact ⟨rfl, ⟨rfl, rfl, rfl, Nat.le_refl _, fun _ _ => rfl⟩⟩
      · obtain ⟨e1, e2⟩ := pt_good (n := n) (f := f) ⟨hi, by omega, by omega⟩
        have cm := muldiv n f 1000 (by omega) (by omega) (by omega)
        have hl := pt_le (n := n) (f := f) n0 (by omega) (by omega)
        obtain ⟨e3, e4⟩ := md_good (a := n) (b := f) (c := 1000) n0 (by omega) (by omega) (by omega)
        rw [e3, e4] at cm
        rw [e1, e2]
        rw [hi] at ci
        generalize n * f / 1000 = x at *
        clear e1 e2 e3 e4 hi
        go_enter Try.func68, Try.ntmps68
        go_wp2_with (first | (go_at_call 76; refine (ci _).mono ?_; rintro e w' ⟨rfl, rfl⟩) | (go_at_call 81; refine (cm _).mono ?_; rintro e w' ⟨rfl, hg⟩))
        go_ret2
        exact ⟨rfl, hg⟩
  · obtain ⟨e1, e2⟩ := pt_bad (n := n) (f := f) (by simp [hi])
    rw [e1, e2]
    have hi' : inB n = false := by simpa using hi
    rw [hi'] at ci
    clear e1 e2 hi hi'
    go_enter Try.func68, Try.ntmps68
    go_wp2_with (go_at_call 76; refine (ci _).mono ?_; rintro e w' ⟨rfl, rfl⟩)
    go_ret2
    exact ⟨rfl, ⟨rfl, rfl, rfl, Nat.le_refl _, fun _ _ => rfl⟩⟩

end Go.Proofs.Ytfajfebpchfkoae.Ra
