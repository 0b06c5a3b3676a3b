/- The arithmetic of the two shifts ahead of a division of 128 bits by 64. -/
import Derived.Test.YtfajfebpchfkoaeRM
import Derived.Laws.MathBits
import Derived.Laws.Bits64b
set_option maxRecDepth 100000
namespace Go.Proofs.Ytfajfebpchfkoae.Ra

theorem lead_norm (y : Nat) (hy0 : 0 < y) (hy : y < 9223372036854775808) : ∃ s : Nat, bitLen y + s = 64 ∧ 1 ≤ s ∧ s ≤ 63 ∧ 9223372036854775808 ≤ y * 2 ^ s ∧ y * 2 ^ s < 18446744073709551616 := by
  obtain ⟨h1, h2⟩ := bitLen_spec y
  have h2 := h2 (by omega)
  have hb0 : bitLen y ≠ 0 := by intro h; rw [h] at h1; omega
  have hb : bitLen y ≤ 63 := by
    apply Decidable.byContradiction
    intro h
    have : 2 ^ 63 ≤ 2 ^ (bitLen y - 1) := Nat.pow_le_pow_right (by decide) (by omega)
    omega
  refine ⟨64 - bitLen y, by omega, by omega, by omega, ?_, ?_⟩
  · have e : 2 ^ (bitLen y - 1) * 2 ^ (64 - bitLen y) = 2 ^ 63 := by rw [← Nat.pow_add]; congr 1; omega
    have := Nat.mul_le_mul_right (2 ^ (64 - bitLen y)) h2
    omega
  · have e : 2 ^ bitLen y * 2 ^ (64 - bitLen y) = 2 ^ 64 := by rw [← Nat.pow_add]; congr 1; omega
    have := Nat.mul_lt_mul_of_pos_right h1 (Nat.two_pow_pos (64 - bitLen y))
    omega

/-- The two shifted words, put together. -/
theorem shift_pair (hi lo y s : Nat) (hs : 1 ≤ s) (hs2 : s ≤ 63) (h : hi < y) (hl : lo < 18446744073709551616) (hY : y * 2 ^ s < 18446744073709551616) :
    (hi * 18446744073709551616 + lo) * 2 ^ s = (hi * 2 ^ s + lo / 2 ^ (64 - s)) * 18446744073709551616 + lo * 2 ^ s % 18446744073709551616 ∧ hi * 2 ^ s + lo / 2 ^ (64 - s) < y * 2 ^ s ∧
    hi * 2 ^ s < 18446744073709551616 ∧ lo / 2 ^ (64 - s) < 2 ^ s := by
  have ep : 2 ^ (64 - s) * 2 ^ s = 18446744073709551616 := by rw [← Nat.pow_add, show 64 - s + s = 64 by omega]
  have e1 : lo * 2 ^ s / 18446744073709551616 = lo / 2 ^ (64 - s) := by rw [← ep]; exact Nat.mul_div_mul_right lo (2 ^ (64 - s)) (Nat.two_pow_pos s)
  have e2 := Nat.div_add_mod (lo * 2 ^ s) 18446744073709551616
  rw [e1] at e2
  have e : (hi * 18446744073709551616 + lo) * 2 ^ s = (hi * 2 ^ s + lo / 2 ^ (64 - s)) * 18446744073709551616 + lo * 2 ^ s % 18446744073709551616 := by
    rw [Nat.add_mul, Nat.add_mul, Nat.mul_right_comm]
    generalize hi * 2 ^ s = a
    generalize lo * 2 ^ s = b at *
    omega
  have b1 : hi * 18446744073709551616 + lo < y * 18446744073709551616 := by omega
  have b2 := Nat.mul_lt_mul_of_pos_right b1 (Nat.two_pow_pos s)
  rw [e, Nat.mul_right_comm] at b2
  have b3 : lo / 2 ^ (64 - s) < 2 ^ s := by rw [Nat.div_lt_iff_lt_mul (Nat.two_pow_pos _), Nat.mul_comm, ep]; exact hl
  refine ⟨e, ?_, ?_, b3⟩
  · generalize y * 2 ^ s = Y at *
    generalize hi * 2 ^ s + lo / 2 ^ (64 - s) = u at *
    omega
  · have := Nat.mul_le_mul_right (2 ^ s) (Nat.le_of_lt h)
    omega

/-- Or, of a word whose low bits are nought and one of these bits. -/
theorem or_join (a b s : Nat) (ha : a * 2 ^ s < 18446744073709551616) (hb : b < 2 ^ s) (hb2 : b < 18446744073709551616) : bits .or .u64 ((a * 2 ^ s : Nat) : Int) (b : Int) = ((a * 2 ^ s + b : Nat) : Int) := by
  rw [bits_or_u64_nat _ _ ha hb2, Nat.mul_comm a, Nat.two_pow_add_eq_or_of_lt hb]

end Go.Proofs.Ytfajfebpchfkoae.Ra
