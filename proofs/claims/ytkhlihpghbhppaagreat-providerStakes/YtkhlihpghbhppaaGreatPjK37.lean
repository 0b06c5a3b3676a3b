/- Parts of the proof: RM RM2 RA RD. -/
import Derived.Test.YtkhlihpghbhppaaGreatRows
import Derived.Laws.MathBits
import Derived.Laws.Bits64b
import Derived.Below
import Derived.Test.YtkhlihpghbhppaaGreatProg
import Derived.WalkKit
import Derived.ProofKit
import Derived.RowKit3
/-
  The arithmetic under MulDiv, no Go in sight: that a division of 128 bits by 64, two digits of 32 bits each (as the library's text goes), gives the quotient; and the reference's way, bit by bit.
-/
set_option maxRecDepth 100000
namespace Go.Proofs.YtkhlihpghbhppaaGreat.Ra

/-- A digit is too great just if its product is. -/
theorem digit_gt (y1 y0 u u1 q r : Int) (hy : 0 < y1 * 4294967296 + y0) (hu : q * y1 + r = u) :
    (4294967296 * r + u1 < q * y0) ↔ (u * 4294967296 + u1) / (y1 * 4294967296 + y0) < q := by
  rw [Int.ediv_lt_iff_lt_mul hy, Int.mul_add, ← Int.mul_assoc]
  generalize q * y1 = p1 at *
  generalize q * y0 = p0 at *
  omega

/-- The digit's own bound. -/
theorem digit_lt (y1 y0 u u1 : Int) (hy : 0 < y1 * 4294967296 + y0) (hu : u < y1 * 4294967296 + y0) (h1 : u1 < 4294967296) :
    (u * 4294967296 + u1) / (y1 * 4294967296 + y0) < 4294967296 := by
  rw [Int.ediv_lt_iff_lt_mul hy]
  omega

/-- The first guess is no less than the digit, and at most two more. -/
theorem digit_first (y1 y0 u u1 : Int) (h0 : 0 ≤ y0) (h0' : y0 < 4294967296) (h1 : 2147483648 ≤ y1) (hu0 : 0 ≤ u) (hu : u < y1 * 4294967296 + y0) (h1u : 0 ≤ u1) (h1u' : u1 < 4294967296) :
    (u * 4294967296 + u1) / (y1 * 4294967296 + y0) ≤ u / y1 ∧ u / y1 ≤ 4294967297 := by
  constructor
  · have e := Int.mul_ediv_add_emod u y1
    have m := Int.emod_lt_of_pos u (show 0 < y1 by omega)
    have : (u * 4294967296 + u1) / (y1 * 4294967296 + y0) < u / y1 + 1 := by
      rw [Int.ediv_lt_iff_lt_mul (by omega)]
      have q0 : 0 ≤ u / y1 := Int.ediv_nonneg hu0 (by omega)
      have : 0 ≤ (u / y1 + 1) * y0 := Int.mul_nonneg (by omega) h0
      rw [Int.mul_add, ← Int.mul_assoc, Int.add_mul (u / y1) 1 y1, Int.mul_comm (u / y1) y1]
      generalize (u / y1 + 1) * y0 = p0 at *
      generalize y1 * (u / y1) = p1 at *
      omega
    omega
  · have : u / y1 < 4294967298 := by
      rw [Int.ediv_lt_iff_lt_mul (by omega)]
      omega
    omega

/-- Two digits: the quotient. -/
theorem two_digits (Y u a b : Int) (hY : 0 < Y) :
    (u * 4294967296 + a) / Y * 4294967296 + (((u * 4294967296 + a) % Y) * 4294967296 + b) / Y = (u * 18446744073709551616 + a * 4294967296 + b) / Y := by
  have e := Int.mul_ediv_add_emod (u * 4294967296 + a) Y
  generalize (u * 4294967296 + a) / Y = q at *
  generalize (u * 4294967296 + a) % Y = r at *
  have : u * 18446744073709551616 + a * 4294967296 + b = r * 4294967296 + b + q * 4294967296 * Y := by
    have : Y * q * 4294967296 = q * 4294967296 * Y := by rw [Int.mul_comm Y q, Int.mul_right_comm]
    omega
  rw [this, Int.add_mul_ediv_right _ _ (by omega)]
  omega

/-- Shifted alike, a quotient stays. -/
theorem quot_scale (U y p : Int) (hp : 0 < p) : U * p / (y * p) = U / y := Int.mul_ediv_mul_of_pos_left U y hp


/-! ### the reference: bit by bit -/
/-- q times c and r is X, and r is a rest. -/
def Rest (X c q r : Int) : Prop := X = q * c + r ∧ 0 ≤ r ∧ r < c

theorem Rest.quot {X c q r : Int} (h : Rest X c q r) : X / c = q := by
  obtain ⟨h, h0, h1⟩ := h
  rw [h, Int.add_comm, Int.add_mul_ediv_right _ _ (by omega), Int.ediv_eq_zero_of_lt h0 h1]
  omega

theorem Rest.zero (c : Int) (hc : 0 < c) : Rest 0 c 0 0 := ⟨by omega, by omega, hc⟩

theorem Rest.double_over {X c q r : Int} (h : Rest X c q r) (g : c - r ≤ r) : Rest (2 * X) c (2 * q + 1) (r - (c - r)) := by
  obtain ⟨h, h0, h1⟩ := h
  refine ⟨?_, by omega, by omega⟩
  rw [h, Int.add_mul, Int.mul_assoc]
  generalize q * c = p
  omega

theorem Rest.double_under {X c q r : Int} (h : Rest X c q r) (g : r < c - r) : Rest (2 * X) c (2 * q) (r + r) := by
  obtain ⟨h, h0, h1⟩ := h
  refine ⟨?_, by omega, by omega⟩
  rw [h, Int.mul_assoc]
  generalize q * c = p
  omega

theorem Rest.add_over {X c q r : Int} (b : Int) (h : Rest X c q r) (g : c - b % c ≤ r) : Rest (X + b) c (q + b / c + 1) (r - (c - b % c)) := by
  obtain ⟨h, h0, h1⟩ := h
  have e := Int.mul_ediv_add_emod b c
  have m := Int.emod_lt_of_pos b (show 0 < c by omega)
  have m0 := Int.emod_nonneg b (show c ≠ 0 by omega)
  refine ⟨?_, by omega, by omega⟩
  rw [h, Int.add_mul, Int.add_mul, Int.mul_comm (b / c) c]
  generalize q * c = p
  generalize c * (b / c) = p' at *
  generalize b % c = m' at *
  omega

theorem Rest.add_under {X c q r : Int} (b : Int) (h : Rest X c q r) (g : r < c - b % c) : Rest (X + b) c (q + b / c) (r + b % c) := by
  obtain ⟨h, h0, h1⟩ := h
  have e := Int.mul_ediv_add_emod b c
  have m0 := Int.emod_nonneg b (show c ≠ 0 by omega)
  refine ⟨?_, by omega, by omega⟩
  rw [h, Int.add_mul, Int.mul_comm (b / c) c]
  generalize q * c = p
  generalize c * (b / c) = p' at *
  generalize b % c = m' at *
  omega

/-- What was gone through gives no more than all. -/
theorem quot_mono {P a b c : Int} (h : P ≤ a) (hb : 0 ≤ b) (hc : 0 < c) : P * b / c ≤ a * b / c :=
  Int.ediv_le_ediv hc (Int.mul_le_mul_of_nonneg_right h hb)

/-- The next bit. -/
theorem next_bit (a : Int) (k : Nat) : a / 2 ^ k = 2 * (a / 2 ^ (k + 1)) + a / 2 ^ k % 2 := by
  have e : a / 2 ^ (k + 1) = a / 2 ^ k / 2 := by rw [Int.pow_succ, Int.ediv_ediv_of_nonneg (by exact Int.le_of_lt (Int.pow_pos (by decide)))]
  rw [e]
  omega


/-! ### a digit's loop -/
/-- The guess q of a digit Q, with r left. -/
def Dig (y1 u Q q r : Int) : Prop := q * y1 + r = u ∧ Q ≤ q ∧ 0 ≤ q ∧ q ≤ 4294967297 ∧ 0 ≤ r ∧ r < 4294967296

theorem Dig.prod {y1 u Q q r : Int} (h : Dig y1 u Q q r) {y0 : Int} (h0 : 0 ≤ y0) (h0' : y0 < 4294967296) : 0 ≤ q * y0 ∧ q * y0 < 18446744073709551616 := by
  obtain ⟨_, _, h1, h2, _, _⟩ := h
  refine ⟨Int.mul_nonneg h1 h0, ?_⟩
  have := Int.mul_le_mul h2 (show y0 ≤ 4294967295 by omega) h0 (by omega)
  omega

theorem Dig.gt {y1 u Q q r : Int} (h : Dig y1 u Q q r) {y0 u1 : Int} (hy : 0 < y1 * 4294967296 + y0) (hQ : Q = (u * 4294967296 + u1) / (y1 * 4294967296 + y0)) : (4294967296 * r + u1 < q * y0) ↔ Q < q := by
  rw [hQ]
  exact digit_gt y1 y0 u u1 q r hy h.1

theorem Dig.next {y1 u Q q r : Int} (h : Dig y1 u Q q r) (hq : Q < q) (hQ : 0 ≤ Q) (h1 : 0 ≤ y1) (hr : r + y1 < 4294967296) : Dig y1 u Q (q - 1) (r + y1) := by
  obtain ⟨e, h2, h3, h4, h5, h6⟩ := h
  refine ⟨?_, by omega, by omega, by omega, by omega, hr⟩
  rw [Int.sub_mul]
  generalize q * y1 = p at *
  omega

theorem Dig.last {y1 u Q q r : Int} (h : Dig y1 u Q q r) (hq : Q < q) {y0 u1 : Int} (h0 : 0 ≤ y0) (h0' : y0 < 4294967296) (hu : 0 ≤ u1) (hy : 0 < y1 * 4294967296 + y0) (hQ : Q = (u * 4294967296 + u1) / (y1 * 4294967296 + y0)) (hr : 4294967296 ≤ r + y1) : q - 1 = Q := by
  obtain ⟨e, h2, h3, h4, h5, h6⟩ := h
  have e' : (q - 1) * y1 + (r + y1) = u := by
    rw [Int.sub_mul]
    generalize q * y1 = p at *
    omega
  have g := digit_gt y1 y0 u u1 (q - 1) (r + y1) hy e'
  rw [← hQ] at g
  have b := Int.mul_le_mul (show q - 1 ≤ 4294967296 by omega) (show y0 ≤ 4294967295 by omega) h0 (by omega)
  generalize (q - 1) * y0 = p at *
  omega

theorem Dig.first (y1 y0 u u1 Q : Int) (h0 : 0 ≤ y0) (h0' : y0 < 4294967296) (h1 : 2147483648 ≤ y1) (h1' : y1 < 4294967296) (hu0 : 0 ≤ u) (hu : u < y1 * 4294967296 + y0) (h1u : 0 ≤ u1) (h1u' : u1 < 4294967296) (hQ : Q = (u * 4294967296 + u1) / (y1 * 4294967296 + y0)) :
    Dig y1 u Q (u / y1) (u % y1) ∧ 0 ≤ Q ∧ Q < 4294967296 ∧ 0 ≤ u / y1 * y1 ∧ u / y1 * y1 ≤ u ∧ u - u / y1 * y1 = u % y1 := by
  have f := digit_first y1 y0 u u1 h0 h0' h1 hu0 hu h1u h1u'
  have l := digit_lt y1 y0 u u1 (by omega) hu h1u'
  have n : 0 ≤ (u * 4294967296 + u1) / (y1 * 4294967296 + y0) := Int.ediv_nonneg (by omega) (by omega)
  rw [← hQ] at f l n
  have e := Int.mul_ediv_add_emod u y1
  rw [Int.mul_comm] at e
  have m := Int.emod_lt_of_pos u (show 0 < y1 by omega)
  have m0 := Int.emod_nonneg u (show y1 ≠ 0 by omega)
  have q0 : 0 ≤ u / y1 := Int.ediv_nonneg hu0 (by omega)
  have p0 : 0 ≤ u / y1 * y1 := Int.mul_nonneg q0 (by omega)
  have D : Dig y1 u Q (u / y1) (u % y1) := ⟨e, f.1, q0, f.2, m0, by omega⟩
  exact ⟨D, n, l, p0, by omega, by omega⟩

end Go.Proofs.YtkhlihpghbhppaaGreat.Ra

set_option maxRecDepth 100000
namespace Go.Proofs.YtkhlihpghbhppaaGreat.Ra

theorem lead_norm (y : Nat) (hy0 : 0 < y) (hy : y < 9223372036854775808) : ∃ s : Nat, bitLen y + s = 64 ∧ 1 ≤ s ∧ s ≤ 63 ∧ 9223372036854775808 ≤ y * 2 ^ s ∧ y * 2 ^ s < 18446744073709551616 := by
  obtain ⟨h1, h2⟩ := bitLen_spec y
  have h2 := h2 (by omega)
  have hb0 : bitLen y ≠ 0 := by intro h; rw [h] at h1; omega
  have hb : bitLen y ≤ 63 := by
    apply Decidable.byContradiction
    intro h
    have : 2 ^ 63 ≤ 2 ^ (bitLen y - 1) := Nat.pow_le_pow_right (by decide) (by omega)
    omega
  refine ⟨64 - bitLen y, by omega, by omega, by omega, ?_, ?_⟩
  · have e : 2 ^ (bitLen y - 1) * 2 ^ (64 - bitLen y) = 2 ^ 63 := by rw [← Nat.pow_add]; congr 1; omega
    have := Nat.mul_le_mul_right (2 ^ (64 - bitLen y)) h2
    omega
  · have e : 2 ^ bitLen y * 2 ^ (64 - bitLen y) = 2 ^ 64 := by rw [← Nat.pow_add]; congr 1; omega
    have := Nat.mul_lt_mul_of_pos_right h1 (Nat.two_pow_pos (64 - bitLen y))
    omega

/-- The two shifted words, put together. -/
theorem shift_pair (hi lo y s : Nat) (hs : 1 ≤ s) (hs2 : s ≤ 63) (h : hi < y) (hl : lo < 18446744073709551616) (hY : y * 2 ^ s < 18446744073709551616) :
    (hi * 18446744073709551616 + lo) * 2 ^ s = (hi * 2 ^ s + lo / 2 ^ (64 - s)) * 18446744073709551616 + lo * 2 ^ s % 18446744073709551616 ∧ hi * 2 ^ s + lo / 2 ^ (64 - s) < y * 2 ^ s ∧
    hi * 2 ^ s < 18446744073709551616 ∧ lo / 2 ^ (64 - s) < 2 ^ s := by
  have ep : 2 ^ (64 - s) * 2 ^ s = 18446744073709551616 := by rw [← Nat.pow_add, show 64 - s + s = 64 by omega]
  have e1 : lo * 2 ^ s / 18446744073709551616 = lo / 2 ^ (64 - s) := by rw [← ep]; exact Nat.mul_div_mul_right lo (2 ^ (64 - s)) (Nat.two_pow_pos s)
  have e2 := Nat.div_add_mod (lo * 2 ^ s) 18446744073709551616
  rw [e1] at e2
  have e : (hi * 18446744073709551616 + lo) * 2 ^ s = (hi * 2 ^ s + lo / 2 ^ (64 - s)) * 18446744073709551616 + lo * 2 ^ s % 18446744073709551616 := by
    rw [Nat.add_mul, Nat.add_mul, Nat.mul_right_comm]
    generalize hi * 2 ^ s = a
    generalize lo * 2 ^ s = b at *
    omega
  have b1 : hi * 18446744073709551616 + lo < y * 18446744073709551616 := by omega
  have b2 := Nat.mul_lt_mul_of_pos_right b1 (Nat.two_pow_pos s)
  rw [e, Nat.mul_right_comm] at b2
  have b3 : lo / 2 ^ (64 - s) < 2 ^ s := by rw [Nat.div_lt_iff_lt_mul (Nat.two_pow_pos _), Nat.mul_comm, ep]; exact hl
  refine ⟨e, ?_, ?_, b3⟩
  · generalize y * 2 ^ s = Y at *
    generalize hi * 2 ^ s + lo / 2 ^ (64 - s) = u at *
    omega
  · have := Nat.mul_le_mul_right (2 ^ s) (Nat.le_of_lt h)
    omega

/-- Or, of a word whose low bits are nought and one of these bits. -/
theorem or_join (a b s : Nat) (ha : a * 2 ^ s < 18446744073709551616) (hb : b < 2 ^ s) (hb2 : b < 18446744073709551616) : bits .or .u64 ((a * 2 ^ s : Nat) : Int) (b : Int) = ((a * 2 ^ s + b : Nat) : Int) := by
  rw [bits_or_u64_nat _ _ ha hb2, Nat.mul_comm a, Nat.two_pow_add_eq_or_of_lt hb]

end Go.Proofs.YtkhlihpghbhppaaGreat.Ra

set_option maxRecDepth 100000
namespace Go.Proofs.YtkhlihpghbhppaaGreat.Ra
open Go.RowKit

/-- math/bits.Mul64: the product of 128 bits, in two words. -/
theorem mul64 (x y : Int) (hx0 : 0 ≤ x) (hx : x < 18446744073709551616) (hy0 : 0 ≤ y) (hy : y < 18446744073709551616) (w : World) :
    Calls Tryz.prog 184 #[.int .u64 x, .int .u64 y] w fun e w' => e = .returned (.tuple #[.int .u64 (x * y / 18446744073709551616), .int .u64 (x * y % 18446744073709551616)]) ∧ w' = w := by
  have A := mul64_arith x y hx0 hx hy0 hy
  go_enter Tryz.func184, Tryz.ntmps184
  go_wp2
  simp only [IntKind.wrap_u64, and_low32 x hx0 hx, and_low32 y hy0 hy, and_low32 (_ % 18446744073709551616) (Int.emod_nonneg _ (by decide)) (Int.emod_lt_of_pos _ (by decide)), A]
  go_ret2
  exact ⟨rfl, rfl⟩

theorem shift_len (x b : Nat) (h : 2 ^ b ≤ x) : bitLen x = b + bitLen (x / 2 ^ b) :=
  bitLen_shift x b (by have := (Nat.le_div_iff_mul_le (Nat.two_pow_pos b)).2 (show 1 * 2 ^ b ≤ x by omega); omega)

/-- A shift, under a name. -/
theorem shifted (x b p : Nat) (hp : 2 ^ b = p) (h : p ≤ x) : ∃ z : Nat, (x : Int) / p = z ∧ bitLen x = b + bitLen z ∧ z = x / p := by
  subst hp
  exact ⟨x / 2 ^ b, by rw [Int.natCast_ediv], shift_len x b h, rfl⟩

theorem wrap_small (a : Nat) (h : a ≤ 8) : wrap64 (a : Int) = (a : Int) := by unfold wrap64; omega
theorem wrap_sum (k a b : Nat) (hk : k ≤ 56) (h : a ≤ 8) (e : b = k + a) : wrap64 ((k : Int) + (a : Int)) = (b : Int) := by unfold wrap64; omega

set_option maxRecDepth 1000000 in
set_option maxHeartbeats 2000000 in
/-- math/bits.Len64: how many bits a word has. -/
theorem len64 (x : Nat) (hx : x < 18446744073709551616) (w : World) :
    Calls Tryz.prog 182 #[.int .u64 x] w fun e w' => e = .returned (.int .i64 (bitLen x)) ∧ w' = w := by
  by_cases h0 : 4294967296 ≤ x
  · have i0 : (4294967296 : Int) ≤ (x : Int) := by omega
    obtain ⟨z, q0, e0, f0⟩ := shifted x 32 4294967296 (by decide) h0
    simp only [Int.cast_ofNat_Int] at q0
    by_cases h1 : 65536 ≤ z
    · have i1 : (65536 : Int) ≤ (z : Int) := by omega
      obtain ⟨y, q1, e1, f1⟩ := shifted z 16 65536 (by decide) h1
      simp only [Int.cast_ofNat_Int] at q1
      by_cases h2 : 256 ≤ y
      · have i2 : (256 : Int) ≤ (y : Int) := by omega
        obtain ⟨v, q2, e2, f2⟩ := shifted y 8 256 (by decide) h2
        simp only [Int.cast_ofNat_Int] at q2
        have hb := bitLen_le8 v (by omega)
        have j : (v : Int) < 256 := by omega
        have e : bitLen x = 56 + bitLen v := by clear h0 h1 h2 hx hb j; omega
        have g1 : wrap64 ((bitLen v : Nat) : Int) = (bitLen v : Nat) := wrap_small _ hb
        have g2 : wrap64 (56 + ((bitLen v : Nat) : Int)) = (bitLen x : Nat) := wrap_sum 56 _ _ (by decide) hb e
        clear e
        clear hb h0 h1 h2 hx e0 f0 e1 f1 e2 f2
        go_enter Tryz.func182, Tryz.ntmps182
        go_wp2
        simp only [len8tab_get, g1, g2]
        go_ret
        exact ⟨rfl, rfl⟩
      · have i2 : ¬ (256 : Int) ≤ (y : Int) := by omega
        have hb := bitLen_le8 y (by omega)
        have j : (y : Int) < 256 := by omega
        have e : bitLen x = 48 + bitLen y := by clear h0 h1 h2 hx hb j; omega
        have g1 : wrap64 ((bitLen y : Nat) : Int) = (bitLen y : Nat) := wrap_small _ hb
        have g2 : wrap64 (48 + ((bitLen y : Nat) : Int)) = (bitLen x : Nat) := wrap_sum 48 _ _ (by decide) hb e
        clear e
        clear hb h0 h1 h2 hx e0 f0 e1 f1
        go_enter Tryz.func182, Tryz.ntmps182
        go_wp2
        simp only [len8tab_get, g1, g2]
        go_ret
        exact ⟨rfl, rfl⟩
    · have i1 : ¬ (65536 : Int) ≤ (z : Int) := by omega
      by_cases h2 : 256 ≤ z
      · have i2 : (256 : Int) ≤ (z : Int) := by omega
        obtain ⟨v, q2, e2, f2⟩ := shifted z 8 256 (by decide) h2
        simp only [Int.cast_ofNat_Int] at q2
        have hb := bitLen_le8 v (by omega)
        have j : (v : Int) < 256 := by omega
        have e : bitLen x = 40 + bitLen v := by clear h0 h1 h2 hx hb j; omega
        have g1 : wrap64 ((bitLen v : Nat) : Int) = (bitLen v : Nat) := wrap_small _ hb
        have g2 : wrap64 (40 + ((bitLen v : Nat) : Int)) = (bitLen x : Nat) := wrap_sum 40 _ _ (by decide) hb e
        clear e
        clear hb h0 h1 h2 hx e0 f0 e2 f2
        go_enter Tryz.func182, Tryz.ntmps182
        go_wp2
        simp only [len8tab_get, g1, g2]
        go_ret
        exact ⟨rfl, rfl⟩
      · have i2 : ¬ (256 : Int) ≤ (z : Int) := by omega
        have hb := bitLen_le8 z (by omega)
        have j : (z : Int) < 256 := by omega
        have e : bitLen x = 32 + bitLen z := by clear h0 h1 h2 hx hb j; omega
        have g1 : wrap64 ((bitLen z : Nat) : Int) = (bitLen z : Nat) := wrap_small _ hb
        have g2 : wrap64 (32 + ((bitLen z : Nat) : Int)) = (bitLen x : Nat) := wrap_sum 32 _ _ (by decide) hb e
        clear e
        clear hb h0 h1 h2 hx e0 f0
        go_enter Tryz.func182, Tryz.ntmps182
        go_wp2
        simp only [len8tab_get, g1, g2]
        go_ret
        exact ⟨rfl, rfl⟩
  · have i0 : ¬ (4294967296 : Int) ≤ (x : Int) := by omega
    by_cases h1 : 65536 ≤ x
    · have i1 : (65536 : Int) ≤ (x : Int) := by omega
      obtain ⟨y, q1, e1, f1⟩ := shifted x 16 65536 (by decide) h1
      simp only [Int.cast_ofNat_Int] at q1
      by_cases h2 : 256 ≤ y
      · have i2 : (256 : Int) ≤ (y : Int) := by omega
        obtain ⟨v, q2, e2, f2⟩ := shifted y 8 256 (by decide) h2
        simp only [Int.cast_ofNat_Int] at q2
        have hb := bitLen_le8 v (by omega)
        have j : (v : Int) < 256 := by omega
        have e : bitLen x = 24 + bitLen v := by clear h0 h1 h2 hx hb j; omega
        have g1 : wrap64 ((bitLen v : Nat) : Int) = (bitLen v : Nat) := wrap_small _ hb
        have g2 : wrap64 (24 + ((bitLen v : Nat) : Int)) = (bitLen x : Nat) := wrap_sum 24 _ _ (by decide) hb e
        clear e
        clear hb h0 h1 h2 hx e1 f1 e2 f2
        go_enter Tryz.func182, Tryz.ntmps182
        go_wp2
        simp only [len8tab_get, g1, g2]
        go_ret
        exact ⟨rfl, rfl⟩
      · have i2 : ¬ (256 : Int) ≤ (y : Int) := by omega
        have hb := bitLen_le8 y (by omega)
        have j : (y : Int) < 256 := by omega
        have e : bitLen x = 16 + bitLen y := by clear h0 h1 h2 hx hb j; omega
        have g1 : wrap64 ((bitLen y : Nat) : Int) = (bitLen y : Nat) := wrap_small _ hb
        have g2 : wrap64 (16 + ((bitLen y : Nat) : Int)) = (bitLen x : Nat) := wrap_sum 16 _ _ (by decide) hb e
        clear e
        clear hb h0 h1 h2 hx e1 f1
        go_enter Tryz.func182, Tryz.ntmps182
        go_wp2
        simp only [len8tab_get, g1, g2]
        go_ret
        exact ⟨rfl, rfl⟩
    · have i1 : ¬ (65536 : Int) ≤ (x : Int) := by omega
      by_cases h2 : 256 ≤ x
      · have i2 : (256 : Int) ≤ (x : Int) := by omega
        obtain ⟨v, q2, e2, f2⟩ := shifted x 8 256 (by decide) h2
        simp only [Int.cast_ofNat_Int] at q2
        have hb := bitLen_le8 v (by omega)
        have j : (v : Int) < 256 := by omega
        have e : bitLen x = 8 + bitLen v := by clear h0 h1 h2 hx hb j; omega
        have g1 : wrap64 ((bitLen v : Nat) : Int) = (bitLen v : Nat) := wrap_small _ hb
        have g2 : wrap64 (8 + ((bitLen v : Nat) : Int)) = (bitLen x : Nat) := wrap_sum 8 _ _ (by decide) hb e
        clear e
        clear hb h0 h1 h2 hx e2 f2
        go_enter Tryz.func182, Tryz.ntmps182
        go_wp2
        simp only [len8tab_get, g1, g2]
        go_ret
        exact ⟨rfl, rfl⟩
      · have i2 : ¬ (256 : Int) ≤ (x : Int) := by omega
        have hb := bitLen_le8 x (by omega)
        have j : (x : Int) < 256 := by omega
        have g1 : wrap64 ((bitLen x : Nat) : Int) = (bitLen x : Nat) := wrap_small _ hb
        clear hb h0 h1 h2 hx 
        go_enter Tryz.func182, Tryz.ntmps182
        go_wp2
        simp only [len8tab_get, g1]
        go_ret
        exact ⟨rfl, rfl⟩

/-- math/bits.LeadingZeros64. -/
theorem leading64 (x : Nat) (hx : x < 18446744073709551616) (hl : bitLen x ≤ 64) (w : World) :
    Calls Tryz.prog 194 #[.int .u64 x] w fun e w' => e = .returned (.int .i64 (64 - bitLen x)) ∧ w' = w := by
  have c := len64 x hx w
  generalize bitLen x = n at *
  go_enter Tryz.func194, Tryz.ntmps194
  go_wp2_with (go_at_call 182; refine c.mono ?_; rintro e w' ⟨rfl, rfl⟩)
  go_ret
  exact ⟨rfl, rfl⟩

end Go.Proofs.YtkhlihpghbhppaaGreat.Ra

set_option maxRecDepth 100000
namespace Go.Proofs.YtkhlihpghbhppaaGreat.Ra
open Go.RowKit

set_option maxHeartbeats 4000000 in
theorem div64_core (hi lo y Y y1 y0 H L u N u1 u0 Q1 R1 Q0 : Int) (s : Nat) (h0 : 0 < hi) (h1 : hi < y) (hs1 : 1 ≤ s) (hs2 : s ≤ 63)
    (eY : IntKind.u64.wrap (y * 2 ^ s) = Y) (ey1 : Y / 4294967296 = y1) (ey0 : bits .and .u64 Y 4294967295 = y0)
    (eH : IntKind.u64.wrap (hi * 2 ^ s) = H) (eL : lo / 2 ^ (64 - s) = L) (eu : bits .or .u64 H L = u)
    (eN : IntKind.u64.wrap (lo * 2 ^ s) = N) (eu1 : N / 4294967296 = u1) (eu0 : bits .and .u64 N 4294967295 = u0)
    (by0 : 0 ≤ y0) (by0' : y0 < 4294967296) (by1 : 2147483648 ≤ y1) (by1' : y1 < 4294967296) (bu : 0 ≤ u) (HY : Hid (Y = y1 * 4294967296 + y0)) (HU : Hid (u < y1 * 4294967296 + y0))
    (bu1 : 0 ≤ u1) (bu1' : u1 < 4294967296) (bu0 : 0 ≤ u0) (bu0' : u0 < 4294967296)
    (HQ1 : Hid (Q1 = (u * 4294967296 + u1) / (y1 * 4294967296 + y0))) (HR1 : Hid (R1 = (u * 4294967296 + u1) % (y1 * 4294967296 + y0))) (HQ0 : Hid (Q0 = (R1 * 4294967296 + u0) / (y1 * 4294967296 + y0)))
    (c : ∀ w, Calls Tryz.prog 194 #[.int .u64 y] w fun e w' => e = .returned (.int .i64 s) ∧ w' = w) (w : World) :
    Calls Tryz.prog 185 #[.int .u64 hi, .int .u64 lo, .int .u64 y] w fun e w' => ∃ r, e = .returned (.tuple #[.int .u64 (Q1 * 4294967296 + Q0), .int .u64 r]) ∧ Below w.heap.size w w' := by
  have t1 : (y == 0) = false := by simp; omega
  have t2 : ¬ y ≤ hi := by omega
  have t3 : (hi == 0) = false := by simp; omega
  have t4 : ¬ y1 = 0 := by omega
  have bR : 0 ≤ R1 := by rw [HR1.out]; exact Int.emod_nonneg _ (by omega)
  have HR : Hid (R1 < y1 * 4294967296 + y0) := by show _ < _; rw [HR1.out]; exact Int.emod_lt_of_pos _ (by omega)
  obtain ⟨D1, a0, a1, p0, p1, d1⟩ := Dig.first y1 y0 u u1 Q1 by0 by0' by1 by1' bu HU.out bu1 bu1' HQ1.out
  obtain ⟨D2, b0, b1, v0, v1, d2⟩ := Dig.first y1 y0 R1 u0 Q0 by0 by0' by1 by1' bR HR.out bu0 bu0' HQ0.out
  have ed : u.tdiv y1 = u / y1 := Int.tdiv_eq_ediv_of_nonneg bu
  have ed2 : R1.tdiv y1 = R1 / y1 := Int.tdiv_eq_ediv_of_nonneg bR
  have bU : u < 18446744073709551616 := by have := HU.out; omega
  have bRr : R1 < 18446744073709551616 := by have := HR.out; omega
  have gd : 0 ≤ u / y1 ∧ u / y1 ≤ 4294967297 := ⟨D1.2.2.1, D1.2.2.2.1⟩
  have gm : 0 ≤ u % y1 ∧ u % y1 < 4294967296 := ⟨D1.2.2.2.2.1, D1.2.2.2.2.2⟩
  have gd2 : 0 ≤ R1 / y1 ∧ R1 / y1 ≤ 4294967297 := ⟨D2.2.2.1, D2.2.2.2.1⟩
  have gm2 : 0 ≤ R1 % y1 ∧ R1 % y1 < 4294967296 := ⟨D2.2.2.2.2.1, D2.2.2.2.2.2⟩
  -- what the text reckons between the loops
  obtain ⟨A, eA⟩ : ∃ A, IntKind.u64.wrap (u * 4294967296) = A := ⟨_, rfl⟩
  obtain ⟨B, eB⟩ : ∃ B, IntKind.u64.wrap (A + u1) = B := ⟨_, rfl⟩
  obtain ⟨C, eC⟩ : ∃ C, IntKind.u64.wrap (Q1 * Y) = C := ⟨_, rfl⟩
  have eD : IntKind.u64.wrap (B - C) = R1 := by
    have e := Int.mul_ediv_add_emod (u * 4294967296 + u1) (y1 * 4294967296 + y0)
    rw [← HR1.out, ← HQ1.out, ← HY.out, Int.mul_comm Y Q1] at e
    rw [← eB, ← eC, ← eA]
    simp only [IntKind.wrap_u64]
    generalize Q1 * Y = z at *
    omega
  obtain ⟨E1, eE⟩ : ∃ E, IntKind.u64.wrap (Q1 * 4294967296) = E := ⟨_, rfl⟩
  have eF : IntKind.u64.wrap (E1 + Q0) = Q1 * 4294967296 + Q0 := by
    rw [← eE]
    simp only [IntKind.wrap_u64]
    omega
  obtain ⟨q, hq⟩ : ∃ q, u / y1 = q := ⟨_, rfl⟩
  obtain ⟨r, hr⟩ : ∃ r, u % y1 = r := ⟨_, rfl⟩
  rw [hq] at gd ed D1 p0 p1 d1
  rw [hr] at gm d1 D1
  obtain ⟨p, hp⟩ : ∃ p, q * y1 = p := ⟨_, rfl⟩
  rw [hp] at p0 p1 d1
  have eq1 : IntKind.u64.wrap q = q := by rw [IntKind.wrap_u64]; omega
  have ep : IntKind.u64.wrap p = p := by rw [IntKind.wrap_u64]; omega
  have er : IntKind.u64.wrap (u - p) = r := by rw [IntKind.wrap_u64]; omega
  obtain ⟨q', hq'⟩ : ∃ q, R1 / y1 = q := ⟨_, rfl⟩
  obtain ⟨r', hr'⟩ : ∃ r, R1 % y1 = r := ⟨_, rfl⟩
  rw [hq'] at gd2 ed2 D2 v0 v1 d2
  rw [hr'] at gm2 d2 D2
  obtain ⟨p', hp'⟩ : ∃ p, q' * y1 = p := ⟨_, rfl⟩
  rw [hp'] at v0 v1 d2
  have eq2 : IntKind.u64.wrap q' = q' := by rw [IntKind.wrap_u64]; omega
  have ep2 : IntKind.u64.wrap p' = p' := by rw [IntKind.wrap_u64]; omega
  have er2 : IntKind.u64.wrap (R1 - p') = r' := by rw [IntKind.wrap_u64]; omega
  have HD : Hid (Dig y1 u Q1 q r) := D1
  have HD2 : Hid (Dig y1 R1 Q0 q' r') := D2
  clear D1 hr hq d1 D2 hr' hq' d2
  go_enter Tryz.func185, Tryz.ntmps185
  go_wp2_with (go_at_call 194; refine (c _).mono ?_; rintro e w' ⟨rfl, rfl⟩)
  clear eY ey1 ey0 eH eL eu eN eu1 eu0 ed hp ep er c gd gm p0 p1 eq1 t1 t2 t3
  go_loop [15, 16] (fun a b => ∃ q r : Int, a = .int .u64 q ∧ b = .int .u64 r ∧ Hid (Dig y1 u Q1 q r)) (fun a _ => (intOf a).toNat)
  case atStart => exact ⟨q, r, rfl, rfl, HD⟩
  case round =>
    obtain ⟨a1, b1, rfl, rfl, D1⟩ := hrel
    have ga1 : 0 ≤ a1 ∧ a1 ≤ 4294967297 ∧ 0 ≤ b1 ∧ b1 < 4294967296 ∧ Q1 ≤ a1 := ⟨D1.out.2.2.1, D1.out.2.2.2.1, D1.out.2.2.2.2.1, D1.out.2.2.2.2.2, D1.out.2.1⟩
    obtain ⟨ga1, ga2, ga3, ga4, ga5⟩ := ga1
    by_cases hlt : Q1 < a1
    · by_cases hbig : 4294967296 ≤ a1
      · skip
        have hm : IntKind.u64.wrap (a1 - 1) = a1 - 1 := by rw [IntKind.wrap_u64]; omega
        have hp : IntKind.u64.wrap (b1 + y1) = b1 + y1 := by rw [IntKind.wrap_u64]; omega
        by_cases hr : 4294967296 ≤ b1 + y1
        · have hl := D1.out.last hlt by0 by0' bu1 (by omega) HQ1.out hr
          obtain rfl : a1 = Q1 + 1 := by omega
          have hm2 : IntKind.u64.wrap (Q1 + 1 - 1) = Q1 := by rw [IntKind.wrap_u64]; omega
          clear D1 hl hm 
          go_wp2
          go_loop [18, 16] (fun a b => ∃ q r : Int, a = .int .u64 q ∧ b = .int .u64 r ∧ Hid (Dig y1 R1 Q0 q r)) (fun a _ => (intOf a).toNat)
          case atStart => exact ⟨q', r', rfl, rfl, HD2⟩
          case round =>
            obtain ⟨a2, b2, rfl, rfl, D2⟩ := hrel
            have ga2 : 0 ≤ a2 ∧ a2 ≤ 4294967297 ∧ 0 ≤ b2 ∧ b2 < 4294967296 ∧ Q0 ≤ a2 := ⟨D2.out.2.2.1, D2.out.2.2.2.1, D2.out.2.2.2.2.1, D2.out.2.2.2.2.2, D2.out.2.1⟩
            obtain ⟨ga1, ga2, ga3, ga4, ga5⟩ := ga2
            by_cases hlt : Q0 < a2
            · by_cases hbig : 4294967296 ≤ a2
              · skip
                have hm : IntKind.u64.wrap (a2 - 1) = a2 - 1 := by rw [IntKind.wrap_u64]; omega
                have hp : IntKind.u64.wrap (b2 + y1) = b2 + y1 := by rw [IntKind.wrap_u64]; omega
                by_cases hr : 4294967296 ≤ b2 + y1
                · have hl := D2.out.last hlt by0 by0' bu0 (by omega) HQ0.out hr
                  obtain rfl : a2 = Q0 + 1 := by omega
                  have hm2 : IntKind.u64.wrap (Q0 + 1 - 1) = Q0 := by rw [IntKind.wrap_u64]; omega
                  clear D2 hl hm 
                  go_wp2
                  go_ret2
                  exact ⟨⟨_, rfl⟩, ⟨rfl, rfl, rfl, Nat.le_refl _, fun _ _ => rfl⟩⟩
                · have HN : Hid (Dig y1 R1 Q0 (a2 - 1) (b2 + y1)) := D2.out.next hlt (by omega) (by omega) (by omega)
                  clear D2
                  go_wp2
                  go_round
                  case rel => exact ⟨_, _, rfl, rfl, HN⟩
                  case measure => simp [intOf]; omega
              · skip
                have hP := D2.out.prod by0 by0'
                have hG := D2.out.gt (y0 := y0) (u1 := u0) (by omega) HQ0.out
                obtain ⟨P, eP⟩ : ∃ P, a2 * y0 = P := ⟨_, rfl⟩
                rw [eP] at hP hG
                have wP : IntKind.u64.wrap P = P := by rw [IntKind.wrap_u64]; omega
                have wT : IntKind.u64.wrap (4294967296 * b2) = 4294967296 * b2 := by rw [IntKind.wrap_u64]; omega
                have wS : IntKind.u64.wrap (4294967296 * b2 + u0) = 4294967296 * b2 + u0 := by rw [IntKind.wrap_u64]; omega
                have hS : 4294967296 * b2 + u0 < P := hG.2 hlt
                clear hG hP
                have hm : IntKind.u64.wrap (a2 - 1) = a2 - 1 := by rw [IntKind.wrap_u64]; omega
                have hp : IntKind.u64.wrap (b2 + y1) = b2 + y1 := by rw [IntKind.wrap_u64]; omega
                by_cases hr : 4294967296 ≤ b2 + y1
                · have hl := D2.out.last hlt by0 by0' bu0 (by omega) HQ0.out hr
                  obtain rfl : a2 = Q0 + 1 := by omega
                  have hm2 : IntKind.u64.wrap (Q0 + 1 - 1) = Q0 := by rw [IntKind.wrap_u64]; omega
                  clear D2 hl hm 
                  go_wp2
                  go_ret2
                  exact ⟨⟨_, rfl⟩, ⟨rfl, rfl, rfl, Nat.le_refl _, fun _ _ => rfl⟩⟩
                · have HN : Hid (Dig y1 R1 Q0 (a2 - 1) (b2 + y1)) := D2.out.next hlt (by omega) (by omega) (by omega)
                  clear D2
                  go_wp2
                  go_round
                  case rel => exact ⟨_, _, rfl, rfl, HN⟩
                  case measure => simp [intOf]; omega
            · obtain rfl : Q0 = a2 := by omega
              have hbig : ¬ 4294967296 ≤ Q0 := by omega
              have hP := D2.out.prod by0 by0'
              have hG := D2.out.gt (y0 := y0) (u1 := u0) (by omega) HQ0.out
              obtain ⟨P, eP⟩ : ∃ P, Q0 * y0 = P := ⟨_, rfl⟩
              rw [eP] at hP hG
              have wP : IntKind.u64.wrap P = P := by rw [IntKind.wrap_u64]; omega
              have wT : IntKind.u64.wrap (4294967296 * b2) = 4294967296 * b2 := by rw [IntKind.wrap_u64]; omega
              have wS : IntKind.u64.wrap (4294967296 * b2 + u0) = 4294967296 * b2 + u0 := by rw [IntKind.wrap_u64]; omega
              have hS : ¬ 4294967296 * b2 + u0 < P := fun h => hlt (hG.1 h)
              clear hG hP D2
              go_wp2
              go_ret2
              exact ⟨⟨_, rfl⟩, ⟨rfl, rfl, rfl, Nat.le_refl _, fun _ _ => rfl⟩⟩
        · have HN : Hid (Dig y1 u Q1 (a1 - 1) (b1 + y1)) := D1.out.next hlt (by omega) (by omega) (by omega)
          clear D1
          go_wp2
          go_round
          case rel => exact ⟨_, _, rfl, rfl, HN⟩
          case measure => simp [intOf]; omega
      · skip
        have hP := D1.out.prod by0 by0'
        have hG := D1.out.gt (y0 := y0) (u1 := u1) (by omega) HQ1.out
        obtain ⟨P, eP⟩ : ∃ P, a1 * y0 = P := ⟨_, rfl⟩
        rw [eP] at hP hG
        have wP : IntKind.u64.wrap P = P := by rw [IntKind.wrap_u64]; omega
        have wT : IntKind.u64.wrap (4294967296 * b1) = 4294967296 * b1 := by rw [IntKind.wrap_u64]; omega
        have wS : IntKind.u64.wrap (4294967296 * b1 + u1) = 4294967296 * b1 + u1 := by rw [IntKind.wrap_u64]; omega
        have hS : 4294967296 * b1 + u1 < P := hG.2 hlt
        clear hG hP
        have hm : IntKind.u64.wrap (a1 - 1) = a1 - 1 := by rw [IntKind.wrap_u64]; omega
        have hp : IntKind.u64.wrap (b1 + y1) = b1 + y1 := by rw [IntKind.wrap_u64]; omega
        by_cases hr : 4294967296 ≤ b1 + y1
        · have hl := D1.out.last hlt by0 by0' bu1 (by omega) HQ1.out hr
          obtain rfl : a1 = Q1 + 1 := by omega
          have hm2 : IntKind.u64.wrap (Q1 + 1 - 1) = Q1 := by rw [IntKind.wrap_u64]; omega
          clear D1 hl hm 
          go_wp2
          go_loop [18, 16] (fun a b => ∃ q r : Int, a = .int .u64 q ∧ b = .int .u64 r ∧ Hid (Dig y1 R1 Q0 q r)) (fun a _ => (intOf a).toNat)
          case atStart => exact ⟨q', r', rfl, rfl, HD2⟩
          case round =>
            obtain ⟨a2, b2, rfl, rfl, D2⟩ := hrel
            have ga2 : 0 ≤ a2 ∧ a2 ≤ 4294967297 ∧ 0 ≤ b2 ∧ b2 < 4294967296 ∧ Q0 ≤ a2 := ⟨D2.out.2.2.1, D2.out.2.2.2.1, D2.out.2.2.2.2.1, D2.out.2.2.2.2.2, D2.out.2.1⟩
            obtain ⟨ga1, ga2, ga3, ga4, ga5⟩ := ga2
            by_cases hlt : Q0 < a2
            · by_cases hbig : 4294967296 ≤ a2
              · skip
                have hm : IntKind.u64.wrap (a2 - 1) = a2 - 1 := by rw [IntKind.wrap_u64]; omega
                have hp : IntKind.u64.wrap (b2 + y1) = b2 + y1 := by rw [IntKind.wrap_u64]; omega
                by_cases hr : 4294967296 ≤ b2 + y1
                · have hl := D2.out.last hlt by0 by0' bu0 (by omega) HQ0.out hr
                  obtain rfl : a2 = Q0 + 1 := by omega
                  have hm2 : IntKind.u64.wrap (Q0 + 1 - 1) = Q0 := by rw [IntKind.wrap_u64]; omega
                  clear D2 hl hm 
                  go_wp2
                  go_ret2
                  exact ⟨⟨_, rfl⟩, ⟨rfl, rfl, rfl, Nat.le_refl _, fun _ _ => rfl⟩⟩
                · have HN : Hid (Dig y1 R1 Q0 (a2 - 1) (b2 + y1)) := D2.out.next hlt (by omega) (by omega) (by omega)
                  clear D2
                  go_wp2
                  go_round
                  case rel => exact ⟨_, _, rfl, rfl, HN⟩
                  case measure => simp [intOf]; omega
              · skip
                have hP := D2.out.prod by0 by0'
                have hG := D2.out.gt (y0 := y0) (u1 := u0) (by omega) HQ0.out
                obtain ⟨P, eP⟩ : ∃ P, a2 * y0 = P := ⟨_, rfl⟩
                rw [eP] at hP hG
                have wP : IntKind.u64.wrap P = P := by rw [IntKind.wrap_u64]; omega
                have wT : IntKind.u64.wrap (4294967296 * b2) = 4294967296 * b2 := by rw [IntKind.wrap_u64]; omega
                have wS : IntKind.u64.wrap (4294967296 * b2 + u0) = 4294967296 * b2 + u0 := by rw [IntKind.wrap_u64]; omega
                have hS : 4294967296 * b2 + u0 < P := hG.2 hlt
                clear hG hP
                have hm : IntKind.u64.wrap (a2 - 1) = a2 - 1 := by rw [IntKind.wrap_u64]; omega
                have hp : IntKind.u64.wrap (b2 + y1) = b2 + y1 := by rw [IntKind.wrap_u64]; omega
                by_cases hr : 4294967296 ≤ b2 + y1
                · have hl := D2.out.last hlt by0 by0' bu0 (by omega) HQ0.out hr
                  obtain rfl : a2 = Q0 + 1 := by omega
                  have hm2 : IntKind.u64.wrap (Q0 + 1 - 1) = Q0 := by rw [IntKind.wrap_u64]; omega
                  clear D2 hl hm 
                  go_wp2
                  go_ret2
                  exact ⟨⟨_, rfl⟩, ⟨rfl, rfl, rfl, Nat.le_refl _, fun _ _ => rfl⟩⟩
                · have HN : Hid (Dig y1 R1 Q0 (a2 - 1) (b2 + y1)) := D2.out.next hlt (by omega) (by omega) (by omega)
                  clear D2
                  go_wp2
                  go_round
                  case rel => exact ⟨_, _, rfl, rfl, HN⟩
                  case measure => simp [intOf]; omega
            · obtain rfl : Q0 = a2 := by omega
              have hbig : ¬ 4294967296 ≤ Q0 := by omega
              have hP := D2.out.prod by0 by0'
              have hG := D2.out.gt (y0 := y0) (u1 := u0) (by omega) HQ0.out
              obtain ⟨P, eP⟩ : ∃ P, Q0 * y0 = P := ⟨_, rfl⟩
              rw [eP] at hP hG
              have wP : IntKind.u64.wrap P = P := by rw [IntKind.wrap_u64]; omega
              have wT : IntKind.u64.wrap (4294967296 * b2) = 4294967296 * b2 := by rw [IntKind.wrap_u64]; omega
              have wS : IntKind.u64.wrap (4294967296 * b2 + u0) = 4294967296 * b2 + u0 := by rw [IntKind.wrap_u64]; omega
              have hS : ¬ 4294967296 * b2 + u0 < P := fun h => hlt (hG.1 h)
              clear hG hP D2
              go_wp2
              go_ret2
              exact ⟨⟨_, rfl⟩, ⟨rfl, rfl, rfl, Nat.le_refl _, fun _ _ => rfl⟩⟩
        · have HN : Hid (Dig y1 u Q1 (a1 - 1) (b1 + y1)) := D1.out.next hlt (by omega) (by omega) (by omega)
          clear D1
          go_wp2
          go_round
          case rel => exact ⟨_, _, rfl, rfl, HN⟩
          case measure => simp [intOf]; omega
    · obtain rfl : Q1 = a1 := by omega
      have hbig : ¬ 4294967296 ≤ Q1 := by omega
      have hP := D1.out.prod by0 by0'
      have hG := D1.out.gt (y0 := y0) (u1 := u1) (by omega) HQ1.out
      obtain ⟨P, eP⟩ : ∃ P, Q1 * y0 = P := ⟨_, rfl⟩
      rw [eP] at hP hG
      have wP : IntKind.u64.wrap P = P := by rw [IntKind.wrap_u64]; omega
      have wT : IntKind.u64.wrap (4294967296 * b1) = 4294967296 * b1 := by rw [IntKind.wrap_u64]; omega
      have wS : IntKind.u64.wrap (4294967296 * b1 + u1) = 4294967296 * b1 + u1 := by rw [IntKind.wrap_u64]; omega
      have hS : ¬ 4294967296 * b1 + u1 < P := fun h => hlt (hG.1 h)
      clear hG hP D1
      go_wp2
      go_loop [18, 16] (fun a b => ∃ q r : Int, a = .int .u64 q ∧ b = .int .u64 r ∧ Hid (Dig y1 R1 Q0 q r)) (fun a _ => (intOf a).toNat)
      case atStart => exact ⟨q', r', rfl, rfl, HD2⟩
      case round =>
        obtain ⟨a2, b2, rfl, rfl, D2⟩ := hrel
        have ga2 : 0 ≤ a2 ∧ a2 ≤ 4294967297 ∧ 0 ≤ b2 ∧ b2 < 4294967296 ∧ Q0 ≤ a2 := ⟨D2.out.2.2.1, D2.out.2.2.2.1, D2.out.2.2.2.2.1, D2.out.2.2.2.2.2, D2.out.2.1⟩
        obtain ⟨ga1, ga2, ga3, ga4, ga5⟩ := ga2
        by_cases hlt : Q0 < a2
        · by_cases hbig : 4294967296 ≤ a2
          · skip
            have hm : IntKind.u64.wrap (a2 - 1) = a2 - 1 := by rw [IntKind.wrap_u64]; omega
            have hp : IntKind.u64.wrap (b2 + y1) = b2 + y1 := by rw [IntKind.wrap_u64]; omega
            by_cases hr : 4294967296 ≤ b2 + y1
            · have hl := D2.out.last hlt by0 by0' bu0 (by omega) HQ0.out hr
              obtain rfl : a2 = Q0 + 1 := by omega
              have hm2 : IntKind.u64.wrap (Q0 + 1 - 1) = Q0 := by rw [IntKind.wrap_u64]; omega
              clear D2 hl hm 
              go_wp2
              go_ret2
              exact ⟨⟨_, rfl⟩, ⟨rfl, rfl, rfl, Nat.le_refl _, fun _ _ => rfl⟩⟩
            · have HN : Hid (Dig y1 R1 Q0 (a2 - 1) (b2 + y1)) := D2.out.next hlt (by omega) (by omega) (by omega)
              clear D2
              go_wp2
              go_round
              case rel => exact ⟨_, _, rfl, rfl, HN⟩
              case measure => simp [intOf]; omega
          · skip
            have hP := D2.out.prod by0 by0'
            have hG := D2.out.gt (y0 := y0) (u1 := u0) (by omega) HQ0.out
            obtain ⟨P, eP⟩ : ∃ P, a2 * y0 = P := ⟨_, rfl⟩
            rw [eP] at hP hG
            have wP : IntKind.u64.wrap P = P := by rw [IntKind.wrap_u64]; omega
            have wT : IntKind.u64.wrap (4294967296 * b2) = 4294967296 * b2 := by rw [IntKind.wrap_u64]; omega
            have wS : IntKind.u64.wrap (4294967296 * b2 + u0) = 4294967296 * b2 + u0 := by rw [IntKind.wrap_u64]; omega
            have hS : 4294967296 * b2 + u0 < P := hG.2 hlt
            clear hG hP
            have hm : IntKind.u64.wrap (a2 - 1) = a2 - 1 := by rw [IntKind.wrap_u64]; omega
            have hp : IntKind.u64.wrap (b2 + y1) = b2 + y1 := by rw [IntKind.wrap_u64]; omega
            by_cases hr : 4294967296 ≤ b2 + y1
            · have hl := D2.out.last hlt by0 by0' bu0 (by omega) HQ0.out hr
              obtain rfl : a2 = Q0 + 1 := by omega
              have hm2 : IntKind.u64.wrap (Q0 + 1 - 1) = Q0 := by rw [IntKind.wrap_u64]; omega
              clear D2 hl hm 
              go_wp2
              go_ret2
              exact ⟨⟨_, rfl⟩, ⟨rfl, rfl, rfl, Nat.le_refl _, fun _ _ => rfl⟩⟩
            · have HN : Hid (Dig y1 R1 Q0 (a2 - 1) (b2 + y1)) := D2.out.next hlt (by omega) (by omega) (by omega)
              clear D2
              go_wp2
              go_round
              case rel => exact ⟨_, _, rfl, rfl, HN⟩
              case measure => simp [intOf]; omega
        · obtain rfl : Q0 = a2 := by omega
          have hbig : ¬ 4294967296 ≤ Q0 := by omega
          have hP := D2.out.prod by0 by0'
          have hG := D2.out.gt (y0 := y0) (u1 := u0) (by omega) HQ0.out
          obtain ⟨P, eP⟩ : ∃ P, Q0 * y0 = P := ⟨_, rfl⟩
          rw [eP] at hP hG
          have wP : IntKind.u64.wrap P = P := by rw [IntKind.wrap_u64]; omega
          have wT : IntKind.u64.wrap (4294967296 * b2) = 4294967296 * b2 := by rw [IntKind.wrap_u64]; omega
          have wS : IntKind.u64.wrap (4294967296 * b2 + u0) = 4294967296 * b2 + u0 := by rw [IntKind.wrap_u64]; omega
          have hS : ¬ 4294967296 * b2 + u0 < P := fun h => hlt (hG.1 h)
          clear hG hP D2
          go_wp2
          go_ret2
          exact ⟨⟨_, rfl⟩, ⟨rfl, rfl, rfl, Nat.le_refl _, fun _ _ => rfl⟩⟩

end Go.Proofs.YtkhlihpghbhppaaGreat.Ra

