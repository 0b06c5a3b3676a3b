/-
  The arithmetic under MulDiv, no Go in sight: that a division of 128 bits by 64, two digits of 32 bits each (as the library's text goes), gives the quotient; and the reference's way, bit by bit.
-/
set_option maxRecDepth 100000
namespace Go.Proofs.Ytfajfebpchfkoae.Ra

/-- A digit is too great just if its product is. -/
theorem digit_gt (y1 y0 u u1 q r : Int) (hy : 0 < y1 * 4294967296 + y0) (hu : q * y1 + r = u) :
    (4294967296 * r + u1 < q * y0) ↔ (u * 4294967296 + u1) / (y1 * 4294967296 + y0) < q := by
  rw [Int.ediv_lt_iff_lt_mul hy, Int.mul_add, ← Int.mul_assoc]
  generalize q * y1 = p1 at *
  generalize q * y0 = p0 at *
  omega

/-- The digit's own bound. -/
theorem digit_lt (y1 y0 u u1 : Int) (hy : 0 < y1 * 4294967296 + y0) (hu : u < y1 * 4294967296 + y0) (h1 : u1 < 4294967296) :
    (u * 4294967296 + u1) / (y1 * 4294967296 + y0) < 4294967296 := by
  rw [Int.ediv_lt_iff_lt_mul hy]
  omega

/-- The first guess is no less than the digit, and at most two more. -/
theorem digit_first (y1 y0 u u1 : Int) (h0 : 0 ≤ y0) (h0' : y0 < 4294967296) (h1 : 2147483648 ≤ y1) (hu0 : 0 ≤ u) (hu : u < y1 * 4294967296 + y0) (h1u : 0 ≤ u1) (h1u' : u1 < 4294967296) :
    (u * 4294967296 + u1) / (y1 * 4294967296 + y0) ≤ u / y1 ∧ u / y1 ≤ 4294967297 := by
  constructor
  · have e := Int.mul_ediv_add_emod u y1
    have m := Int.emod_lt_of_pos u (show 0 < y1 by omega)
    have : (u * 4294967296 + u1) / (y1 * 4294967296 + y0) < u / y1 + 1 := by
      rw [Int.ediv_lt_iff_lt_mul (by omega)]
      have q0 : 0 ≤ u / y1 := Int.ediv_nonneg hu0 (by omega)
      have : 0 ≤ (u / y1 + 1) * y0 := Int.mul_nonneg (by omega) h0
      rw [Int.mul_add, ← Int.mul_assoc, Int.add_mul (u / y1) 1 y1, Int.mul_comm (u / y1) y1]
      generalize (u / y1 + 1) * y0 = p0 at *
      generalize y1 * (u / y1) = p1 at *
      omega
    omega
  · have : u / y1 < 4294967298 := by
      rw [Int.ediv_lt_iff_lt_mul (by omega)]
      omega
    omega

/-- Two digits: the quotient. -/
theorem two_digits (Y u a b : Int) (hY : 0 < Y) :
    (u * 4294967296 + a) / Y * 4294967296 + (((u * 4294967296 + a) % Y) * 4294967296 + b) / Y = (u * 18446744073709551616 + a * 4294967296 + b) / Y := by
  have e := Int.mul_ediv_add_emod (u * 4294967296 + a) Y
  generalize (u * 4294967296 + a) / Y = q at *
  generalize (u * 4294967296 + a) % Y = r at *
  have : u * 18446744073709551616 + a * 4294967296 + b = r * 4294967296 + b + q * 4294967296 * Y := by
    have : Y * q * 4294967296 = q * 4294967296 * Y := by rw [Int.mul_comm Y q, Int.mul_right_comm]
    omega
  rw [this, Int.add_mul_ediv_right _ _ (by omega)]
  omega

/-- Shifted alike, a quotient stays. -/
theorem quot_scale (U y p : Int) (hp : 0 < p) : U * p / (y * p) = U / y := Int.mul_ediv_mul_of_pos_left U y hp


/-! ### the reference: bit by bit -/
/-- q times c and r is X, and r is a rest. -/
def Rest (X c q r : Int) : Prop := X = q * c + r ∧ 0 ≤ r ∧ r < c

theorem Rest.quot {X c q r : Int} (h : Rest X c q r) : X / c = q := by
  obtain ⟨h, h0, h1⟩ := h
  rw [h, Int.add_comm, Int.add_mul_ediv_right _ _ (by omega), Int.ediv_eq_zero_of_lt h0 h1]
  omega

theorem Rest.zero (c : Int) (hc : 0 < c) : Rest 0 c 0 0 := ⟨by omega, by omega, hc⟩

theorem Rest.double_over {X c q r : Int} (h : Rest X c q r) (g : c - r ≤ r) : Rest (2 * X) c (2 * q + 1) (r - (c - r)) := by
  obtain ⟨h, h0, h1⟩ := h
  refine ⟨?_, by omega, by omega⟩
  rw [h, Int.add_mul, Int.mul_assoc]
  generalize q * c = p
  omega

theorem Rest.double_under {X c q r : Int} (h : Rest X c q r) (g : r < c - r) : Rest (2 * X) c (2 * q) (r + r) := by
  obtain ⟨h, h0, h1⟩ := h
  refine ⟨?_, by omega, by omega⟩
  rw [h, Int.mul_assoc]
  generalize q * c = p
  omega

theorem Rest.add_over {X c q r : Int} (b : Int) (h : Rest X c q r) (g : c - b % c ≤ r) : Rest (X + b) c (q + b / c + 1) (r - (c - b % c)) := by
  obtain ⟨h, h0, h1⟩ := h
  have e := Int.mul_ediv_add_emod b c
  have m := Int.emod_lt_of_pos b (show 0 < c by omega)
  have m0 := Int.emod_nonneg b (show c ≠ 0 by omega)
  refine ⟨?_, by omega, by omega⟩
  rw [h, Int.add_mul, Int.add_mul, Int.mul_comm (b / c) c]
  generalize q * c = p
  generalize c * (b / c) = p' at *
  generalize b % c = m' at *
  omega

theorem Rest.add_under {X c q r : Int} (b : Int) (h : Rest X c q r) (g : r < c - b % c) : Rest (X + b) c (q + b / c) (r + b % c) := by
  obtain ⟨h, h0, h1⟩ := h
  have e := Int.mul_ediv_add_emod b c
  have m0 := Int.emod_nonneg b (show c ≠ 0 by omega)
  refine ⟨?_, by omega, by omega⟩
  rw [h, Int.add_mul, Int.mul_comm (b / c) c]
  generalize q * c = p
  generalize c * (b / c) = p' at *
  generalize b % c = m' at *
  omega

/-- What was gone through gives no more than all. -/
theorem quot_mono {P a b c : Int} (h : P ≤ a) (hb : 0 ≤ b) (hc : 0 < c) : P * b / c ≤ a * b / c :=
  Int.ediv_le_ediv hc (Int.mul_le_mul_of_nonneg_right h hb)

/-- The next bit. -/
theorem next_bit (a : Int) (k : Nat) : a / 2 ^ k = 2 * (a / 2 ^ (k + 1)) + a / 2 ^ k % 2 := by
  have e : a / 2 ^ (k + 1) = a / 2 ^ k / 2 := by rw [Int.pow_succ, Int.ediv_ediv_of_nonneg (by exact Int.le_of_lt (Int.pow_pos (by decide)))]
  rw [e]
  omega


/-! ### a digit's loop -/
/-- The guess q of a digit Q, with r left. -/
def Dig (y1 u Q q r : Int) : Prop := q * y1 + r = u ∧ Q ≤ q ∧ 0 ≤ q ∧ q ≤ 4294967297 ∧ 0 ≤ r ∧ r < 4294967296

theorem Dig.prod {y1 u Q q r : Int} (h : Dig y1 u Q q r) {y0 : Int} (h0 : 0 ≤ y0) (h0' : y0 < 4294967296) : 0 ≤ q * y0 ∧ q * y0 < 18446744073709551616 := by
  obtain ⟨_, _, h1, h2, _, _⟩ := h
  refine ⟨Int.mul_nonneg h1 h0, ?_⟩
  have := Int.mul_le_mul h2 (show y0 ≤ 4294967295 by omega) h0 (by omega)
  omega

theorem Dig.gt {y1 u Q q r : Int} (h : Dig y1 u Q q r) {y0 u1 : Int} (hy : 0 < y1 * 4294967296 + y0) (hQ : Q = (u * 4294967296 + u1) / (y1 * 4294967296 + y0)) : (4294967296 * r + u1 < q * y0) ↔ Q < q := by
  rw [hQ]
  exact digit_gt y1 y0 u u1 q r hy h.1

theorem Dig.next {y1 u Q q r : Int} (h : Dig y1 u Q q r) (hq : Q < q) (hQ : 0 ≤ Q) (h1 : 0 ≤ y1) (hr : r + y1 < 4294967296) : Dig y1 u Q (q - 1) (r + y1) := by
  obtain ⟨e, h2, h3, h4, h5, h6⟩ := h
  refine ⟨?_, by omega, by omega, by omega, by omega, hr⟩
  rw [Int.sub_mul]
  generalize q * y1 = p at *
  omega

theorem Dig.last {y1 u Q q r : Int} (h : Dig y1 u Q q r) (hq : Q < q) {y0 u1 : Int} (h0 : 0 ≤ y0) (h0' : y0 < 4294967296) (hu : 0 ≤ u1) (hy : 0 < y1 * 4294967296 + y0) (hQ : Q = (u * 4294967296 + u1) / (y1 * 4294967296 + y0)) (hr : 4294967296 ≤ r + y1) : q - 1 = Q := by
  obtain ⟨e, h2, h3, h4, h5, h6⟩ := h
  have e' : (q - 1) * y1 + (r + y1) = u := by
    rw [Int.sub_mul]
    generalize q * y1 = p at *
    omega
  have g := digit_gt y1 y0 u u1 (q - 1) (r + y1) hy e'
  rw [← hQ] at g
  have b := Int.mul_le_mul (show q - 1 ≤ 4294967296 by omega) (show y0 ≤ 4294967295 by omega) h0 (by omega)
  generalize (q - 1) * y0 = p at *
  omega

theorem Dig.first (y1 y0 u u1 Q : Int) (h0 : 0 ≤ y0) (h0' : y0 < 4294967296) (h1 : 2147483648 ≤ y1) (h1' : y1 < 4294967296) (hu0 : 0 ≤ u) (hu : u < y1 * 4294967296 + y0) (h1u : 0 ≤ u1) (h1u' : u1 < 4294967296) (hQ : Q = (u * 4294967296 + u1) / (y1 * 4294967296 + y0)) :
    Dig y1 u Q (u / y1) (u % y1) ∧ 0 ≤ Q ∧ Q < 4294967296 ∧ 0 ≤ u / y1 * y1 ∧ u / y1 * y1 ≤ u ∧ u - u / y1 * y1 = u % y1 := by
  have f := digit_first y1 y0 u u1 h0 h0' h1 hu0 hu h1u h1u'
  have l := digit_lt y1 y0 u u1 (by omega) hu h1u'
  have n : 0 ≤ (u * 4294967296 + u1) / (y1 * 4294967296 + y0) := Int.ediv_nonneg (by omega) (by omega)
  rw [← hQ] at f l n
  have e := Int.mul_ediv_add_emod u y1
  rw [Int.mul_comm] at e
  have m := Int.emod_lt_of_pos u (show 0 < y1 by omega)
  have m0 := Int.emod_nonneg u (show y1 ≠ 0 by omega)
  have q0 : 0 ≤ u / y1 := Int.ediv_nonneg hu0 (by omega)
  have p0 : 0 ≤ u / y1 * y1 := Int.mul_nonneg q0 (by omega)
  have D : Dig y1 u Q (u / y1) (u % y1) := ⟨e, f.1, q0, f.2, m0, by omega⟩
  exact ⟨D, n, l, p0, by omega, by omega⟩

end Go.Proofs.Ytfajfebpchfkoae.Ra
