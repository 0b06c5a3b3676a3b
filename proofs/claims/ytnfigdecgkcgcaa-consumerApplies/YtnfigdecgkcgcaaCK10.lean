/- Parts of the proof: CM. -/
import Derived.Test.YtnfigdecgkcgcaaRows
import Derived.Test.YtnfigdecgkcgcaaCK3
set_option maxRecDepth 100000
namespace Go.Proofs.Ytnfigdecgkcgcaa.Cd
open Go.RowKit

/-- the number of bytes, behind a number -/
def numF (acc : Int) (l : List Int) : Int := l.foldl (fun n c => n * 256 + c) acc
theorem pow_succ8 (m : Nat) : (2 : Int) ^ (8 * (m + 1)) = 2 ^ (8 * m) * 256 := by
  rw [show 8 * (m + 1) = 8 * m + 8 by omega, Int.pow_add]; rfl
theorem pow_pos8 (m : Nat) : (0 : Int) < 2 ^ (8 * m) := Int.pow_pos (by decide)
theorem emod_mul256 (n a : Int) (ha : 0 < a) : n % (a * 256) = n % a + a * (n / a % 256) := by
  have h1 := Int.emod_add_mul_ediv n a
  have h2 := Int.emod_add_mul_ediv (n / a) 256
  have h3 := Int.emod_nonneg n (show a ≠ 0 by omega)
  have h4 := Int.emod_lt_of_pos n ha
  have h5 := Int.emod_nonneg (n / a) (show (256 : Int) ≠ 0 by decide)
  have h6 := Int.emod_lt_of_pos (n / a) (show (0 : Int) < 256 by decide)
  generalize n / a / 256 = q at *
  generalize n / a % 256 = r at *
  generalize n % a = s at *
  generalize n / a = t at *
  subst h2
  have e : n = (s + a * r) + (a * 256) * q := by rw [← h1, Int.mul_add, ← Int.mul_assoc]; omega
  have hle : a * r ≤ a * 255 := Int.mul_le_mul_of_nonneg_left (by omega) (by omega)
  have hge : 0 ≤ a * r := Int.mul_nonneg (by omega) h5
  rw [e, Int.add_mul_emod_self_left, Int.emod_eq_of_lt (by omega) (by omega)]
theorem numF_be (n : Int) : ∀ (m : Nat) (acc : Int), numF acc (be n m) = acc * 2 ^ (8 * m) + n % 2 ^ (8 * m) := by
  intro m
  induction m with
  | zero => intro acc; simp [be, numF, Int.emod_one]
  | succ m ih =>
    intro acc
    have h : numF acc (be n (m + 1)) = numF (acc * 256 + n / 2 ^ (8 * m) % 256) (be n m) := rfl
    rw [h, ih, pow_succ8, emod_mul256 _ _ (pow_pos8 m), Int.add_mul, Int.mul_assoc, Int.mul_comm 256, Int.mul_comm (n / 2 ^ (8 * m) % 256)]
    omega
theorem num_be {n : Int} {m : Nat} (h : 0 ≤ n) (h2 : n < 2 ^ (8 * m)) : numF 0 (be n m) = n := by
  rw [numF_be, Int.zero_mul, Int.zero_add, Int.emod_eq_of_lt h h2]
theorem be_byte (n : Int) (m : Nat) : ∀ c ∈ be n m, 0 ≤ c ∧ c < 256 := by
  induction m with
  | zero => simp [be]
  | succ m ih =>
    intro c hc
    rcases List.mem_cons.1 hc with rfl | hc
    · omega
    · exact ih c hc

theorem good_bounds {k i v n : Int} {S : List (Int × Int)} {D : List Int} (h : goodN k i v n S D = 0) :
    1 ≤ k ∧ k ≤ 4 ∧ 1 ≤ i ∧ i ≤ 1099511627776 ∧ 0 ≤ v ∧ v < 6 ∧ 0 ≤ n ∧ n ≤ 1125899906842624 := by
  have hf : ∀ {k v n : Int} {a b : Nat}, accB k = false → forB k v n a b = false → v = 0 ∧ n = 0 := by
    intro k v n a b h1 h2
    simp only [forB, h1, Bool.or_eq_false_iff, Bool.and_eq_false_iff] at h2
    simp at h2
    exact h2.1
  rcases goodN_cases k i v n S D with h' | h' | ⟨h1, h2, h' | h' | ⟨h3, h4, h' | h' | h' | ⟨h5 | h5, h' | h' | h' | h'⟩⟩⟩
  all_goals first | (exfalso; omega) | skip
  · have hv : isV v = true := h5.2.1
    simp only [isV, decide_eq_true_eq] at hv
    omega
  · obtain ⟨e1, e2⟩ := hf h5 h'.1
    omega

theorem pws_bounds (S : List (Int × Int)) : ∀ last : Int, -1 ≤ last → prisesFrom last S = true → ∀ p ∈ S, 0 ≤ p.1 ∧ p.1 < 6 ∧ 0 ≤ p.2 ∧ p.2 ≤ 1125899906842624 := by
  induction S with
  | nil => simp
  | cons x t ih =>
    intro last hl h p hp
    simp only [prisesFrom, Bool.and_eq_true, decide_eq_true_eq, isV] at h
    obtain ⟨⟨⟨⟨h1, h2⟩, h3⟩, h4⟩, h5⟩ := h
    rcases List.mem_cons.1 hp with rfl | hp
    · omega
    · exact ih x.1 (by omega) h5 p hp
theorem nums_bounds (D : List Int) : ∀ last : Int, -1 ≤ last → risesFrom last D = true → ∀ p ∈ D, 0 ≤ p ∧ p < 6 := by
  induction D with
  | nil => simp
  | cons x t ih =>
    intro last hl h p hp
    simp only [risesFrom, Bool.and_eq_true, decide_eq_true_eq, isV] at h
    obtain ⟨⟨h1, h2⟩, h3⟩ := h
    rcases List.mem_cons.1 hp with rfl | hp
    · omega
    · exact ih x (by omega) h3 p hp

theorem enc_byte (k i v n : Int) (S : List (Int × Int)) (D : List Int) : ∀ c ∈ enc k i v n S D, 0 ≤ c ∧ c < 256 := by
  intro c hc
  unfold enc encH at hc
  simp only [List.mem_append, List.mem_flatMap, encP] at hc
  rcases hc with ((((((h | h) | h) | h) | h) | ⟨p, _, h | h⟩) | h) | ⟨p, _, h⟩ <;> exact be_byte _ _ c h
end Go.Proofs.Ytnfigdecgkcgcaa.Cd

