/- Parts of the proof: LK. -/
import Derived.Test.YtnfigdecgkcgcaaRows
import Derived.WalkKit
import Derived.WalkSpells
import Derived.WalkLawsBesides
set_option maxRecDepth 100000
namespace Go.Proofs.Ytnfigdecgkcgcaa.Pk
open Go.RowKit
theorem tmod_emod (k n : Int) (hn : 0 < n) : (k.tmod n < 0 → k.tmod n + n = k % n) ∧ (0 ≤ k.tmod n → k.tmod n = k % n) ∧ (-n < k.tmod n ∧ k.tmod n < n) := by
  have h2 := Int.emod_lt_of_pos k hn
  have h3 := Int.emod_nonneg k (show n ≠ 0 by omega)
  rcases Int.lt_or_le k 0 with hk | hk
  · have e : k.tmod n = -((-k) % n) := by
      rw [show k = -(-k) by omega, Int.neg_tmod, Int.tmod_eq_emod_of_nonneg (by omega)]
      simp
    have h4 := Int.emod_lt_of_pos (-k) hn
    have h5 := Int.emod_nonneg (-k) (show n ≠ 0 by omega)
    have h6 : (-k) % n = if k % n = 0 then 0 else n - k % n := by
      split
      · rename_i h
        exact Int.emod_eq_zero_of_dvd (Int.dvd_neg.2 (Int.dvd_of_emod_eq_zero h))
      · rename_i h
        have e1 : -k = (n - k % n) + n * (-(k / n) - 1) := by
          have := Int.mul_ediv_add_emod k n
          rw [Int.mul_sub, Int.mul_neg]
          omega
        rw [e1, Int.add_mul_emod_self_left]
        exact Int.emod_eq_of_lt (by omega) (by omega)
    rw [e, h6]
    split <;> omega
  · have e : k.tmod n = k % n := Int.tmod_eq_emod_of_nonneg hk
    rw [e]
    omega
set_option maxHeartbeats 400000 in
theorem pick_any (k n : Int) (w : World) (hn : 0 < n) (hn1 : n ≤ 1099511627776) :
    Calls Try.prog 28 #[.int .i64 k, .int .i64 n] w fun e w' => e = .returned (.int .i64 (k % n)) ∧ w = w' := by
  obtain ⟨h1, h2, h3⟩ := tmod_emod k n hn
  have hn0 : (n == 0) = false := by simp; omega
  generalize hm : k.tmod n = m at *
  have hw : wrap64 m = m := by simp [wrap64]; omega
  generalize k % n = r at *
  by_cases hneg : m < 0
  · have h1 := h1 hneg
    subst h1
    clear h2
    go_enter Try.func28, Try.ntmps28
    go_wp2
    go_ret
    exact ⟨rfl, rfl⟩
  · have h2 := h2 (by omega)
    subst h2
    clear h1
    go_enter Try.func28, Try.ntmps28
    go_wp2
    go_ret
    exact ⟨rfl, rfl⟩
end Go.Proofs.Ytnfigdecgkcgcaa.Pk

