/- Parts of the proof: P SV. -/
import Derived.Test.YtkhlihpghbhppabGreatRows
import Derived.Test.YtkhlihpghbhppabGreatProviderRemovesK20
import Derived.Test.YtkhlihpghbhppabGreatProviderRemovesK52
set_option maxRecDepth 100000
namespace Go.Proofs.YtkhlihpghbhppabGreat
theorem mv_fail {b : Bk} {f t : Nat} {n : Int} (h : (mv b f t n).2 ≠ 0) : (mv b f t n).1 = b := by
  unfold mv at *
  split
  · rfl
  · rename_i h1
    rw [if_neg h1] at h
    split
    · rfl
    · rename_i h2
      rw [if_neg h2] at h
      exact absurd rfl h
theorem mv_make {b : Bk} {f t : Nat} {n : Int} (hg : b.good = true) (h0 : 0 ≤ n) (h1 : n ≤ 1125899906842624) (h2 : n ≤ b.get f) : mv b f t n = ((b.put f (b.get f - n)).put t (b.get t + n), 0) := by
  unfold mv
  rw [if_neg (by rw [hg]; simp [h0, h1]), if_neg (by omega)]
theorem mv_zero {b : Bk} {f t : Nat} {n : Int} (h : (mv b f t n).2 = 0) : b.good = true ∧ 0 ≤ n ∧ n ≤ 1125899906842624 ∧ n ≤ b.get f ∧ mv b f t n = ((b.put f (b.get f - n)).put t (b.get t + n), 0) := by
  by_cases h1 : b.good = false ∨ ¬ (0 ≤ n ∧ n ≤ 1125899906842624)
  · unfold mv at h
    rw [if_pos h1] at h
    exact absurd h (by simp)
  · by_cases h2 : b.get f < n
    · unfold mv at h
      rw [if_neg h1, if_pos h2] at h
      exact absurd h (by simp)
    · have hg : b.good = true := by
        cases hb : b.good with
        | true => rfl
        | false => exact absurd (.inl hb) h1
      have hn : 0 ≤ n ∧ n ≤ 1125899906842624 := Decidable.byContradiction fun hn => h1 (.inr hn)
      exact ⟨hg, hn.1, hn.2, by omega, mv_make hg hn.1 hn.2 (by omega)⟩
/-- the moves that there are -/
def Goes (f t : Nat) : Prop := (f < 4 ∧ t = 4) ∨ (f = 5 ∧ t < 4) ∨ (f = 4 ∧ t = 5) ∨ (f = 4 ∧ t = 6) ∨ (f = 5 ∧ t = 6)
theorem good_iff (b : Bk) : b.good = true ↔ (0 ≤ b.f0 ∧ b.f0 ≤ 400000) ∧ (0 ≤ b.f1 ∧ b.f1 ≤ 400000) ∧ (0 ≤ b.f2 ∧ b.f2 ≤ 400000) ∧ (0 ≤ b.f3 ∧ b.f3 ≤ 400000) ∧ (0 ≤ b.bo ∧ b.bo ≤ 400000) ∧ (0 ≤ b.wa ∧ b.wa ≤ 400000) ∧ (0 ≤ b.bu ∧ b.bu ≤ 400000) ∧ b.f0 + b.f1 + b.f2 + b.f3 + b.bo + b.wa + b.bu = 400000 := by
  unfold Bk.good goodB
  exact decide_eq_true_iff
theorem good_mv {b : Bk} {f t : Nat} {n : Int} (hft : Goes f t) (hg : b.good = true) (h0 : 0 ≤ n) (h2 : n ≤ b.get f) :
    ((b.put f (b.get f - n)).put t (b.get t + n)).good = true ∧ b.bu ≤ ((b.put f (b.get f - n)).put t (b.get t + n)).bu := by
  rw [good_iff] at *
  rcases hft with ⟨hf, rfl⟩ | ⟨rfl, ht⟩ | ⟨rfl, rfl⟩ | ⟨rfl, rfl⟩ | ⟨rfl, rfl⟩
  · rcases (show f = 0 ∨ f = 1 ∨ f = 2 ∨ f = 3 by omega) with rfl | rfl | rfl | rfl <;> simp only [Bk.get, Bk.put] at * <;> omega
  · rcases (show t = 0 ∨ t = 1 ∨ t = 2 ∨ t = 3 by omega) with rfl | rfl | rfl | rfl <;> simp only [Bk.get, Bk.put] at * <;> omega
  all_goals simp only [Bk.get, Bk.put] at * <;> omega
/-- what is asked of whatever moves -/
structure Kept (b : Bk) (r : Bk × Int) : Prop where
  no : r.2 ≠ 0 → r.1 = b
  yes : r.2 = 0 → b.good = true ∧ r.1.good = true ∧ b.bu ≤ r.1.bu
theorem kept_mv (b : Bk) {f t : Nat} (n : Int) (hft : Goes f t) : Kept b (mv b f t n) := by
  refine ⟨mv_fail, fun h => ?_⟩
  obtain ⟨h1, h2, h3, h4, h5⟩ := mv_zero h
  rw [h5]
  exact ⟨h1, good_mv hft h1 h2 h4⟩
theorem kept_pay (b : Bk) (d n : Int) : Kept b (payR b d n) := by
  unfold payR
  split
  · exact kept_mv b n (.inr (.inl ⟨rfl, by omega⟩))
  · exact ⟨fun _ => rfl, fun h => absurd h (by simp)⟩
end Go.Proofs.YtkhlihpghbhppabGreat

set_option maxRecDepth 100000
namespace Go.Proofs.YtkhlihpghbhppabGreat
open Go.RowKit
/-- a validator is jailed or not, dead or not -/
def setJ (s : St) (v : Nat) (j d : Bool) : St := { s with V := setV s.V v { s.V v with jail := j, dead := d } }
end Go.Proofs.YtkhlihpghbhppabGreat

