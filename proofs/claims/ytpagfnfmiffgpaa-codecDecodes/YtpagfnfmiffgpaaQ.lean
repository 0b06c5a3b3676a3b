/- The walk of the reference GoodPacket, whole: it answers goodN. -/
import Derived.Test.YtpagfnfmiffgpaaP
namespace Go.Proofs.Ytpagfnfmiffgpaa
open Go.RowKit
theorem accB_1 : accB 1 = false := rfl
theorem accB_2 : accB 2 = false := rfl
theorem accB_3 : accB 3 = true := rfl
theorem accB_4 : accB 4 = true := rfl
theorem forB_acc {k v n : Int} {a b : Nat} (h : accB k = true) (hk : k ≠ 1) : forB k v n a b = decide (0 < a ∨ 0 < b) := by
  rw [Bool.eq_iff_iff]
  simp [forB, h, hk]; omega
theorem forB_two {v n : Int} {a b : Nat} : forB 2 v n a b = decide (v ≠ 0 ∨ n ≠ 0 ∨ 0 < a ∨ 0 < b) := by
  rw [Bool.eq_iff_iff]
  simp [forB, accB_2]; omega
theorem forB_one {v n : Int} {a b : Nat} : forB 1 v n a b = decide (v ≠ 0 ∨ n ≠ 0) := by
  rw [Bool.eq_iff_iff]
  simp [forB, accB_1]
theorem goodN_tail {k i v n : Int} {S : List (Int × Int)} {D : List Int} (h1 : 1 ≤ k) (h2 : k ≤ 4) (h3 : 1 ≤ i) (h4 : i ≤ 1099511627776) (h5 : ¬ (accB k = true ∧ (isV v = false ∨ n < 1 ∨ 1125899906842624 < n))) (h6 : forB k v n S.length D.length = false) :
    goodN k i v n S D = if prisesFrom (-1) S = true ∧ risesFrom (-1) D = true then 0 else 2 := by
  rw [goodN, if_neg (by omega), if_neg (by omega), if_neg h5, if_neg (by rw [h6]; simp)]
  cases prisesFrom (-1) S <;> cases risesFrom (-1) D <;> rfl
theorem goodN_form {k i v n : Int} {S : List (Int × Int)} {D : List Int} (h1 : 1 ≤ k) (h2 : k ≤ 4) (h3 : 1 ≤ i) (h4 : i ≤ 1099511627776) (h5 : ¬ (accB k = true ∧ (isV v = false ∨ n < 1 ∨ 1125899906842624 < n))) (h6 : forB k v n S.length D.length = true) :
    goodN k i v n S D = 1 := by
  rw [goodN, if_neg (by omega), if_neg (by omega), if_neg h5, if_pos h6]
theorem goodN_range {k i v n : Int} {S : List (Int × Int)} {D : List Int} (h1 : 1 ≤ k) (h2 : k ≤ 4) (h3 : 1 ≤ i) (h4 : i ≤ 1099511627776) (h5 : accB k = true ∧ (isV v = false ∨ n < 1 ∨ 1125899906842624 < n)) :
    goodN k i v n S D = 2 := by
  rw [goodN, if_neg (by omega), if_neg (by omega), if_pos h5]

theorem gp_cases (k i v n : Int) (S : List (Int × Int)) (D : List Int) :
    (k < 1 ∧ goodN k i v n S D = 3) ∨ (1 ≤ k ∧ 4 < k ∧ goodN k i v n S D = 3) ∨ (1 ≤ k ∧ k ≤ 4 ∧ i < 1 ∧ goodN k i v n S D = 2) ∨ (1 ≤ k ∧ k ≤ 4 ∧ 1 ≤ i ∧ 1099511627776 < i ∧ goodN k i v n S D = 2) ∨
    (1 ≤ i ∧ i ≤ 1099511627776 ∧
     (((k = 3 ∨ k = 4) ∧ (v < 0 ∧ goodN k i v n S D = 2 ∨ 0 ≤ v ∧ 5 < v ∧ goodN k i v n S D = 2 ∨ 0 ≤ v ∧ v ≤ 5 ∧ n < 1 ∧ goodN k i v n S D = 2 ∨ 0 ≤ v ∧ v ≤ 5 ∧ 1 ≤ n ∧ 1125899906842624 < n ∧ goodN k i v n S D = 2 ∨
        0 ≤ v ∧ v ≤ 5 ∧ 1 ≤ n ∧ n ≤ 1125899906842624 ∧ (0 < S.length ∧ goodN k i v n S D = 1 ∨ S.length ≤ 0 ∧ 0 < D.length ∧ goodN k i v n S D = 1))) ∨
      (k = 2 ∧ ((v != 0) = true ∧ goodN k i v n S D = 1 ∨ v = 0 ∧ (n != 0) = true ∧ goodN k i v n S D = 1 ∨ v = 0 ∧ n = 0 ∧ (0 < S.length ∧ goodN k i v n S D = 1 ∨ S.length ≤ 0 ∧ 0 < D.length ∧ goodN k i v n S D = 1))) ∨
      (k = 1 ∧ ((v != 0) = true ∧ goodN k i v n S D = 1 ∨ v = 0 ∧ (n != 0) = true ∧ goodN k i v n S D = 1)) ∨
      (((k = 1 ∧ v = 0 ∧ n = 0) ∨ (k = 2 ∧ v = 0 ∧ n = 0 ∧ S.length ≤ 0 ∧ D.length ≤ 0) ∨ ((k = 3 ∨ k = 4) ∧ 0 ≤ v ∧ v ≤ 5 ∧ 1 ≤ n ∧ n ≤ 1125899906842624 ∧ S.length ≤ 0 ∧ D.length ≤ 0)) ∧
        goodN k i v n S D = if prisesFrom (-1) S = true ∧ risesFrom (-1) D = true then 0 else 2))) := by
  rcases Int.lt_or_le k 1 with h | h1
  · left; exact ⟨h, by rw [goodN, if_pos (Or.inl h)]⟩
  right
  rcases Int.lt_or_le 4 k with h | h2
  · left; exact ⟨h1, h, by rw [goodN, if_pos (Or.inr h)]⟩
  right
  rcases Int.lt_or_le i 1 with h | h3
  · left; exact ⟨h1, h2, h, by rw [goodN, if_neg (by omega), if_pos (Or.inl h)]⟩
  right
  rcases Int.lt_or_le 1099511627776 i with h | h4
  · left; exact ⟨h1, h2, h3, h, by rw [goodN, if_neg (by omega), if_pos (Or.inr h)]⟩
  right
  refine ⟨h3, h4, ?_⟩
  by_cases hk : k = 3 ∨ k = 4
  · have ha := accB_pos hk
    have hk1 : k ≠ 1 := by omega
    rcases Int.lt_or_le v 0 with h | hv
    · left; exact ⟨hk, .inl ⟨h, goodN_range h1 h2 h3 h4 ⟨ha, .inl (isV_neg (by omega))⟩⟩⟩
    rcases Int.lt_or_le 5 v with h | hv5
    · left; exact ⟨hk, .inr (.inl ⟨hv, h, goodN_range h1 h2 h3 h4 ⟨ha, .inl (isV_neg (by omega))⟩⟩)⟩
    rcases Int.lt_or_le n 1 with h | hn
    · left; exact ⟨hk, .inr (.inr (.inl ⟨hv, hv5, h, goodN_range h1 h2 h3 h4 ⟨ha, .inr (.inl h)⟩⟩))⟩
    rcases Int.lt_or_le 1125899906842624 n with h | hn2
    · left; exact ⟨hk, .inr (.inr (.inr (.inl ⟨hv, hv5, hn, h, goodN_range h1 h2 h3 h4 ⟨ha, .inr (.inr h)⟩⟩)))⟩
    have h5 : ¬ (accB k = true ∧ (isV v = false ∨ n < 1 ∨ 1125899906842624 < n)) := by rw [isV_pos hv (by omega)]; simp; omega
    rcases Nat.lt_or_ge 0 S.length with h | hs
    · left; exact ⟨hk, .inr (.inr (.inr (.inr ⟨hv, hv5, hn, hn2, .inl ⟨h, goodN_form h1 h2 h3 h4 h5 (by rw [forB_acc ha hk1]; simp; omega)⟩⟩)))⟩
    rcases Nat.lt_or_ge 0 D.length with h | hd
    · left; exact ⟨hk, .inr (.inr (.inr (.inr ⟨hv, hv5, hn, hn2, .inr ⟨hs, h, goodN_form h1 h2 h3 h4 h5 (by rw [forB_acc ha hk1]; simp; omega)⟩⟩)))⟩
    · right; right; right; exact ⟨.inr (.inr ⟨hk, hv, hv5, hn, hn2, hs, hd⟩), goodN_tail h1 h2 h3 h4 h5 (by rw [forB_acc ha hk1]; exact decide_eq_false (by omega))⟩
  right
  have h5 : ¬ (accB k = true ∧ (isV v = false ∨ n < 1 ∨ 1125899906842624 < n)) := by rw [accB_neg (by omega) (by omega)]; simp
  by_cases hk2 : k = 2
  · subst hk2
    by_cases hv : v = 0
    · by_cases hn : n = 0
      · rcases Nat.lt_or_ge 0 S.length with h | hs
        · left; exact ⟨rfl, .inr (.inr ⟨hv, hn, .inl ⟨h, goodN_form h1 h2 h3 h4 h5 (by rw [forB_two]; simp; omega)⟩⟩)⟩
        rcases Nat.lt_or_ge 0 D.length with h | hd
        · left; exact ⟨rfl, .inr (.inr ⟨hv, hn, .inr ⟨hs, h, goodN_form h1 h2 h3 h4 h5 (by rw [forB_two]; simp; omega)⟩⟩)⟩
        · right; right; exact ⟨.inr (.inl ⟨rfl, hv, hn, hs, hd⟩), goodN_tail h1 h2 h3 h4 h5 (by rw [forB_two]; exact decide_eq_false (by omega))⟩
      · left; exact ⟨rfl, .inr (.inl ⟨hv, by simpa using hn, goodN_form h1 h2 h3 h4 h5 (by rw [forB_two]; simp; omega)⟩)⟩
    · left; exact ⟨rfl, .inl ⟨by simpa using hv, goodN_form h1 h2 h3 h4 h5 (by rw [forB_two]; simp; omega)⟩⟩
  right
  have hk1 : k = 1 := by omega
  subst hk1
  by_cases hv : v = 0
  · by_cases hn : n = 0
    · right; exact ⟨.inl ⟨rfl, hv, hn⟩, goodN_tail h1 h2 h3 h4 h5 (by rw [forB_one]; simp; omega)⟩
    · left; exact ⟨rfl, .inr ⟨hv, by simpa using hn, goodN_form h1 h2 h3 h4 h5 (by rw [forB_one]; simp; omega)⟩⟩
  · left; exact ⟨rfl, .inl ⟨by simpa using hv, goodN_form h1 h2 h3 h4 h5 (by rw [forB_one]; simp; omega)⟩⟩

set_option maxHeartbeats 2000000 in
theorem gp_any (k i v n : Int) (S : List (Int × Int)) (D : List Int) (sa da : Option Addr) (cs cd sb so db dO : Nat) (w : World) (L : Lies w S D sa da sb so db dO) :
    Calls Try.prog 13 #[.agg #[.int .i64 k, .int .i64 i, .int .i64 v, .int .i64 n, .slice sa S.length cs, .slice da D.length cd]] w fun e w' => e = .returned (.int .i64 (goodN k i v n S D)) ∧ Below w.heap.size w w' := by
  have hls := L.hls
  have hld := L.hld
  unfold maxLen at hls hld
  have hcs := gp_cases k i v n S D
  generalize goodN k i v n S D = G at *
  rcases hcs with ⟨h1, rfl⟩ | ⟨h1, h2, rfl⟩ | ⟨h1, h2, h3, rfl⟩ | ⟨h1, h2, h3, h4, rfl⟩ | ⟨h1, h2, ⟨rfl | rfl, ⟨h3, rfl⟩ | ⟨h3, h4, rfl⟩ | ⟨h3, h4, h5, rfl⟩ | ⟨h3, h4, h5, h6, rfl⟩ | ⟨h3, h4, h5, h6, ⟨h7, rfl⟩ | ⟨h7, h8, rfl⟩⟩⟩ | ⟨rfl, ⟨h3, rfl⟩ | ⟨rfl, h4, rfl⟩ | ⟨rfl, rfl, ⟨h3, rfl⟩ | ⟨h3, h4, rfl⟩⟩⟩ | ⟨rfl, ⟨h3, rfl⟩ | ⟨rfl, h4, rfl⟩⟩ | ⟨hk, hG⟩⟩
  case inr.inr.inr.inr.inr.inr.inr => exact gp_loops k i v n S D sa da cs cd sb so db dO w L h1 h2 hk G hG
  all_goals clear L
  all_goals go_enter Try.func13, Try.ntmps13
  all_goals go_wp2
  all_goals go_ret
  all_goals exact ⟨rfl, below_new _ _⟩
end Go.Proofs.Ytpagfnfmiffgpaa
