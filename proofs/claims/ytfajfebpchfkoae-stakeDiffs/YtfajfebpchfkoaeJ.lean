/- What Bond, Unbond, Pay and Burn answer, for every bank. -/
import Derived.Test.YtfajfebpchfkoaeG1
import Derived.Test.YtfajfebpchfkoaeG2
import Derived.Test.YtfajfebpchfkoaeG3
import Derived.Test.YtfajfebpchfkoaeG4
import Derived.Test.YtfajfebpchfkoaeH1
import Derived.Test.YtfajfebpchfkoaeH2
import Derived.Test.YtfajfebpchfkoaeH3
import Derived.Test.YtfajfebpchfkoaeH4
import Derived.WalkKit
set_option maxRecDepth 100000
namespace Go.Proofs.Ytfajfebpchfkoae
open Go.RowKit
theorem mv_04 (b : Bk) (n : Int) (c : Nat) (w : World) (hc : w.cell? ⟨c, 0, none⟩ = some (.int .i64 0)) (hcl : c < w.heap.size) :
    Calls Try.prog 83 #[.agg #[.int .i64 b.f0, .int .i64 b.f1, .int .i64 b.f2, .int .i64 b.f3, .int .i64 b.bo, .int .i64 b.wa, .int .i64 b.bu], (.func (.func 90) #[] #[.pointer (some ⟨c, 0, none⟩)]), (.func (.func 87) #[] #[]), .int .i64 n] w fun e w' => e = .returned (.tuple #[.agg #[.int .i64 (mv b 0 4 n).1.f0, .int .i64 (mv b 0 4 n).1.f1, .int .i64 (mv b 0 4 n).1.f2, .int .i64 (mv b 0 4 n).1.f3, .int .i64 (mv b 0 4 n).1.bo, .int .i64 (mv b 0 4 n).1.wa, .int .i64 (mv b 0 4 n).1.bu], .int .i64 (mv b 0 4 n).2]) ∧ Below w.heap.size w w' := by
  by_cases hg : b.good = true
  · by_cases hn : 0 ≤ n ∧ n ≤ 1125899906842624
    · have h1 : ¬ (b.good = false ∨ ¬ (0 ≤ n ∧ n ≤ 1125899906842624)) := by rw [hg]; simp [hn]
      by_cases hl : b.f0 < n
      · have e : mv b 0 4 n = (b, 7) := by rw [mv, if_neg h1, if_pos (show b.get 0 < n from hl)]
        rw [e]
        exact move_funds_0 b.f0 b.f1 b.f2 b.f3 b.bo b.wa b.bu n c _ w hc hcl hg hn.1 hn.2 hl
      · have e : mv b 0 4 n = ((b.put 0 (b.f0 - n)).put 4 (b.bo + n), 0) := by rw [mv, if_neg h1, if_neg (show ¬ b.get 0 < n from hl)]; rfl
        rw [e]
        exact move_ok_04 b.f0 b.f1 b.f2 b.f3 b.bo b.wa b.bu n c w hc hcl hg hn.1 hn.2 (by omega)
    · have e : mv b 0 4 n = (b, 2) := by rw [mv, if_pos (.inr hn)]
      rw [e]
      exact move_range_in b.f0 b.f1 b.f2 b.f3 b.bo b.wa b.bu n _ _ w hg hn
  · have e : mv b 0 4 n = (b, 2) := by rw [mv, if_pos (.inl (by simpa using hg))]
    rw [e]
    exact move_range_bad b.f0 b.f1 b.f2 b.f3 b.bo b.wa b.bu n _ _ w (by simpa [Bk.good] using hg)
theorem mv_14 (b : Bk) (n : Int) (c : Nat) (w : World) (hc : w.cell? ⟨c, 0, none⟩ = some (.int .i64 1)) (hcl : c < w.heap.size) :
    Calls Try.prog 83 #[.agg #[.int .i64 b.f0, .int .i64 b.f1, .int .i64 b.f2, .int .i64 b.f3, .int .i64 b.bo, .int .i64 b.wa, .int .i64 b.bu], (.func (.func 90) #[] #[.pointer (some ⟨c, 0, none⟩)]), (.func (.func 87) #[] #[]), .int .i64 n] w fun e w' => e = .returned (.tuple #[.agg #[.int .i64 (mv b 1 4 n).1.f0, .int .i64 (mv b 1 4 n).1.f1, .int .i64 (mv b 1 4 n).1.f2, .int .i64 (mv b 1 4 n).1.f3, .int .i64 (mv b 1 4 n).1.bo, .int .i64 (mv b 1 4 n).1.wa, .int .i64 (mv b 1 4 n).1.bu], .int .i64 (mv b 1 4 n).2]) ∧ Below w.heap.size w w' := by
  by_cases hg : b.good = true
  · by_cases hn : 0 ≤ n ∧ n ≤ 1125899906842624
    · have h1 : ¬ (b.good = false ∨ ¬ (0 ≤ n ∧ n ≤ 1125899906842624)) := by rw [hg]; simp [hn]
      by_cases hl : b.f1 < n
      · have e : mv b 1 4 n = (b, 7) := by rw [mv, if_neg h1, if_pos (show b.get 1 < n from hl)]
        rw [e]
        exact move_funds_1 b.f0 b.f1 b.f2 b.f3 b.bo b.wa b.bu n c _ w hc hcl hg hn.1 hn.2 hl
      · have e : mv b 1 4 n = ((b.put 1 (b.f1 - n)).put 4 (b.bo + n), 0) := by rw [mv, if_neg h1, if_neg (show ¬ b.get 1 < n from hl)]; rfl
        rw [e]
        exact move_ok_14 b.f0 b.f1 b.f2 b.f3 b.bo b.wa b.bu n c w hc hcl hg hn.1 hn.2 (by omega)
    · have e : mv b 1 4 n = (b, 2) := by rw [mv, if_pos (.inr hn)]
      rw [e]
      exact move_range_in b.f0 b.f1 b.f2 b.f3 b.bo b.wa b.bu n _ _ w hg hn
  · have e : mv b 1 4 n = (b, 2) := by rw [mv, if_pos (.inl (by simpa using hg))]
    rw [e]
    exact move_range_bad b.f0 b.f1 b.f2 b.f3 b.bo b.wa b.bu n _ _ w (by simpa [Bk.good] using hg)
theorem mv_24 (b : Bk) (n : Int) (c : Nat) (w : World) (hc : w.cell? ⟨c, 0, none⟩ = some (.int .i64 2)) (hcl : c < w.heap.size) :
    Calls Try.prog 83 #[.agg #[.int .i64 b.f0, .int .i64 b.f1, .int .i64 b.f2, .int .i64 b.f3, .int .i64 b.bo, .int .i64 b.wa, .int .i64 b.bu], (.func (.func 90) #[] #[.pointer (some ⟨c, 0, none⟩)]), (.func (.func 87) #[] #[]), .int .i64 n] w fun e w' => e = .returned (.tuple #[.agg #[.int .i64 (mv b 2 4 n).1.f0, .int .i64 (mv b 2 4 n).1.f1, .int .i64 (mv b 2 4 n).1.f2, .int .i64 (mv b 2 4 n).1.f3, .int .i64 (mv b 2 4 n).1.bo, .int .i64 (mv b 2 4 n).1.wa, .int .i64 (mv b 2 4 n).1.bu], .int .i64 (mv b 2 4 n).2]) ∧ Below w.heap.size w w' := by
  by_cases hg : b.good = true
  · by_cases hn : 0 ≤ n ∧ n ≤ 1125899906842624
    · have h1 : ¬ (b.good = false ∨ ¬ (0 ≤ n ∧ n ≤ 1125899906842624)) := by rw [hg]; simp [hn]
      by_cases hl : b.f2 < n
      · have e : mv b 2 4 n = (b, 7) := by rw [mv, if_neg h1, if_pos (show b.get 2 < n from hl)]
        rw [e]
        exact move_funds_2 b.f0 b.f1 b.f2 b.f3 b.bo b.wa b.bu n c _ w hc hcl hg hn.1 hn.2 hl
      · have e : mv b 2 4 n = ((b.put 2 (b.f2 - n)).put 4 (b.bo + n), 0) := by rw [mv, if_neg h1, if_neg (show ¬ b.get 2 < n from hl)]; rfl
        rw [e]
        exact move_ok_24 b.f0 b.f1 b.f2 b.f3 b.bo b.wa b.bu n c w hc hcl hg hn.1 hn.2 (by omega)
    · have e : mv b 2 4 n = (b, 2) := by rw [mv, if_pos (.inr hn)]
      rw [e]
      exact move_range_in b.f0 b.f1 b.f2 b.f3 b.bo b.wa b.bu n _ _ w hg hn
  · have e : mv b 2 4 n = (b, 2) := by rw [mv, if_pos (.inl (by simpa using hg))]
    rw [e]
    exact move_range_bad b.f0 b.f1 b.f2 b.f3 b.bo b.wa b.bu n _ _ w (by simpa [Bk.good] using hg)
theorem mv_34 (b : Bk) (n : Int) (c : Nat) (w : World) (hc : w.cell? ⟨c, 0, none⟩ = some (.int .i64 3)) (hcl : c < w.heap.size) :
    Calls Try.prog 83 #[.agg #[.int .i64 b.f0, .int .i64 b.f1, .int .i64 b.f2, .int .i64 b.f3, .int .i64 b.bo, .int .i64 b.wa, .int .i64 b.bu], (.func (.func 90) #[] #[.pointer (some ⟨c, 0, none⟩)]), (.func (.func 87) #[] #[]), .int .i64 n] w fun e w' => e = .returned (.tuple #[.agg #[.int .i64 (mv b 3 4 n).1.f0, .int .i64 (mv b 3 4 n).1.f1, .int .i64 (mv b 3 4 n).1.f2, .int .i64 (mv b 3 4 n).1.f3, .int .i64 (mv b 3 4 n).1.bo, .int .i64 (mv b 3 4 n).1.wa, .int .i64 (mv b 3 4 n).1.bu], .int .i64 (mv b 3 4 n).2]) ∧ Below w.heap.size w w' := by
  by_cases hg : b.good = true
  · by_cases hn : 0 ≤ n ∧ n ≤ 1125899906842624
    · have h1 : ¬ (b.good = false ∨ ¬ (0 ≤ n ∧ n ≤ 1125899906842624)) := by rw [hg]; simp [hn]
      by_cases hl : b.f3 < n
      · have e : mv b 3 4 n = (b, 7) := by rw [mv, if_neg h1, if_pos (show b.get 3 < n from hl)]
        rw [e]
        exact move_funds_3 b.f0 b.f1 b.f2 b.f3 b.bo b.wa b.bu n c _ w hc hcl hg hn.1 hn.2 hl
      · have e : mv b 3 4 n = ((b.put 3 (b.f3 - n)).put 4 (b.bo + n), 0) := by rw [mv, if_neg h1, if_neg (show ¬ b.get 3 < n from hl)]; rfl
        rw [e]
        exact move_ok_34 b.f0 b.f1 b.f2 b.f3 b.bo b.wa b.bu n c w hc hcl hg hn.1 hn.2 (by omega)
    · have e : mv b 3 4 n = (b, 2) := by rw [mv, if_pos (.inr hn)]
      rw [e]
      exact move_range_in b.f0 b.f1 b.f2 b.f3 b.bo b.wa b.bu n _ _ w hg hn
  · have e : mv b 3 4 n = (b, 2) := by rw [mv, if_pos (.inl (by simpa using hg))]
    rw [e]
    exact move_range_bad b.f0 b.f1 b.f2 b.f3 b.bo b.wa b.bu n _ _ w (by simpa [Bk.good] using hg)
theorem mv_50 (b : Bk) (n : Int) (c : Nat) (w : World) (hc : w.cell? ⟨c, 0, none⟩ = some (.int .i64 0)) (hcl : c < w.heap.size) :
    Calls Try.prog 83 #[.agg #[.int .i64 b.f0, .int .i64 b.f1, .int .i64 b.f2, .int .i64 b.f3, .int .i64 b.bo, .int .i64 b.wa, .int .i64 b.bu], (.func (.func 88) #[] #[]), (.func (.func 90) #[] #[.pointer (some ⟨c, 0, none⟩)]), .int .i64 n] w fun e w' => e = .returned (.tuple #[.agg #[.int .i64 (mv b 5 0 n).1.f0, .int .i64 (mv b 5 0 n).1.f1, .int .i64 (mv b 5 0 n).1.f2, .int .i64 (mv b 5 0 n).1.f3, .int .i64 (mv b 5 0 n).1.bo, .int .i64 (mv b 5 0 n).1.wa, .int .i64 (mv b 5 0 n).1.bu], .int .i64 (mv b 5 0 n).2]) ∧ Below w.heap.size w w' := by
  by_cases hg : b.good = true
  · by_cases hn : 0 ≤ n ∧ n ≤ 1125899906842624
    · have h1 : ¬ (b.good = false ∨ ¬ (0 ≤ n ∧ n ≤ 1125899906842624)) := by rw [hg]; simp [hn]
      by_cases hl : b.wa < n
      · have e : mv b 5 0 n = (b, 7) := by rw [mv, if_neg h1, if_pos (show b.get 5 < n from hl)]
        rw [e]
        exact move_funds_5 b.f0 b.f1 b.f2 b.f3 b.bo b.wa b.bu n _ w hg hn.1 hn.2 hl
      · have e : mv b 5 0 n = ((b.put 5 (b.wa - n)).put 0 (b.f0 + n), 0) := by rw [mv, if_neg h1, if_neg (show ¬ b.get 5 < n from hl)]; rfl
        rw [e]
        exact move_ok_50 b.f0 b.f1 b.f2 b.f3 b.bo b.wa b.bu n c w hc hcl hg hn.1 hn.2 (by omega)
    · have e : mv b 5 0 n = (b, 2) := by rw [mv, if_pos (.inr hn)]
      rw [e]
      exact move_range_in b.f0 b.f1 b.f2 b.f3 b.bo b.wa b.bu n _ _ w hg hn
  · have e : mv b 5 0 n = (b, 2) := by rw [mv, if_pos (.inl (by simpa using hg))]
    rw [e]
    exact move_range_bad b.f0 b.f1 b.f2 b.f3 b.bo b.wa b.bu n _ _ w (by simpa [Bk.good] using hg)
theorem mv_51 (b : Bk) (n : Int) (c : Nat) (w : World) (hc : w.cell? ⟨c, 0, none⟩ = some (.int .i64 1)) (hcl : c < w.heap.size) :
    Calls Try.prog 83 #[.agg #[.int .i64 b.f0, .int .i64 b.f1, .int .i64 b.f2, .int .i64 b.f3, .int .i64 b.bo, .int .i64 b.wa, .int .i64 b.bu], (.func (.func 88) #[] #[]), (.func (.func 90) #[] #[.pointer (some ⟨c, 0, none⟩)]), .int .i64 n] w fun e w' => e = .returned (.tuple #[.agg #[.int .i64 (mv b 5 1 n).1.f0, .int .i64 (mv b 5 1 n).1.f1, .int .i64 (mv b 5 1 n).1.f2, .int .i64 (mv b 5 1 n).1.f3, .int .i64 (mv b 5 1 n).1.bo, .int .i64 (mv b 5 1 n).1.wa, .int .i64 (mv b 5 1 n).1.bu], .int .i64 (mv b 5 1 n).2]) ∧ Below w.heap.size w w' := by
  by_cases hg : b.good = true
  · by_cases hn : 0 ≤ n ∧ n ≤ 1125899906842624
    · have h1 : ¬ (b.good = false ∨ ¬ (0 ≤ n ∧ n ≤ 1125899906842624)) := by rw [hg]; simp [hn]
      by_cases hl : b.wa < n
      · have e : mv b 5 1 n = (b, 7) := by rw [mv, if_neg h1, if_pos (show b.get 5 < n from hl)]
        rw [e]
        exact move_funds_5 b.f0 b.f1 b.f2 b.f3 b.bo b.wa b.bu n _ w hg hn.1 hn.2 hl
      · have e : mv b 5 1 n = ((b.put 5 (b.wa - n)).put 1 (b.f1 + n), 0) := by rw [mv, if_neg h1, if_neg (show ¬ b.get 5 < n from hl)]; rfl
        rw [e]
        exact move_ok_51 b.f0 b.f1 b.f2 b.f3 b.bo b.wa b.bu n c w hc hcl hg hn.1 hn.2 (by omega)
    · have e : mv b 5 1 n = (b, 2) := by rw [mv, if_pos (.inr hn)]
      rw [e]
      exact move_range_in b.f0 b.f1 b.f2 b.f3 b.bo b.wa b.bu n _ _ w hg hn
  · have e : mv b 5 1 n = (b, 2) := by rw [mv, if_pos (.inl (by simpa using hg))]
    rw [e]
    exact move_range_bad b.f0 b.f1 b.f2 b.f3 b.bo b.wa b.bu n _ _ w (by simpa [Bk.good] using hg)
theorem mv_52 (b : Bk) (n : Int) (c : Nat) (w : World) (hc : w.cell? ⟨c, 0, none⟩ = some (.int .i64 2)) (hcl : c < w.heap.size) :
    Calls Try.prog 83 #[.agg #[.int .i64 b.f0, .int .i64 b.f1, .int .i64 b.f2, .int .i64 b.f3, .int .i64 b.bo, .int .i64 b.wa, .int .i64 b.bu], (.func (.func 88) #[] #[]), (.func (.func 90) #[] #[.pointer (some ⟨c, 0, none⟩)]), .int .i64 n] w fun e w' => e = .returned (.tuple #[.agg #[.int .i64 (mv b 5 2 n).1.f0, .int .i64 (mv b 5 2 n).1.f1, .int .i64 (mv b 5 2 n).1.f2, .int .i64 (mv b 5 2 n).1.f3, .int .i64 (mv b 5 2 n).1.bo, .int .i64 (mv b 5 2 n).1.wa, .int .i64 (mv b 5 2 n).1.bu], .int .i64 (mv b 5 2 n).2]) ∧ Below w.heap.size w w' := by
  by_cases hg : b.good = true
  · by_cases hn : 0 ≤ n ∧ n ≤ 1125899906842624
    · have h1 : ¬ (b.good = false ∨ ¬ (0 ≤ n ∧ n ≤ 1125899906842624)) := by rw [hg]; simp [hn]
      by_cases hl : b.wa < n
      · have e : mv b 5 2 n = (b, 7) := by rw [mv, if_neg h1, if_pos (show b.get 5 < n from hl)]
        rw [e]
        exact move_funds_5 b.f0 b.f1 b.f2 b.f3 b.bo b.wa b.bu n _ w hg hn.1 hn.2 hl
      · have e : mv b 5 2 n = ((b.put 5 (b.wa - n)).put 2 (b.f2 + n), 0) := by rw [mv, if_neg h1, if_neg (show ¬ b.get 5 < n from hl)]; rfl
        rw [e]
        exact move_ok_52 b.f0 b.f1 b.f2 b.f3 b.bo b.wa b.bu n c w hc hcl hg hn.1 hn.2 (by omega)
    · have e : mv b 5 2 n = (b, 2) := by rw [mv, if_pos (.inr hn)]
      rw [e]
      exact move_range_in b.f0 b.f1 b.f2 b.f3 b.bo b.wa b.bu n _ _ w hg hn
  · have e : mv b 5 2 n = (b, 2) := by rw [mv, if_pos (.inl (by simpa using hg))]
    rw [e]
    exact move_range_bad b.f0 b.f1 b.f2 b.f3 b.bo b.wa b.bu n _ _ w (by simpa [Bk.good] using hg)
theorem mv_53 (b : Bk) (n : Int) (c : Nat) (w : World) (hc : w.cell? ⟨c, 0, none⟩ = some (.int .i64 3)) (hcl : c < w.heap.size) :
    Calls Try.prog 83 #[.agg #[.int .i64 b.f0, .int .i64 b.f1, .int .i64 b.f2, .int .i64 b.f3, .int .i64 b.bo, .int .i64 b.wa, .int .i64 b.bu], (.func (.func 88) #[] #[]), (.func (.func 90) #[] #[.pointer (some ⟨c, 0, none⟩)]), .int .i64 n] w fun e w' => e = .returned (.tuple #[.agg #[.int .i64 (mv b 5 3 n).1.f0, .int .i64 (mv b 5 3 n).1.f1, .int .i64 (mv b 5 3 n).1.f2, .int .i64 (mv b 5 3 n).1.f3, .int .i64 (mv b 5 3 n).1.bo, .int .i64 (mv b 5 3 n).1.wa, .int .i64 (mv b 5 3 n).1.bu], .int .i64 (mv b 5 3 n).2]) ∧ Below w.heap.size w w' := by
  by_cases hg : b.good = true
  · by_cases hn : 0 ≤ n ∧ n ≤ 1125899906842624
    · have h1 : ¬ (b.good = false ∨ ¬ (0 ≤ n ∧ n ≤ 1125899906842624)) := by rw [hg]; simp [hn]
      by_cases hl : b.wa < n
      · have e : mv b 5 3 n = (b, 7) := by rw [mv, if_neg h1, if_pos (show b.get 5 < n from hl)]
        rw [e]
        exact move_funds_5 b.f0 b.f1 b.f2 b.f3 b.bo b.wa b.bu n _ w hg hn.1 hn.2 hl
      · have e : mv b 5 3 n = ((b.put 5 (b.wa - n)).put 3 (b.f3 + n), 0) := by rw [mv, if_neg h1, if_neg (show ¬ b.get 5 < n from hl)]; rfl
        rw [e]
        exact move_ok_53 b.f0 b.f1 b.f2 b.f3 b.bo b.wa b.bu n c w hc hcl hg hn.1 hn.2 (by omega)
    · have e : mv b 5 3 n = (b, 2) := by rw [mv, if_pos (.inr hn)]
      rw [e]
      exact move_range_in b.f0 b.f1 b.f2 b.f3 b.bo b.wa b.bu n _ _ w hg hn
  · have e : mv b 5 3 n = (b, 2) := by rw [mv, if_pos (.inl (by simpa using hg))]
    rw [e]
    exact move_range_bad b.f0 b.f1 b.f2 b.f3 b.bo b.wa b.bu n _ _ w (by simpa [Bk.good] using hg)
theorem mv_45 (b : Bk) (n : Int) (w : World) :
    Calls Try.prog 83 #[.agg #[.int .i64 b.f0, .int .i64 b.f1, .int .i64 b.f2, .int .i64 b.f3, .int .i64 b.bo, .int .i64 b.wa, .int .i64 b.bu], (.func (.func 87) #[] #[]), (.func (.func 88) #[] #[]), .int .i64 n] w fun e w' => e = .returned (.tuple #[.agg #[.int .i64 (mv b 4 5 n).1.f0, .int .i64 (mv b 4 5 n).1.f1, .int .i64 (mv b 4 5 n).1.f2, .int .i64 (mv b 4 5 n).1.f3, .int .i64 (mv b 4 5 n).1.bo, .int .i64 (mv b 4 5 n).1.wa, .int .i64 (mv b 4 5 n).1.bu], .int .i64 (mv b 4 5 n).2]) ∧ Below w.heap.size w w' := by
  by_cases hg : b.good = true
  · by_cases hn : 0 ≤ n ∧ n ≤ 1125899906842624
    · have h1 : ¬ (b.good = false ∨ ¬ (0 ≤ n ∧ n ≤ 1125899906842624)) := by rw [hg]; simp [hn]
      by_cases hl : b.bo < n
      · have e : mv b 4 5 n = (b, 7) := by rw [mv, if_neg h1, if_pos (show b.get 4 < n from hl)]
        rw [e]
        exact move_funds_4 b.f0 b.f1 b.f2 b.f3 b.bo b.wa b.bu n _ w hg hn.1 hn.2 hl
      · have e : mv b 4 5 n = ((b.put 4 (b.bo - n)).put 5 (b.wa + n), 0) := by rw [mv, if_neg h1, if_neg (show ¬ b.get 4 < n from hl)]; rfl
        rw [e]
        exact move_ok_45 b.f0 b.f1 b.f2 b.f3 b.bo b.wa b.bu n w hg hn.1 hn.2 (by omega)
    · have e : mv b 4 5 n = (b, 2) := by rw [mv, if_pos (.inr hn)]
      rw [e]
      exact move_range_in b.f0 b.f1 b.f2 b.f3 b.bo b.wa b.bu n _ _ w hg hn
  · have e : mv b 4 5 n = (b, 2) := by rw [mv, if_pos (.inl (by simpa using hg))]
    rw [e]
    exact move_range_bad b.f0 b.f1 b.f2 b.f3 b.bo b.wa b.bu n _ _ w (by simpa [Bk.good] using hg)
theorem mv_46 (b : Bk) (n : Int) (w : World) :
    Calls Try.prog 83 #[.agg #[.int .i64 b.f0, .int .i64 b.f1, .int .i64 b.f2, .int .i64 b.f3, .int .i64 b.bo, .int .i64 b.wa, .int .i64 b.bu], (.func (.func 87) #[] #[]), (.func (.func 89) #[] #[]), .int .i64 n] w fun e w' => e = .returned (.tuple #[.agg #[.int .i64 (mv b 4 6 n).1.f0, .int .i64 (mv b 4 6 n).1.f1, .int .i64 (mv b 4 6 n).1.f2, .int .i64 (mv b 4 6 n).1.f3, .int .i64 (mv b 4 6 n).1.bo, .int .i64 (mv b 4 6 n).1.wa, .int .i64 (mv b 4 6 n).1.bu], .int .i64 (mv b 4 6 n).2]) ∧ Below w.heap.size w w' := by
  by_cases hg : b.good = true
  · by_cases hn : 0 ≤ n ∧ n ≤ 1125899906842624
    · have h1 : ¬ (b.good = false ∨ ¬ (0 ≤ n ∧ n ≤ 1125899906842624)) := by rw [hg]; simp [hn]
      by_cases hl : b.bo < n
      · have e : mv b 4 6 n = (b, 7) := by rw [mv, if_neg h1, if_pos (show b.get 4 < n from hl)]
        rw [e]
        exact move_funds_4 b.f0 b.f1 b.f2 b.f3 b.bo b.wa b.bu n _ w hg hn.1 hn.2 hl
      · have e : mv b 4 6 n = ((b.put 4 (b.bo - n)).put 6 (b.bu + n), 0) := by rw [mv, if_neg h1, if_neg (show ¬ b.get 4 < n from hl)]; rfl
        rw [e]
        exact move_ok_46 b.f0 b.f1 b.f2 b.f3 b.bo b.wa b.bu n w hg hn.1 hn.2 (by omega)
    · have e : mv b 4 6 n = (b, 2) := by rw [mv, if_pos (.inr hn)]
      rw [e]
      exact move_range_in b.f0 b.f1 b.f2 b.f3 b.bo b.wa b.bu n _ _ w hg hn
  · have e : mv b 4 6 n = (b, 2) := by rw [mv, if_pos (.inl (by simpa using hg))]
    rw [e]
    exact move_range_bad b.f0 b.f1 b.f2 b.f3 b.bo b.wa b.bu n _ _ w (by simpa [Bk.good] using hg)
theorem mv_56 (b : Bk) (n : Int) (w : World) :
    Calls Try.prog 83 #[.agg #[.int .i64 b.f0, .int .i64 b.f1, .int .i64 b.f2, .int .i64 b.f3, .int .i64 b.bo, .int .i64 b.wa, .int .i64 b.bu], (.func (.func 88) #[] #[]), (.func (.func 89) #[] #[]), .int .i64 n] w fun e w' => e = .returned (.tuple #[.agg #[.int .i64 (mv b 5 6 n).1.f0, .int .i64 (mv b 5 6 n).1.f1, .int .i64 (mv b 5 6 n).1.f2, .int .i64 (mv b 5 6 n).1.f3, .int .i64 (mv b 5 6 n).1.bo, .int .i64 (mv b 5 6 n).1.wa, .int .i64 (mv b 5 6 n).1.bu], .int .i64 (mv b 5 6 n).2]) ∧ Below w.heap.size w w' := by
  by_cases hg : b.good = true
  · by_cases hn : 0 ≤ n ∧ n ≤ 1125899906842624
    · have h1 : ¬ (b.good = false ∨ ¬ (0 ≤ n ∧ n ≤ 1125899906842624)) := by rw [hg]; simp [hn]
      by_cases hl : b.wa < n
      · have e : mv b 5 6 n = (b, 7) := by rw [mv, if_neg h1, if_pos (show b.get 5 < n from hl)]
        rw [e]
        exact move_funds_5 b.f0 b.f1 b.f2 b.f3 b.bo b.wa b.bu n _ w hg hn.1 hn.2 hl
      · have e : mv b 5 6 n = ((b.put 5 (b.wa - n)).put 6 (b.bu + n), 0) := by rw [mv, if_neg h1, if_neg (show ¬ b.get 5 < n from hl)]; rfl
        rw [e]
        exact move_ok_56 b.f0 b.f1 b.f2 b.f3 b.bo b.wa b.bu n w hg hn.1 hn.2 (by omega)
    · have e : mv b 5 6 n = (b, 2) := by rw [mv, if_pos (.inr hn)]
      rw [e]
      exact move_range_in b.f0 b.f1 b.f2 b.f3 b.bo b.wa b.bu n _ _ w hg hn
  · have e : mv b 5 6 n = (b, 2) := by rw [mv, if_pos (.inl (by simpa using hg))]
    rw [e]
    exact move_range_bad b.f0 b.f1 b.f2 b.f3 b.bo b.wa b.bu n _ _ w (by simpa [Bk.good] using hg)
theorem bond_any (b : Bk) (d n : Int) (w : World) : Calls Try.prog 59 #[.agg #[.int .i64 b.f0, .int .i64 b.f1, .int .i64 b.f2, .int .i64 b.f3, .int .i64 b.bo, .int .i64 b.wa, .int .i64 b.bu], .int .i64 d, .int .i64 n] w fun e w' => e = .returned (.tuple #[.agg #[.int .i64 (bondR b d n).1.f0, .int .i64 (bondR b d n).1.f1, .int .i64 (bondR b d n).1.f2, .int .i64 (bondR b d n).1.f3, .int .i64 (bondR b d n).1.bo, .int .i64 (bondR b d n).1.wa, .int .i64 (bondR b d n).1.bu], .int .i64 (bondR b d n).2]) ∧ Below w.heap.size w w' := by
  by_cases h : 0 ≤ d ∧ d < 4
  · rw [bondR, if_pos h]
    refine bond_walk b.f0 b.f1 b.f2 b.f3 b.bo b.wa b.bu d n (mv b d.toNat 4 n).1.f0 (mv b d.toNat 4 n).1.f1 (mv b d.toNat 4 n).1.f2 (mv b d.toNat 4 n).1.f3 (mv b d.toNat 4 n).1.bo (mv b d.toNat 4 n).1.wa (mv b d.toNat 4 n).1.bu (mv b d.toNat 4 n).2 w h.1 h.2 ?_
    intro c w hc hcl
    rcases (show d = 0 ∨ d = 1 ∨ d = 2 ∨ d = 3 by omega) with rfl | rfl | rfl | rfl
    · exact mv_04 b n c w hc hcl
    · exact mv_14 b n c w hc hcl
    · exact mv_24 b n c w hc hcl
    · exact mv_34 b n c w hc hcl
  · rw [bondR, if_neg h]
    exact bond_no b.f0 b.f1 b.f2 b.f3 b.bo b.wa b.bu d n w h
theorem pay_any (b : Bk) (d n : Int) (w : World) : Calls Try.prog 72 #[.agg #[.int .i64 b.f0, .int .i64 b.f1, .int .i64 b.f2, .int .i64 b.f3, .int .i64 b.bo, .int .i64 b.wa, .int .i64 b.bu], .int .i64 d, .int .i64 n] w fun e w' => e = .returned (.tuple #[.agg #[.int .i64 (payR b d n).1.f0, .int .i64 (payR b d n).1.f1, .int .i64 (payR b d n).1.f2, .int .i64 (payR b d n).1.f3, .int .i64 (payR b d n).1.bo, .int .i64 (payR b d n).1.wa, .int .i64 (payR b d n).1.bu], .int .i64 (payR b d n).2]) ∧ Below w.heap.size w w' := by
  by_cases h : 0 ≤ d ∧ d < 4
  · rw [payR, if_pos h]
    refine pay_walk b.f0 b.f1 b.f2 b.f3 b.bo b.wa b.bu d n (mv b 5 d.toNat n).1.f0 (mv b 5 d.toNat n).1.f1 (mv b 5 d.toNat n).1.f2 (mv b 5 d.toNat n).1.f3 (mv b 5 d.toNat n).1.bo (mv b 5 d.toNat n).1.wa (mv b 5 d.toNat n).1.bu (mv b 5 d.toNat n).2 w h.1 h.2 ?_
    intro c w hc hcl
    rcases (show d = 0 ∨ d = 1 ∨ d = 2 ∨ d = 3 by omega) with rfl | rfl | rfl | rfl
    · exact mv_50 b n c w hc hcl
    · exact mv_51 b n c w hc hcl
    · exact mv_52 b n c w hc hcl
    · exact mv_53 b n c w hc hcl
  · rw [payR, if_neg h]
    exact pay_no b.f0 b.f1 b.f2 b.f3 b.bo b.wa b.bu d n w h
theorem unbond_any (b : Bk) (n : Int) (w : World) : Calls Try.prog 65 #[.agg #[.int .i64 b.f0, .int .i64 b.f1, .int .i64 b.f2, .int .i64 b.f3, .int .i64 b.bo, .int .i64 b.wa, .int .i64 b.bu], .int .i64 n] w fun e w' => e = .returned (.tuple #[.agg #[.int .i64 (unbondR b n).1.f0, .int .i64 (unbondR b n).1.f1, .int .i64 (unbondR b n).1.f2, .int .i64 (unbondR b n).1.f3, .int .i64 (unbondR b n).1.bo, .int .i64 (unbondR b n).1.wa, .int .i64 (unbondR b n).1.bu], .int .i64 (unbondR b n).2]) ∧ Below w.heap.size w w' :=
  unbond_walk b.f0 b.f1 b.f2 b.f3 b.bo b.wa b.bu n (mv b 4 5 n).1.f0 (mv b 4 5 n).1.f1 (mv b 4 5 n).1.f2 (mv b 4 5 n).1.f3 (mv b 4 5 n).1.bo (mv b 4 5 n).1.wa (mv b 4 5 n).1.bu (mv b 4 5 n).2 w (mv_45 b n)
theorem burn_any (b : Bk) (x y : Int) (w : World) : Calls Try.prog 70 #[.agg #[.int .i64 b.f0, .int .i64 b.f1, .int .i64 b.f2, .int .i64 b.f3, .int .i64 b.bo, .int .i64 b.wa, .int .i64 b.bu], .int .i64 x, .int .i64 y] w fun e w' => e = .returned (.tuple #[.agg #[.int .i64 (burnR b x y).1.f0, .int .i64 (burnR b x y).1.f1, .int .i64 (burnR b x y).1.f2, .int .i64 (burnR b x y).1.f3, .int .i64 (burnR b x y).1.bo, .int .i64 (burnR b x y).1.wa, .int .i64 (burnR b x y).1.bu], .int .i64 (burnR b x y).2]) ∧ Below w.heap.size w w' := by
  refine burn_walk b.f0 b.f1 b.f2 b.f3 b.bo b.wa b.bu x y (mv b 4 6 x).1.f0 (mv b 4 6 x).1.f1 (mv b 4 6 x).1.f2 (mv b 4 6 x).1.f3 (mv b 4 6 x).1.bo (mv b 4 6 x).1.wa (mv b 4 6 x).1.bu (mv b 4 6 x).2 (mv (mv b 4 6 x).1 5 6 y).1.f0 (mv (mv b 4 6 x).1 5 6 y).1.f1 (mv (mv b 4 6 x).1 5 6 y).1.f2 (mv (mv b 4 6 x).1 5 6 y).1.f3 (mv (mv b 4 6 x).1 5 6 y).1.bo (mv (mv b 4 6 x).1 5 6 y).1.wa (mv (mv b 4 6 x).1 5 6 y).1.bu (mv (mv b 4 6 x).1 5 6 y).2 (burnR b x y).1.f0 (burnR b x y).1.f1 (burnR b x y).1.f2 (burnR b x y).1.f3 (burnR b x y).1.bo (burnR b x y).1.wa (burnR b x y).1.bu (burnR b x y).2 w ?_ (mv_46 b x) (mv_56 (mv b 4 6 x).1 y)
  unfold burnR
  by_cases h1 : (mv b 4 6 x).2 = 0
  · by_cases h2 : (mv (mv b 4 6 x).1 5 6 y).2 = 0
    · rw [if_pos h1, if_pos h2]
      exact .inr (.inr ⟨h1, h2, rfl, rfl, rfl, rfl, rfl, rfl, rfl, rfl⟩)
    · rw [if_pos h1, if_neg h2]
      exact .inr (.inl ⟨h1, h2, rfl, rfl, rfl, rfl, rfl, rfl, rfl, rfl⟩)
  · rw [if_neg h1]
    exact .inl ⟨h1, rfl, rfl, rfl, rfl, rfl, rfl, rfl, rfl⟩
end Go.Proofs.Ytfajfebpchfkoae
