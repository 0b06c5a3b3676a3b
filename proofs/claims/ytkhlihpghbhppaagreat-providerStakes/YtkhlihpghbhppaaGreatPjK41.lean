/- Parts of the proof: J SK SW2 SW3. -/
import Derived.Test.YtkhlihpghbhppaaGreatRows
import Derived.Test.YtkhlihpghbhppaaGreatPjK20
import Derived.Test.YtkhlihpghbhppaaGreatPjK36
import Derived.Test.YtkhlihpghbhppaaGreatPjK38
import Derived.Test.YtkhlihpghbhppaaGreatPjK39
import Derived.Test.YtkhlihpghbhppaaGreatPjK40
import Derived.WalkKit
import Derived.Deep.RegionLaw
set_option maxRecDepth 100000
namespace Go.Proofs.YtkhlihpghbhppaaGreat
open Go.RowKit
theorem mv_04 (b : Bk) (n : Int) (c : Nat) (w : World) (hc : w.cell? ⟨c, 0, none⟩ = some (.int .i64 0)) (hcl : c < w.heap.size) :
    Calls Tryz.prog 155 #[.agg #[.int .i64 b.f0, .int .i64 b.f1, .int .i64 b.f2, .int .i64 b.f3, .int .i64 b.bo, .int .i64 b.wa, .int .i64 b.bu], (.func (.func 172) #[] #[.pointer (some ⟨c, 0, none⟩)]), (.func (.func 169) #[] #[]), .int .i64 n] w fun e w' => e = .returned (.tuple #[.agg #[.int .i64 (mv b 0 4 n).1.f0, .int .i64 (mv b 0 4 n).1.f1, .int .i64 (mv b 0 4 n).1.f2, .int .i64 (mv b 0 4 n).1.f3, .int .i64 (mv b 0 4 n).1.bo, .int .i64 (mv b 0 4 n).1.wa, .int .i64 (mv b 0 4 n).1.bu], .int .i64 (mv b 0 4 n).2]) ∧ Below w.heap.size w w' := by
  by_cases hg : b.good = true
  · by_cases hn : 0 ≤ n ∧ n ≤ 1125899906842624
    · have h1 : ¬ (b.good = false ∨ ¬ (0 ≤ n ∧ n ≤ 1125899906842624)) := by rw [hg]; simp [hn]
      by_cases hl : b.f0 < n
      · have e : mv b 0 4 n = (b, 7) := by rw [mv, if_neg h1, if_pos (show b.get 0 < n from hl)]
        rw [e]
        exact move_funds_0 b.f0 b.f1 b.f2 b.f3 b.bo b.wa b.bu n c _ w hc hcl hg hn.1 hn.2 hl
      · have e : mv b 0 4 n = ((b.put 0 (b.f0 - n)).put 4 (b.bo + n), 0) := by rw [mv, if_neg h1, if_neg (show ¬ b.get 0 < n from hl)]; rfl
        rw [e]
        exact move_ok_04 b.f0 b.f1 b.f2 b.f3 b.bo b.wa b.bu n c w hc hcl hg hn.1 hn.2 (by omega)
    · have e : mv b 0 4 n = (b, 2) := by rw [mv, if_pos (.inr hn)]
      rw [e]
      exact move_range_in b.f0 b.f1 b.f2 b.f3 b.bo b.wa b.bu n _ _ w hg hn
  · have e : mv b 0 4 n = (b, 2) := by rw [mv, if_pos (.inl (by simpa using hg))]
    rw [e]
    exact move_range_bad b.f0 b.f1 b.f2 b.f3 b.bo b.wa b.bu n _ _ w (by simpa [Bk.good] using hg)
theorem mv_14 (b : Bk) (n : Int) (c : Nat) (w : World) (hc : w.cell? ⟨c, 0, none⟩ = some (.int .i64 1)) (hcl : c < w.heap.size) :
    Calls Tryz.prog 155 #[.agg #[.int .i64 b.f0, .int .i64 b.f1, .int .i64 b.f2, .int .i64 b.f3, .int .i64 b.bo, .int .i64 b.wa, .int .i64 b.bu], (.func (.func 172) #[] #[.pointer (some ⟨c, 0, none⟩)]), (.func (.func 169) #[] #[]), .int .i64 n] w fun e w' => e = .returned (.tuple #[.agg #[.int .i64 (mv b 1 4 n).1.f0, .int .i64 (mv b 1 4 n).1.f1, .int .i64 (mv b 1 4 n).1.f2, .int .i64 (mv b 1 4 n).1.f3, .int .i64 (mv b 1 4 n).1.bo, .int .i64 (mv b 1 4 n).1.wa, .int .i64 (mv b 1 4 n).1.bu], .int .i64 (mv b 1 4 n).2]) ∧ Below w.heap.size w w' := by
  by_cases hg : b.good = true
  · by_cases hn : 0 ≤ n ∧ n ≤ 1125899906842624
    · have h1 : ¬ (b.good = false ∨ ¬ (0 ≤ n ∧ n ≤ 1125899906842624)) := by rw [hg]; simp [hn]
      by_cases hl : b.f1 < n
      · have e : mv b 1 4 n = (b, 7) := by rw [mv, if_neg h1, if_pos (show b.get 1 < n from hl)]
        rw [e]
        exact move_funds_1 b.f0 b.f1 b.f2 b.f3 b.bo b.wa b.bu n c _ w hc hcl hg hn.1 hn.2 hl
      · have e : mv b 1 4 n = ((b.put 1 (b.f1 - n)).put 4 (b.bo + n), 0) := by rw [mv, if_neg h1, if_neg (show ¬ b.get 1 < n from hl)]; rfl
        rw [e]
        exact move_ok_14 b.f0 b.f1 b.f2 b.f3 b.bo b.wa b.bu n c w hc hcl hg hn.1 hn.2 (by omega)
    · have e : mv b 1 4 n = (b, 2) := by rw [mv, if_pos (.inr hn)]
      rw [e]
      exact move_range_in b.f0 b.f1 b.f2 b.f3 b.bo b.wa b.bu n _ _ w hg hn
  · have e : mv b 1 4 n = (b, 2) := by rw [mv, if_pos (.inl (by simpa using hg))]
    rw [e]
    exact move_range_bad b.f0 b.f1 b.f2 b.f3 b.bo b.wa b.bu n _ _ w (by simpa [Bk.good] using hg)
theorem mv_24 (b : Bk) (n : Int) (c : Nat) (w : World) (hc : w.cell? ⟨c, 0, none⟩ = some (.int .i64 2)) (hcl : c < w.heap.size) :
    Calls Tryz.prog 155 #[.agg #[.int .i64 b.f0, .int .i64 b.f1, .int .i64 b.f2, .int .i64 b.f3, .int .i64 b.bo, .int .i64 b.wa, .int .i64 b.bu], (.func (.func 172) #[] #[.pointer (some ⟨c, 0, none⟩)]), (.func (.func 169) #[] #[]), .int .i64 n] w fun e w' => e = .returned (.tuple #[.agg #[.int .i64 (mv b 2 4 n).1.f0, .int .i64 (mv b 2 4 n).1.f1, .int .i64 (mv b 2 4 n).1.f2, .int .i64 (mv b 2 4 n).1.f3, .int .i64 (mv b 2 4 n).1.bo, .int .i64 (mv b 2 4 n).1.wa, .int .i64 (mv b 2 4 n).1.bu], .int .i64 (mv b 2 4 n).2]) ∧ Below w.heap.size w w' := by
  by_cases hg : b.good = true
  · by_cases hn : 0 ≤ n ∧ n ≤ 1125899906842624
    · have h1 : ¬ (b.good = false ∨ ¬ (0 ≤ n ∧ n ≤ 1125899906842624)) := by rw [hg]; simp [hn]
      by_cases hl : b.f2 < n
      · have e : mv b 2 4 n = (b, 7) := by rw [mv, if_neg h1, if_pos (show b.get 2 < n from hl)]
        rw [e]
        exact move_funds_2 b.f0 b.f1 b.f2 b.f3 b.bo b.wa b.bu n c _ w hc hcl hg hn.1 hn.2 hl
      · have e : mv b 2 4 n = ((b.put 2 (b.f2 - n)).put 4 (b.bo + n), 0) := by rw [mv, if_neg h1, if_neg (show ¬ b.get 2 < n from hl)]; rfl
        rw [e]
        exact move_ok_24 b.f0 b.f1 b.f2 b.f3 b.bo b.wa b.bu n c w hc hcl hg hn.1 hn.2 (by omega)
    · have e : mv b 2 4 n = (b, 2) := by rw [mv, if_pos (.inr hn)]
      rw [e]
      exact move_range_in b.f0 b.f1 b.f2 b.f3 b.bo b.wa b.bu n _ _ w hg hn
  · have e : mv b 2 4 n = (b, 2) := by rw [mv, if_pos (.inl (by simpa using hg))]
    rw [e]
    exact move_range_bad b.f0 b.f1 b.f2 b.f3 b.bo b.wa b.bu n _ _ w (by simpa [Bk.good] using hg)
theorem mv_34 (b : Bk) (n : Int) (c : Nat) (w : World) (hc : w.cell? ⟨c, 0, none⟩ = some (.int .i64 3)) (hcl : c < w.heap.size) :
    Calls Tryz.prog 155 #[.agg #[.int .i64 b.f0, .int .i64 b.f1, .int .i64 b.f2, .int .i64 b.f3, .int .i64 b.bo, .int .i64 b.wa, .int .i64 b.bu], (.func (.func 172) #[] #[.pointer (some ⟨c, 0, none⟩)]), (.func (.func 169) #[] #[]), .int .i64 n] w fun e w' => e = .returned (.tuple #[.agg #[.int .i64 (mv b 3 4 n).1.f0, .int .i64 (mv b 3 4 n).1.f1, .int .i64 (mv b 3 4 n).1.f2, .int .i64 (mv b 3 4 n).1.f3, .int .i64 (mv b 3 4 n).1.bo, .int .i64 (mv b 3 4 n).1.wa, .int .i64 (mv b 3 4 n).1.bu], .int .i64 (mv b 3 4 n).2]) ∧ Below w.heap.size w w' := by
  by_cases hg : b.good = true
  · by_cases hn : 0 ≤ n ∧ n ≤ 1125899906842624
    · have h1 : ¬ (b.good = false ∨ ¬ (0 ≤ n ∧ n ≤ 1125899906842624)) := by rw [hg]; simp [hn]
      by_cases hl : b.f3 < n
      · have e : mv b 3 4 n = (b, 7) := by rw [mv, if_neg h1, if_pos (show b.get 3 < n from hl)]
        rw [e]
        exact move_funds_3 b.f0 b.f1 b.f2 b.f3 b.bo b.wa b.bu n c _ w hc hcl hg hn.1 hn.2 hl
      · have e : mv b 3 4 n = ((b.put 3 (b.f3 - n)).put 4 (b.bo + n), 0) := by rw [mv, if_neg h1, if_neg (show ¬ b.get 3 < n from hl)]; rfl
        rw [e]
        exact move_ok_34 b.f0 b.f1 b.f2 b.f3 b.bo b.wa b.bu n c w hc hcl hg hn.1 hn.2 (by omega)
    · have e : mv b 3 4 n = (b, 2) := by rw [mv, if_pos (.inr hn)]
      rw [e]
      exact move_range_in b.f0 b.f1 b.f2 b.f3 b.bo b.wa b.bu n _ _ w hg hn
  · have e : mv b 3 4 n = (b, 2) := by rw [mv, if_pos (.inl (by simpa using hg))]
    rw [e]
    exact move_range_bad b.f0 b.f1 b.f2 b.f3 b.bo b.wa b.bu n _ _ w (by simpa [Bk.good] using hg)
theorem mv_50 (b : Bk) (n : Int) (c : Nat) (w : World) (hc : w.cell? ⟨c, 0, none⟩ = some (.int .i64 0)) (hcl : c < w.heap.size) :
    Calls Tryz.prog 155 #[.agg #[.int .i64 b.f0, .int .i64 b.f1, .int .i64 b.f2, .int .i64 b.f3, .int .i64 b.bo, .int .i64 b.wa, .int .i64 b.bu], (.func (.func 170) #[] #[]), (.func (.func 172) #[] #[.pointer (some ⟨c, 0, none⟩)]), .int .i64 n] w fun e w' => e = .returned (.tuple #[.agg #[.int .i64 (mv b 5 0 n).1.f0, .int .i64 (mv b 5 0 n).1.f1, .int .i64 (mv b 5 0 n).1.f2, .int .i64 (mv b 5 0 n).1.f3, .int .i64 (mv b 5 0 n).1.bo, .int .i64 (mv b 5 0 n).1.wa, .int .i64 (mv b 5 0 n).1.bu], .int .i64 (mv b 5 0 n).2]) ∧ Below w.heap.size w w' := by
  by_cases hg : b.good = true
  · by_cases hn : 0 ≤ n ∧ n ≤ 1125899906842624
    · have h1 : ¬ (b.good = false ∨ ¬ (0 ≤ n ∧ n ≤ 1125899906842624)) := by rw [hg]; simp [hn]
      by_cases hl : b.wa < n
      · have e : mv b 5 0 n = (b, 7) := by rw [mv, if_neg h1, if_pos (show b.get 5 < n from hl)]
        rw [e]
        exact move_funds_5 b.f0 b.f1 b.f2 b.f3 b.bo b.wa b.bu n _ w hg hn.1 hn.2 hl
      · have e : mv b 5 0 n = ((b.put 5 (b.wa - n)).put 0 (b.f0 + n), 0) := by rw [mv, if_neg h1, if_neg (show ¬ b.get 5 < n from hl)]; rfl
        rw [e]
        exact move_ok_50 b.f0 b.f1 b.f2 b.f3 b.bo b.wa b.bu n c w hc hcl hg hn.1 hn.2 (by omega)
    · have e : mv b 5 0 n = (b, 2) := by rw [mv, if_pos (.inr hn)]
      rw [e]
      exact move_range_in b.f0 b.f1 b.f2 b.f3 b.bo b.wa b.bu n _ _ w hg hn
  · have e : mv b 5 0 n = (b, 2) := by rw [mv, if_pos (.inl (by simpa using hg))]
    rw [e]
    exact move_range_bad b.f0 b.f1 b.f2 b.f3 b.bo b.wa b.bu n _ _ w (by simpa [Bk.good] using hg)
theorem mv_51 (b : Bk) (n : Int) (c : Nat) (w : World) (hc : w.cell? ⟨c, 0, none⟩ = some (.int .i64 1)) (hcl : c < w.heap.size) :
    Calls Tryz.prog 155 #[.agg #[.int .i64 b.f0, .int .i64 b.f1, .int .i64 b.f2, .int .i64 b.f3, .int .i64 b.bo, .int .i64 b.wa, .int .i64 b.bu], (.func (.func 170) #[] #[]), (.func (.func 172) #[] #[.pointer (some ⟨c, 0, none⟩)]), .int .i64 n] w fun e w' => e = .returned (.tuple #[.agg #[.int .i64 (mv b 5 1 n).1.f0, .int .i64 (mv b 5 1 n).1.f1, .int .i64 (mv b 5 1 n).1.f2, .int .i64 (mv b 5 1 n).1.f3, .int .i64 (mv b 5 1 n).1.bo, .int .i64 (mv b 5 1 n).1.wa, .int .i64 (mv b 5 1 n).1.bu], .int .i64 (mv b 5 1 n).2]) ∧ Below w.heap.size w w' := by
  by_cases hg : b.good = true
  · by_cases hn : 0 ≤ n ∧ n ≤ 1125899906842624
    · have h1 : ¬ (b.good = false ∨ ¬ (0 ≤ n ∧ n ≤ 1125899906842624)) := by rw [hg]; simp [hn]
      by_cases hl : b.wa < n
      · have e : mv b 5 1 n = (b, 7) := by rw [mv, if_neg h1, if_pos (show b.get 5 < n from hl)]
        rw [e]
        exact move_funds_5 b.f0 b.f1 b.f2 b.f3 b.bo b.wa b.bu n _ w hg hn.1 hn.2 hl
      · have e : mv b 5 1 n = ((b.put 5 (b.wa - n)).put 1 (b.f1 + n), 0) := by rw [mv, if_neg h1, if_neg (show ¬ b.get 5 < n from hl)]; rfl
        rw [e]
        exact move_ok_51 b.f0 b.f1 b.f2 b.f3 b.bo b.wa b.bu n c w hc hcl hg hn.1 hn.2 (by omega)
    · have e : mv b 5 1 n = (b, 2) := by rw [mv, if_pos (.inr hn)]
      rw [e]
      exact move_range_in b.f0 b.f1 b.f2 b.f3 b.bo b.wa b.bu n _ _ w hg hn
  · have e : mv b 5 1 n = (b, 2) := by rw [mv, if_pos (.inl (by simpa using hg))]
    rw [e]
    exact move_range_bad b.f0 b.f1 b.f2 b.f3 b.bo b.wa b.bu n _ _ w (by simpa [Bk.good] using hg)
theorem mv_52 (b : Bk) (n : Int) (c : Nat) (w : World) (hc : w.cell? ⟨c, 0, none⟩ = some (.int .i64 2)) (hcl : c < w.heap.size) :
    Calls Tryz.prog 155 #[.agg #[.int .i64 b.f0, .int .i64 b.f1, .int .i64 b.f2, .int .i64 b.f3, .int .i64 b.bo, .int .i64 b.wa, .int .i64 b.bu], (.func (.func 170) #[] #[]), (.func (.func 172) #[] #[.pointer (some ⟨c, 0, none⟩)]), .int .i64 n] w fun e w' => e = .returned (.tuple #[.agg #[.int .i64 (mv b 5 2 n).1.f0, .int .i64 (mv b 5 2 n).1.f1, .int .i64 (mv b 5 2 n).1.f2, .int .i64 (mv b 5 2 n).1.f3, .int .i64 (mv b 5 2 n).1.bo, .int .i64 (mv b 5 2 n).1.wa, .int .i64 (mv b 5 2 n).1.bu], .int .i64 (mv b 5 2 n).2]) ∧ Below w.heap.size w w' := by
  by_cases hg : b.good = true
  · by_cases hn : 0 ≤ n ∧ n ≤ 1125899906842624
    · have h1 : ¬ (b.good = false ∨ ¬ (0 ≤ n ∧ n ≤ 1125899906842624)) := by rw [hg]; simp [hn]
      by_cases hl : b.wa < n
      · have e : mv b 5 2 n = (b, 7) := by rw [mv, if_neg h1, if_pos (show b.get 5 < n from hl)]
        rw [e]
        exact move_funds_5 b.f0 b.f1 b.f2 b.f3 b.bo b.wa b.bu n _ w hg hn.1 hn.2 hl
      · have e : mv b 5 2 n = ((b.put 5 (b.wa - n)).put 2 (b.f2 + n), 0) := by rw [mv, if_neg h1, if_neg (show ¬ b.get 5 < n from hl)]; rfl
        rw [e]
        exact move_ok_52 b.f0 b.f1 b.f2 b.f3 b.bo b.wa b.bu n c w hc hcl hg hn.1 hn.2 (by omega)
    · have e : mv b 5 2 n = (b, 2) := by rw [mv, if_pos (.inr hn)]
      rw [e]
      exact move_range_in b.f0 b.f1 b.f2 b.f3 b.bo b.wa b.bu n _ _ w hg hn
  · have e : mv b 5 2 n = (b, 2) := by rw [mv, if_pos (.inl (by simpa using hg))]
    rw [e]
    exact move_range_bad b.f0 b.f1 b.f2 b.f3 b.bo b.wa b.bu n _ _ w (by simpa [Bk.good] using hg)
theorem mv_53 (b : Bk) (n : Int) (c : Nat) (w : World) (hc : w.cell? ⟨c, 0, none⟩ = some (.int .i64 3)) (hcl : c < w.heap.size) :
    Calls Tryz.prog 155 #[.agg #[.int .i64 b.f0, .int .i64 b.f1, .int .i64 b.f2, .int .i64 b.f3, .int .i64 b.bo, .int .i64 b.wa, .int .i64 b.bu], (.func (.func 170) #[] #[]), (.func (.func 172) #[] #[.pointer (some ⟨c, 0, none⟩)]), .int .i64 n] w fun e w' => e = .returned (.tuple #[.agg #[.int .i64 (mv b 5 3 n).1.f0, .int .i64 (mv b 5 3 n).1.f1, .int .i64 (mv b 5 3 n).1.f2, .int .i64 (mv b 5 3 n).1.f3, .int .i64 (mv b 5 3 n).1.bo, .int .i64 (mv b 5 3 n).1.wa, .int .i64 (mv b 5 3 n).1.bu], .int .i64 (mv b 5 3 n).2]) ∧ Below w.heap.size w w' := by
  by_cases hg : b.good = true
  · by_cases hn : 0 ≤ n ∧ n ≤ 1125899906842624
    · have h1 : ¬ (b.good = false ∨ ¬ (0 ≤ n ∧ n ≤ 1125899906842624)) := by rw [hg]; simp [hn]
      by_cases hl : b.wa < n
      · have e : mv b 5 3 n = (b, 7) := by rw [mv, if_neg h1, if_pos (show b.get 5 < n from hl)]
        rw [e]
        exact move_funds_5 b.f0 b.f1 b.f2 b.f3 b.bo b.wa b.bu n _ w hg hn.1 hn.2 hl
      · have e : mv b 5 3 n = ((b.put 5 (b.wa - n)).put 3 (b.f3 + n), 0) := by rw [mv, if_neg h1, if_neg (show ¬ b.get 5 < n from hl)]; rfl
        rw [e]
        exact move_ok_53 b.f0 b.f1 b.f2 b.f3 b.bo b.wa b.bu n c w hc hcl hg hn.1 hn.2 (by omega)
    · have e : mv b 5 3 n = (b, 2) := by rw [mv, if_pos (.inr hn)]
      rw [e]
      exact move_range_in b.f0 b.f1 b.f2 b.f3 b.bo b.wa b.bu n _ _ w hg hn
  · have e : mv b 5 3 n = (b, 2) := by rw [mv, if_pos (.inl (by simpa using hg))]
    rw [e]
    exact move_range_bad b.f0 b.f1 b.f2 b.f3 b.bo b.wa b.bu n _ _ w (by simpa [Bk.good] using hg)
theorem mv_45 (b : Bk) (n : Int) (w : World) :
    Calls Tryz.prog 155 #[.agg #[.int .i64 b.f0, .int .i64 b.f1, .int .i64 b.f2, .int .i64 b.f3, .int .i64 b.bo, .int .i64 b.wa, .int .i64 b.bu], (.func (.func 169) #[] #[]), (.func (.func 170) #[] #[]), .int .i64 n] w fun e w' => e = .returned (.tuple #[.agg #[.int .i64 (mv b 4 5 n).1.f0, .int .i64 (mv b 4 5 n).1.f1, .int .i64 (mv b 4 5 n).1.f2, .int .i64 (mv b 4 5 n).1.f3, .int .i64 (mv b 4 5 n).1.bo, .int .i64 (mv b 4 5 n).1.wa, .int .i64 (mv b 4 5 n).1.bu], .int .i64 (mv b 4 5 n).2]) ∧ Below w.heap.size w w' := by
  by_cases hg : b.good = true
  · by_cases hn : 0 ≤ n ∧ n ≤ 1125899906842624
    · have h1 : ¬ (b.good = false ∨ ¬ (0 ≤ n ∧ n ≤ 1125899906842624)) := by rw [hg]; simp [hn]
      by_cases hl : b.bo < n
      · have e : mv b 4 5 n = (b, 7) := by rw [mv, if_neg h1, if_pos (show b.get 4 < n from hl)]
        rw [e]
        exact move_funds_4 b.f0 b.f1 b.f2 b.f3 b.bo b.wa b.bu n _ w hg hn.1 hn.2 hl
      · have e : mv b 4 5 n = ((b.put 4 (b.bo - n)).put 5 (b.wa + n), 0) := by rw [mv, if_neg h1, if_neg (show ¬ b.get 4 < n from hl)]; rfl
        rw [e]
        exact move_ok_45 b.f0 b.f1 b.f2 b.f3 b.bo b.wa b.bu n w hg hn.1 hn.2 (by omega)
    · have e : mv b 4 5 n = (b, 2) := by rw [mv, if_pos (.inr hn)]
      rw [e]
      exact move_range_in b.f0 b.f1 b.f2 b.f3 b.bo b.wa b.bu n _ _ w hg hn
  · have e : mv b 4 5 n = (b, 2) := by rw [mv, if_pos (.inl (by simpa using hg))]
    rw [e]
    exact move_range_bad b.f0 b.f1 b.f2 b.f3 b.bo b.wa b.bu n _ _ w (by simpa [Bk.good] using hg)
theorem mv_46 (b : Bk) (n : Int) (w : World) :
    Calls Tryz.prog 155 #[.agg #[.int .i64 b.f0, .int .i64 b.f1, .int .i64 b.f2, .int .i64 b.f3, .int .i64 b.bo, .int .i64 b.wa, .int .i64 b.bu], (.func (.func 169) #[] #[]), (.func (.func 171) #[] #[]), .int .i64 n] w fun e w' => e = .returned (.tuple #[.agg #[.int .i64 (mv b 4 6 n).1.f0, .int .i64 (mv b 4 6 n).1.f1, .int .i64 (mv b 4 6 n).1.f2, .int .i64 (mv b 4 6 n).1.f3, .int .i64 (mv b 4 6 n).1.bo, .int .i64 (mv b 4 6 n).1.wa, .int .i64 (mv b 4 6 n).1.bu], .int .i64 (mv b 4 6 n).2]) ∧ Below w.heap.size w w' := by
  by_cases hg : b.good = true
  · by_cases hn : 0 ≤ n ∧ n ≤ 1125899906842624
    · have h1 : ¬ (b.good = false ∨ ¬ (0 ≤ n ∧ n ≤ 1125899906842624)) := by rw [hg]; simp [hn]
      by_cases hl : b.bo < n
      · have e : mv b 4 6 n = (b, 7) := by rw [mv, if_neg h1, if_pos (show b.get 4 < n from hl)]
        rw [e]
        exact move_funds_4 b.f0 b.f1 b.f2 b.f3 b.bo b.wa b.bu n _ w hg hn.1 hn.2 hl
      · have e : mv b 4 6 n = ((b.put 4 (b.bo - n)).put 6 (b.bu + n), 0) := by rw [mv, if_neg h1, if_neg (show ¬ b.get 4 < n from hl)]; rfl
        rw [e]
        exact move_ok_46 b.f0 b.f1 b.f2 b.f3 b.bo b.wa b.bu n w hg hn.1 hn.2 (by omega)
    · have e : mv b 4 6 n = (b, 2) := by rw [mv, if_pos (.inr hn)]
      rw [e]
      exact move_range_in b.f0 b.f1 b.f2 b.f3 b.bo b.wa b.bu n _ _ w hg hn
  · have e : mv b 4 6 n = (b, 2) := by rw [mv, if_pos (.inl (by simpa using hg))]
    rw [e]
    exact move_range_bad b.f0 b.f1 b.f2 b.f3 b.bo b.wa b.bu n _ _ w (by simpa [Bk.good] using hg)
theorem mv_56 (b : Bk) (n : Int) (w : World) :
    Calls Tryz.prog 155 #[.agg #[.int .i64 b.f0, .int .i64 b.f1, .int .i64 b.f2, .int .i64 b.f3, .int .i64 b.bo, .int .i64 b.wa, .int .i64 b.bu], (.func (.func 170) #[] #[]), (.func (.func 171) #[] #[]), .int .i64 n] w fun e w' => e = .returned (.tuple #[.agg #[.int .i64 (mv b 5 6 n).1.f0, .int .i64 (mv b 5 6 n).1.f1, .int .i64 (mv b 5 6 n).1.f2, .int .i64 (mv b 5 6 n).1.f3, .int .i64 (mv b 5 6 n).1.bo, .int .i64 (mv b 5 6 n).1.wa, .int .i64 (mv b 5 6 n).1.bu], .int .i64 (mv b 5 6 n).2]) ∧ Below w.heap.size w w' := by
  by_cases hg : b.good = true
  · by_cases hn : 0 ≤ n ∧ n ≤ 1125899906842624
    · have h1 : ¬ (b.good = false ∨ ¬ (0 ≤ n ∧ n ≤ 1125899906842624)) := by rw [hg]; simp [hn]
      by_cases hl : b.wa < n
      · have e : mv b 5 6 n = (b, 7) := by rw [mv, if_neg h1, if_pos (show b.get 5 < n from hl)]
        rw [e]
        exact move_funds_5 b.f0 b.f1 b.f2 b.f3 b.bo b.wa b.bu n _ w hg hn.1 hn.2 hl
      · have e : mv b 5 6 n = ((b.put 5 (b.wa - n)).put 6 (b.bu + n), 0) := by rw [mv, if_neg h1, if_neg (show ¬ b.get 5 < n from hl)]; rfl
        rw [e]
        exact move_ok_56 b.f0 b.f1 b.f2 b.f3 b.bo b.wa b.bu n w hg hn.1 hn.2 (by omega)
    · have e : mv b 5 6 n = (b, 2) := by rw [mv, if_pos (.inr hn)]
      rw [e]
      exact move_range_in b.f0 b.f1 b.f2 b.f3 b.bo b.wa b.bu n _ _ w hg hn
  · have e : mv b 5 6 n = (b, 2) := by rw [mv, if_pos (.inl (by simpa using hg))]
    rw [e]
    exact move_range_bad b.f0 b.f1 b.f2 b.f3 b.bo b.wa b.bu n _ _ w (by simpa [Bk.good] using hg)
theorem bond_any (b : Bk) (d n : Int) (w : World) : Calls Tryz.prog 97 #[.agg #[.int .i64 b.f0, .int .i64 b.f1, .int .i64 b.f2, .int .i64 b.f3, .int .i64 b.bo, .int .i64 b.wa, .int .i64 b.bu], .int .i64 d, .int .i64 n] w fun e w' => e = .returned (.tuple #[.agg #[.int .i64 (bondR b d n).1.f0, .int .i64 (bondR b d n).1.f1, .int .i64 (bondR b d n).1.f2, .int .i64 (bondR b d n).1.f3, .int .i64 (bondR b d n).1.bo, .int .i64 (bondR b d n).1.wa, .int .i64 (bondR b d n).1.bu], .int .i64 (bondR b d n).2]) ∧ Below w.heap.size w w' := by
  by_cases h : 0 ≤ d ∧ d < 4
  · rw [bondR, if_pos h]
    refine bond_walk b.f0 b.f1 b.f2 b.f3 b.bo b.wa b.bu d n (mv b d.toNat 4 n).1.f0 (mv b d.toNat 4 n).1.f1 (mv b d.toNat 4 n).1.f2 (mv b d.toNat 4 n).1.f3 (mv b d.toNat 4 n).1.bo (mv b d.toNat 4 n).1.wa (mv b d.toNat 4 n).1.bu (mv b d.toNat 4 n).2 w h.1 h.2 ?_
    intro c w hc hcl
    rcases (show d = 0 ∨ d = 1 ∨ d = 2 ∨ d = 3 by omega) with rfl | rfl | rfl | rfl
    · exact mv_04 b n c w hc hcl
    · exact mv_14 b n c w hc hcl
    · exact mv_24 b n c w hc hcl
    · exact mv_34 b n c w hc hcl
  · rw [bondR, if_neg h]
    exact bond_no b.f0 b.f1 b.f2 b.f3 b.bo b.wa b.bu d n w h
theorem pay_any (b : Bk) (d n : Int) (w : World) : Calls Tryz.prog 132 #[.agg #[.int .i64 b.f0, .int .i64 b.f1, .int .i64 b.f2, .int .i64 b.f3, .int .i64 b.bo, .int .i64 b.wa, .int .i64 b.bu], .int .i64 d, .int .i64 n] w fun e w' => e = .returned (.tuple #[.agg #[.int .i64 (payR b d n).1.f0, .int .i64 (payR b d n).1.f1, .int .i64 (payR b d n).1.f2, .int .i64 (payR b d n).1.f3, .int .i64 (payR b d n).1.bo, .int .i64 (payR b d n).1.wa, .int .i64 (payR b d n).1.bu], .int .i64 (payR b d n).2]) ∧ Below w.heap.size w w' := by
  by_cases h : 0 ≤ d ∧ d < 4
  · rw [payR, if_pos h]
    refine pay_walk b.f0 b.f1 b.f2 b.f3 b.bo b.wa b.bu d n (mv b 5 d.toNat n).1.f0 (mv b 5 d.toNat n).1.f1 (mv b 5 d.toNat n).1.f2 (mv b 5 d.toNat n).1.f3 (mv b 5 d.toNat n).1.bo (mv b 5 d.toNat n).1.wa (mv b 5 d.toNat n).1.bu (mv b 5 d.toNat n).2 w h.1 h.2 ?_
    intro c w hc hcl
    rcases (show d = 0 ∨ d = 1 ∨ d = 2 ∨ d = 3 by omega) with rfl | rfl | rfl | rfl
    · exact mv_50 b n c w hc hcl
    · exact mv_51 b n c w hc hcl
    · exact mv_52 b n c w hc hcl
    · exact mv_53 b n c w hc hcl
  · rw [payR, if_neg h]
    exact pay_no b.f0 b.f1 b.f2 b.f3 b.bo b.wa b.bu d n w h
theorem unbond_any (b : Bk) (n : Int) (w : World) : Calls Tryz.prog 117 #[.agg #[.int .i64 b.f0, .int .i64 b.f1, .int .i64 b.f2, .int .i64 b.f3, .int .i64 b.bo, .int .i64 b.wa, .int .i64 b.bu], .int .i64 n] w fun e w' => e = .returned (.tuple #[.agg #[.int .i64 (unbondR b n).1.f0, .int .i64 (unbondR b n).1.f1, .int .i64 (unbondR b n).1.f2, .int .i64 (unbondR b n).1.f3, .int .i64 (unbondR b n).1.bo, .int .i64 (unbondR b n).1.wa, .int .i64 (unbondR b n).1.bu], .int .i64 (unbondR b n).2]) ∧ Below w.heap.size w w' :=
  unbond_walk b.f0 b.f1 b.f2 b.f3 b.bo b.wa b.bu n (mv b 4 5 n).1.f0 (mv b 4 5 n).1.f1 (mv b 4 5 n).1.f2 (mv b 4 5 n).1.f3 (mv b 4 5 n).1.bo (mv b 4 5 n).1.wa (mv b 4 5 n).1.bu (mv b 4 5 n).2 w (mv_45 b n)
theorem burn_any (b : Bk) (x y : Int) (w : World) : Calls Tryz.prog 162 #[.agg #[.int .i64 b.f0, .int .i64 b.f1, .int .i64 b.f2, .int .i64 b.f3, .int .i64 b.bo, .int .i64 b.wa, .int .i64 b.bu], .int .i64 x, .int .i64 y] w fun e w' => e = .returned (.tuple #[.agg #[.int .i64 (burnR b x y).1.f0, .int .i64 (burnR b x y).1.f1, .int .i64 (burnR b x y).1.f2, .int .i64 (burnR b x y).1.f3, .int .i64 (burnR b x y).1.bo, .int .i64 (burnR b x y).1.wa, .int .i64 (burnR b x y).1.bu], .int .i64 (burnR b x y).2]) ∧ Below w.heap.size w w' := by
  refine burn_walk b.f0 b.f1 b.f2 b.f3 b.bo b.wa b.bu x y (mv b 4 6 x).1.f0 (mv b 4 6 x).1.f1 (mv b 4 6 x).1.f2 (mv b 4 6 x).1.f3 (mv b 4 6 x).1.bo (mv b 4 6 x).1.wa (mv b 4 6 x).1.bu (mv b 4 6 x).2 (mv (mv b 4 6 x).1 5 6 y).1.f0 (mv (mv b 4 6 x).1 5 6 y).1.f1 (mv (mv b 4 6 x).1 5 6 y).1.f2 (mv (mv b 4 6 x).1 5 6 y).1.f3 (mv (mv b 4 6 x).1 5 6 y).1.bo (mv (mv b 4 6 x).1 5 6 y).1.wa (mv (mv b 4 6 x).1 5 6 y).1.bu (mv (mv b 4 6 x).1 5 6 y).2 (burnR b x y).1.f0 (burnR b x y).1.f1 (burnR b x y).1.f2 (burnR b x y).1.f3 (burnR b x y).1.bo (burnR b x y).1.wa (burnR b x y).1.bu (burnR b x y).2 w ?_ (mv_46 b x) (mv_56 (mv b 4 6 x).1 y)
  unfold burnR
  by_cases h1 : (mv b 4 6 x).2 = 0
  · by_cases h2 : (mv (mv b 4 6 x).1 5 6 y).2 = 0
    · rw [if_pos h1, if_pos h2]
      exact .inr (.inr ⟨h1, h2, rfl, rfl, rfl, rfl, rfl, rfl, rfl, rfl⟩)
    · rw [if_pos h1, if_neg h2]
      exact .inr (.inl ⟨h1, h2, rfl, rfl, rfl, rfl, rfl, rfl, rfl, rfl⟩)
  · rw [if_neg h1]
    exact .inl ⟨h1, rfl, rfl, rfl, rfl, rfl, rfl, rfl, rfl⟩
end Go.Proofs.YtkhlihpghbhppaaGreat

set_option maxRecDepth 100000
namespace Go.Proofs.YtkhlihpghbhppaaGreat
open Go.RowKit
theorem deleg_ref {s : St} {d v n : Int} (h : refOfE s d v ≠ 0) : delegS s d v n = (s, refOfE s d v) := if_neg h
theorem deleg_dead {s : St} {d v n : Int} (h : refOfE s d v = 0) (h1 : (s.V v.toNat).dead = true) : delegS s d v n = (s, 15) := by rw [delegS, if_pos h, if_pos h1]
theorem deleg_range {s : St} {d v n : Int} (h : refOfE s d v = 0) (h1 : (s.V v.toNat).dead = false) (h2 : (decide (0 < n) && inA n) = false) : delegS s d v n = (s, 2) := by rw [delegS, if_pos h, if_neg (by simp [h1]), if_neg (by simp [h2])]
theorem deleg_shE {s : St} {d v n : Int} (h : refOfE s d v = 0) (h1 : (s.V v.toNat).dead = false) (h2 : (decide (0 < n) && inA n) = true) (h3 : shE (s.V v.toNat) n ≠ 0) : delegS s d v n = (s, shE (s.V v.toNat) n) := by rw [delegS, if_pos h, if_neg (by simp [h1]), if_pos h2, if_neg h3]
theorem deleg_bond {s : St} {d v n : Int} (h : refOfE s d v = 0) (h1 : (s.V v.toNat).dead = false) (h2 : (decide (0 < n) && inA n) = true) (h3 : shE (s.V v.toNat) n = 0) (h4 : (bondR s.b d n).2 ≠ 0) : delegS s d v n = (s, (bondR s.b d n).2) := by rw [delegS, if_pos h, if_neg (by simp [h1]), if_pos h2, if_pos h3, if_neg h4]
theorem deleg_ok {s : St} {d v n : Int} (h : refOfE s d v = 0) (h1 : (s.V v.toNat).dead = false) (h2 : (decide (0 < n) && inA n) = true) (h3 : shE (s.V v.toNat) n = 0) (h4 : (bondR s.b d n).2 = 0) : delegS s d v n = (addS { s with b := (bondR s.b d n).1 } d.toNat v.toNat n (shN (s.V v.toNat) n), 0) := by rw [delegS, if_pos h, if_neg (by simp [h1]), if_pos h2, if_pos h3, if_pos h4]
theorem ref_zero {s : St} {d v : Int} (h : refOfE s d v = 0) : goodS s = true ∧ (0 ≤ v ∧ v < 6) ∧ (0 ≤ d ∧ d < 4) := by
  unfold refOfE refE at h
  repeat' split at h
  all_goals first | (simp_all [isV_iff, isD_iff]; done) | omega
theorem good_vals {s : St} (h : goodS s = true) (k : Nat) (hk : k < 6) : vOk (s.V k) = true ∧ pshOk s.S k 4 = true := by
  unfold goodS at h
  simp only [Bool.and_eq_true] at h
  have := pvs_at h.1.2 hk
  unfold vsOk shOk at this
  simp only [Bool.and_eq_true] at this
  exact ⟨this.1, this.2.1⟩
theorem psh_at {S : Nat → Nat → Int} {v d : Nat} (h : pshOk S v 4 = true) (hd : d < 4) : inA (S d v) = true := by
  simp only [pshOk, Bool.and_eq_true] at h
  rcases (show d = 0 ∨ d = 1 ∨ d = 2 ∨ d = 3 by omega) with rfl | rfl | rfl | rfl
  · exact h.1.1.1.2
  · exact h.1.1.2
  · exact h.1.2
  · exact h.2
theorem set_b0 (s : St) (sl : Value) (x : Int) : (stC s sl).setIfInBounds 0 (.int .i64 x) = stC { s with b := { s.b with f0 := x } } sl := rfl
theorem set_b1 (s : St) (sl : Value) (x : Int) : (stC s sl).setIfInBounds 1 (.int .i64 x) = stC { s with b := { s.b with f1 := x } } sl := rfl
theorem set_b2 (s : St) (sl : Value) (x : Int) : (stC s sl).setIfInBounds 2 (.int .i64 x) = stC { s with b := { s.b with f2 := x } } sl := rfl
theorem set_b3 (s : St) (sl : Value) (x : Int) : (stC s sl).setIfInBounds 3 (.int .i64 x) = stC { s with b := { s.b with f3 := x } } sl := rfl
theorem set_b4 (s : St) (sl : Value) (x : Int) : (stC s sl).setIfInBounds 4 (.int .i64 x) = stC { s with b := { s.b with bo := x } } sl := rfl
theorem set_b5 (s : St) (sl : Value) (x : Int) : (stC s sl).setIfInBounds 5 (.int .i64 x) = stC { s with b := { s.b with wa := x } } sl := rfl
theorem set_b6 (s : St) (sl : Value) (x : Int) : (stC s sl).setIfInBounds 6 (.int .i64 x) = stC { s with b := { s.b with bu := x } } sl := rfl
/-- a bank's seven numbers are written into a stake -/
def bset (w : World) (b : Nat) (x : Bk) : World := ((((((w.setCell ⟨b, 0, none⟩ (.int .i64 x.f0)).setCell ⟨b, 1, none⟩ (.int .i64 x.f1)).setCell ⟨b, 2, none⟩ (.int .i64 x.f2)).setCell ⟨b, 3, none⟩ (.int .i64 x.f3)).setCell ⟨b, 4, none⟩ (.int .i64 x.bo)).setCell ⟨b, 5, none⟩ (.int .i64 x.wa)).setCell ⟨b, 6, none⟩ (.int .i64 x.bu)
theorem SAt.bset {w : World} {b c : Nat} {cs : Array Value} (h : SAt w c cs) (hc : c ≠ b) (x : Bk) : SAt (Go.Proofs.YtkhlihpghbhppaaGreat.bset w b x) c cs := ((((((h.other hc _).other hc _).other hc _).other hc _).other hc _).other hc _).other hc _
theorem bset_below {B b : Nat} {w w' : World} (h : Below B w w') (hB : B ≤ b) (x : Bk) : Below B w (bset w' b x) := ((((((h.setCell hB _).setCell hB _).setCell hB _).setCell hB _).setCell hB _).setCell hB _).setCell hB _
theorem set_bank {w : World} {b : Nat} {s : St} {sl : Value} (h : SAt w b (stC s sl)) (x : Bk) : SAt (bset w b x) b (stC { s with b := x } sl) := by
  have h0 := h.set 0 (.int .i64 x.f0)
  rw [set_b0] at h0
  have h1 := h0.set 1 (.int .i64 x.f1)
  rw [set_b1] at h1
  have h2 := h1.set 2 (.int .i64 x.f2)
  rw [set_b2] at h2
  have h3 := h2.set 3 (.int .i64 x.f3)
  rw [set_b3] at h3
  have h4 := h3.set 4 (.int .i64 x.bo)
  rw [set_b4] at h4
  have h5 := h4.set 5 (.int .i64 x.wa)
  rw [set_b5] at h5
  have h6 := h5.set 6 (.int .i64 x.bu)
  rw [set_b6] at h6
  exact h6
theorem shN_bound (x : Vd) {n : Int} (hn : n ≤ 1125899906842624) : shN x n ≤ 1125899906842624 ∧ (0 ≤ n → 0 ≤ shN x n) := by
  have := mdN_bound n x.sh x.tok
  unfold shN
  split
  · omega
  · split
    · omega
    · split <;> omega
theorem ref_of_good {s : St} {d v : Nat} (hg : goodS s = true) (hd : d < 4) (hv : v < 6) : refOfE s d v = 0 := by
  unfold refOfE refE
  rw [hg, isV_iff.2 (show (0 : Int) ≤ v ∧ (v : Int) < 6 by omega), isD_iff.2 (show (0 : Int) ≤ d ∧ (d : Int) < 4 by omega)]
  rfl
section
variable {f : Func} {w w1 : World} {s : St} {ao : Option Addr} {n c : Nat}
end
set_option maxHeartbeats 4000000 in
theorem deleg_no (s : St) (ao : Option Addr) (sb so c : Nat) (d v n : Int) (w : World) (hW : WsAt w ao sb so s.W) (r : St × Int) (h0 : refOfE s d v ≠ 0) (hr : r = (s, refOfE s d v)) :
    Calls Tryz.prog 37 #[.agg (stC s (.slice ao s.W.length c)), .int .i64 d, .int .i64 v, .int .i64 n] w fun e w' => e = .returned (.tuple #[.agg (stC r.1 (.slice ao s.W.length c)), .int .i64 r.2]) ∧ Below w.heap.size w w' := by
  have SS := (SAt.new w (stC s (.slice ao s.W.length c))).alloc (.cells Z63 32)
  have RR := SAt.new2 w (.cells (stC s (.slice ao s.W.length c)) 32) Z63
  have HB : Hid (Below w.heap.size w ((w.alloc (.cells (stC s (.slice ao s.W.length c)) 32)).alloc (.cells Z63 32))) := ((Below.refl _ w).alloc (Nat.le_refl _) _).alloc (by simp) _
  have HW := hide hW
  have HR := hide hr
  clear hW hr
  go_enter Tryz.func37, Tryz.ntmps37
  go_upto_region 1 with fail
  change Code.wp Tryz.prog _ _ _ ((w.alloc (.cells (stC s (.slice ao s.W.length c)) 32)).alloc (.cells Z63 32))
  generalize (w.alloc (.cells (stC s (.slice ao s.W.length c)) 32)).alloc (.cells Z63 32) = w0 at *
  go_upto_region 2 with (go_at_call 94; refine (refusedOf_any s ao sb so c w.heap.size d v _ SS (by exact HW.out.over HB.out)).mono ?_; rintro e w1 ⟨rfl, h1⟩)
  have HB1 : Hid (Below w.heap.size w w1) := HB.out.trans (h1.mono HB.out.size)
  have S1 := SS.later h1 SS.lt
  have R1 := RR.later h1 RR.lt
  clear SS RR h1 HB
  go_upto_region 3 with fail
  apply wp_region_lit
  refine wpList_load_mid rfl 32 _ rfl _ 0 rfl _ _ S1.range Tryz.underlying32 rfl (by rw [infoS]; rfl) ?_
  refine wpList_mv rfl _ rfl ?_
  refine wpList_store_mid rfl 32 _ _ rfl _ 0 (stC s (.slice ao s.W.length c)) rfl rfl (R1.there 0 _ (by rw [Z63_size, stC_size]; omega)) (by rw [infoS]; rfl) (stC_one _ _ _ _) ?_
  go_wp2
  exact stake_end2 Tryz.results37 R1 rfl HB1.out (by omega) s _ _ r HR.out _ rfl rfl rfl
set_option maxHeartbeats 4000000 in
theorem deleg_yes (s : St) (ao : Option Addr) (sb so c d v : Nat) (n : Int) (w : World) (hW : WsAt w ao sb so s.W) (r : St × Int) (hg : goodS s = true) (hd : d < 4) (hv : v < 6) (B : Bk) (er : Int)
    (hBond : ∀ w : World, Calls Tryz.prog 97 #[.agg #[.int .i64 s.b.f0, .int .i64 s.b.f1, .int .i64 s.b.f2, .int .i64 s.b.f3, .int .i64 s.b.bo, .int .i64 s.b.wa, .int .i64 s.b.bu], .int .i64 (d : Int), .int .i64 n] w fun e w' => e = .returned (.tuple #[.agg #[.int .i64 B.f0, .int .i64 B.f1, .int .i64 B.f2, .int .i64 B.f3, .int .i64 B.bo, .int .i64 B.wa, .int .i64 B.bu], .int .i64 er]) ∧ Below w.heap.size w w')
    (h1 : (s.V v).dead = true → r = (s, 15)) (h2 : (s.V v).dead = false → (decide (0 < n) && inA n) = false → r = (s, 2))
    (h3 : (s.V v).dead = false → (decide (0 < n) && inA n) = true → shE (s.V v) n ≠ 0 → r = (s, shE (s.V v) n))
    (h4 : (s.V v).dead = false → (decide (0 < n) && inA n) = true → shE (s.V v) n = 0 → er ≠ 0 → r = (s, er))
    (h5 : (s.V v).dead = false → (decide (0 < n) && inA n) = true → shE (s.V v) n = 0 → er = 0 → r = (addS { s with b := B } d v n (shN (s.V v) n), 0)) :
    Calls Tryz.prog 37 #[.agg (stC s (.slice ao s.W.length c)), .int .i64 (d : Int), .int .i64 (v : Int), .int .i64 n] w fun e w' => e = .returned (.tuple #[.agg (stC r.1 (.slice ao s.W.length c)), .int .i64 r.2]) ∧ Below w.heap.size w w' := by
  have SS := (SAt.new w (stC s (.slice ao s.W.length c))).alloc (.cells Z63 32)
  have RR := SAt.new2 w (.cells (stC s (.slice ao s.W.length c)) 32) Z63
  have HB : Hid (Below w.heap.size w ((w.alloc (.cells (stC s (.slice ao s.W.length c)) 32)).alloc (.cells Z63 32))) := ((Below.refl _ w).alloc (Nat.le_refl _) _).alloc (by simp) _
  have HW := hide hW
  have H1 := hide h1
  have H2 := hide h2
  have H3 := hide h3
  have H4 := hide h4
  have H5 := hide h5
  obtain ⟨hvo, hps⟩ := good_vals hg v hv
  have hS := isSome_any n
  have hRf := ref_of_good hg hd hv
  have hd' : (d : Int) < 4 := by omega
  have hv' : (v : Int) < 6 := by omega
  have hd0 : (0 : Int) ≤ (d : Int) := by omega
  have hv0 : (0 : Int) ≤ (v : Int) := by omega
  have hSF := fun w b o (hn : n ≤ 1125899906842624) => sharesFor_any b o (s.V v) n w hn hvo
  have hRe := fun w h => refusedOf_any s ao sb so c w.heap.size d v w h
  clear hW h1 h2 h3 h4 h5
  go_enter Tryz.func37, Tryz.ntmps37
  go_upto_region 1 with fail
  change Code.wp Tryz.prog _ _ _ ((w.alloc (.cells (stC s (.slice ao s.W.length c)) 32)).alloc (.cells Z63 32))
  generalize (w.alloc (.cells (stC s (.slice ao s.W.length c)) 32)).alloc (.cells Z63 32) = w0 at *
  go_upto_region 2 with (go_at_call 94; refine (refusedOf_any s ao sb so c w.heap.size d v _ SS (by exact HW.out.over HB.out)).mono ?_; rintro e w1 ⟨rfl, h1⟩)
  have HB1 : Hid (Below w.heap.size w w1) := HB.out.trans (h1.mono HB.out.size)
  have S1 := SS.later h1 SS.lt
  have R1 := RR.later h1 RR.lt
  obtain ⟨x0, x1, x2, x3, x4, x5, x6, x7, x8⟩ := st_cells S1
  obtain ⟨c0, c1, c2, c3, c4⟩ := S1.val v hv
  have hz1 : w.heap.size + 1 < w1.heap.size := R1.lt
  have HT : Hid ((decide (0 < n) && inA n) = true → 0 < n ∧ n ≤ 1125899906842624) := fun h => by simp only [Bool.and_eq_true, decide_eq_true_eq, inA_iff] at h; omega
  generalize (decide (0 < n) && inA n) = t at *
  clear SS RR h1 HB x7 x8 hRe c2 c3
  generalize hdd : (s.V v).dead = dd at *
  clear hdd
  go_upto_region 15 with (first
    | (go_at_call 95; refine (hS _).mono ?_; rintro e w2 ⟨rfl, rfl⟩)
    | (go_at_call 96; refine (hSF _ _ _ (by exact (HT.out (by simpa using ‹(!t) = false›)).2) c0 c1).mono ?_; rintro e w2 ⟨rfl, h2⟩; have HB2 : Hid (Below w.heap.size w w2) := HB1.out.trans (h2.mono (by omega)); have S2 := S1.later h2 S1.lt; have R2 := R1.later h2 R1.lt; clear x0 x1 x2 x3 x4 x5 x6; obtain ⟨x0, x1, x2, x3, x4, x5, x6, x7, x8⟩ := st_cells S2; have hz2 := R2.lt; clear h2 x7 x8)
    | (go_at_call 97; refine (hBond _).mono ?_; rintro e w3 ⟨rfl, h3⟩; have HB3 : Hid (Below w.heap.size w w3) := HB2.out.trans (h3.mono (by omega)); have S3 := S2.later h3 S2.lt; have R3 := R2.later h3 R2.lt; have hz3 : w.heap.size + 1 < w3.heap.size := R3.lt; have S4 := S3.alloc (.cells #[.int .i64 B.f0, .int .i64 B.f1, .int .i64 B.f2, .int .i64 B.f3, .int .i64 B.bo, .int .i64 B.wa, .int .i64 B.bu] 24); have R4 := R3.alloc (.cells #[.int .i64 B.f0, .int .i64 B.f1, .int .i64 B.f2, .int .i64 B.f3, .int .i64 B.bo, .int .i64 B.wa, .int .i64 B.bu] 24); have HB4 : Hid (Below w.heap.size w (w3.alloc (.cells #[.int .i64 B.f0, .int .i64 B.f1, .int .i64 B.f2, .int .i64 B.f3, .int .i64 B.bo, .int .i64 B.wa, .int .i64 B.bu] 24))) := HB3.out.alloc (by omega) _; clear h3 x0 x1 x2 x3 x4 x5 x6 S3 R3)
    | ((fail_if_success (go_not_at_region 6)); apply wp_region_lit; refine wpList_load_mid rfl 32 _ rfl _ 0 rfl _ _ S1.range Tryz.underlying32 rfl (by rw [infoS]; rfl) ?_; refine wpList_store_mid rfl 32 _ _ rfl _ 0 (stC s (.slice ao s.W.length c)) rfl rfl (R1.there 0 _ (by rw [Z63_size, stC_size]; omega)) (by rw [infoS]; rfl) (stC_one _ _ _ _) ?_)
    | ((fail_if_success (go_not_at_region 8)); apply wp_region_lit; refine wpList_load_mid rfl 32 _ rfl _ 0 rfl _ _ S1.range Tryz.underlying32 rfl (by rw [infoS]; rfl) ?_; refine wpList_store_mid rfl 32 _ _ rfl _ 0 (stC s (.slice ao s.W.length c)) rfl rfl (R1.there 0 _ (by rw [Z63_size, stC_size]; omega)) (by rw [infoS]; rfl) (stC_one _ _ _ _) ?_)
    | ((fail_if_success (go_not_at_region 11)); apply wp_region_lit; refine wpList_load_mid rfl 32 _ rfl _ 0 rfl _ _ S2.range Tryz.underlying32 rfl (by rw [infoS]; rfl) ?_; refine wpList_mv rfl _ rfl ?_; refine wpList_store_mid rfl 32 _ _ rfl _ 0 (stC s (.slice ao s.W.length c)) rfl rfl (R2.there 0 _ (by rw [Z63_size, stC_size]; omega)) (by rw [infoS]; rfl) (stC_one _ _ _ _) ?_)
    | ((fail_if_success (go_not_at_region 14)); apply wp_region_lit; refine wpList_load_mid rfl 32 _ rfl _ 0 rfl _ _ S4.range Tryz.underlying32 rfl (by rw [infoS]; rfl) ?_; refine wpList_mv rfl _ rfl ?_; refine wpList_store_mid rfl 32 _ _ rfl _ 0 (stC s (.slice ao s.W.length c)) rfl rfl (R4.there 0 _ (by rw [Z63_size, stC_size]; omega)) (by rw [infoS]; rfl) (stC_one _ _ _ _) ?_))
  · exact stake_end2 Tryz.results37 R1 rfl HB1.out (by omega) s _ _ r (H1.out ‹dd = true›) _ rfl rfl rfl
  · exact stake_end2 Tryz.results37 R1 rfl HB1.out (by omega) s _ _ r (H2.out ‹dd = false› (by simpa using ‹(!t) = true›)) _ rfl rfl rfl
  · exact stake_end2 Tryz.results37 R2 rfl HB2.out (by omega) s _ _ r (H3.out ‹dd = false› (by simpa using ‹(!t) = false›) (by simpa using ‹(shE (s.V v) n != 0) = true›)) _ rfl rfl rfl
  · exact stake_end2 Tryz.results37 R4 rfl HB4.out (by omega) s _ _ r (H4.out ‹dd = false› (by simpa using ‹(!t) = false›) (by simpa using ‹(shE (s.V v) n != 0) = false›) (by simpa using ‹(er != 0) = true›)) _ rfl rfl rfl
  · have HR : Hid (r = (addS { s with b := B } d v n (shN (s.V v) n), 0)) := H5.out ‹dd = false› (by simpa using ‹(!t) = false›) (by simpa using ‹(shE (s.V v) n != 0) = false›) (by simpa using ‹(er != 0) = false›)
    have hn := HT.out (by simpa using ‹(!t) = false›)
    obtain ⟨k1, k2, k3⟩ := vOk_amounts hvo
    have k4 := psh_at hps hd
    rw [inA_iff] at k1 k2 k4
    have k5 := shN_bound (s.V v) hn.2
    obtain ⟨x0, x1, x2, x3, x4, x5, x6, x7, x8⟩ := st_cells S4
    have f0 := S4.free 0
    have f1 := S4.free 1
    have f2 := S4.free 2
    have f3 := S4.free 3
    have f4 := S4.free 4
    have f5 := S4.free 5
    have f6 := S4.free 6
    have hne : w.heap.size ≠ w3.heap.size := by omega
    clear H1 H2 H3 H4 H5 HT hBond hSF hS c0 c1 c4 x7 x8 S1 S2 R1 R2 HB1 HB2 hvo hps k3
    go_upto_region 16 with fail
    change Code.wp Tryz.prog _ _ _ (bset (w3.alloc (.cells #[.int .i64 B.f0, .int .i64 B.f1, .int .i64 B.f2, .int .i64 B.f3, .int .i64 B.bo, .int .i64 B.wa, .int .i64 B.bu] 24)) w.heap.size B)
    have S5 := set_bank S4 B
    have R5 := R4.bset (b := w.heap.size) (by omega) B
    have HB5 := hide (bset_below HB4.out (Nat.le_refl _) B)
    generalize bset (w3.alloc (.cells #[.int .i64 B.f0, .int .i64 B.f1, .int .i64 B.f2, .int .i64 B.f3, .int .i64 B.bo, .int .i64 B.wa, .int .i64 B.bu] 24)) w.heap.size B = w5 at *
    have hA := sadd_any { s with b := B } (.slice ao s.W.length c) w.heap.size d v n (shN (s.V v) n) w5 S5 hd hv (by simp only; omega) (by simp only; omega) (by simp only; omega)
    clear x0 x1 x2 x3 x4 x5 x6 f0 f1 f2 f3 f4 f5 f6 S4 R4 HB3 HB4 S5
    go_upto_region 17 with (go_at_call 98; refine hA.mono ?_; rintro e w6 ⟨rfl, S6, hbut⟩)
    have R6 := hbut.stake (by omega) R5
    have HB6 := hide (HB5.out.trans (hbut.below (Nat.le_refl _)))
    apply wp_region_lit
    refine wpList_load_mid rfl 32 _ rfl _ 0 rfl _ _ S6.range Tryz.underlying32 rfl (by rw [infoS]; rfl) ?_
    refine wpList_store_mid rfl 32 _ _ rfl _ 0 (stC (addS { s with b := B } d v n (shN (s.V v) n)) (.slice ao s.W.length c)) rfl rfl (R6.there 0 _ (by rw [Z63_size, stC_size]; omega)) (by rw [infoS]; rfl) (stC_one _ _ _ _) ?_
    go_wp2
    exact stake_end2 Tryz.results37 R6 rfl HB6.out (by omega) _ _ _ r HR.out _ rfl rfl rfl
theorem deleg_any (s : St) (ao : Option Addr) (sb so c : Nat) (d v n : Int) (w : World) (hW : WsAt w ao sb so s.W) :
    Calls Tryz.prog 37 #[.agg (stC s (.slice ao s.W.length c)), .int .i64 d, .int .i64 v, .int .i64 n] w fun e w' => e = .returned (.tuple #[.agg (stC (delegS s d v n).1 (.slice ao s.W.length c)), .int .i64 (delegS s d v n).2]) ∧ Below w.heap.size w w' := by
  by_cases h : refOfE s d v = 0
  · obtain ⟨hg, ⟨v0, v1⟩, d0, d1⟩ := ref_zero h
    obtain ⟨v, rfl⟩ := Int.eq_ofNat_of_zero_le v0
    obtain ⟨d, rfl⟩ := Int.eq_ofNat_of_zero_le d0
    exact deleg_yes s ao sb so c d v n w hW _ hg (by omega) (by omega) _ _ (bond_any s.b d n) (deleg_dead h) (deleg_range h) (deleg_shE h) (deleg_bond h) (deleg_ok h)
  · exact deleg_no s ao sb so c d v n w hW _ h (deleg_ref h)
end Go.Proofs.YtkhlihpghbhppaaGreat

set_option maxRecDepth 100000
namespace Go.Proofs.YtkhlihpghbhppaaGreat
open Go.RowKit
def outS (s : St) (d v : Nat) (wo n : Int) (B : Bk) (x : Wt) : St := { addS { s with b := B } d v (-wo) (-n) with W := s.W ++ [x], next := s.next + 1 }
def undelS (s : St) (d v n : Int) (y : Wt) : St × Int :=
  if refOfE s d v = 0 then
    if (decide (0 < n) && inA n) = true ∧ 0 ≤ y.hei ∧ 0 ≤ y.due then
      if n ≤ s.S d.toNat v.toNat then
        if s.W.length < 60 ∧ s.next < 1125899906842624 then
          if woE (s.V v.toNat) n = 0 then
            if (unbondR s.b (woN (s.V v.toNat) n)).2 = 0 then (outS s d.toNat v.toNat (woN (s.V v.toNat) n) n (unbondR s.b (woN (s.V v.toNat) n)).1 { y with num := s.next, d := d, v := v, amt := woN (s.V v.toNat) n }, 0)
            else (s, (unbondR s.b (woN (s.V v.toNat) n)).2)
          else (s, woE (s.V v.toNat) n)
        else (s, 6)
      else (s, 7)
    else (s, 2)
  else (s, refOfE s d v)
/-- what a function that may change a stake's list answers, where the list lies, and its room -/
def AnswersC (B sb : Nat) (w : World) (r : St × Int) (e : Ending) (w' : World) : Prop := ∃ A ab ao C, e = .returned (.tuple #[.agg (stC r.1 (.slice A r.1.W.length C)), .int .i64 r.2]) ∧ r.1.W.length ≤ C ∧ WsAt w' A ab ao r.1.W ∧ (0 < r.1.W.length → ab < w'.heap.size ∧ (ab = sb ∨ B ≤ ab)) ∧ Below B w w'
theorem stake_endz {f : Func} {p q : Tmp} (hres : f.results = #[.cell p 32, .tmp q]) {B g sb : Nat} {w wq : World} {zs : Array Value} (R : SAt wq g zs) (hz : zs.size = 63) (H : Below B w wq) (hB : B ≤ g) (s' : St) (A : Option Addr) (ab ao C : Nat) (er : Int) (r : St × Int) (hr : r = (s', er)) (hC : s'.W.length ≤ C) (hW : WsAt wq A ab ao s'.W) (hg : 0 < s'.W.length → ab ≠ g) (hq : 0 < s'.W.length → ab = sb ∨ B ≤ ab) (act : Act)
    (h8 : act.tmps.getD p undef = .pointer (some ⟨g, 0, none⟩)) (h9 : act.tmps.getD q undef = .int .i64 er) (hd : act.defers = []) :
    bodyPost Tryz.prog f (fun e w' => AnswersC B sb w r e w') Exit.ret act (wq.setCells g 0 (stC s' (.slice A s'.W.length C)).toList) := by
  subst hr
  have R3 := R.setAll (ds := stC s' (.slice A s'.W.length C)) (by rw [hz]; rfl)
  have hW' := hW.sets hg (stC s' (.slice A s'.W.length C)).toList 0
  exact bodyPost_ret (v := .tuple #[.agg (stC s' (.slice A s'.W.length C)), .int .i64 er]) (results_stake2 hres _ _ g _ _ h8 h9 R3 rfl) hd ⟨A, ab, ao, C, rfl, hC, hW', fun h => ⟨hW'.lt h, hq h⟩, below_sets hB _ _ _ H⟩
/-- a wait's eight cells lie in a block -/
def YAt (w : World) (y : Nat) (x : Wt) : Prop := w.heap[y]? = some (.cells #[.int .i64 x.num, .int .i64 x.d, .int .i64 x.v, .int .i64 x.amt, .int .i64 x.hei, .int .i64 x.due, .int .i64 x.h0, .int .i64 x.h1] 98)
theorem YAt.later {w w' : World} {y B : Nat} {x : Wt} (h : YAt w y x) (hb : Below B w w') (hB : y < B) : YAt w' y x := (hb.block y hB).trans h
theorem YAt.lt {w : World} {y : Nat} {x : Wt} (h : YAt w y x) : y < w.heap.size := (Array.getElem?_eq_some_iff.1 h).1
theorem YAt.cells {w : World} {y : Nat} {x : Wt} (h : YAt w y x) : w.cell? ⟨y, 0, none⟩ = some (.int .i64 x.num) ∧ w.cell? ⟨y, 1, none⟩ = some (.int .i64 x.d) ∧ w.cell? ⟨y, 2, none⟩ = some (.int .i64 x.v) ∧ w.cell? ⟨y, 3, none⟩ = some (.int .i64 x.amt) ∧ w.cell? ⟨y, 4, none⟩ = some (.int .i64 x.hei) ∧ w.cell? ⟨y, 5, none⟩ = some (.int .i64 x.due) ∧ w.cell? ⟨y, 6, none⟩ = some (.int .i64 x.h0) ∧ w.cell? ⟨y, 7, none⟩ = some (.int .i64 x.h1) := by
  unfold YAt at h
  simp [World.cell?, h]
theorem SAt.new3 (w : World) (o p : Obj) (cs : Array Value) : SAt (((w.alloc o).alloc p).alloc (.cells cs 32)) (w.heap.size + 2) cs := by
  have h := SAt.new2 (w.alloc o) p cs
  rwa [show (w.alloc o).heap.size + 1 = w.heap.size + 2 by simp] at h
theorem YAt.new (w : World) (o p : Obj) (x : Wt) : YAt (((w.alloc o).alloc (.cells #[.int .i64 x.num, .int .i64 x.d, .int .i64 x.v, .int .i64 x.amt, .int .i64 x.hei, .int .i64 x.due, .int .i64 x.h0, .int .i64 x.h1] 98)).alloc p) (w.heap.size + 1) x := by
  have h : YAt ((w.alloc o).alloc (.cells #[.int .i64 x.num, .int .i64 x.d, .int .i64 x.v, .int .i64 x.amt, .int .i64 x.hei, .int .i64 x.due, .int .i64 x.h0, .int .i64 x.h1] 98)) (w.alloc o).heap.size x := heap_alloc_new _ _
  rw [show (w.alloc o).heap.size = w.heap.size + 1 by simp] at h
  exact h.later ((Below.refl _ _).alloc (Nat.le_refl _) _) h.lt
set_option maxHeartbeats 4000000 in
theorem undel_no (s : St) (ao : Option Addr) (sb so c : Nat) (d v n : Int) (y : Wt) (w : World) (hc : s.W.length ≤ c) (hW : WsAt w ao sb so s.W) (r : St × Int) (h0 : refOfE s d v ≠ 0) (hr : r = (s, refOfE s d v)) :
    Calls Tryz.prog 57 #[.agg (stC s (.slice ao s.W.length c)), .int .i64 d, .int .i64 v, .int .i64 n, .agg #[.int .i64 y.num, .int .i64 y.d, .int .i64 y.v, .int .i64 y.amt, .int .i64 y.hei, .int .i64 y.due, .int .i64 y.h0, .int .i64 y.h1]] w fun e w' => AnswersC w.heap.size sb w r e w' := by
  have SS := ((SAt.new w (stC s (.slice ao s.W.length c))).alloc (.cells #[.int .i64 y.num, .int .i64 y.d, .int .i64 y.v, .int .i64 y.amt, .int .i64 y.hei, .int .i64 y.due, .int .i64 y.h0, .int .i64 y.h1] 98)).alloc (.cells Z63 32)
  have RR := SAt.new3 w (.cells (stC s (.slice ao s.W.length c)) 32) (.cells #[.int .i64 y.num, .int .i64 y.d, .int .i64 y.v, .int .i64 y.amt, .int .i64 y.hei, .int .i64 y.due, .int .i64 y.h0, .int .i64 y.h1] 98) Z63
  have HB : Hid (Below w.heap.size w (((w.alloc (.cells (stC s (.slice ao s.W.length c)) 32)).alloc (.cells #[.int .i64 y.num, .int .i64 y.d, .int .i64 y.v, .int .i64 y.amt, .int .i64 y.hei, .int .i64 y.due, .int .i64 y.h0, .int .i64 y.h1] 98)).alloc (.cells Z63 32))) := (((Below.refl _ w).alloc (Nat.le_refl _) _).alloc (by simp) _).alloc (by simp; omega) _
  have HW := hide hW
  have HR := hide hr
  have HC := hide hc
  clear hW hr hc
  go_enter Tryz.func57, Tryz.ntmps57
  go_upto_region 1 with fail
  change Code.wp Tryz.prog _ _ _ (((w.alloc (.cells (stC s (.slice ao s.W.length c)) 32)).alloc (.cells #[.int .i64 y.num, .int .i64 y.d, .int .i64 y.v, .int .i64 y.amt, .int .i64 y.hei, .int .i64 y.due, .int .i64 y.h0, .int .i64 y.h1] 98)).alloc (.cells Z63 32))
  generalize ((w.alloc (.cells (stC s (.slice ao s.W.length c)) 32)).alloc (.cells #[.int .i64 y.num, .int .i64 y.d, .int .i64 y.v, .int .i64 y.amt, .int .i64 y.hei, .int .i64 y.due, .int .i64 y.h0, .int .i64 y.h1] 98)).alloc (.cells Z63 32) = w0 at *
  go_upto_region 2 with (go_at_call 94; refine (refusedOf_any s ao sb so c w.heap.size d v _ SS (by exact HW.out.over HB.out)).mono ?_; rintro e w1 ⟨rfl, h1⟩)
  have HB1 := hide (HB.out.trans (h1.mono HB.out.size))
  have S1 := SS.later h1 SS.lt
  have R1 := RR.later h1 RR.lt
  clear SS RR h1 HB
  go_upto_region 3 with fail
  apply wp_region_lit
  refine wpList_load_mid rfl 32 _ rfl _ 0 rfl _ _ S1.range Tryz.underlying32 rfl (by rw [infoS]; rfl) ?_
  refine wpList_mv rfl _ rfl ?_
  refine wpList_store_mid rfl 32 _ _ rfl _ 0 (stC s (.slice ao s.W.length c)) rfl rfl (R1.there 0 _ (by rw [Z63_size, stC_size]; omega)) (by rw [infoS]; rfl) (stC_one _ _ _ _) ?_
  go_wp2
  exact stake_endz Tryz.results57 R1 rfl HB1.out (by omega) s ao sb so c _ r HR.out HC.out (HW.out.over HB1.out) (fun h => by have := HW.out.lt h; omega) (fun _ => .inl rfl) _ rfl rfl rfl
end Go.Proofs.YtkhlihpghbhppaaGreat

set_option maxRecDepth 100000
namespace Go.Proofs.YtkhlihpghbhppaaGreat
open Go.RowKit
theorem woN_bound (x : Vd) (n : Int) : 0 ≤ woN x n ∧ woN x n ≤ 1125899906842624 := by
  have := mdN_bound n x.tok x.sh
  unfold woN
  split
  · omega
  · omega
theorem step_wanted {ops : Array Oper} {o : Oper} {a : Act} {w : World} {K : Act → World → Prop} {Q : Exit → Act → World → Prop} {E : Prop} (hg : o.guard = none) (h : Oper.wp Tryz.prog o a w K Q) :
    if Region.wanted o (yielded ops a.tmps) = true then Oper.wp Tryz.prog o a w K Q else E := by
  have hw : Region.wanted o (yielded ops a.tmps) = true := by simp [Region.wanted, hg]
  rw [if_pos hw]; exact h
theorem step_ap1 {ops : Array Oper} {o : Oper} {a : Act} {w : World} {K : Act → World → Prop} {Q : Exit → Act → World → Prop} {E : Prop} (hg : o.guard = none) (hty : o.type = 30) (p q : Operand)
    (hop : o.op = Op.call { callee := Callee.builtin Builtin.append, args := #[p, q], argTypes := #[30, 30] }) (ao : Option Addr) (sb so y : Nat) (W : List Wt) (x : Wt) (hs : a.eval p = .slice ao W.length W.length) (hx : a.eval q = .slice (some ⟨y, 0, none⟩) 1 1)
    (hW : WsAt w ao sb so W) (h60 : W.length ≤ 60) (hy : ∀ j v, (wtL x)[j]? = some v → w.cell? ⟨y, j, none⟩ = some v)
    (hK : ∀ g C w', g = w.heap.size → W.length + 1 ≤ C → WsAt w' (some ⟨g, 0, none⟩) g 0 (W ++ [x]) → Below w.heap.size w w' → K (a.put o.dst (.slice (some ⟨g, 0, none⟩) (W.length + 1) C)) w') :
    if Region.wanted o (yielded ops a.tmps) = true then Oper.wp Tryz.prog o a w K Q else E := by
  have hw : Region.wanted o (yielded ops a.tmps) = true := by simp [Region.wanted, hg]
  rw [if_pos hw]
  unfold Oper.wp
  obtain ⟨C, w', hr, hC, hWs, hB⟩ := ap1 w ao sb so y W x hW h60 hy
  simp [execOp, hop, resolve, invoke, builtin, hs, hx, hty, hr, Result.andThen]
  exact hK _ _ _ rfl hC hWs hB
theorem wt_new (w : World) (x : Wt) (e : TypeId) : ∀ j v, (wtL x)[j]? = some v → (w.alloc (.cells #[.int .i64 x.num, .int .i64 x.d, .int .i64 x.v, .int .i64 x.amt, .int .i64 x.hei, .int .i64 x.due, .int .i64 x.h0, .int .i64 x.h1] e)).cell? ⟨w.heap.size, j, none⟩ = some v := by
  intro j v hj
  rw [World.cell?_alloc_at _ _ _ _ rfl]
  simpa [wtL] using hj
theorem stake_endn {f : Func} {p q : Tmp} (hres : f.results = #[.cell p 32, .tmp q]) {B g sb : Nat} {w wq : World} {zs : Array Value} (R : SAt wq g zs) (hz : zs.size = 63) (H : Below B w wq) (hB : B ≤ g) (s' : St) (A : Option Addr) (ab ao C n : Nat) (er : Int) (r : St × Int) (hr : r = (s', er)) (hn : s'.W.length = n) (hC : n ≤ C) (hW : WsAt wq A ab ao s'.W) (hg : 0 < s'.W.length → ab ≠ g) (hq : 0 < s'.W.length → ab = sb ∨ B ≤ ab) (act : Act)
    (h8 : act.tmps.getD p undef = .pointer (some ⟨g, 0, none⟩)) (h9 : act.tmps.getD q undef = .int .i64 er) (hd : act.defers = []) :
    bodyPost Tryz.prog f (fun e w' => AnswersC B sb w r e w') Exit.ret act (wq.setCells g 0 (stC s' (.slice A n C)).toList) := by
  subst hn
  exact stake_endz hres R hz H hB s' A ab ao C er r hr hC hW hg hq act h8 h9 hd
theorem out_stC (s : St) (d v : Nat) (wo n : Int) (B : Bk) (x : Wt) (sl : Value) : stC (outS s d v wo n B x) sl = stC { addS { s with b := B } d v (-wo) (-n) with next := s.next + 1 } sl := rfl
theorem good_next {s : St} (h : goodS s = true) : 1 ≤ s.next ∧ s.next ≤ 1125899906842624 := by
  unfold goodS at h
  simp only [Bool.and_eq_true, decide_eq_true_eq] at h
  exact ⟨h.1.1.1.1.1.2, h.1.1.1.1.2⟩
theorem YAt.set4 {w : World} {b : Nat} {x : Wt} (h : YAt w b x) (a1 a2 a3 a4 : Int) : YAt ((((w.setCell ⟨b, 0, none⟩ (.int .i64 a1)).setCell ⟨b, 1, none⟩ (.int .i64 a2)).setCell ⟨b, 2, none⟩ (.int .i64 a3)).setCell ⟨b, 3, none⟩ (.int .i64 a4)) b { x with num := a1, d := a2, v := a3, amt := a4 } := by
  unfold YAt at *
  simp [World.setCell, Array.getElem?_modify, h]
theorem YAt.free {w : World} {b : Nat} {x : Wt} (h : YAt w b x) (o : Nat) : w.frozen? ⟨b, o, none⟩ = false := by
  unfold YAt at h
  simp [World.frozen?, h]
set_option maxHeartbeats 8000000 in
theorem undel_yes (s : St) (ao : Option Addr) (sb so c d v : Nat) (n : Int) (y : Wt) (w : World) (hc : s.W.length ≤ c) (hW : WsAt w ao sb so s.W) (r : St × Int) (hg : goodS s = true) (hd : d < 4) (hv : v < 6) (B : Bk) (er wN wE : Int) (hN : woN (s.V v) n = wN) (hE : woE (s.V v) n = wE)
    (hUn : ∀ w : World, Calls Tryz.prog 117 #[.agg #[.int .i64 s.b.f0, .int .i64 s.b.f1, .int .i64 s.b.f2, .int .i64 s.b.f3, .int .i64 s.b.bo, .int .i64 s.b.wa, .int .i64 s.b.bu], .int .i64 wN] w fun e w' => e = .returned (.tuple #[.agg #[.int .i64 B.f0, .int .i64 B.f1, .int .i64 B.f2, .int .i64 B.f3, .int .i64 B.bo, .int .i64 B.wa, .int .i64 B.bu], .int .i64 er]) ∧ Below w.heap.size w w')
    (h1 : ¬ ((decide (0 < n) && inA n) = true ∧ 0 ≤ y.hei ∧ 0 ≤ y.due) → r = (s, 2))
    (h2 : (decide (0 < n) && inA n) = true ∧ 0 ≤ y.hei ∧ 0 ≤ y.due → ¬ n ≤ s.S d v → r = (s, 7))
    (h3 : (decide (0 < n) && inA n) = true ∧ 0 ≤ y.hei ∧ 0 ≤ y.due → n ≤ s.S d v → ¬ (s.W.length < 60 ∧ s.next < 1125899906842624) → r = (s, 6))
    (h4 : (decide (0 < n) && inA n) = true ∧ 0 ≤ y.hei ∧ 0 ≤ y.due → n ≤ s.S d v → (s.W.length < 60 ∧ s.next < 1125899906842624) → wE ≠ 0 → r = (s, wE))
    (h5 : (decide (0 < n) && inA n) = true ∧ 0 ≤ y.hei ∧ 0 ≤ y.due → n ≤ s.S d v → (s.W.length < 60 ∧ s.next < 1125899906842624) → wE = 0 → er ≠ 0 → r = (s, er))
    (h6 : (decide (0 < n) && inA n) = true ∧ 0 ≤ y.hei ∧ 0 ≤ y.due → n ≤ s.S d v → (s.W.length < 60 ∧ s.next < 1125899906842624) → wE = 0 → er = 0 → r = (outS s d v wN n B { y with num := s.next, d := d, v := v, amt := wN }, 0)) :
    Calls Tryz.prog 57 #[.agg (stC s (.slice ao s.W.length c)), .int .i64 (d : Int), .int .i64 (v : Int), .int .i64 n, .agg #[.int .i64 y.num, .int .i64 y.d, .int .i64 y.v, .int .i64 y.amt, .int .i64 y.hei, .int .i64 y.due, .int .i64 y.h0, .int .i64 y.h1]] w fun e w' => AnswersC w.heap.size sb w r e w' := by
  have SS := ((SAt.new w (stC s (.slice ao s.W.length c))).alloc (.cells #[.int .i64 y.num, .int .i64 y.d, .int .i64 y.v, .int .i64 y.amt, .int .i64 y.hei, .int .i64 y.due, .int .i64 y.h0, .int .i64 y.h1] 98)).alloc (.cells Z63 32)
  have RR := SAt.new3 w (.cells (stC s (.slice ao s.W.length c)) 32) (.cells #[.int .i64 y.num, .int .i64 y.d, .int .i64 y.v, .int .i64 y.amt, .int .i64 y.hei, .int .i64 y.due, .int .i64 y.h0, .int .i64 y.h1] 98) Z63
  have YY := YAt.new w (.cells (stC s (.slice ao s.W.length c)) 32) (.cells Z63 32) y
  have HB : Hid (Below w.heap.size w (((w.alloc (.cells (stC s (.slice ao s.W.length c)) 32)).alloc (.cells #[.int .i64 y.num, .int .i64 y.d, .int .i64 y.v, .int .i64 y.amt, .int .i64 y.hei, .int .i64 y.due, .int .i64 y.h0, .int .i64 y.h1] 98)).alloc (.cells Z63 32))) := (((Below.refl _ w).alloc (Nat.le_refl _) _).alloc (by simp) _).alloc (by simp; omega) _
  have HW := hide hW
  have HC := hide hc
  have H1 := hide h1
  have H2 := hide h2
  have H3 := hide h3
  have H4 := hide h4
  have H5 := hide h5
  have H6 := hide h6
  obtain ⟨hvo, hps⟩ := good_vals hg v hv
  have hS := isSome_any n
  have hRf := ref_of_good hg hd hv
  have hd' : (d : Int) < 4 := by omega
  have hv' : (v : Int) < 6 := by omega
  have hd0 : (0 : Int) ≤ (d : Int) := by omega
  have hv0 : (0 : Int) ≤ (v : Int) := by omega
  have hWo := fun w b o (hn : n ≤ 1125899906842624) => worthOf_any b o (s.V v) n w hn hvo
  rw [hN, hE] at hWo
  have hwb := woN_bound (s.V v) n
  rw [hN] at hwb
  clear hW h1 h2 h3 h4 h5 h6 hc hN hE
  go_enter Tryz.func57, Tryz.ntmps57
  go_upto_region 1 with fail
  change Code.wp Tryz.prog _ _ _ (((w.alloc (.cells (stC s (.slice ao s.W.length c)) 32)).alloc (.cells #[.int .i64 y.num, .int .i64 y.d, .int .i64 y.v, .int .i64 y.amt, .int .i64 y.hei, .int .i64 y.due, .int .i64 y.h0, .int .i64 y.h1] 98)).alloc (.cells Z63 32))
  generalize ((w.alloc (.cells (stC s (.slice ao s.W.length c)) 32)).alloc (.cells #[.int .i64 y.num, .int .i64 y.d, .int .i64 y.v, .int .i64 y.amt, .int .i64 y.hei, .int .i64 y.due, .int .i64 y.h0, .int .i64 y.h1] 98)).alloc (.cells Z63 32) = w0 at *
  go_upto_region 2 with (go_at_call 94; refine (refusedOf_any s ao sb so c w.heap.size d v _ SS (by exact HW.out.over HB.out)).mono ?_; rintro e w1 ⟨rfl, h1⟩)
  have HB1 := hide (HB.out.trans (h1.mono HB.out.size))
  have S1 := SS.later h1 SS.lt
  have R1 := RR.later h1 RR.lt
  have Y1 := YY.later h1 YY.lt
  obtain ⟨x0, x1, x2, x3, x4, x5, x6, x7, x8⟩ := st_cells S1
  obtain ⟨c0, c1, _, _, _⟩ := S1.val v hv
  obtain ⟨_, _, _, _, y4, y5, _, _⟩ := Y1.cells
  have cs := S1.shr d v hd hv
  have hz1 : w.heap.size + 2 < w1.heap.size := R1.lt
  have HT : Hid ((decide (0 < n) && inA n) = true → 0 < n ∧ n ≤ 1125899906842624) := fun h => by simp only [Bool.and_eq_true, decide_eq_true_eq, inA_iff] at h; omega
  generalize (decide (0 < n) && inA n) = t at *
  clear SS RR YY h1 HB
  go_upto_region 16 with (first
    | (go_at_call 95; refine (hS _).mono ?_; rintro e w2 ⟨rfl, rfl⟩)
    | (go_at_call 116; refine (hWo _ _ _ (by exact (HT.out ‹t = true›).2) c0 c1).mono ?_; rintro e w2 ⟨rfl, h2⟩; have HB2 := hide (HB1.out.trans (h2.mono (by omega))); have S2 := S1.later h2 S1.lt; have R2 := R1.later h2 R1.lt; have Y2 := Y1.later h2 Y1.lt; clear x0 x1 x2 x3 x4 x5 x6 x7 x8; obtain ⟨x0, x1, x2, x3, x4, x5, x6, x7, x8⟩ := st_cells S2; have hz2 : w.heap.size + 2 < w2.heap.size := R2.lt; clear h2)
    | (go_at_call 117; refine (hUn _).mono ?_; rintro e w3 ⟨rfl, h3⟩; have HB3 := hide (HB2.out.trans (h3.mono (by omega))); have S3 := S2.later h3 S2.lt; have R3 := R2.later h3 R2.lt; have Y3 := Y2.later h3 Y2.lt; have hz3 : w.heap.size + 2 < w3.heap.size := R3.lt; have S4 := S3.alloc (.cells #[.int .i64 B.f0, .int .i64 B.f1, .int .i64 B.f2, .int .i64 B.f3, .int .i64 B.bo, .int .i64 B.wa, .int .i64 B.bu] 24); have R4 := R3.alloc (.cells #[.int .i64 B.f0, .int .i64 B.f1, .int .i64 B.f2, .int .i64 B.f3, .int .i64 B.bo, .int .i64 B.wa, .int .i64 B.bu] 24); have Y4 := Y3.later ((Below.refl _ _).alloc (Nat.le_refl _) (.cells #[.int .i64 B.f0, .int .i64 B.f1, .int .i64 B.f2, .int .i64 B.f3, .int .i64 B.bo, .int .i64 B.wa, .int .i64 B.bu] 24)) Y3.lt; have HB4 := hide (HB3.out.alloc (by omega) (.cells #[.int .i64 B.f0, .int .i64 B.f1, .int .i64 B.f2, .int .i64 B.f3, .int .i64 B.bo, .int .i64 B.wa, .int .i64 B.bu] 24)); have B4 := BAt.new w3 B.f0 B.f1 B.f2 B.f3 B.bo B.wa B.bu; clear h3 x0 x1 x2 x3 x4 x5 x6 x7 x8 S3 R3 Y3)
    | ((fail_if_success (go_not_at_region 5)); apply wp_region_lit; refine wpList_load_mid rfl 32 _ rfl _ 0 rfl _ _ S1.range Tryz.underlying32 rfl (by rw [infoS]; rfl) ?_; refine wpList_store_mid rfl 32 _ _ rfl _ 0 (stC s (.slice ao s.W.length c)) rfl rfl (R1.there 0 _ (by rw [Z63_size, stC_size]; omega)) (by rw [infoS]; rfl) (stC_one _ _ _ _) ?_)
    | ((fail_if_success (go_not_at_region 7)); apply wp_region_lit; refine wpList_load_mid rfl 32 _ rfl _ 0 rfl _ _ S1.range Tryz.underlying32 rfl (by rw [infoS]; rfl) ?_; refine wpList_store_mid rfl 32 _ _ rfl _ 0 (stC s (.slice ao s.W.length c)) rfl rfl (R1.there 0 _ (by rw [Z63_size, stC_size]; omega)) (by rw [infoS]; rfl) (stC_one _ _ _ _) ?_)
    | ((fail_if_success (go_not_at_region 9)); apply wp_region_lit; refine wpList_load_mid rfl 32 _ rfl _ 0 rfl _ _ S1.range Tryz.underlying32 rfl (by rw [infoS]; rfl) ?_; refine wpList_store_mid rfl 32 _ _ rfl _ 0 (stC s (.slice ao s.W.length c)) rfl rfl (R1.there 0 _ (by rw [Z63_size, stC_size]; omega)) (by rw [infoS]; rfl) (stC_one _ _ _ _) ?_)
    | ((fail_if_success (go_not_at_region 12)); apply wp_region_lit; refine wpList_load_mid rfl 32 _ rfl _ 0 rfl _ _ S2.range Tryz.underlying32 rfl (by rw [infoS]; rfl) ?_; refine wpList_mv rfl _ rfl ?_; refine wpList_store_mid rfl 32 _ _ rfl _ 0 (stC s (.slice ao s.W.length c)) rfl rfl (R2.there 0 _ (by rw [Z63_size, stC_size]; omega)) (by rw [infoS]; rfl) (stC_one _ _ _ _) ?_)
    | ((fail_if_success (go_not_at_region 15)); apply wp_region_lit; refine wpList_load_mid rfl 32 _ rfl _ 0 rfl _ _ S4.range Tryz.underlying32 rfl (by rw [infoS]; rfl) ?_; refine wpList_mv rfl _ rfl ?_; refine wpList_store_mid rfl 32 _ _ rfl _ 0 (stC s (.slice ao s.W.length c)) rfl rfl (R4.there 0 _ (by rw [Z63_size, stC_size]; omega)) (by rw [infoS]; rfl) (stC_one _ _ _ _) ?_))
  · exact stake_endz Tryz.results57 R1 rfl HB1.out (by omega) s ao sb so c _ r (H1.out (fun h => by have := h.2; omega)) HC.out (HW.out.over HB1.out) (fun h => by have := HW.out.lt h; omega) (fun _ => .inl rfl) _ rfl rfl rfl
  · exact stake_endz Tryz.results57 R1 rfl HB1.out (by omega) s ao sb so c _ r (H2.out ⟨‹t = true›, by omega, by omega⟩ (by omega)) HC.out (HW.out.over HB1.out) (fun h => by have := HW.out.lt h; omega) (fun _ => .inl rfl) _ rfl rfl rfl
  · exact stake_endz Tryz.results57 R1 rfl HB1.out (by omega) s ao sb so c _ r (H3.out ⟨‹t = true›, by omega, by omega⟩ (by omega) (by omega)) HC.out (HW.out.over HB1.out) (fun h => by have := HW.out.lt h; omega) (fun _ => .inl rfl) _ rfl rfl rfl
  · exact stake_endz Tryz.results57 R2 rfl HB2.out (by omega) s ao sb so c _ r (H4.out ⟨‹t = true›, by omega, by omega⟩ (by omega) (by omega) (by simpa using ‹(wE != 0) = true›)) HC.out (HW.out.over HB2.out) (fun h => by have := HW.out.lt h; omega) (fun _ => .inl rfl) _ rfl rfl rfl
  · exact stake_endz Tryz.results57 R4 rfl HB4.out (by omega) s ao sb so c _ r (H5.out ⟨‹t = true›, by omega, by omega⟩ (by omega) (by omega) (by simpa using ‹(wE != 0) = false›) (by simpa using ‹(er != 0) = true›)) HC.out (HW.out.over HB4.out) (fun h => by have := HW.out.lt h; omega) (fun _ => .inl rfl) _ rfl rfl rfl
  · have HR := hide (H6.out ⟨‹t = true›, by omega, by omega⟩ (by omega) (by omega) (by simpa using ‹(wE != 0) = false›) (by simpa using ‹(er != 0) = false›))
    have hn := HT.out ‹t = true›
    have hl60 : s.W.length < 60 := by omega
    have hnx : s.next < 1125899906842624 := by omega
    have hnx0 := good_next hg
    obtain ⟨k1, k2, k3⟩ := vOk_amounts hvo
    have k4 := psh_at hps hd
    rw [inA_iff] at k1 k2 k4
    obtain ⟨x0, x1, x2, x3, x4, x5, x6, x7, x8⟩ := st_cells S4
    have f0 := S4.free 0
    have f1 := S4.free 1
    have f2 := S4.free 2
    have f3 := S4.free 3
    have f4 := S4.free 4
    have f5 := S4.free 5
    have f6 := S4.free 6
    have hne : w.heap.size ≠ w3.heap.size := by omega
    clear H1 H2 H3 H4 H5 H6 HT hUn hWo hS c0 c1 x7 x8 S1 S2 R1 R2 Y1 Y2 HB1 HB2 hvo hps k3 B4 cs y4 y5
    go_upto_region 17 with fail
    change Code.wp Tryz.prog _ _ _ (bset (w3.alloc (.cells #[.int .i64 B.f0, .int .i64 B.f1, .int .i64 B.f2, .int .i64 B.f3, .int .i64 B.bo, .int .i64 B.wa, .int .i64 B.bu] 24)) w.heap.size B)
    have hb5 : But w.heap.size (w3.alloc (.cells #[.int .i64 B.f0, .int .i64 B.f1, .int .i64 B.f2, .int .i64 B.f3, .int .i64 B.bo, .int .i64 B.wa, .int .i64 B.bu] 24)) (bset (w3.alloc (.cells #[.int .i64 B.f0, .int .i64 B.f1, .int .i64 B.f2, .int .i64 B.f3, .int .i64 B.bo, .int .i64 B.wa, .int .i64 B.bu] 24)) w.heap.size B) := (((((((But.refl _ _).set 0 _).set 1 _).set 2 _).set 3 _).set 4 _).set 5 _).set 6 _
    have S5 := set_bank S4 B
    have R5 := hb5.stake (by omega) R4
    have Y5 : YAt (bset (w3.alloc (.cells #[.int .i64 B.f0, .int .i64 B.f1, .int .i64 B.f2, .int .i64 B.f3, .int .i64 B.bo, .int .i64 B.wa, .int .i64 B.bu] 24)) w.heap.size B) (w.heap.size + 1) y := (hb5.block _ (by omega)).trans Y4
    have HB5 := hide (HB4.out.trans (hb5.below (Nat.le_refl _)))
    generalize bset (w3.alloc (.cells #[.int .i64 B.f0, .int .i64 B.f1, .int .i64 B.f2, .int .i64 B.f3, .int .i64 B.bo, .int .i64 B.wa, .int .i64 B.bu] 24)) w.heap.size B = w5 at *
    have hA := sadd_any { s with b := B } (.slice ao s.W.length c) w.heap.size d v (-wN) (-n) w5 S5 hd hv (by simp only; omega) (by simp only; omega) (by simp only; omega)
    clear x0 x1 x2 x3 x4 x5 x6 f0 f1 f2 f3 f4 f5 f6 S4 R4 Y4 HB3 HB4 S5 hb5
    go_upto_region 18 with (go_at_call 98; refine hA.mono ?_; rintro e w6 ⟨rfl, S6, hbut⟩)
    have R6 := hbut.stake (by omega) R5
    have Y6 : YAt w6 (w.heap.size + 1) y := (hbut.block _ (by omega)).trans Y5
    have HB6 := hide (HB5.out.trans (hbut.below (Nat.le_refl _)))
    have hz6 : w.heap.size + 2 < w6.heap.size := R6.lt
    clear R5 Y5 HB5 hbut hA
    obtain ⟨_, _, _, _, _, _, _, x7, x8⟩ := st_cells S6
    obtain ⟨y0, y1, y2, y3, _, _, _, _⟩ := Y6.cells
    have g0 := Y6.free 0
    have g1 := Y6.free 1
    have g2 := Y6.free 2
    have g3 := Y6.free 3
    have f2 := S6.free 62
    have hne2 : w.heap.size ≠ w.heap.size + 1 := by omega
    simp only [addS] at x7 x8
    go_upto_region 20 with fail
    have Y7 := Y6.set4 s.next d v wN
    have hbY := ((((But.refl (w.heap.size + 1) w6).set 0 (.int .i64 s.next)).set 1 (.int .i64 (d : Int))).set 2 (.int .i64 (v : Int))).set 3 (.int .i64 wN)
    have S7 := hbY.stake (c := w.heap.size) (by omega) S6
    have R7 := hbY.stake (c := w.heap.size + 2) (by omega) R6
    have HB7 := hide (HB6.out.trans (hbY.below (B := w.heap.size) (by omega)))
    generalize (((w6.setCell ⟨w.heap.size + 1, 0, none⟩ (.int .i64 s.next)).setCell ⟨w.heap.size + 1, 1, none⟩ (.int .i64 (d : Int))).setCell ⟨w.heap.size + 1, 2, none⟩ (.int .i64 (v : Int))).setCell ⟨w.heap.size + 1, 3, none⟩ (.int .i64 wN) = w7 at *
    have S8 := S7.set 62 (.int .i64 (s.next + 1))
    rw [set_next] at S8
    have hbS := (But.refl w.heap.size w7).set 62 (.int .i64 (s.next + 1))
    have R8 := hbS.stake (c := w.heap.size + 2) (by omega) R7
    have Y8 := (hbS.block (w.heap.size + 1) (by omega)).trans Y7
    have HB8 := hide (HB7.out.trans (hbS.below (B := w.heap.size) (by omega)))
    generalize w7.setCell ⟨w.heap.size, 62, none⟩ (.int .i64 (s.next + 1)) = w8 at *
    clear S6 R6 Y6 HB6 y0 y1 y2 y3 g0 g1 g2 g3 f2 x7 x8 hbY S7 R7 Y7 HB7 hbS
    have Y9 : YAt w8 (w.heap.size + 1) { y with num := s.next, d := d, v := v, amt := wN } := Y8
    generalize hx : ({ y with num := s.next, d := d, v := v, amt := wN } : Wt) = x at *
    clear hx Y8
    have HS8 := hide S8
    obtain ⟨_, _, _, _, _, _, _, x7, _⟩ := st_cells S8
    obtain ⟨y0, y1, y2, y3, y4, y5, y6, y7⟩ := Y9.cells
    have hz8 : w.heap.size + 2 < w8.heap.size := R8.lt
    have hz8a : w.heap.size < w8.heap.size := by omega
    have hz8b : w.heap.size + 1 < w8.heap.size := by omega
    have hlen : (s.W.length : Int) < 4611686018427387904 := by omega
    have hnil : ao = none → s.W.length = 0 := fun h => by
      rcases Nat.eq_zero_or_pos s.W.length with h0 | h0
      · exact h0
      · have := HW.out.adr h0
        rw [h] at this
        cases this
    clear S8
    go_region_law (first
      | (refine step_wanted rfl ?_; go_simp; go_at_call 118; refine (clip_any ao s.W.length c HC.out hnil hlen _).mono ?_; rintro e we ⟨rfl, rfl⟩)
      | (refine step_ap1 rfl rfl _ _ rfl ao sb so _ s.W x rfl rfl (HW.out.over (HB8.out.alloc (by omega) _).drew) (by omega) (fun j v hj => wt_new w8 x _ j v hj) ?_; intro g C w9 hgq hC9 hW9 hB9; have S9 := (HS8.out.later ((Below.refl _ w8).alloc (Nat.le_refl _) _).drew HS8.out.lt).later hB9 (by simp; omega); obtain ⟨_, _, _, _, _, _, _, z7, _⟩ := st_cells S9; have fz := S9.free 61; have hz9 := S9.lt; have HS9 := hide S9; have HB9 := hide hB9; have HW9 := hide hW9; have HG9 := hide hgq; clear S9 hB9 hW9 hgq))
    all_goals
      have hgz : g = w8.heap.size + 1 := by rw [HG9.out]; show (w8.alloc _).heap.size = _; simp
      have hB9w := (HB8.out.alloc (by omega) _).drew.trans (HB9.out.mono (by show _ ≤ (w8.alloc _).heap.size; simp; omega))
      have R9 := (R8.later ((Below.refl _ w8).alloc (Nat.le_refl _) _).drew R8.lt).later HB9.out (by show _ < (w8.alloc _).heap.size; simp; omega)
      have hbS := (But.refl w.heap.size w9).set 61 (.slice (some ⟨g, 0, none⟩) (s.W.length + 1) C)
      have S10 := HS9.out.set 61 (.slice (some ⟨g, 0, none⟩) (s.W.length + 1) C)
      rw [set_sl] at S10
      have S11 : SAt (w9.setCell ⟨w.heap.size, 61, none⟩ (.slice (some ⟨g, 0, none⟩) (s.W.length + 1) C)) w.heap.size (stC (outS s d v wN n B x) (.slice (some ⟨g, 0, none⟩) (s.W.length + 1) C)) := by rw [out_stC]; exact S10
      have R10 := hbS.stake (c := w.heap.size + 2) (by omega) R9
      have W10 := HW9.out.but hbS (fun _ => by omega)
      have HGZ := hide hgz
      clear hgz
      have HB10 := hide (hB9w.trans (hbS.below (Nat.le_refl _)))
      generalize w9.setCell ⟨w.heap.size, 61, none⟩ (.slice (some ⟨g, 0, none⟩) (s.W.length + 1) C) = w10 at *
      have hz10 : w.heap.size < w10.heap.size := S11.lt
      clear HS9 HB9 HG9 HW9 HS8 R8 R9 HB8 hbS S10 hB9w y0 y1 y2 y3 y4 y5 y6 y7 x7 z7 fz Y9 hz9
      go_upto_region 21 with fail
      apply wp_region_lit
      refine wpList_load_mid rfl 32 _ rfl _ 0 rfl _ _ S11.range Tryz.underlying32 rfl (by rw [infoS]; rfl) ?_
      refine wpList_store_mid rfl 32 _ _ rfl _ 0 (stC (outS s d v wN n B x) (.slice (some ⟨g, 0, none⟩) (s.W.length + 1) C)) rfl rfl (R10.there 0 _ (by rw [Z63_size, stC_size]; omega)) (by rw [infoS]; rfl) (stC_one _ _ _ _) ?_
      go_wp2
      exact stake_endn Tryz.results57 R10 rfl HB10.out (by omega) (outS s d v wN n B x) (some ⟨g, 0, none⟩) g 0 C (s.W.length + 1) 0 r HR.out (by simp [outS]) hC9 W10 (fun _ => by have := HGZ.out; omega) (fun _ => .inr (by have := HGZ.out; omega)) _ rfl rfl rfl
  · exact stake_endz Tryz.results57 R1 rfl HB1.out (by omega) s ao sb so c _ r (H3.out ⟨‹t = true›, by omega, by omega⟩ (by omega) (by omega)) HC.out (HW.out.over HB1.out) (fun h => by have := HW.out.lt h; omega) (fun _ => .inl rfl) _ rfl rfl rfl
  · exact stake_endz Tryz.results57 R1 rfl HB1.out (by omega) s ao sb so c _ r (H1.out (fun h => by have := h.2; omega)) HC.out (HW.out.over HB1.out) (fun h => by have := HW.out.lt h; omega) (fun _ => .inl rfl) _ rfl rfl rfl
  · exact stake_endz Tryz.results57 R1 rfl HB1.out (by omega) s ao sb so c _ r (H1.out (fun h => absurd h.1 ‹¬ t = true›)) HC.out (HW.out.over HB1.out) (fun h => by have := HW.out.lt h; omega) (fun _ => .inl rfl) _ rfl rfl rfl
end Go.Proofs.YtkhlihpghbhppaaGreat

