/- Parts of the proof: SH J. -/
import Derived.Test.YtkhlihpghbhppabGreatRows
import Derived.Test.YtkhlihpghbhppabGreatProviderRemovesK18
import Derived.Test.YtkhlihpghbhppabGreatProviderRemovesK24
import Derived.Test.YtkhlihpghbhppabGreatProviderRemovesK26
import Derived.Test.YtkhlihpghbhppabGreatProviderRemovesK27
import Derived.Test.YtkhlihpghbhppabGreatProviderRemovesK28
import Derived.BigQuiet
import Derived.Deep.QuietTactic
import Derived.Deep.RegionHeld3
import Derived.WalkKit
import Derived.Deep.RegionWith
import Derived.Deep.DeepCutAuto
set_option maxRecDepth 100000
namespace Go.Proofs.YtkhlihpghbhppabGreat
open Go.RowKit
theorem muldiv_any (a b c : Int) (w : World) (a1 : a ≤ 9223372036854775807) (b1 : b ≤ 9223372036854775807) (c1 : c ≤ 9223372036854775807) :
    Calls Tryz.prog 90 #[.int .i64 a, .int .i64 b, .int .i64 c] w fun e w' => e = .returned (.tuple #[.int .i64 (mdN a b c), .int .i64 (mdE a b c)]) ∧ Below w.heap.size w w' := Ra.muldiv a b c a1 b1 c1 w
theorem mdN_bound (a b c : Int) : 0 ≤ mdN a b c ∧ mdN a b c ≤ 1125899906842624 := by
  unfold mdN
  split
  · omega
  · rename_i h
    have h0 : 0 ≤ a * b := Int.mul_nonneg (by omega) (by omega)
    have h1 : 0 ≤ a * b / c := Int.ediv_nonneg h0 (by omega)
    split <;> omega
theorem shN_eq (x : Vd) (n : Int) : shN x n = if x.sh = 0 then n else if x.tok = 0 then 0 else if mdE n x.sh x.tok = 0 ∧ inA (x.sh + mdN n x.sh x.tok) = true then mdN n x.sh x.tok else 0 := rfl
theorem shE_eq (x : Vd) (n : Int) : shE x n = if x.sh = 0 then 0 else if x.tok = 0 then 8 else if mdE n x.sh x.tok = 0 ∧ inA (x.sh + mdN n x.sh x.tok) = true then if mdN n x.sh x.tok = 0 then 8 else 0 else 6 := rfl
set_option maxHeartbeats 1000000 in
theorem sharesFor_any (b o : Nat) (x : Vd) (n : Int) (w : World) (hn : n ≤ 1125899906842624) (hx : vOk x = true) (h0 : w.cell? ⟨b, o, none⟩ = some (.int .i64 x.tok)) (h1 : w.cell? ⟨b, o + 1, none⟩ = some (.int .i64 x.sh)) :
    Calls Tryz.prog 69 #[.pointer (some ⟨b, o, none⟩), .int .i64 n] w fun e w' => e = .returned (.tuple #[.int .i64 (shN x n), .int .i64 (shE x n)]) ∧ Below w.heap.size w w' := by
  obtain ⟨k1, k2, k3⟩ := vOk_amounts hx
  rw [inA_iff] at k1 k2 k3
  have hM := fun w => muldiv_any n x.sh x.tok w (by omega) (by omega) (by omega)
  have hI := inA_any (x.sh + mdN n x.sh x.tok)
  have HN := hide (shN_eq x n)
  have HE := hide (shE_eq x n)
  have hblt : b < w.heap.size := World.block_lt_of_cell? w _ h0
  clear hx
  obtain ⟨xt, xs, xl, xj, xd⟩ := x
  simp only at *
  have hb := mdN_bound n xs xt
  generalize shN ⟨xt, xs, xl, xj, xd⟩ n = rN at *
  generalize shE ⟨xt, xs, xl, xj, xd⟩ n = rE at *
  generalize mdN n xs xt = m at *
  generalize mdE n xs xt = er at *
  generalize inA (xs + m) = t at *
  go_enter Tryz.func69, Tryz.ntmps69
  go_upto_region 5 with fail
  all_goals first
    | (go_ret2; refine ⟨?_, Below.refl _ _⟩; have e1 := HN.out; have e2 := HE.out; simp_all; done)
    | skip
  go_region_held3 (fun wx => wx.cell? ⟨b, o, none⟩ = some (.int .i64 xt) ∧ wx.cell? ⟨b, o + 1, none⟩ = some (.int .i64 xs)) (first | go_keep | (refine ⟨?_, ?_⟩ <;> (rw [hbM.cell hblt]; simp [*])))
    (first | (go_at_call 90; refine (hM _).mono ?_; rintro e w1 ⟨rfl, hbM⟩))
  rename_i hh
  obtain ⟨g0, g1⟩ := hh
  have HB : Hid (Below w.heap.size w w1) := (Below.refl _ w).drew.trans hbM
  clear hbM
  go_wp2_with (go_at_call 66; refine (hI _).mono ?_; rintro e w2 ⟨rfl, rfl⟩)
  all_goals (go_ret2; refine ⟨?_, HB.out⟩; have e1 := HN.out; have e2 := HE.out; clear HN HE hM hI; simp_all)
end Go.Proofs.YtkhlihpghbhppabGreat

set_option maxRecDepth 100000
namespace Go.Proofs.YtkhlihpghbhppabGreat
open Go.RowKit
theorem mv_04 (b : Bk) (n : Int) (c : Nat) (w : World) (hc : w.cell? ⟨c, 0, none⟩ = some (.int .i64 0)) (hcl : c < w.heap.size) :
    Calls Tryz.prog 78 #[.agg #[.int .i64 b.f0, .int .i64 b.f1, .int .i64 b.f2, .int .i64 b.f3, .int .i64 b.bo, .int .i64 b.wa, .int .i64 b.bu], (.func (.func 98) #[] #[.pointer (some ⟨c, 0, none⟩)]), (.func (.func 114) #[] #[]), .int .i64 n] w fun e w' => e = .returned (.tuple #[.agg #[.int .i64 (mv b 0 4 n).1.f0, .int .i64 (mv b 0 4 n).1.f1, .int .i64 (mv b 0 4 n).1.f2, .int .i64 (mv b 0 4 n).1.f3, .int .i64 (mv b 0 4 n).1.bo, .int .i64 (mv b 0 4 n).1.wa, .int .i64 (mv b 0 4 n).1.bu], .int .i64 (mv b 0 4 n).2]) ∧ Below w.heap.size w w' := by
  by_cases hg : b.good = true
  · by_cases hn : 0 ≤ n ∧ n ≤ 1125899906842624
    · have h1 : ¬ (b.good = false ∨ ¬ (0 ≤ n ∧ n ≤ 1125899906842624)) := by rw [hg]; simp [hn]
      by_cases hl : b.f0 < n
      · have e : mv b 0 4 n = (b, 7) := by rw [mv, if_neg h1, if_pos (show b.get 0 < n from hl)]
        rw [e]
        exact move_funds_0 b.f0 b.f1 b.f2 b.f3 b.bo b.wa b.bu n c _ w hc hcl hg hn.1 hn.2 hl
      · have e : mv b 0 4 n = ((b.put 0 (b.f0 - n)).put 4 (b.bo + n), 0) := by rw [mv, if_neg h1, if_neg (show ¬ b.get 0 < n from hl)]; rfl
        rw [e]
        exact move_ok_04 b.f0 b.f1 b.f2 b.f3 b.bo b.wa b.bu n c w hc hcl hg hn.1 hn.2 (by omega)
    · have e : mv b 0 4 n = (b, 2) := by rw [mv, if_pos (.inr hn)]
      rw [e]
      exact move_range_in b.f0 b.f1 b.f2 b.f3 b.bo b.wa b.bu n _ _ w hg hn
  · have e : mv b 0 4 n = (b, 2) := by rw [mv, if_pos (.inl (by simpa using hg))]
    rw [e]
    exact move_range_bad b.f0 b.f1 b.f2 b.f3 b.bo b.wa b.bu n _ _ w (by simpa [Bk.good] using hg)
theorem mv_14 (b : Bk) (n : Int) (c : Nat) (w : World) (hc : w.cell? ⟨c, 0, none⟩ = some (.int .i64 1)) (hcl : c < w.heap.size) :
    Calls Tryz.prog 78 #[.agg #[.int .i64 b.f0, .int .i64 b.f1, .int .i64 b.f2, .int .i64 b.f3, .int .i64 b.bo, .int .i64 b.wa, .int .i64 b.bu], (.func (.func 98) #[] #[.pointer (some ⟨c, 0, none⟩)]), (.func (.func 114) #[] #[]), .int .i64 n] w fun e w' => e = .returned (.tuple #[.agg #[.int .i64 (mv b 1 4 n).1.f0, .int .i64 (mv b 1 4 n).1.f1, .int .i64 (mv b 1 4 n).1.f2, .int .i64 (mv b 1 4 n).1.f3, .int .i64 (mv b 1 4 n).1.bo, .int .i64 (mv b 1 4 n).1.wa, .int .i64 (mv b 1 4 n).1.bu], .int .i64 (mv b 1 4 n).2]) ∧ Below w.heap.size w w' := by
  by_cases hg : b.good = true
  · by_cases hn : 0 ≤ n ∧ n ≤ 1125899906842624
    · have h1 : ¬ (b.good = false ∨ ¬ (0 ≤ n ∧ n ≤ 1125899906842624)) := by rw [hg]; simp [hn]
      by_cases hl : b.f1 < n
      · have e : mv b 1 4 n = (b, 7) := by rw [mv, if_neg h1, if_pos (show b.get 1 < n from hl)]
        rw [e]
        exact move_funds_1 b.f0 b.f1 b.f2 b.f3 b.bo b.wa b.bu n c _ w hc hcl hg hn.1 hn.2 hl
      · have e : mv b 1 4 n = ((b.put 1 (b.f1 - n)).put 4 (b.bo + n), 0) := by rw [mv, if_neg h1, if_neg (show ¬ b.get 1 < n from hl)]; rfl
        rw [e]
        exact move_ok_14 b.f0 b.f1 b.f2 b.f3 b.bo b.wa b.bu n c w hc hcl hg hn.1 hn.2 (by omega)
    · have e : mv b 1 4 n = (b, 2) := by rw [mv, if_pos (.inr hn)]
      rw [e]
      exact move_range_in b.f0 b.f1 b.f2 b.f3 b.bo b.wa b.bu n _ _ w hg hn
  · have e : mv b 1 4 n = (b, 2) := by rw [mv, if_pos (.inl (by simpa using hg))]
    rw [e]
    exact move_range_bad b.f0 b.f1 b.f2 b.f3 b.bo b.wa b.bu n _ _ w (by simpa [Bk.good] using hg)
theorem mv_24 (b : Bk) (n : Int) (c : Nat) (w : World) (hc : w.cell? ⟨c, 0, none⟩ = some (.int .i64 2)) (hcl : c < w.heap.size) :
    Calls Tryz.prog 78 #[.agg #[.int .i64 b.f0, .int .i64 b.f1, .int .i64 b.f2, .int .i64 b.f3, .int .i64 b.bo, .int .i64 b.wa, .int .i64 b.bu], (.func (.func 98) #[] #[.pointer (some ⟨c, 0, none⟩)]), (.func (.func 114) #[] #[]), .int .i64 n] w fun e w' => e = .returned (.tuple #[.agg #[.int .i64 (mv b 2 4 n).1.f0, .int .i64 (mv b 2 4 n).1.f1, .int .i64 (mv b 2 4 n).1.f2, .int .i64 (mv b 2 4 n).1.f3, .int .i64 (mv b 2 4 n).1.bo, .int .i64 (mv b 2 4 n).1.wa, .int .i64 (mv b 2 4 n).1.bu], .int .i64 (mv b 2 4 n).2]) ∧ Below w.heap.size w w' := by
  by_cases hg : b.good = true
  · by_cases hn : 0 ≤ n ∧ n ≤ 1125899906842624
    · have h1 : ¬ (b.good = false ∨ ¬ (0 ≤ n ∧ n ≤ 1125899906842624)) := by rw [hg]; simp [hn]
      by_cases hl : b.f2 < n
      · have e : mv b 2 4 n = (b, 7) := by rw [mv, if_neg h1, if_pos (show b.get 2 < n from hl)]
        rw [e]
        exact move_funds_2 b.f0 b.f1 b.f2 b.f3 b.bo b.wa b.bu n c _ w hc hcl hg hn.1 hn.2 hl
      · have e : mv b 2 4 n = ((b.put 2 (b.f2 - n)).put 4 (b.bo + n), 0) := by rw [mv, if_neg h1, if_neg (show ¬ b.get 2 < n from hl)]; rfl
        rw [e]
        exact move_ok_24 b.f0 b.f1 b.f2 b.f3 b.bo b.wa b.bu n c w hc hcl hg hn.1 hn.2 (by omega)
    · have e : mv b 2 4 n = (b, 2) := by rw [mv, if_pos (.inr hn)]
      rw [e]
      exact move_range_in b.f0 b.f1 b.f2 b.f3 b.bo b.wa b.bu n _ _ w hg hn
  · have e : mv b 2 4 n = (b, 2) := by rw [mv, if_pos (.inl (by simpa using hg))]
    rw [e]
    exact move_range_bad b.f0 b.f1 b.f2 b.f3 b.bo b.wa b.bu n _ _ w (by simpa [Bk.good] using hg)
theorem mv_34 (b : Bk) (n : Int) (c : Nat) (w : World) (hc : w.cell? ⟨c, 0, none⟩ = some (.int .i64 3)) (hcl : c < w.heap.size) :
    Calls Tryz.prog 78 #[.agg #[.int .i64 b.f0, .int .i64 b.f1, .int .i64 b.f2, .int .i64 b.f3, .int .i64 b.bo, .int .i64 b.wa, .int .i64 b.bu], (.func (.func 98) #[] #[.pointer (some ⟨c, 0, none⟩)]), (.func (.func 114) #[] #[]), .int .i64 n] w fun e w' => e = .returned (.tuple #[.agg #[.int .i64 (mv b 3 4 n).1.f0, .int .i64 (mv b 3 4 n).1.f1, .int .i64 (mv b 3 4 n).1.f2, .int .i64 (mv b 3 4 n).1.f3, .int .i64 (mv b 3 4 n).1.bo, .int .i64 (mv b 3 4 n).1.wa, .int .i64 (mv b 3 4 n).1.bu], .int .i64 (mv b 3 4 n).2]) ∧ Below w.heap.size w w' := by
  by_cases hg : b.good = true
  · by_cases hn : 0 ≤ n ∧ n ≤ 1125899906842624
    · have h1 : ¬ (b.good = false ∨ ¬ (0 ≤ n ∧ n ≤ 1125899906842624)) := by rw [hg]; simp [hn]
      by_cases hl : b.f3 < n
      · have e : mv b 3 4 n = (b, 7) := by rw [mv, if_neg h1, if_pos (show b.get 3 < n from hl)]
        rw [e]
        exact move_funds_3 b.f0 b.f1 b.f2 b.f3 b.bo b.wa b.bu n c _ w hc hcl hg hn.1 hn.2 hl
      · have e : mv b 3 4 n = ((b.put 3 (b.f3 - n)).put 4 (b.bo + n), 0) := by rw [mv, if_neg h1, if_neg (show ¬ b.get 3 < n from hl)]; rfl
        rw [e]
        exact move_ok_34 b.f0 b.f1 b.f2 b.f3 b.bo b.wa b.bu n c w hc hcl hg hn.1 hn.2 (by omega)
    · have e : mv b 3 4 n = (b, 2) := by rw [mv, if_pos (.inr hn)]
      rw [e]
      exact move_range_in b.f0 b.f1 b.f2 b.f3 b.bo b.wa b.bu n _ _ w hg hn
  · have e : mv b 3 4 n = (b, 2) := by rw [mv, if_pos (.inl (by simpa using hg))]
    rw [e]
    exact move_range_bad b.f0 b.f1 b.f2 b.f3 b.bo b.wa b.bu n _ _ w (by simpa [Bk.good] using hg)
theorem mv_50 (b : Bk) (n : Int) (c : Nat) (w : World) (hc : w.cell? ⟨c, 0, none⟩ = some (.int .i64 0)) (hcl : c < w.heap.size) :
    Calls Tryz.prog 78 #[.agg #[.int .i64 b.f0, .int .i64 b.f1, .int .i64 b.f2, .int .i64 b.f3, .int .i64 b.bo, .int .i64 b.wa, .int .i64 b.bu], (.func (.func 97) #[] #[]), (.func (.func 98) #[] #[.pointer (some ⟨c, 0, none⟩)]), .int .i64 n] w fun e w' => e = .returned (.tuple #[.agg #[.int .i64 (mv b 5 0 n).1.f0, .int .i64 (mv b 5 0 n).1.f1, .int .i64 (mv b 5 0 n).1.f2, .int .i64 (mv b 5 0 n).1.f3, .int .i64 (mv b 5 0 n).1.bo, .int .i64 (mv b 5 0 n).1.wa, .int .i64 (mv b 5 0 n).1.bu], .int .i64 (mv b 5 0 n).2]) ∧ Below w.heap.size w w' := by
  by_cases hg : b.good = true
  · by_cases hn : 0 ≤ n ∧ n ≤ 1125899906842624
    · have h1 : ¬ (b.good = false ∨ ¬ (0 ≤ n ∧ n ≤ 1125899906842624)) := by rw [hg]; simp [hn]
      by_cases hl : b.wa < n
      · have e : mv b 5 0 n = (b, 7) := by rw [mv, if_neg h1, if_pos (show b.get 5 < n from hl)]
        rw [e]
        exact move_funds_5 b.f0 b.f1 b.f2 b.f3 b.bo b.wa b.bu n _ w hg hn.1 hn.2 hl
      · have e : mv b 5 0 n = ((b.put 5 (b.wa - n)).put 0 (b.f0 + n), 0) := by rw [mv, if_neg h1, if_neg (show ¬ b.get 5 < n from hl)]; rfl
        rw [e]
        exact move_ok_50 b.f0 b.f1 b.f2 b.f3 b.bo b.wa b.bu n c w hc hcl hg hn.1 hn.2 (by omega)
    · have e : mv b 5 0 n = (b, 2) := by rw [mv, if_pos (.inr hn)]
      rw [e]
      exact move_range_in b.f0 b.f1 b.f2 b.f3 b.bo b.wa b.bu n _ _ w hg hn
  · have e : mv b 5 0 n = (b, 2) := by rw [mv, if_pos (.inl (by simpa using hg))]
    rw [e]
    exact move_range_bad b.f0 b.f1 b.f2 b.f3 b.bo b.wa b.bu n _ _ w (by simpa [Bk.good] using hg)
theorem mv_51 (b : Bk) (n : Int) (c : Nat) (w : World) (hc : w.cell? ⟨c, 0, none⟩ = some (.int .i64 1)) (hcl : c < w.heap.size) :
    Calls Tryz.prog 78 #[.agg #[.int .i64 b.f0, .int .i64 b.f1, .int .i64 b.f2, .int .i64 b.f3, .int .i64 b.bo, .int .i64 b.wa, .int .i64 b.bu], (.func (.func 97) #[] #[]), (.func (.func 98) #[] #[.pointer (some ⟨c, 0, none⟩)]), .int .i64 n] w fun e w' => e = .returned (.tuple #[.agg #[.int .i64 (mv b 5 1 n).1.f0, .int .i64 (mv b 5 1 n).1.f1, .int .i64 (mv b 5 1 n).1.f2, .int .i64 (mv b 5 1 n).1.f3, .int .i64 (mv b 5 1 n).1.bo, .int .i64 (mv b 5 1 n).1.wa, .int .i64 (mv b 5 1 n).1.bu], .int .i64 (mv b 5 1 n).2]) ∧ Below w.heap.size w w' := by
  by_cases hg : b.good = true
  · by_cases hn : 0 ≤ n ∧ n ≤ 1125899906842624
    · have h1 : ¬ (b.good = false ∨ ¬ (0 ≤ n ∧ n ≤ 1125899906842624)) := by rw [hg]; simp [hn]
      by_cases hl : b.wa < n
      · have e : mv b 5 1 n = (b, 7) := by rw [mv, if_neg h1, if_pos (show b.get 5 < n from hl)]
        rw [e]
        exact move_funds_5 b.f0 b.f1 b.f2 b.f3 b.bo b.wa b.bu n _ w hg hn.1 hn.2 hl
      · have e : mv b 5 1 n = ((b.put 5 (b.wa - n)).put 1 (b.f1 + n), 0) := by rw [mv, if_neg h1, if_neg (show ¬ b.get 5 < n from hl)]; rfl
        rw [e]
        exact move_ok_51 b.f0 b.f1 b.f2 b.f3 b.bo b.wa b.bu n c w hc hcl hg hn.1 hn.2 (by omega)
    · have e : mv b 5 1 n = (b, 2) := by rw [mv, if_pos (.inr hn)]
      rw [e]
      exact move_range_in b.f0 b.f1 b.f2 b.f3 b.bo b.wa b.bu n _ _ w hg hn
  · have e : mv b 5 1 n = (b, 2) := by rw [mv, if_pos (.inl (by simpa using hg))]
    rw [e]
    exact move_range_bad b.f0 b.f1 b.f2 b.f3 b.bo b.wa b.bu n _ _ w (by simpa [Bk.good] using hg)
theorem mv_52 (b : Bk) (n : Int) (c : Nat) (w : World) (hc : w.cell? ⟨c, 0, none⟩ = some (.int .i64 2)) (hcl : c < w.heap.size) :
    Calls Tryz.prog 78 #[.agg #[.int .i64 b.f0, .int .i64 b.f1, .int .i64 b.f2, .int .i64 b.f3, .int .i64 b.bo, .int .i64 b.wa, .int .i64 b.bu], (.func (.func 97) #[] #[]), (.func (.func 98) #[] #[.pointer (some ⟨c, 0, none⟩)]), .int .i64 n] w fun e w' => e = .returned (.tuple #[.agg #[.int .i64 (mv b 5 2 n).1.f0, .int .i64 (mv b 5 2 n).1.f1, .int .i64 (mv b 5 2 n).1.f2, .int .i64 (mv b 5 2 n).1.f3, .int .i64 (mv b 5 2 n).1.bo, .int .i64 (mv b 5 2 n).1.wa, .int .i64 (mv b 5 2 n).1.bu], .int .i64 (mv b 5 2 n).2]) ∧ Below w.heap.size w w' := by
  by_cases hg : b.good = true
  · by_cases hn : 0 ≤ n ∧ n ≤ 1125899906842624
    · have h1 : ¬ (b.good = false ∨ ¬ (0 ≤ n ∧ n ≤ 1125899906842624)) := by rw [hg]; simp [hn]
      by_cases hl : b.wa < n
      · have e : mv b 5 2 n = (b, 7) := by rw [mv, if_neg h1, if_pos (show b.get 5 < n from hl)]
        rw [e]
        exact move_funds_5 b.f0 b.f1 b.f2 b.f3 b.bo b.wa b.bu n _ w hg hn.1 hn.2 hl
      · have e : mv b 5 2 n = ((b.put 5 (b.wa - n)).put 2 (b.f2 + n), 0) := by rw [mv, if_neg h1, if_neg (show ¬ b.get 5 < n from hl)]; rfl
        rw [e]
        exact move_ok_52 b.f0 b.f1 b.f2 b.f3 b.bo b.wa b.bu n c w hc hcl hg hn.1 hn.2 (by omega)
    · have e : mv b 5 2 n = (b, 2) := by rw [mv, if_pos (.inr hn)]
      rw [e]
      exact move_range_in b.f0 b.f1 b.f2 b.f3 b.bo b.wa b.bu n _ _ w hg hn
  · have e : mv b 5 2 n = (b, 2) := by rw [mv, if_pos (.inl (by simpa using hg))]
    rw [e]
    exact move_range_bad b.f0 b.f1 b.f2 b.f3 b.bo b.wa b.bu n _ _ w (by simpa [Bk.good] using hg)
theorem mv_53 (b : Bk) (n : Int) (c : Nat) (w : World) (hc : w.cell? ⟨c, 0, none⟩ = some (.int .i64 3)) (hcl : c < w.heap.size) :
    Calls Tryz.prog 78 #[.agg #[.int .i64 b.f0, .int .i64 b.f1, .int .i64 b.f2, .int .i64 b.f3, .int .i64 b.bo, .int .i64 b.wa, .int .i64 b.bu], (.func (.func 97) #[] #[]), (.func (.func 98) #[] #[.pointer (some ⟨c, 0, none⟩)]), .int .i64 n] w fun e w' => e = .returned (.tuple #[.agg #[.int .i64 (mv b 5 3 n).1.f0, .int .i64 (mv b 5 3 n).1.f1, .int .i64 (mv b 5 3 n).1.f2, .int .i64 (mv b 5 3 n).1.f3, .int .i64 (mv b 5 3 n).1.bo, .int .i64 (mv b 5 3 n).1.wa, .int .i64 (mv b 5 3 n).1.bu], .int .i64 (mv b 5 3 n).2]) ∧ Below w.heap.size w w' := by
  by_cases hg : b.good = true
  · by_cases hn : 0 ≤ n ∧ n ≤ 1125899906842624
    · have h1 : ¬ (b.good = false ∨ ¬ (0 ≤ n ∧ n ≤ 1125899906842624)) := by rw [hg]; simp [hn]
      by_cases hl : b.wa < n
      · have e : mv b 5 3 n = (b, 7) := by rw [mv, if_neg h1, if_pos (show b.get 5 < n from hl)]
        rw [e]
        exact move_funds_5 b.f0 b.f1 b.f2 b.f3 b.bo b.wa b.bu n _ w hg hn.1 hn.2 hl
      · have e : mv b 5 3 n = ((b.put 5 (b.wa - n)).put 3 (b.f3 + n), 0) := by rw [mv, if_neg h1, if_neg (show ¬ b.get 5 < n from hl)]; rfl
        rw [e]
        exact move_ok_53 b.f0 b.f1 b.f2 b.f3 b.bo b.wa b.bu n c w hc hcl hg hn.1 hn.2 (by omega)
    · have e : mv b 5 3 n = (b, 2) := by rw [mv, if_pos (.inr hn)]
      rw [e]
      exact move_range_in b.f0 b.f1 b.f2 b.f3 b.bo b.wa b.bu n _ _ w hg hn
  · have e : mv b 5 3 n = (b, 2) := by rw [mv, if_pos (.inl (by simpa using hg))]
    rw [e]
    exact move_range_bad b.f0 b.f1 b.f2 b.f3 b.bo b.wa b.bu n _ _ w (by simpa [Bk.good] using hg)
theorem bond_any (b : Bk) (d n : Int) (w : World) : Calls Tryz.prog 70 #[.agg #[.int .i64 b.f0, .int .i64 b.f1, .int .i64 b.f2, .int .i64 b.f3, .int .i64 b.bo, .int .i64 b.wa, .int .i64 b.bu], .int .i64 d, .int .i64 n] w fun e w' => e = .returned (.tuple #[.agg #[.int .i64 (bondR b d n).1.f0, .int .i64 (bondR b d n).1.f1, .int .i64 (bondR b d n).1.f2, .int .i64 (bondR b d n).1.f3, .int .i64 (bondR b d n).1.bo, .int .i64 (bondR b d n).1.wa, .int .i64 (bondR b d n).1.bu], .int .i64 (bondR b d n).2]) ∧ Below w.heap.size w w' := by
  by_cases h : 0 ≤ d ∧ d < 4
  · rw [bondR, if_pos h]
    refine bond_walk b.f0 b.f1 b.f2 b.f3 b.bo b.wa b.bu d n (mv b d.toNat 4 n).1.f0 (mv b d.toNat 4 n).1.f1 (mv b d.toNat 4 n).1.f2 (mv b d.toNat 4 n).1.f3 (mv b d.toNat 4 n).1.bo (mv b d.toNat 4 n).1.wa (mv b d.toNat 4 n).1.bu (mv b d.toNat 4 n).2 w h.1 h.2 ?_
    intro c w hc hcl
    rcases (show d = 0 ∨ d = 1 ∨ d = 2 ∨ d = 3 by omega) with rfl | rfl | rfl | rfl
    · exact mv_04 b n c w hc hcl
    · exact mv_14 b n c w hc hcl
    · exact mv_24 b n c w hc hcl
    · exact mv_34 b n c w hc hcl
  · rw [bondR, if_neg h]
    exact bond_no b.f0 b.f1 b.f2 b.f3 b.bo b.wa b.bu d n w h
theorem pay_any (b : Bk) (d n : Int) (w : World) : Calls Tryz.prog 55 #[.agg #[.int .i64 b.f0, .int .i64 b.f1, .int .i64 b.f2, .int .i64 b.f3, .int .i64 b.bo, .int .i64 b.wa, .int .i64 b.bu], .int .i64 d, .int .i64 n] w fun e w' => e = .returned (.tuple #[.agg #[.int .i64 (payR b d n).1.f0, .int .i64 (payR b d n).1.f1, .int .i64 (payR b d n).1.f2, .int .i64 (payR b d n).1.f3, .int .i64 (payR b d n).1.bo, .int .i64 (payR b d n).1.wa, .int .i64 (payR b d n).1.bu], .int .i64 (payR b d n).2]) ∧ Below w.heap.size w w' := by
  by_cases h : 0 ≤ d ∧ d < 4
  · rw [payR, if_pos h]
    refine pay_walk b.f0 b.f1 b.f2 b.f3 b.bo b.wa b.bu d n (mv b 5 d.toNat n).1.f0 (mv b 5 d.toNat n).1.f1 (mv b 5 d.toNat n).1.f2 (mv b 5 d.toNat n).1.f3 (mv b 5 d.toNat n).1.bo (mv b 5 d.toNat n).1.wa (mv b 5 d.toNat n).1.bu (mv b 5 d.toNat n).2 w h.1 h.2 ?_
    intro c w hc hcl
    rcases (show d = 0 ∨ d = 1 ∨ d = 2 ∨ d = 3 by omega) with rfl | rfl | rfl | rfl
    · exact mv_50 b n c w hc hcl
    · exact mv_51 b n c w hc hcl
    · exact mv_52 b n c w hc hcl
    · exact mv_53 b n c w hc hcl
  · rw [payR, if_neg h]
    exact pay_no b.f0 b.f1 b.f2 b.f3 b.bo b.wa b.bu d n w h
end Go.Proofs.YtkhlihpghbhppabGreat

