/- Parts of the proof: RF. -/
import Derived.Test.YtkhlihpghbhppaaGreatRows
import Derived.Test.YtkhlihpghbhppaaGreatPjK38
set_option maxRecDepth 100000
namespace Go.Proofs.YtkhlihpghbhppaaGreat.Ra
open Go.RowKit

theorem wrap_two (q d z f : Int) (h0 : 0 ≤ q) (h1 : q ≤ 2251799813685249) (d0 : 0 ≤ d) (d1 : d ≤ 9223372036854775807) (ez : wrap64 (q + d) = z) (ef : wrap64 (z + 1) = f) :
    (q + d + 1 ≤ 1125899906842624 → f = q + d + 1) ∧ (1125899906842624 < q + d + 1 → 1125899906842624 < f ∨ f < 0) := by
  unfold wrap64 at ez ef
  omega
theorem wrap_once (q d f : Int) (h0 : 0 ≤ q) (h1 : q ≤ 2251799813685249) (d0 : 0 ≤ d) (d1 : d ≤ 9223372036854775807) (ef : wrap64 (q + d) = f) :
    (q + d ≤ 1125899906842624 → f = q + d) ∧ (1125899906842624 < q + d → 1125899906842624 < f ∨ f < 0) := by
  unfold wrap64 at ef
  omega

/-- A bit more: what was gone through. -/
theorem bit_next (a b : Int) (j : Nat) (t : Int) (h : a / 2 ^ j % 2 = t) : a / 2 ^ j * b = 2 * (a / 2 ^ (j + 1) * b) + t * b := by
  have e := next_bit a j
  rw [h] at e
  rw [e, Int.add_mul, Int.mul_assoc]

theorem too_much (a b c q : Int) (j : Nat) (a0 : 0 ≤ a) (b0 : 0 ≤ b) (c0 : 1 ≤ c) {r : Int} (h : Rest (a / 2 ^ j * b) c q r) (hq : 1125899906842624 < q) : mdN a b c = 0 ∧ mdE a b c = 2 := by
  refine md_over ?_
  have h1 := h.quot
  have h2 : a / 2 ^ j ≤ a := Int.ediv_le_self _ a0
  have h3 := quot_mono h2 b0 (show 0 < c by omega)
  omega

set_option maxHeartbeats 4000000 in
/-- The reference's MulDiv, where the numbers are right. -/
theorem refmd_right (a b c : Int) (a0 : 0 ≤ a) (a1 : a ≤ 9223372036854775807) (b0 : 0 ≤ b) (b1 : b ≤ 9223372036854775807) (c0 : 1 ≤ c) (c1 : c ≤ 9223372036854775807) (w : World) :
    Calls Tryz.prog 100 #[.int .i64 a, .int .i64 b, .int .i64 c] w fun e w' => e = .returned (.tuple #[.int .i64 (mdN a b c), .int .i64 (mdE a b c)]) ∧ Below w.heap.size w w' := by
  have t1 : ¬ a < 0 := by omega
  have t2 : ¬ b < 0 := by omega
  have t3 : ¬ c < 1 := by omega
  have t4 : ¬ c = 0 := by omega
  obtain ⟨d, hd⟩ : ∃ d, b / c = d := ⟨_, rfl⟩
  obtain ⟨m, hm⟩ : ∃ m, b % c = m := ⟨_, rfl⟩
  have ed : b.tdiv c = d := by rw [Int.tdiv_eq_ediv_of_nonneg b0, hd]
  have em : b.tmod c = m := by rw [Int.tmod_eq_emod_of_nonneg b0, hm]
  have d0 : 0 ≤ d := by rw [← hd]; exact Int.ediv_nonneg b0 (by omega)
  have d1 : d ≤ 9223372036854775807 := by have := Int.ediv_le_self c b0; omega
  have m0 : 0 ≤ m := by rw [← hm]; exact Int.emod_nonneg b (by omega)
  have m1 : m < c := by rw [← hm]; exact Int.emod_lt_of_pos b (by omega)
  have HD : Hid (b / c = d ∧ b % c = m) := ⟨hd, hm⟩
  have e63 : (2 : Int) ^ 63 = 9223372036854775808 := by decide
  have HS : Hid (a / 2 ^ 63 = 0) := Int.ediv_eq_zero_of_lt a0 (by omega)
  clear e63
  have HG : Hid (∀ q r, Rest (a / 2 ^ 0 * b) c q r → q ≤ 1125899906842624 → mdN a b c = q ∧ mdE a b c = 0) := fun q r h hq => by
    have e := h.quot
    rw [Int.pow_zero, Int.ediv_one] at e
    have := md_good a0 b0 c0 (by omega : a * b / c ≤ 1125899906842624)
    rw [e] at this
    exact this
  have HT : Hid (∀ (j : Nat) (q r : Int), Rest (a / 2 ^ j * b) c q r → 1125899906842624 < q → mdN a b c = 0 ∧ mdE a b c = 2) := fun j q r h hq => too_much a b c q j a0 b0 c0 h hq
  have HB : Hid (∀ (j : Nat) (t : Int), a / 2 ^ j % 2 = t → a / 2 ^ j * b = 2 * (a / 2 ^ (j + 1) * b) + t * b) := fun j t h => bit_next a b j t h
  have HA : Hid (∀ j : Nat, (a / 2 ^ j).tmod 2 = a / 2 ^ j % 2) := fun j => Int.tmod_eq_emod_of_nonneg (Int.ediv_nonneg a0 (Int.le_of_lt (Int.pow_pos (by decide))))
  clear hd hm
  generalize mdN a b c = X at *
  generalize mdE a b c = Y at *
  go_enter Tryz.func100, Tryz.ntmps100
  go_wp2
  go_loop [8, 9, 10, 11] (fun x y z _ => ∃ (k : Nat) (q r : Int), k ≤ 63 ∧ x = .int .i64 q ∧ y = .int .i64 r ∧ z = .int .i64 ((k : Int) - 1) ∧ 0 ≤ q ∧ q ≤ 1125899906842624 ∧ Hid (Rest (a / 2 ^ k * b) c q r)) (fun _ _ z _ => (intOf z + 1).toNat)
  case atStart =>
    refine ⟨63, 0, 0, by omega, rfl, rfl, rfl, by omega, by omega, ?_⟩
    show Rest _ _ _ _
    rw [HS.out, Int.zero_mul]
    exact Rest.zero c (by omega)
  case round =>
    obtain ⟨k, q, r, hk, rfl, rfl, rfl, q0, q1, HR⟩ := hrel
    cases k with
    | zero =>
      have ez : ((0 : Nat) : Int) - 1 = -1 := by omega
      rw [ez]
      obtain ⟨rfl, rfl⟩ := HG.out _ _ HR.out q1
      clear HG HT HB HA HS HD HR
      go_wp2
      go_ret2
      exact ⟨rfl, ⟨rfl, rfl, rfl, Nat.le_refl _, fun _ _ => rfl⟩⟩
    | succ j =>
      have ej : ((j + 1 : Nat) : Int) - 1 = (j : Int) := by omega
      have r0 : 0 ≤ r := HR.out.2.1
      have r1 : r < c := HR.out.2.2
      rw [ej]
      have hj : (j : Int) ≤ 62 := by omega
      have hA := HA.out j
      have hB := HB.out j
      clear ej HG HS HA HB hk
      by_cases g1 : c - r ≤ r
      · have H2 : Hid (Rest (2 * (a / 2 ^ (j + 1) * b)) c (2 * q + 1) (r - (c - r))) := HR.out.double_over g1
        clear HR
        by_cases hb : a / 2 ^ j % 2 = 1
        · have hbt : ((a / 2 ^ j).tmod 2 == 1) = true := by rw [hA, hb]; rfl
          have hE := hB 1 hb
          rw [Int.one_mul] at hE
          clear hA hB hb
          by_cases g2 : c - m ≤ r - (c - r)
          · have HN : Hid (Rest (a / 2 ^ j * b) c (2 * q + 1 + d + 1) (r - (c - r) - (c - m))) := by
              have h := H2.out.add_over b (by rw [HD.out.2]; exact g2)
              rw [HD.out.1, HD.out.2, ← hE] at h
              exact h
            clear hE H2 HD
            obtain ⟨z, ez⟩ : ∃ z, wrap64 (2 * q + 1 + d) = z := ⟨_, rfl⟩
            obtain ⟨f, ef⟩ : ∃ f, wrap64 (z + 1) = f := ⟨_, rfl⟩
            have W := wrap_two (2 * q + 1) d z f (by omega) (by omega) d0 d1 ez ef
            have HT' : Hid (1125899906842624 < 2 * q + 1 + d + 1 → X = 0 ∧ Y = 2) := HT.out j _ _ HN.out
            clear HT
            by_cases hq : 1125899906842624 < 2 * q + 1 + d + 1
            · obtain ⟨rfl, rfl⟩ := HT'.out hq
              have W2 := W.2 hq
              clear HN HT' W hq
              by_cases hf : 1125899906842624 < f
              · clear W2
                go_wp2
                go_ret2
                exact ⟨rfl, ⟨rfl, rfl, rfl, Nat.le_refl _, fun _ _ => rfl⟩⟩
              · have hf' : f < 0 := by omega
                clear W2
                go_wp2
                go_ret2
                exact ⟨rfl, ⟨rfl, rfl, rfl, Nat.le_refl _, fun _ _ => rfl⟩⟩
            · have W1 := W.1 (by omega)
              have hf : ¬ 1125899906842624 < f := by omega
              have hf' : ¬ f < 0 := by omega
              have HN' : Hid (Rest (a / 2 ^ j * b) c f (r - (c - r) - (c - m))) := by rw [W1]; exact HN
              clear W W1 HN HT' hq
              go_wp2
              go_round
              case rel => exact ⟨j, f, _, by omega, by rw [ef], rfl, rfl, by omega, by omega, HN'⟩
              case measure => simp [intOf]
          · have HN : Hid (Rest (a / 2 ^ j * b) c (2 * q + 1 + d) (r - (c - r) + m)) := by
              have h := H2.out.add_under b (by rw [HD.out.2]; omega)
              rw [HD.out.1, HD.out.2, ← hE] at h
              exact h
            clear hE H2 HD
            obtain ⟨f, ef⟩ : ∃ f, wrap64 (2 * q + 1 + d) = f := ⟨_, rfl⟩
            have W := wrap_once (2 * q + 1) d f (by omega) (by omega) d0 d1 ef
            have HT' : Hid (1125899906842624 < 2 * q + 1 + d → X = 0 ∧ Y = 2) := HT.out j _ _ HN.out
            clear HT
            by_cases hq : 1125899906842624 < 2 * q + 1 + d
            · obtain ⟨rfl, rfl⟩ := HT'.out hq
              have W2 := W.2 hq
              clear HN HT' W hq
              by_cases hf : 1125899906842624 < f
              · clear W2
                go_wp2
                go_ret2
                exact ⟨rfl, ⟨rfl, rfl, rfl, Nat.le_refl _, fun _ _ => rfl⟩⟩
              · have hf' : f < 0 := by omega
                clear W2
                go_wp2
                go_ret2
                exact ⟨rfl, ⟨rfl, rfl, rfl, Nat.le_refl _, fun _ _ => rfl⟩⟩
            · have W1 := W.1 (by omega)
              have hf : ¬ 1125899906842624 < f := by omega
              have hf' : ¬ f < 0 := by omega
              have HN' : Hid (Rest (a / 2 ^ j * b) c f (r - (c - r) + m)) := by rw [W1]; exact HN
              clear W W1 HN HT' hq
              go_wp2
              go_round
              case rel => exact ⟨j, f, _, by omega, by rw [ef], rfl, rfl, by omega, by omega, HN'⟩
              case measure => simp [intOf]
        · have hb0 : a / 2 ^ j % 2 = 0 := by omega
          have hbt : ((a / 2 ^ j).tmod 2 == 1) = false := by rw [hA, hb0]; rfl
          have hE := hB 0 hb0
          rw [Int.zero_mul, Int.add_zero] at hE
          have HN : Hid (Rest (a / 2 ^ j * b) c (2 * q + 1) (r - (c - r))) := by show Rest _ _ _ _; rw [hE]; exact H2
          clear hA hB hb hb0 hE H2 HD
          have HT' : Hid (1125899906842624 < 2 * q + 1 → X = 0 ∧ Y = 2) := HT.out j _ _ HN.out
          clear HT
          by_cases hq : 1125899906842624 < 2 * q + 1
          · obtain ⟨rfl, rfl⟩ := HT'.out hq
            clear HN HT'
            go_wp2
            go_ret2
            exact ⟨rfl, ⟨rfl, rfl, rfl, Nat.le_refl _, fun _ _ => rfl⟩⟩
          · clear HT'
            have hq' : ¬ 2 * q + 1 < 0 := by omega
            go_wp2
            go_round
            case rel => exact ⟨j, _, _, by omega, rfl, rfl, rfl, by omega, by omega, HN⟩
            case measure => simp [intOf]
      · have H2 : Hid (Rest (2 * (a / 2 ^ (j + 1) * b)) c (2 * q) (r + r)) := HR.out.double_under (by omega)
        clear HR
        by_cases hb : a / 2 ^ j % 2 = 1
        · have hbt : ((a / 2 ^ j).tmod 2 == 1) = true := by rw [hA, hb]; rfl
          have hE := hB 1 hb
          rw [Int.one_mul] at hE
          clear hA hB hb
          by_cases g2 : c - m ≤ r + r
          · have HN : Hid (Rest (a / 2 ^ j * b) c (2 * q + d + 1) (r + r - (c - m))) := by
              have h := H2.out.add_over b (by rw [HD.out.2]; exact g2)
              rw [HD.out.1, HD.out.2, ← hE] at h
              exact h
            clear hE H2 HD
            obtain ⟨z, ez⟩ : ∃ z, wrap64 (2 * q + d) = z := ⟨_, rfl⟩
            obtain ⟨f, ef⟩ : ∃ f, wrap64 (z + 1) = f := ⟨_, rfl⟩
            have W := wrap_two (2 * q) d z f (by omega) (by omega) d0 d1 ez ef
            have HT' : Hid (1125899906842624 < 2 * q + d + 1 → X = 0 ∧ Y = 2) := HT.out j _ _ HN.out
            clear HT
            by_cases hq : 1125899906842624 < 2 * q + d + 1
            · obtain ⟨rfl, rfl⟩ := HT'.out hq
              have W2 := W.2 hq
              clear HN HT' W hq
              by_cases hf : 1125899906842624 < f
              · clear W2
                go_wp2
                go_ret2
                exact ⟨rfl, ⟨rfl, rfl, rfl, Nat.le_refl _, fun _ _ => rfl⟩⟩
              · have hf' : f < 0 := by omega
                clear W2
                go_wp2
                go_ret2
                exact ⟨rfl, ⟨rfl, rfl, rfl, Nat.le_refl _, fun _ _ => rfl⟩⟩
            · have W1 := W.1 (by omega)
              have hf : ¬ 1125899906842624 < f := by omega
              have hf' : ¬ f < 0 := by omega
              have HN' : Hid (Rest (a / 2 ^ j * b) c f (r + r - (c - m))) := by rw [W1]; exact HN
              clear W W1 HN HT' hq
              go_wp2
              go_round
              case rel => exact ⟨j, f, _, by omega, by rw [ef], rfl, rfl, by omega, by omega, HN'⟩
              case measure => simp [intOf]
          · have HN : Hid (Rest (a / 2 ^ j * b) c (2 * q + d) (r + r + m)) := by
              have h := H2.out.add_under b (by rw [HD.out.2]; omega)
              rw [HD.out.1, HD.out.2, ← hE] at h
              exact h
            clear hE H2 HD
            obtain ⟨f, ef⟩ : ∃ f, wrap64 (2 * q + d) = f := ⟨_, rfl⟩
            have W := wrap_once (2 * q) d f (by omega) (by omega) d0 d1 ef
            have HT' : Hid (1125899906842624 < 2 * q + d → X = 0 ∧ Y = 2) := HT.out j _ _ HN.out
            clear HT
            by_cases hq : 1125899906842624 < 2 * q + d
            · obtain ⟨rfl, rfl⟩ := HT'.out hq
              have W2 := W.2 hq
              clear HN HT' W hq
              by_cases hf : 1125899906842624 < f
              · clear W2
                go_wp2
                go_ret2
                exact ⟨rfl, ⟨rfl, rfl, rfl, Nat.le_refl _, fun _ _ => rfl⟩⟩
              · have hf' : f < 0 := by omega
                clear W2
                go_wp2
                go_ret2
                exact ⟨rfl, ⟨rfl, rfl, rfl, Nat.le_refl _, fun _ _ => rfl⟩⟩
            · have W1 := W.1 (by omega)
              have hf : ¬ 1125899906842624 < f := by omega
              have hf' : ¬ f < 0 := by omega
              have HN' : Hid (Rest (a / 2 ^ j * b) c f (r + r + m)) := by rw [W1]; exact HN
              clear W W1 HN HT' hq
              go_wp2
              go_round
              case rel => exact ⟨j, f, _, by omega, by rw [ef], rfl, rfl, by omega, by omega, HN'⟩
              case measure => simp [intOf]
        · have hb0 : a / 2 ^ j % 2 = 0 := by omega
          have hbt : ((a / 2 ^ j).tmod 2 == 1) = false := by rw [hA, hb0]; rfl
          have hE := hB 0 hb0
          rw [Int.zero_mul, Int.add_zero] at hE
          have HN : Hid (Rest (a / 2 ^ j * b) c (2 * q) (r + r)) := by show Rest _ _ _ _; rw [hE]; exact H2
          clear hA hB hb hb0 hE H2 HD
          have HT' : Hid (1125899906842624 < 2 * q → X = 0 ∧ Y = 2) := HT.out j _ _ HN.out
          clear HT
          by_cases hq : 1125899906842624 < 2 * q
          · obtain ⟨rfl, rfl⟩ := HT'.out hq
            clear HN HT'
            go_wp2
            go_ret2
            exact ⟨rfl, ⟨rfl, rfl, rfl, Nat.le_refl _, fun _ _ => rfl⟩⟩
          · clear HT'
            have hq' : ¬ 2 * q < 0 := by omega
            go_wp2
            go_round
            case rel => exact ⟨j, _, _, by omega, rfl, rfl, rfl, by omega, by omega, HN⟩
            case measure => simp [intOf]

end Go.Proofs.YtkhlihpghbhppaaGreat.Ra

