/- The reference's places, banked, In, GoodBank, SumBank and NewBank. -/
import Derived.Test.YtookecjeknpheadXba
import Derived.WalkKit
import Derived.LoopN
set_option maxRecDepth 100000
namespace Go.Proofs.Ytookecjeknphead
open Go.RowKit
theorem ix7_0 (w : World) (a0 a1 a2 a3 a4 a5 a6 : Value) : (Instr.index 115 (.agg #[a0, a1, a2, a3, a4, a5, a6]) (.int .i64 0)).run Try.prog w = .ok a0 w := by kernel_rfl
theorem ix7_1 (w : World) (a0 a1 a2 a3 a4 a5 a6 : Value) : (Instr.index 115 (.agg #[a0, a1, a2, a3, a4, a5, a6]) (.int .i64 1)).run Try.prog w = .ok a1 w := by kernel_rfl
theorem ix7_2 (w : World) (a0 a1 a2 a3 a4 a5 a6 : Value) : (Instr.index 115 (.agg #[a0, a1, a2, a3, a4, a5, a6]) (.int .i64 2)).run Try.prog w = .ok a2 w := by kernel_rfl
theorem ix7_3 (w : World) (a0 a1 a2 a3 a4 a5 a6 : Value) : (Instr.index 115 (.agg #[a0, a1, a2, a3, a4, a5, a6]) (.int .i64 3)).run Try.prog w = .ok a3 w := by kernel_rfl
theorem ix7_4 (w : World) (a0 a1 a2 a3 a4 a5 a6 : Value) : (Instr.index 115 (.agg #[a0, a1, a2, a3, a4, a5, a6]) (.int .i64 4)).run Try.prog w = .ok a4 w := by kernel_rfl
theorem ix7_5 (w : World) (a0 a1 a2 a3 a4 a5 a6 : Value) : (Instr.index 115 (.agg #[a0, a1, a2, a3, a4, a5, a6]) (.int .i64 5)).run Try.prog w = .ok a5 w := by kernel_rfl
theorem ix7_6 (w : World) (a0 a1 a2 a3 a4 a5 a6 : Value) : (Instr.index 115 (.agg #[a0, a1, a2, a3, a4, a5, a6]) (.int .i64 6)).run Try.prog w = .ok a6 w := by kernel_rfl
theorem rplaces_any (f0 f1 f2 f3 bo wa bu : Int) (w : World) : Calls Try.prog 84 #[.agg #[.int .i64 f0, .int .i64 f1, .int .i64 f2, .int .i64 f3, .int .i64 bo, .int .i64 wa, .int .i64 bu]] w fun e w' => e = .returned (.agg #[.int .i64 f0, .int .i64 f1, .int .i64 f2, .int .i64 f3, .int .i64 bo, .int .i64 wa, .int .i64 bu]) ∧ Below w.heap.size w w' := by
  go_enter Try.func84, Try.ntmps84
  go_wp2
  exact bodyPost_ret (v := .agg #[.int .i64 f0, .int .i64 f1, .int .i64 f2, .int .i64 f3, .int .i64 bo, .int .i64 wa, .int .i64 bu]) (by simp [results, Try.results84, go_sem]) rfl ⟨rfl, ((Below.refl _ w).alloc (Nat.le_refl _) _).alloc (by simp) _⟩
theorem rin_any (d : Int) (w : World) : Calls Try.prog 65 #[.int .i64 d] w fun e w' => e = .returned (.bool (decide (0 ≤ d ∧ d ≤ 1125899906842624))) ∧ w = w' := by
  by_cases h0 : 0 ≤ d
  · by_cases h1 : d ≤ 1125899906842624
    · rw [decide_eq_true ⟨h0, h1⟩]
      go_enter Try.func65, Try.ntmps65
      go_wp2
      go_ret
      exact ⟨rfl, rfl⟩
    · rw [decide_eq_false (fun h => h1 h.2)]
      have h2 : 1125899906842624 < d := by omega
      go_enter Try.func65, Try.ntmps65
      go_wp2
      go_ret
      exact ⟨rfl, rfl⟩
  · rw [decide_eq_false (fun h => h0 h.1)]
    have h2 : d < 0 := by omega
    go_enter Try.func65, Try.ntmps65
    go_wp2
    go_ret
    exact ⟨rfl, rfl⟩
def psm (f0 f1 f2 f3 bo wa bu : Int) : Nat → Int
  | 0 => 0
  | 1 => f0
  | 2 => f0 + f1
  | 3 => f0 + f1 + f2
  | 4 => f0 + f1 + f2 + f3
  | 5 => f0 + f1 + f2 + f3 + bo
  | 6 => f0 + f1 + f2 + f3 + bo + wa
  | _ => f0 + f1 + f2 + f3 + bo + wa + bu
def inr (n : Int) : Prop := 0 ≤ n ∧ n ≤ 400000
def okk (f0 f1 f2 f3 bo wa bu : Int) (k : Nat) : Prop := (0 < k → inr f0) ∧ (1 < k → inr f1) ∧ (2 < k → inr f2) ∧ (3 < k → inr f3) ∧ (4 < k → inr bo) ∧ (5 < k → inr wa) ∧ (6 < k → inr bu)
set_option maxHeartbeats 2000000 in
theorem rgood_any (f0 f1 f2 f3 bo wa bu : Int) (w : World) : Calls Try.prog 64 #[.agg #[.int .i64 f0, .int .i64 f1, .int .i64 f2, .int .i64 f3, .int .i64 bo, .int .i64 wa, .int .i64 bu]] w fun e w' => e = .returned (.bool (goodB f0 f1 f2 f3 bo wa bu)) ∧ Below w.heap.size w w' := by
  have hno : ¬ (inr f0 ∧ inr f1 ∧ inr f2 ∧ inr f3 ∧ inr bo ∧ inr wa ∧ inr bu) → goodB f0 f1 f2 f3 bo wa bu = false := fun h => decide_eq_false fun g => h ⟨g.1, g.2.1, g.2.2.1, g.2.2.2.1, g.2.2.2.2.1, g.2.2.2.2.2.1, g.2.2.2.2.2.2.1⟩
  have HN : Hid (¬ (inr f0 ∧ inr f1 ∧ inr f2 ∧ inr f3 ∧ inr bo ∧ inr wa ∧ inr bu) → goodB f0 f1 f2 f3 bo wa bu = false) := hno
  clear hno
  have hyes : inr f0 ∧ inr f1 ∧ inr f2 ∧ inr f3 ∧ inr bo ∧ inr wa ∧ inr bu → goodB f0 f1 f2 f3 bo wa bu = (f0 + f1 + f2 + f3 + bo + wa + bu == 400000) := by
    intro h
    unfold goodB inr at *
    simp [h]
    rfl
  have HY : Hid (inr f0 ∧ inr f1 ∧ inr f2 ∧ inr f3 ∧ inr bo ∧ inr wa ∧ inr bu → goodB f0 f1 f2 f3 bo wa bu = (f0 + f1 + f2 + f3 + bo + wa + bu == 400000)) := hyes
  clear hyes
  generalize goodB f0 f1 f2 f3 bo wa bu = G at *
  have HB : Hid (Below w.heap.size w (w.alloc (.cells #[.int .i64 f0, .int .i64 f1, .int .i64 f2, .int .i64 f3, .int .i64 bo, .int .i64 wa, .int .i64 bu] 24))) := (Below.refl _ w).alloc (Nat.le_refl _) _
  go_enter Try.func64, Try.ntmps64
  go_wp2_with fail
  refine (rplaces_any f0 f1 f2 f3 bo wa bu _).mono ?_
  rintro e w1 ⟨rfl, h1⟩
  have HB1 : Hid (Below w.heap.size w w1) := HB.out.trans (h1.mono HB.out.size)
  clear HB h1
  go_wp2
  go_loop [3, 8] (fun s i => ∃ k : Nat, k ≤ 7 ∧ i = .int .i64 (k : Int) ∧ s = .int .i64 (psm f0 f1 f2 f3 bo wa bu k) ∧ Hid (okk f0 f1 f2 f3 bo wa bu k)) (fun _ i => (7 - intOf i).toNat)
  case atStart => exact ⟨0, by omega, rfl, rfl, by simp [Hid, okk]⟩
  case round =>
    obtain ⟨k, hk, rfl, rfl, HO⟩ := hrel
    rcases (show k = 0 ∨ k = 1 ∨ k = 2 ∨ k = 3 ∨ k = 4 ∨ k = 5 ∨ k = 6 ∨ k = 7 by omega) with rfl | rfl | rfl | rfl | rfl | rfl | rfl | rfl
    · have hi := ix7_0
      have hw : 0 ≤ f0 → f0 ≤ 400000 → wrap64 (0 + f0) = f0 := by
        intro g1 g2
        skip
        rw [wrap64_small (by omega) (by omega)]
        omega
      skip
      simp only [psm]
      by_cases g1 : f0 < 0
      · have hG := HN.out (fun h => absurd h.1.1 (by omega))
        subst hG
        clear hw
        go_wp2
        go_ret
        exact ⟨rfl, HB1.out⟩
      · by_cases g2 : 400000 < f0
        · have hG := HN.out (fun h => absurd h.1.2 (by omega))
          subst hG
          clear hw
          go_wp2
          go_ret
          exact ⟨rfl, HB1.out⟩
        · have hw' := hw (by omega) (by omega)
          clear hw
          have hgin : inr f0 := ⟨by omega, by omega⟩
          have HO' : Hid (okk f0 f1 f2 f3 bo wa bu 1) := by
            skip
            simp [Hid, okk]
            exact hgin
          clear hgin HO
          go_wp2
          go_round
          case rel => exact ⟨1, by omega, by go_num, by first | rfl | (rw [hw']; rfl), HO'⟩
          case measure => simp [intOf]
    · have hi := ix7_1
      have o0 := HO.out.1 (by omega)
      have hw : 0 ≤ f1 → f1 ≤ 400000 → wrap64 (f0 + f1) = f0 + f1 := by
        intro g1 g2
        unfold inr at *
        rw [wrap64_small (by omega) (by omega)]
        
      clear o0
      simp only [psm]
      by_cases g1 : f1 < 0
      · have hG := HN.out (fun h => absurd h.2.1.1 (by omega))
        subst hG
        clear hw
        go_wp2
        go_ret
        exact ⟨rfl, HB1.out⟩
      · by_cases g2 : 400000 < f1
        · have hG := HN.out (fun h => absurd h.2.1.2 (by omega))
          subst hG
          clear hw
          go_wp2
          go_ret
          exact ⟨rfl, HB1.out⟩
        · have hw' := hw (by omega) (by omega)
          clear hw
          have hgin : inr f1 := ⟨by omega, by omega⟩
          have HO' : Hid (okk f0 f1 f2 f3 bo wa bu 2) := by
            have := HO.out
            simp [Hid, okk] at this ⊢
            simp [this, hgin]
          clear hgin HO
          go_wp2
          go_round
          case rel => exact ⟨2, by omega, by go_num, by first | rfl | (rw [hw']; rfl), HO'⟩
          case measure => simp [intOf]
    · have hi := ix7_2
      have o0 := HO.out.1 (by omega)
      have o1 := HO.out.2.1 (by omega)
      have hw : 0 ≤ f2 → f2 ≤ 400000 → wrap64 (f0 + f1 + f2) = f0 + f1 + f2 := by
        intro g1 g2
        unfold inr at *
        rw [wrap64_small (by omega) (by omega)]
        
      clear o0 o1
      simp only [psm]
      by_cases g1 : f2 < 0
      · have hG := HN.out (fun h => absurd h.2.2.1.1 (by omega))
        subst hG
        clear hw
        go_wp2
        go_ret
        exact ⟨rfl, HB1.out⟩
      · by_cases g2 : 400000 < f2
        · have hG := HN.out (fun h => absurd h.2.2.1.2 (by omega))
          subst hG
          clear hw
          go_wp2
          go_ret
          exact ⟨rfl, HB1.out⟩
        · have hw' := hw (by omega) (by omega)
          clear hw
          have hgin : inr f2 := ⟨by omega, by omega⟩
          have HO' : Hid (okk f0 f1 f2 f3 bo wa bu 3) := by
            have := HO.out
            simp [Hid, okk] at this ⊢
            simp [this, hgin]
          clear hgin HO
          go_wp2
          go_round
          case rel => exact ⟨3, by omega, by go_num, by first | rfl | (rw [hw']; rfl), HO'⟩
          case measure => simp [intOf]
    · have hi := ix7_3
      have o0 := HO.out.1 (by omega)
      have o1 := HO.out.2.1 (by omega)
      have o2 := HO.out.2.2.1 (by omega)
      have hw : 0 ≤ f3 → f3 ≤ 400000 → wrap64 (f0 + f1 + f2 + f3) = f0 + f1 + f2 + f3 := by
        intro g1 g2
        unfold inr at *
        rw [wrap64_small (by omega) (by omega)]
        
      clear o0 o1 o2
      simp only [psm]
      by_cases g1 : f3 < 0
      · have hG := HN.out (fun h => absurd h.2.2.2.1.1 (by omega))
        subst hG
        clear hw
        go_wp2
        go_ret
        exact ⟨rfl, HB1.out⟩
      · by_cases g2 : 400000 < f3
        · have hG := HN.out (fun h => absurd h.2.2.2.1.2 (by omega))
          subst hG
          clear hw
          go_wp2
          go_ret
          exact ⟨rfl, HB1.out⟩
        · have hw' := hw (by omega) (by omega)
          clear hw
          have hgin : inr f3 := ⟨by omega, by omega⟩
          have HO' : Hid (okk f0 f1 f2 f3 bo wa bu 4) := by
            have := HO.out
            simp [Hid, okk] at this ⊢
            simp [this, hgin]
          clear hgin HO
          go_wp2
          go_round
          case rel => exact ⟨4, by omega, by go_num, by first | rfl | (rw [hw']; rfl), HO'⟩
          case measure => simp [intOf]
    · have hi := ix7_4
      have o0 := HO.out.1 (by omega)
      have o1 := HO.out.2.1 (by omega)
      have o2 := HO.out.2.2.1 (by omega)
      have o3 := HO.out.2.2.2.1 (by omega)
      have hw : 0 ≤ bo → bo ≤ 400000 → wrap64 (f0 + f1 + f2 + f3 + bo) = f0 + f1 + f2 + f3 + bo := by
        intro g1 g2
        unfold inr at *
        rw [wrap64_small (by omega) (by omega)]
        
      clear o0 o1 o2 o3
      simp only [psm]
      by_cases g1 : bo < 0
      · have hG := HN.out (fun h => absurd h.2.2.2.2.1.1 (by omega))
        subst hG
        clear hw
        go_wp2
        go_ret
        exact ⟨rfl, HB1.out⟩
      · by_cases g2 : 400000 < bo
        · have hG := HN.out (fun h => absurd h.2.2.2.2.1.2 (by omega))
          subst hG
          clear hw
          go_wp2
          go_ret
          exact ⟨rfl, HB1.out⟩
        · have hw' := hw (by omega) (by omega)
          clear hw
          have hgin : inr bo := ⟨by omega, by omega⟩
          have HO' : Hid (okk f0 f1 f2 f3 bo wa bu 5) := by
            have := HO.out
            simp [Hid, okk] at this ⊢
            simp [this, hgin]
          clear hgin HO
          go_wp2
          go_round
          case rel => exact ⟨5, by omega, by go_num, by first | rfl | (rw [hw']; rfl), HO'⟩
          case measure => simp [intOf]
    · have hi := ix7_5
      have o0 := HO.out.1 (by omega)
      have o1 := HO.out.2.1 (by omega)
      have o2 := HO.out.2.2.1 (by omega)
      have o3 := HO.out.2.2.2.1 (by omega)
      have o4 := HO.out.2.2.2.2.1 (by omega)
      have hw : 0 ≤ wa → wa ≤ 400000 → wrap64 (f0 + f1 + f2 + f3 + bo + wa) = f0 + f1 + f2 + f3 + bo + wa := by
        intro g1 g2
        unfold inr at *
        rw [wrap64_small (by omega) (by omega)]
        
      clear o0 o1 o2 o3 o4
      simp only [psm]
      by_cases g1 : wa < 0
      · have hG := HN.out (fun h => absurd h.2.2.2.2.2.1.1 (by omega))
        subst hG
        clear hw
        go_wp2
        go_ret
        exact ⟨rfl, HB1.out⟩
      · by_cases g2 : 400000 < wa
        · have hG := HN.out (fun h => absurd h.2.2.2.2.2.1.2 (by omega))
          subst hG
          clear hw
          go_wp2
          go_ret
          exact ⟨rfl, HB1.out⟩
        · have hw' := hw (by omega) (by omega)
          clear hw
          have hgin : inr wa := ⟨by omega, by omega⟩
          have HO' : Hid (okk f0 f1 f2 f3 bo wa bu 6) := by
            have := HO.out
            simp [Hid, okk] at this ⊢
            simp [this, hgin]
          clear hgin HO
          go_wp2
          go_round
          case rel => exact ⟨6, by omega, by go_num, by first | rfl | (rw [hw']; rfl), HO'⟩
          case measure => simp [intOf]
    · have hi := ix7_6
      have o0 := HO.out.1 (by omega)
      have o1 := HO.out.2.1 (by omega)
      have o2 := HO.out.2.2.1 (by omega)
      have o3 := HO.out.2.2.2.1 (by omega)
      have o4 := HO.out.2.2.2.2.1 (by omega)
      have o5 := HO.out.2.2.2.2.2.1 (by omega)
      have hw : 0 ≤ bu → bu ≤ 400000 → wrap64 (f0 + f1 + f2 + f3 + bo + wa + bu) = f0 + f1 + f2 + f3 + bo + wa + bu := by
        intro g1 g2
        unfold inr at *
        rw [wrap64_small (by omega) (by omega)]
        
      clear o0 o1 o2 o3 o4 o5
      simp only [psm]
      by_cases g1 : bu < 0
      · have hG := HN.out (fun h => absurd h.2.2.2.2.2.2.1 (by omega))
        subst hG
        clear hw
        go_wp2
        go_ret
        exact ⟨rfl, HB1.out⟩
      · by_cases g2 : 400000 < bu
        · have hG := HN.out (fun h => absurd h.2.2.2.2.2.2.2 (by omega))
          subst hG
          clear hw
          go_wp2
          go_ret
          exact ⟨rfl, HB1.out⟩
        · have hw' := hw (by omega) (by omega)
          clear hw
          have hgin : inr bu := ⟨by omega, by omega⟩
          have HO' : Hid (okk f0 f1 f2 f3 bo wa bu 7) := by
            have := HO.out
            simp [Hid, okk] at this ⊢
            simp [this, hgin]
          clear hgin HO
          go_wp2
          go_round
          case rel => exact ⟨7, by omega, by go_num, by first | rfl | (rw [hw']; rfl), HO'⟩
          case measure => simp [intOf]
    · have o := HO.out
      have hG := HY.out ⟨o.1 (by omega), o.2.1 (by omega), o.2.2.1 (by omega), o.2.2.2.1 (by omega), o.2.2.2.2.1 (by omega), o.2.2.2.2.2.1 (by omega), o.2.2.2.2.2.2 (by omega)⟩
      clear o HO HN HY
      simp only [psm]
      go_wp2
      go_ret
      exact ⟨rfl, HB1.out⟩
end Go.Proofs.Ytookecjeknphead
