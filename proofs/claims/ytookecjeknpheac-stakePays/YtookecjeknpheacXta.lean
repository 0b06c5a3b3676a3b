/- The reference's places, banked, In, GoodBank, SumBank and NewBank. The reference's Move, refused. The reference's Move, granted: from a delegator. The reference's Move, granted: to a delegator. The reference's Move, granted: of bonded ones and of those that wait. The reference's Bond, Unbond, Pay and Burn, over whatever a move answers. What the reference's Bond, Unbond, Pay and Burn answer, for every bank. -/
import Derived.Test.YtookecjeknpheacXba
import Derived.Test.YtookecjeknpheacXbc
import Derived.WalkKit
import Derived.LoopN
set_option maxRecDepth 100000
namespace Go.Proofs.Ytookecjeknpheac
open Go.RowKit
theorem ix7_0 (w : World) (a0 a1 a2 a3 a4 a5 a6 : Value) : (Instr.index 99 (.agg #[a0, a1, a2, a3, a4, a5, a6]) (.int .i64 0)).run Try.prog w = .ok a0 w := by kernel_rfl
theorem ix7_1 (w : World) (a0 a1 a2 a3 a4 a5 a6 : Value) : (Instr.index 99 (.agg #[a0, a1, a2, a3, a4, a5, a6]) (.int .i64 1)).run Try.prog w = .ok a1 w := by kernel_rfl
theorem ix7_2 (w : World) (a0 a1 a2 a3 a4 a5 a6 : Value) : (Instr.index 99 (.agg #[a0, a1, a2, a3, a4, a5, a6]) (.int .i64 2)).run Try.prog w = .ok a2 w := by kernel_rfl
theorem ix7_3 (w : World) (a0 a1 a2 a3 a4 a5 a6 : Value) : (Instr.index 99 (.agg #[a0, a1, a2, a3, a4, a5, a6]) (.int .i64 3)).run Try.prog w = .ok a3 w := by kernel_rfl
theorem ix7_4 (w : World) (a0 a1 a2 a3 a4 a5 a6 : Value) : (Instr.index 99 (.agg #[a0, a1, a2, a3, a4, a5, a6]) (.int .i64 4)).run Try.prog w = .ok a4 w := by kernel_rfl
theorem ix7_5 (w : World) (a0 a1 a2 a3 a4 a5 a6 : Value) : (Instr.index 99 (.agg #[a0, a1, a2, a3, a4, a5, a6]) (.int .i64 5)).run Try.prog w = .ok a5 w := by kernel_rfl
theorem ix7_6 (w : World) (a0 a1 a2 a3 a4 a5 a6 : Value) : (Instr.index 99 (.agg #[a0, a1, a2, a3, a4, a5, a6]) (.int .i64 6)).run Try.prog w = .ok a6 w := by kernel_rfl
theorem rplaces_any (f0 f1 f2 f3 bo wa bu : Int) (w : World) : Calls Try.prog 78 #[.agg #[.int .i64 f0, .int .i64 f1, .int .i64 f2, .int .i64 f3, .int .i64 bo, .int .i64 wa, .int .i64 bu]] w fun e w' => e = .returned (.agg #[.int .i64 f0, .int .i64 f1, .int .i64 f2, .int .i64 f3, .int .i64 bo, .int .i64 wa, .int .i64 bu]) ∧ Below w.heap.size w w' := by
  go_enter Try.func78, Try.ntmps78
  go_wp2
  exact bodyPost_ret (v := .agg #[.int .i64 f0, .int .i64 f1, .int .i64 f2, .int .i64 f3, .int .i64 bo, .int .i64 wa, .int .i64 bu]) (by simp [results, Try.results78, go_sem]) rfl ⟨rfl, ((Below.refl _ w).alloc (Nat.le_refl _) _).alloc (by simp) _⟩
theorem rbanked_any (f0 f1 f2 f3 bo wa bu : Int) (w : World) : Calls Try.prog 79 #[.agg #[.int .i64 f0, .int .i64 f1, .int .i64 f2, .int .i64 f3, .int .i64 bo, .int .i64 wa, .int .i64 bu]] w fun e w' => e = .returned (.agg #[.int .i64 f0, .int .i64 f1, .int .i64 f2, .int .i64 f3, .int .i64 bo, .int .i64 wa, .int .i64 bu]) ∧ Below w.heap.size w w' := by
  go_enter Try.func79, Try.ntmps79
  go_wp2
  exact bodyPost_ret (v := .agg #[.int .i64 f0, .int .i64 f1, .int .i64 f2, .int .i64 f3, .int .i64 bo, .int .i64 wa, .int .i64 bu]) (by simp [results, Try.results79, go_sem]) rfl ⟨rfl, ((Below.refl _ w).alloc (Nat.le_refl _) _).alloc (by simp) _⟩
theorem rnew_any (w : World) : Calls Try.prog 56 #[] w fun e w' => e = .returned (.agg #[.int .i64 100000, .int .i64 100000, .int .i64 100000, .int .i64 100000, .int .i64 0, .int .i64 0, .int .i64 0]) ∧ Below w.heap.size w w' := by
  have R0 := BAt.new w 0 0 0 0 0 0 0
  have HB : Hid (Below w.heap.size w (w.alloc (.cells #[.int .i64 0, .int .i64 0, .int .i64 0, .int .i64 0, .int .i64 0, .int .i64 0, .int .i64 0] 24))) := (Below.refl _ w).alloc (Nat.le_refl _) _
  go_enter Try.func56, Try.ntmps56
  go_wp2_with fail
  refine (rbanked_any 100000 100000 100000 100000 0 0 0 _).mono ?_
  rintro e w1 ⟨rfl, h1⟩
  have R1 := R0.later h1 (by simp)
  have HB1 : Hid (Below w.heap.size w w1) := HB.out.trans (h1.mono HB.out.size)
  clear R0 HB h1
  obtain ⟨u0, u1, u2, u3, u4, u5, u6⟩ := R1.frees
  obtain ⟨v0, v1, v2, v3, v4, v5, v6⟩ := R1.cells
  have HR1 : Hid (BAt w1 w.heap.size 0 0 0 0 0 0 0) := R1
  clear R1
  go_wp2
  have HR := HR1.out.set7 100000 100000 100000 100000 0 0 0
  have HW := set7_below (b := w.heap.size) HB1.out (Nat.le_refl _) 100000 100000 100000 100000 0 0 0
  show bodyPost Try.prog Try.f56 _ Exit.ret _ (set7 w1 w.heap.size 100000 100000 100000 100000 0 0 0)
  generalize set7 w1 w.heap.size 100000 100000 100000 100000 0 0 0 = w9 at *
  obtain ⟨s0, s1, s2, s3, s4, s5, s6⟩ := HR.cells
  exact bodyPost_ret (v := .agg #[.int .i64 100000, .int .i64 100000, .int .i64 100000, .int .i64 100000, .int .i64 0, .int .i64 0, .int .i64 0]) (by simp [results, Try.results56, go_sem, s0, s1, s2, s3, s4, s5, s6]) rfl ⟨rfl, HW⟩
theorem rin_any (d : Int) (w : World) : Calls Try.prog 55 #[.int .i64 d] w fun e w' => e = .returned (.bool (decide (0 ≤ d ∧ d ≤ 1125899906842624))) ∧ w = w' := by
  by_cases h0 : 0 ≤ d
  · by_cases h1 : d ≤ 1125899906842624
    · rw [decide_eq_true ⟨h0, h1⟩]
      go_enter Try.func55, Try.ntmps55
      go_wp2
      go_ret
      exact ⟨rfl, rfl⟩
    · rw [decide_eq_false (fun h => h1 h.2)]
      have h2 : 1125899906842624 < d := by omega
      go_enter Try.func55, Try.ntmps55
      go_wp2
      go_ret
      exact ⟨rfl, rfl⟩
  · rw [decide_eq_false (fun h => h0 h.1)]
    have h2 : d < 0 := by omega
    go_enter Try.func55, Try.ntmps55
    go_wp2
    go_ret
    exact ⟨rfl, rfl⟩
def psm (f0 f1 f2 f3 bo wa bu : Int) : Nat → Int
  | 0 => 0
  | 1 => f0
  | 2 => f0 + f1
  | 3 => f0 + f1 + f2
  | 4 => f0 + f1 + f2 + f3
  | 5 => f0 + f1 + f2 + f3 + bo
  | 6 => f0 + f1 + f2 + f3 + bo + wa
  | _ => f0 + f1 + f2 + f3 + bo + wa + bu
def inr (n : Int) : Prop := 0 ≤ n ∧ n ≤ 400000
def okk (f0 f1 f2 f3 bo wa bu : Int) (k : Nat) : Prop := (0 < k → inr f0) ∧ (1 < k → inr f1) ∧ (2 < k → inr f2) ∧ (3 < k → inr f3) ∧ (4 < k → inr bo) ∧ (5 < k → inr wa) ∧ (6 < k → inr bu)
set_option maxHeartbeats 2000000 in
theorem rgood_any (f0 f1 f2 f3 bo wa bu : Int) (w : World) : Calls Try.prog 54 #[.agg #[.int .i64 f0, .int .i64 f1, .int .i64 f2, .int .i64 f3, .int .i64 bo, .int .i64 wa, .int .i64 bu]] w fun e w' => e = .returned (.bool (goodB f0 f1 f2 f3 bo wa bu)) ∧ Below w.heap.size w w' := by
  have hno : ¬ (inr f0 ∧ inr f1 ∧ inr f2 ∧ inr f3 ∧ inr bo ∧ inr wa ∧ inr bu) → goodB f0 f1 f2 f3 bo wa bu = false := fun h => decide_eq_false fun g => h ⟨g.1, g.2.1, g.2.2.1, g.2.2.2.1, g.2.2.2.2.1, g.2.2.2.2.2.1, g.2.2.2.2.2.2.1⟩
  have HN : Hid (¬ (inr f0 ∧ inr f1 ∧ inr f2 ∧ inr f3 ∧ inr bo ∧ inr wa ∧ inr bu) → goodB f0 f1 f2 f3 bo wa bu = false) := hno
  clear hno
  have hyes : inr f0 ∧ inr f1 ∧ inr f2 ∧ inr f3 ∧ inr bo ∧ inr wa ∧ inr bu → goodB f0 f1 f2 f3 bo wa bu = (f0 + f1 + f2 + f3 + bo + wa + bu == 400000) := by
    intro h
    unfold goodB inr at *
    simp [h]
    rfl
  have HY : Hid (inr f0 ∧ inr f1 ∧ inr f2 ∧ inr f3 ∧ inr bo ∧ inr wa ∧ inr bu → goodB f0 f1 f2 f3 bo wa bu = (f0 + f1 + f2 + f3 + bo + wa + bu == 400000)) := hyes
  clear hyes
  generalize goodB f0 f1 f2 f3 bo wa bu = G at *
  have HB : Hid (Below w.heap.size w (w.alloc (.cells #[.int .i64 f0, .int .i64 f1, .int .i64 f2, .int .i64 f3, .int .i64 bo, .int .i64 wa, .int .i64 bu] 24))) := (Below.refl _ w).alloc (Nat.le_refl _) _
  go_enter Try.func54, Try.ntmps54
  go_wp2_with fail
  refine (rplaces_any f0 f1 f2 f3 bo wa bu _).mono ?_
  rintro e w1 ⟨rfl, h1⟩
  have HB1 : Hid (Below w.heap.size w w1) := HB.out.trans (h1.mono HB.out.size)
  clear HB h1
  go_wp2
  go_loop [3, 8] (fun s i => ∃ k : Nat, k ≤ 7 ∧ i = .int .i64 (k : Int) ∧ s = .int .i64 (psm f0 f1 f2 f3 bo wa bu k) ∧ Hid (okk f0 f1 f2 f3 bo wa bu k)) (fun _ i => (7 - intOf i).toNat)
  case atStart => exact ⟨0, by omega, rfl, rfl, by simp [Hid, okk]⟩
  case round =>
    obtain ⟨k, hk, rfl, rfl, HO⟩ := hrel
    rcases (show k = 0 ∨ k = 1 ∨ k = 2 ∨ k = 3 ∨ k = 4 ∨ k = 5 ∨ k = 6 ∨ k = 7 by omega) with rfl | rfl | rfl | rfl | rfl | rfl | rfl | rfl
    · have hi := ix7_0
      have hw : 0 ≤ f0 → f0 ≤ 400000 → wrap64 (0 + f0) = f0 := by
        intro g1 g2
        skip
        rw [wrap64_small (by omega) (by omega)]
        omega
      skip
      simp only [psm]
      by_cases g1 : f0 < 0
      · have hG := HN.out (fun h => absurd h.1.1 (by omega))
        subst hG
        clear hw
        go_wp2
        go_ret
        exact ⟨rfl, HB1.out⟩
      · by_cases g2 : 400000 < f0
        · have hG := HN.out (fun h => absurd h.1.2 (by omega))
          subst hG
          clear hw
          go_wp2
          go_ret
          exact ⟨rfl, HB1.out⟩
        · have hw' := hw (by omega) (by omega)
          clear hw
          have hgin : inr f0 := ⟨by omega, by omega⟩
          have HO' : Hid (okk f0 f1 f2 f3 bo wa bu 1) := by
            skip
            simp [Hid, okk]
            exact hgin
          clear hgin HO
          go_wp2
          go_round
          case rel => exact ⟨1, by omega, by go_num, by first | rfl | (rw [hw']; rfl), HO'⟩
          case measure => simp [intOf]
    · have hi := ix7_1
      have o0 := HO.out.1 (by omega)
      have hw : 0 ≤ f1 → f1 ≤ 400000 → wrap64 (f0 + f1) = f0 + f1 := by
        intro g1 g2
        unfold inr at *
        rw [wrap64_small (by omega) (by omega)]
        
      clear o0
      simp only [psm]
      by_cases g1 : f1 < 0
      · have hG := HN.out (fun h => absurd h.2.1.1 (by omega))
        subst hG
        clear hw
        go_wp2
        go_ret
        exact ⟨rfl, HB1.out⟩
      · by_cases g2 : 400000 < f1
        · have hG := HN.out (fun h => absurd h.2.1.2 (by omega))
          subst hG
          clear hw
          go_wp2
          go_ret
          exact ⟨rfl, HB1.out⟩
        · have hw' := hw (by omega) (by omega)
          clear hw
          have hgin : inr f1 := ⟨by omega, by omega⟩
          have HO' : Hid (okk f0 f1 f2 f3 bo wa bu 2) := by
            have := HO.out
            simp [Hid, okk] at this ⊢
            simp [this, hgin]
          clear hgin HO
          go_wp2
          go_round
          case rel => exact ⟨2, by omega, by go_num, by first | rfl | (rw [hw']; rfl), HO'⟩
          case measure => simp [intOf]
    · have hi := ix7_2
      have o0 := HO.out.1 (by omega)
      have o1 := HO.out.2.1 (by omega)
      have hw : 0 ≤ f2 → f2 ≤ 400000 → wrap64 (f0 + f1 + f2) = f0 + f1 + f2 := by
        intro g1 g2
        unfold inr at *
        rw [wrap64_small (by omega) (by omega)]
        
      clear o0 o1
      simp only [psm]
      by_cases g1 : f2 < 0
      · have hG := HN.out (fun h => absurd h.2.2.1.1 (by omega))
        subst hG
        clear hw
        go_wp2
        go_ret
        exact ⟨rfl, HB1.out⟩
      · by_cases g2 : 400000 < f2
        · have hG := HN.out (fun h => absurd h.2.2.1.2 (by omega))
          subst hG
          clear hw
          go_wp2
          go_ret
          exact ⟨rfl, HB1.out⟩
        · have hw' := hw (by omega) (by omega)
          clear hw
          have hgin : inr f2 := ⟨by omega, by omega⟩
          have HO' : Hid (okk f0 f1 f2 f3 bo wa bu 3) := by
            have := HO.out
            simp [Hid, okk] at this ⊢
            simp [this, hgin]
          clear hgin HO
          go_wp2
          go_round
          case rel => exact ⟨3, by omega, by go_num, by first | rfl | (rw [hw']; rfl), HO'⟩
          case measure => simp [intOf]
    · have hi := ix7_3
      have o0 := HO.out.1 (by omega)
      have o1 := HO.out.2.1 (by omega)
      have o2 := HO.out.2.2.1 (by omega)
      have hw : 0 ≤ f3 → f3 ≤ 400000 → wrap64 (f0 + f1 + f2 + f3) = f0 + f1 + f2 + f3 := by
        intro g1 g2
        unfold inr at *
        rw [wrap64_small (by omega) (by omega)]
        
      clear o0 o1 o2
      simp only [psm]
      by_cases g1 : f3 < 0
      · have hG := HN.out (fun h => absurd h.2.2.2.1.1 (by omega))
        subst hG
        clear hw
        go_wp2
        go_ret
        exact ⟨rfl, HB1.out⟩
      · by_cases g2 : 400000 < f3
        · have hG := HN.out (fun h => absurd h.2.2.2.1.2 (by omega))
          subst hG
          clear hw
          go_wp2
          go_ret
          exact ⟨rfl, HB1.out⟩
        · have hw' := hw (by omega) (by omega)
          clear hw
          have hgin : inr f3 := ⟨by omega, by omega⟩
          have HO' : Hid (okk f0 f1 f2 f3 bo wa bu 4) := by
            have := HO.out
            simp [Hid, okk] at this ⊢
            simp [this, hgin]
          clear hgin HO
          go_wp2
          go_round
          case rel => exact ⟨4, by omega, by go_num, by first | rfl | (rw [hw']; rfl), HO'⟩
          case measure => simp [intOf]
    · have hi := ix7_4
      have o0 := HO.out.1 (by omega)
      have o1 := HO.out.2.1 (by omega)
      have o2 := HO.out.2.2.1 (by omega)
      have o3 := HO.out.2.2.2.1 (by omega)
      have hw : 0 ≤ bo → bo ≤ 400000 → wrap64 (f0 + f1 + f2 + f3 + bo) = f0 + f1 + f2 + f3 + bo := by
        intro g1 g2
        unfold inr at *
        rw [wrap64_small (by omega) (by omega)]
        
      clear o0 o1 o2 o3
      simp only [psm]
      by_cases g1 : bo < 0
      · have hG := HN.out (fun h => absurd h.2.2.2.2.1.1 (by omega))
        subst hG
        clear hw
        go_wp2
        go_ret
        exact ⟨rfl, HB1.out⟩
      · by_cases g2 : 400000 < bo
        · have hG := HN.out (fun h => absurd h.2.2.2.2.1.2 (by omega))
          subst hG
          clear hw
          go_wp2
          go_ret
          exact ⟨rfl, HB1.out⟩
        · have hw' := hw (by omega) (by omega)
          clear hw
          have hgin : inr bo := ⟨by omega, by omega⟩
          have HO' : Hid (okk f0 f1 f2 f3 bo wa bu 5) := by
            have := HO.out
            simp [Hid, okk] at this ⊢
            simp [this, hgin]
          clear hgin HO
          go_wp2
          go_round
          case rel => exact ⟨5, by omega, by go_num, by first | rfl | (rw [hw']; rfl), HO'⟩
          case measure => simp [intOf]
    · have hi := ix7_5
      have o0 := HO.out.1 (by omega)
      have o1 := HO.out.2.1 (by omega)
      have o2 := HO.out.2.2.1 (by omega)
      have o3 := HO.out.2.2.2.1 (by omega)
      have o4 := HO.out.2.2.2.2.1 (by omega)
      have hw : 0 ≤ wa → wa ≤ 400000 → wrap64 (f0 + f1 + f2 + f3 + bo + wa) = f0 + f1 + f2 + f3 + bo + wa := by
        intro g1 g2
        unfold inr at *
        rw [wrap64_small (by omega) (by omega)]
        
      clear o0 o1 o2 o3 o4
      simp only [psm]
      by_cases g1 : wa < 0
      · have hG := HN.out (fun h => absurd h.2.2.2.2.2.1.1 (by omega))
        subst hG
        clear hw
        go_wp2
        go_ret
        exact ⟨rfl, HB1.out⟩
      · by_cases g2 : 400000 < wa
        · have hG := HN.out (fun h => absurd h.2.2.2.2.2.1.2 (by omega))
          subst hG
          clear hw
          go_wp2
          go_ret
          exact ⟨rfl, HB1.out⟩
        · have hw' := hw (by omega) (by omega)
          clear hw
          have hgin : inr wa := ⟨by omega, by omega⟩
          have HO' : Hid (okk f0 f1 f2 f3 bo wa bu 6) := by
            have := HO.out
            simp [Hid, okk] at this ⊢
            simp [this, hgin]
          clear hgin HO
          go_wp2
          go_round
          case rel => exact ⟨6, by omega, by go_num, by first | rfl | (rw [hw']; rfl), HO'⟩
          case measure => simp [intOf]
    · have hi := ix7_6
      have o0 := HO.out.1 (by omega)
      have o1 := HO.out.2.1 (by omega)
      have o2 := HO.out.2.2.1 (by omega)
      have o3 := HO.out.2.2.2.1 (by omega)
      have o4 := HO.out.2.2.2.2.1 (by omega)
      have o5 := HO.out.2.2.2.2.2.1 (by omega)
      have hw : 0 ≤ bu → bu ≤ 400000 → wrap64 (f0 + f1 + f2 + f3 + bo + wa + bu) = f0 + f1 + f2 + f3 + bo + wa + bu := by
        intro g1 g2
        unfold inr at *
        rw [wrap64_small (by omega) (by omega)]
        
      clear o0 o1 o2 o3 o4 o5
      simp only [psm]
      by_cases g1 : bu < 0
      · have hG := HN.out (fun h => absurd h.2.2.2.2.2.2.1 (by omega))
        subst hG
        clear hw
        go_wp2
        go_ret
        exact ⟨rfl, HB1.out⟩
      · by_cases g2 : 400000 < bu
        · have hG := HN.out (fun h => absurd h.2.2.2.2.2.2.2 (by omega))
          subst hG
          clear hw
          go_wp2
          go_ret
          exact ⟨rfl, HB1.out⟩
        · have hw' := hw (by omega) (by omega)
          clear hw
          have hgin : inr bu := ⟨by omega, by omega⟩
          have HO' : Hid (okk f0 f1 f2 f3 bo wa bu 7) := by
            have := HO.out
            simp [Hid, okk] at this ⊢
            simp [this, hgin]
          clear hgin HO
          go_wp2
          go_round
          case rel => exact ⟨7, by omega, by go_num, by first | rfl | (rw [hw']; rfl), HO'⟩
          case measure => simp [intOf]
    · have o := HO.out
      have hG := HY.out ⟨o.1 (by omega), o.2.1 (by omega), o.2.2.1 (by omega), o.2.2.2.1 (by omega), o.2.2.2.2.1 (by omega), o.2.2.2.2.2.1 (by omega), o.2.2.2.2.2.2 (by omega)⟩
      clear o HO HN HY
      simp only [psm]
      go_wp2
      go_ret
      exact ⟨rfl, HB1.out⟩
end Go.Proofs.Ytookecjeknpheac
namespace Go.Proofs.Ytookecjeknpheac
open Go.RowKit
theorem rmove_end {w wq : World} (R : BAt wq (w.heap.size + 1) 0 0 0 0 0 0 0) (H : Below w.heap.size w wq) (r0 r1 r2 r3 r4 r5 r6 er : Int) (act : Act)
    (h8 : act.tmps.getD 8 undef = .pointer (some ⟨w.heap.size + 1, 0, none⟩)) (h9 : act.tmps.getD 9 undef = .int .i64 er) (hd : act.defers = []) :
    bodyPost Try.prog Try.f76 (fun e w' => e = .returned (.tuple #[.agg #[.int .i64 r0, .int .i64 r1, .int .i64 r2, .int .i64 r3, .int .i64 r4, .int .i64 r5, .int .i64 r6], .int .i64 er]) ∧ Below w.heap.size w w') Exit.ret act
      (set7 wq (w.heap.size + 1) r0 r1 r2 r3 r4 r5 r6) := by
  have HR := R.set7 r0 r1 r2 r3 r4 r5 r6
  have HW := set7_below (b := w.heap.size + 1) H (by omega) r0 r1 r2 r3 r4 r5 r6
  generalize set7 wq (w.heap.size + 1) r0 r1 r2 r3 r4 r5 r6 = w9 at *
  obtain ⟨u0, u1, u2, u3, u4, u5, u6⟩ := HR.cells
  have h8' : act.tmps[8]?.getD undef = .pointer (some ⟨w.heap.size + 1, 0, none⟩) := by simpa using h8
  have h9' : act.tmps[9]?.getD undef = .int .i64 er := by simpa using h9
  exact bodyPost_ret (v := .tuple #[.agg #[.int .i64 r0, .int .i64 r1, .int .i64 r2, .int .i64 r3, .int .i64 r4, .int .i64 r5, .int .i64 r6], .int .i64 er]) (by simp [results, Try.results76, go_sem, h8', h9', u0, u1, u2, u3, u4, u5, u6]) hd ⟨rfl, HW⟩
theorem rmove_fin {w w9 : World} {r0 r1 r2 r3 r4 r5 r6 : Int} (HR : BAt w9 (w.heap.size + 1) r0 r1 r2 r3 r4 r5 r6) (HW : Below w.heap.size w w9) (er : Int) (act : Act)
    (h8 : act.tmps.getD 8 undef = .pointer (some ⟨w.heap.size + 1, 0, none⟩)) (h9 : act.tmps.getD 9 undef = .int .i64 er) (hd : act.defers = []) :
    bodyPost Try.prog Try.f76 (fun e w' => e = .returned (.tuple #[.agg #[.int .i64 r0, .int .i64 r1, .int .i64 r2, .int .i64 r3, .int .i64 r4, .int .i64 r5, .int .i64 r6], .int .i64 er]) ∧ Below w.heap.size w w') Exit.ret act w9 := by
  obtain ⟨u0, u1, u2, u3, u4, u5, u6⟩ := HR.cells
  have h8' : act.tmps[8]?.getD undef = .pointer (some ⟨w.heap.size + 1, 0, none⟩) := by simpa using h8
  have h9' : act.tmps[9]?.getD undef = .int .i64 er := by simpa using h9
  exact bodyPost_ret (v := .tuple #[.agg #[.int .i64 r0, .int .i64 r1, .int .i64 r2, .int .i64 r3, .int .i64 r4, .int .i64 r5, .int .i64 r6], .int .i64 er]) (by simp [results, Try.results76, go_sem, h8', h9', u0, u1, u2, u3, u4, u5, u6]) hd ⟨rfl, HW⟩
set_option maxHeartbeats 2000000 in
theorem rmove_funds_0 (f0 f1 f2 f3 bo wa bu t n : Int) (w : World) (hg : goodB f0 f1 f2 f3 bo wa bu = true) (hn0 : 0 ≤ n) (hn1 : n ≤ 1125899906842624) (hle : f0 < n) :
    Calls Try.prog 76 #[.agg #[.int .i64 f0, .int .i64 f1, .int .i64 f2, .int .i64 f3, .int .i64 bo, .int .i64 wa, .int .i64 bu], .int .i64 0, .int .i64 t, .int .i64 n] w fun e w' => e = .returned (.tuple #[.agg #[.int .i64 f0, .int .i64 f1, .int .i64 f2, .int .i64 f3, .int .i64 bo, .int .i64 wa, .int .i64 bu], .int .i64 7]) ∧ Below w.heap.size w w' := by
  have hG := rgood_any f0 f1 f2 f3 bo wa bu
  rw [hg] at hG
  have hI := rin_any n
  rw [decide_eq_true ⟨hn0, hn1⟩] at hI
  clear hg hn0 hn1
  go_enter Try.func76, Try.ntmps76
  go_wp2_with fail
  refine (hG _).mono ?_
  rintro e w1 ⟨rfl, hb⟩
  have B1 := ((BAt.new w f0 f1 f2 f3 bo wa bu).alloc (.cells #[.int .i64 0, .int .i64 0, .int .i64 0, .int .i64 0, .int .i64 0, .int .i64 0, .int .i64 0] 24)).later hb (by simp; omega)
  have R1 : BAt w1 (w.heap.size + 1) 0 0 0 0 0 0 0 := by
    have := (BAt.new (w.alloc (.cells #[.int .i64 f0, .int .i64 f1, .int .i64 f2, .int .i64 f3, .int .i64 bo, .int .i64 wa, .int .i64 bu] 24)) 0 0 0 0 0 0 0).later hb (by simp)
    simpa using this
  have HB : Hid (Below w.heap.size w w1) := (((Below.refl _ w).alloc (Nat.le_refl _) _).alloc (by simp) _).trans (hb.mono (by simp; omega))
  clear hb
  obtain ⟨x0, x1, x2, x3, x4, x5, x6⟩ := B1.cells
  go_wp2_with (first
    | (go_at_call 55; refine (hI _).mono ?_; rintro e wI ⟨rfl, rfl⟩)
    | (go_at_call 78; refine (rplaces_any f0 f1 f2 f3 bo wa bu _).mono ?_; rintro e w2 ⟨rfl, h2⟩; have R2 := R1.later h2 R1.lt; have B2 := B1.later h2 B1.lt; have HB2 : Hid (Below w.heap.size w w2) := HB.out.trans (h2.mono HB.out.size); have hz2 : w.heap.size < w2.heap.size := B2.lt; have hz3 : w.heap.size + 1 < w2.heap.size := R2.lt; clear h2; clear x0 x1 x2 x3 x4 x5 x6; obtain ⟨x0, x1, x2, x3, x4, x5, x6⟩ := B2.cells; obtain ⟨u0, u1, u2, u3, u4, u5, u6⟩ := R2.frees; obtain ⟨v0, v1, v2, v3, v4, v5, v6⟩ := R2.cells; have HR2 : Hid (BAt w2 (w.heap.size + 1) 0 0 0 0 0 0 0) := R2; clear B1 R1 HB B2 R2))
  exact rmove_fin (w9 := (set7 w2 (w.heap.size + 1) f0 f1 f2 f3 bo wa bu).alloc _) ((HR2.out.set7 f0 f1 f2 f3 bo wa bu).alloc _) (let h := set7_below (b := w.heap.size + 1) HB2.out (by omega) f0 f1 f2 f3 bo wa bu; h.alloc h.size _) 7 _ rfl rfl rfl
set_option maxHeartbeats 2000000 in
theorem rmove_funds_1 (f0 f1 f2 f3 bo wa bu t n : Int) (w : World) (hg : goodB f0 f1 f2 f3 bo wa bu = true) (hn0 : 0 ≤ n) (hn1 : n ≤ 1125899906842624) (hle : f1 < n) :
    Calls Try.prog 76 #[.agg #[.int .i64 f0, .int .i64 f1, .int .i64 f2, .int .i64 f3, .int .i64 bo, .int .i64 wa, .int .i64 bu], .int .i64 1, .int .i64 t, .int .i64 n] w fun e w' => e = .returned (.tuple #[.agg #[.int .i64 f0, .int .i64 f1, .int .i64 f2, .int .i64 f3, .int .i64 bo, .int .i64 wa, .int .i64 bu], .int .i64 7]) ∧ Below w.heap.size w w' := by
  have hG := rgood_any f0 f1 f2 f3 bo wa bu
  rw [hg] at hG
  have hI := rin_any n
  rw [decide_eq_true ⟨hn0, hn1⟩] at hI
  clear hg hn0 hn1
  go_enter Try.func76, Try.ntmps76
  go_wp2_with fail
  refine (hG _).mono ?_
  rintro e w1 ⟨rfl, hb⟩
  have B1 := ((BAt.new w f0 f1 f2 f3 bo wa bu).alloc (.cells #[.int .i64 0, .int .i64 0, .int .i64 0, .int .i64 0, .int .i64 0, .int .i64 0, .int .i64 0] 24)).later hb (by simp; omega)
  have R1 : BAt w1 (w.heap.size + 1) 0 0 0 0 0 0 0 := by
    have := (BAt.new (w.alloc (.cells #[.int .i64 f0, .int .i64 f1, .int .i64 f2, .int .i64 f3, .int .i64 bo, .int .i64 wa, .int .i64 bu] 24)) 0 0 0 0 0 0 0).later hb (by simp)
    simpa using this
  have HB : Hid (Below w.heap.size w w1) := (((Below.refl _ w).alloc (Nat.le_refl _) _).alloc (by simp) _).trans (hb.mono (by simp; omega))
  clear hb
  obtain ⟨x0, x1, x2, x3, x4, x5, x6⟩ := B1.cells
  go_wp2_with (first
    | (go_at_call 55; refine (hI _).mono ?_; rintro e wI ⟨rfl, rfl⟩)
    | (go_at_call 78; refine (rplaces_any f0 f1 f2 f3 bo wa bu _).mono ?_; rintro e w2 ⟨rfl, h2⟩; have R2 := R1.later h2 R1.lt; have B2 := B1.later h2 B1.lt; have HB2 : Hid (Below w.heap.size w w2) := HB.out.trans (h2.mono HB.out.size); have hz2 : w.heap.size < w2.heap.size := B2.lt; have hz3 : w.heap.size + 1 < w2.heap.size := R2.lt; clear h2; clear x0 x1 x2 x3 x4 x5 x6; obtain ⟨x0, x1, x2, x3, x4, x5, x6⟩ := B2.cells; obtain ⟨u0, u1, u2, u3, u4, u5, u6⟩ := R2.frees; obtain ⟨v0, v1, v2, v3, v4, v5, v6⟩ := R2.cells; have HR2 : Hid (BAt w2 (w.heap.size + 1) 0 0 0 0 0 0 0) := R2; clear B1 R1 HB B2 R2))
  exact rmove_fin (w9 := (set7 w2 (w.heap.size + 1) f0 f1 f2 f3 bo wa bu).alloc _) ((HR2.out.set7 f0 f1 f2 f3 bo wa bu).alloc _) (let h := set7_below (b := w.heap.size + 1) HB2.out (by omega) f0 f1 f2 f3 bo wa bu; h.alloc h.size _) 7 _ rfl rfl rfl
set_option maxHeartbeats 2000000 in
theorem rmove_funds_2 (f0 f1 f2 f3 bo wa bu t n : Int) (w : World) (hg : goodB f0 f1 f2 f3 bo wa bu = true) (hn0 : 0 ≤ n) (hn1 : n ≤ 1125899906842624) (hle : f2 < n) :
    Calls Try.prog 76 #[.agg #[.int .i64 f0, .int .i64 f1, .int .i64 f2, .int .i64 f3, .int .i64 bo, .int .i64 wa, .int .i64 bu], .int .i64 2, .int .i64 t, .int .i64 n] w fun e w' => e = .returned (.tuple #[.agg #[.int .i64 f0, .int .i64 f1, .int .i64 f2, .int .i64 f3, .int .i64 bo, .int .i64 wa, .int .i64 bu], .int .i64 7]) ∧ Below w.heap.size w w' := by
  have hG := rgood_any f0 f1 f2 f3 bo wa bu
  rw [hg] at hG
  have hI := rin_any n
  rw [decide_eq_true ⟨hn0, hn1⟩] at hI
  clear hg hn0 hn1
  go_enter Try.func76, Try.ntmps76
  go_wp2_with fail
  refine (hG _).mono ?_
  rintro e w1 ⟨rfl, hb⟩
  have B1 := ((BAt.new w f0 f1 f2 f3 bo wa bu).alloc (.cells #[.int .i64 0, .int .i64 0, .int .i64 0, .int .i64 0, .int .i64 0, .int .i64 0, .int .i64 0] 24)).later hb (by simp; omega)
  have R1 : BAt w1 (w.heap.size + 1) 0 0 0 0 0 0 0 := by
    have := (BAt.new (w.alloc (.cells #[.int .i64 f0, .int .i64 f1, .int .i64 f2, .int .i64 f3, .int .i64 bo, .int .i64 wa, .int .i64 bu] 24)) 0 0 0 0 0 0 0).later hb (by simp)
    simpa using this
  have HB : Hid (Below w.heap.size w w1) := (((Below.refl _ w).alloc (Nat.le_refl _) _).alloc (by simp) _).trans (hb.mono (by simp; omega))
  clear hb
  obtain ⟨x0, x1, x2, x3, x4, x5, x6⟩ := B1.cells
  go_wp2_with (first
    | (go_at_call 55; refine (hI _).mono ?_; rintro e wI ⟨rfl, rfl⟩)
    | (go_at_call 78; refine (rplaces_any f0 f1 f2 f3 bo wa bu _).mono ?_; rintro e w2 ⟨rfl, h2⟩; have R2 := R1.later h2 R1.lt; have B2 := B1.later h2 B1.lt; have HB2 : Hid (Below w.heap.size w w2) := HB.out.trans (h2.mono HB.out.size); have hz2 : w.heap.size < w2.heap.size := B2.lt; have hz3 : w.heap.size + 1 < w2.heap.size := R2.lt; clear h2; clear x0 x1 x2 x3 x4 x5 x6; obtain ⟨x0, x1, x2, x3, x4, x5, x6⟩ := B2.cells; obtain ⟨u0, u1, u2, u3, u4, u5, u6⟩ := R2.frees; obtain ⟨v0, v1, v2, v3, v4, v5, v6⟩ := R2.cells; have HR2 : Hid (BAt w2 (w.heap.size + 1) 0 0 0 0 0 0 0) := R2; clear B1 R1 HB B2 R2))
  exact rmove_fin (w9 := (set7 w2 (w.heap.size + 1) f0 f1 f2 f3 bo wa bu).alloc _) ((HR2.out.set7 f0 f1 f2 f3 bo wa bu).alloc _) (let h := set7_below (b := w.heap.size + 1) HB2.out (by omega) f0 f1 f2 f3 bo wa bu; h.alloc h.size _) 7 _ rfl rfl rfl
set_option maxHeartbeats 2000000 in
theorem rmove_funds_3 (f0 f1 f2 f3 bo wa bu t n : Int) (w : World) (hg : goodB f0 f1 f2 f3 bo wa bu = true) (hn0 : 0 ≤ n) (hn1 : n ≤ 1125899906842624) (hle : f3 < n) :
    Calls Try.prog 76 #[.agg #[.int .i64 f0, .int .i64 f1, .int .i64 f2, .int .i64 f3, .int .i64 bo, .int .i64 wa, .int .i64 bu], .int .i64 3, .int .i64 t, .int .i64 n] w fun e w' => e = .returned (.tuple #[.agg #[.int .i64 f0, .int .i64 f1, .int .i64 f2, .int .i64 f3, .int .i64 bo, .int .i64 wa, .int .i64 bu], .int .i64 7]) ∧ Below w.heap.size w w' := by
  have hG := rgood_any f0 f1 f2 f3 bo wa bu
  rw [hg] at hG
  have hI := rin_any n
  rw [decide_eq_true ⟨hn0, hn1⟩] at hI
  clear hg hn0 hn1
  go_enter Try.func76, Try.ntmps76
  go_wp2_with fail
  refine (hG _).mono ?_
  rintro e w1 ⟨rfl, hb⟩
  have B1 := ((BAt.new w f0 f1 f2 f3 bo wa bu).alloc (.cells #[.int .i64 0, .int .i64 0, .int .i64 0, .int .i64 0, .int .i64 0, .int .i64 0, .int .i64 0] 24)).later hb (by simp; omega)
  have R1 : BAt w1 (w.heap.size + 1) 0 0 0 0 0 0 0 := by
    have := (BAt.new (w.alloc (.cells #[.int .i64 f0, .int .i64 f1, .int .i64 f2, .int .i64 f3, .int .i64 bo, .int .i64 wa, .int .i64 bu] 24)) 0 0 0 0 0 0 0).later hb (by simp)
    simpa using this
  have HB : Hid (Below w.heap.size w w1) := (((Below.refl _ w).alloc (Nat.le_refl _) _).alloc (by simp) _).trans (hb.mono (by simp; omega))
  clear hb
  obtain ⟨x0, x1, x2, x3, x4, x5, x6⟩ := B1.cells
  go_wp2_with (first
    | (go_at_call 55; refine (hI _).mono ?_; rintro e wI ⟨rfl, rfl⟩)
    | (go_at_call 78; refine (rplaces_any f0 f1 f2 f3 bo wa bu _).mono ?_; rintro e w2 ⟨rfl, h2⟩; have R2 := R1.later h2 R1.lt; have B2 := B1.later h2 B1.lt; have HB2 : Hid (Below w.heap.size w w2) := HB.out.trans (h2.mono HB.out.size); have hz2 : w.heap.size < w2.heap.size := B2.lt; have hz3 : w.heap.size + 1 < w2.heap.size := R2.lt; clear h2; clear x0 x1 x2 x3 x4 x5 x6; obtain ⟨x0, x1, x2, x3, x4, x5, x6⟩ := B2.cells; obtain ⟨u0, u1, u2, u3, u4, u5, u6⟩ := R2.frees; obtain ⟨v0, v1, v2, v3, v4, v5, v6⟩ := R2.cells; have HR2 : Hid (BAt w2 (w.heap.size + 1) 0 0 0 0 0 0 0) := R2; clear B1 R1 HB B2 R2))
  exact rmove_fin (w9 := (set7 w2 (w.heap.size + 1) f0 f1 f2 f3 bo wa bu).alloc _) ((HR2.out.set7 f0 f1 f2 f3 bo wa bu).alloc _) (let h := set7_below (b := w.heap.size + 1) HB2.out (by omega) f0 f1 f2 f3 bo wa bu; h.alloc h.size _) 7 _ rfl rfl rfl
set_option maxHeartbeats 2000000 in
theorem rmove_funds_4 (f0 f1 f2 f3 bo wa bu t n : Int) (w : World) (hg : goodB f0 f1 f2 f3 bo wa bu = true) (hn0 : 0 ≤ n) (hn1 : n ≤ 1125899906842624) (hle : bo < n) :
    Calls Try.prog 76 #[.agg #[.int .i64 f0, .int .i64 f1, .int .i64 f2, .int .i64 f3, .int .i64 bo, .int .i64 wa, .int .i64 bu], .int .i64 4, .int .i64 t, .int .i64 n] w fun e w' => e = .returned (.tuple #[.agg #[.int .i64 f0, .int .i64 f1, .int .i64 f2, .int .i64 f3, .int .i64 bo, .int .i64 wa, .int .i64 bu], .int .i64 7]) ∧ Below w.heap.size w w' := by
  have hG := rgood_any f0 f1 f2 f3 bo wa bu
  rw [hg] at hG
  have hI := rin_any n
  rw [decide_eq_true ⟨hn0, hn1⟩] at hI
  clear hg hn0 hn1
  go_enter Try.func76, Try.ntmps76
  go_wp2_with fail
  refine (hG _).mono ?_
  rintro e w1 ⟨rfl, hb⟩
  have B1 := ((BAt.new w f0 f1 f2 f3 bo wa bu).alloc (.cells #[.int .i64 0, .int .i64 0, .int .i64 0, .int .i64 0, .int .i64 0, .int .i64 0, .int .i64 0] 24)).later hb (by simp; omega)
  have R1 : BAt w1 (w.heap.size + 1) 0 0 0 0 0 0 0 := by
    have := (BAt.new (w.alloc (.cells #[.int .i64 f0, .int .i64 f1, .int .i64 f2, .int .i64 f3, .int .i64 bo, .int .i64 wa, .int .i64 bu] 24)) 0 0 0 0 0 0 0).later hb (by simp)
    simpa using this
  have HB : Hid (Below w.heap.size w w1) := (((Below.refl _ w).alloc (Nat.le_refl _) _).alloc (by simp) _).trans (hb.mono (by simp; omega))
  clear hb
  obtain ⟨x0, x1, x2, x3, x4, x5, x6⟩ := B1.cells
  go_wp2_with (first
    | (go_at_call 55; refine (hI _).mono ?_; rintro e wI ⟨rfl, rfl⟩)
    | (go_at_call 78; refine (rplaces_any f0 f1 f2 f3 bo wa bu _).mono ?_; rintro e w2 ⟨rfl, h2⟩; have R2 := R1.later h2 R1.lt; have B2 := B1.later h2 B1.lt; have HB2 : Hid (Below w.heap.size w w2) := HB.out.trans (h2.mono HB.out.size); have hz2 : w.heap.size < w2.heap.size := B2.lt; have hz3 : w.heap.size + 1 < w2.heap.size := R2.lt; clear h2; clear x0 x1 x2 x3 x4 x5 x6; obtain ⟨x0, x1, x2, x3, x4, x5, x6⟩ := B2.cells; obtain ⟨u0, u1, u2, u3, u4, u5, u6⟩ := R2.frees; obtain ⟨v0, v1, v2, v3, v4, v5, v6⟩ := R2.cells; have HR2 : Hid (BAt w2 (w.heap.size + 1) 0 0 0 0 0 0 0) := R2; clear B1 R1 HB B2 R2))
  exact rmove_fin (w9 := (set7 w2 (w.heap.size + 1) f0 f1 f2 f3 bo wa bu).alloc _) ((HR2.out.set7 f0 f1 f2 f3 bo wa bu).alloc _) (let h := set7_below (b := w.heap.size + 1) HB2.out (by omega) f0 f1 f2 f3 bo wa bu; h.alloc h.size _) 7 _ rfl rfl rfl
set_option maxHeartbeats 2000000 in
theorem rmove_funds_5 (f0 f1 f2 f3 bo wa bu t n : Int) (w : World) (hg : goodB f0 f1 f2 f3 bo wa bu = true) (hn0 : 0 ≤ n) (hn1 : n ≤ 1125899906842624) (hle : wa < n) :
    Calls Try.prog 76 #[.agg #[.int .i64 f0, .int .i64 f1, .int .i64 f2, .int .i64 f3, .int .i64 bo, .int .i64 wa, .int .i64 bu], .int .i64 5, .int .i64 t, .int .i64 n] w fun e w' => e = .returned (.tuple #[.agg #[.int .i64 f0, .int .i64 f1, .int .i64 f2, .int .i64 f3, .int .i64 bo, .int .i64 wa, .int .i64 bu], .int .i64 7]) ∧ Below w.heap.size w w' := by
  have hG := rgood_any f0 f1 f2 f3 bo wa bu
  rw [hg] at hG
  have hI := rin_any n
  rw [decide_eq_true ⟨hn0, hn1⟩] at hI
  clear hg hn0 hn1
  go_enter Try.func76, Try.ntmps76
  go_wp2_with fail
  refine (hG _).mono ?_
  rintro e w1 ⟨rfl, hb⟩
  have B1 := ((BAt.new w f0 f1 f2 f3 bo wa bu).alloc (.cells #[.int .i64 0, .int .i64 0, .int .i64 0, .int .i64 0, .int .i64 0, .int .i64 0, .int .i64 0] 24)).later hb (by simp; omega)
  have R1 : BAt w1 (w.heap.size + 1) 0 0 0 0 0 0 0 := by
    have := (BAt.new (w.alloc (.cells #[.int .i64 f0, .int .i64 f1, .int .i64 f2, .int .i64 f3, .int .i64 bo, .int .i64 wa, .int .i64 bu] 24)) 0 0 0 0 0 0 0).later hb (by simp)
    simpa using this
  have HB : Hid (Below w.heap.size w w1) := (((Below.refl _ w).alloc (Nat.le_refl _) _).alloc (by simp) _).trans (hb.mono (by simp; omega))
  clear hb
  obtain ⟨x0, x1, x2, x3, x4, x5, x6⟩ := B1.cells
  go_wp2_with (first
    | (go_at_call 55; refine (hI _).mono ?_; rintro e wI ⟨rfl, rfl⟩)
    | (go_at_call 78; refine (rplaces_any f0 f1 f2 f3 bo wa bu _).mono ?_; rintro e w2 ⟨rfl, h2⟩; have R2 := R1.later h2 R1.lt; have B2 := B1.later h2 B1.lt; have HB2 : Hid (Below w.heap.size w w2) := HB.out.trans (h2.mono HB.out.size); have hz2 : w.heap.size < w2.heap.size := B2.lt; have hz3 : w.heap.size + 1 < w2.heap.size := R2.lt; clear h2; clear x0 x1 x2 x3 x4 x5 x6; obtain ⟨x0, x1, x2, x3, x4, x5, x6⟩ := B2.cells; obtain ⟨u0, u1, u2, u3, u4, u5, u6⟩ := R2.frees; obtain ⟨v0, v1, v2, v3, v4, v5, v6⟩ := R2.cells; have HR2 : Hid (BAt w2 (w.heap.size + 1) 0 0 0 0 0 0 0) := R2; clear B1 R1 HB B2 R2))
  exact rmove_fin (w9 := (set7 w2 (w.heap.size + 1) f0 f1 f2 f3 bo wa bu).alloc _) ((HR2.out.set7 f0 f1 f2 f3 bo wa bu).alloc _) (let h := set7_below (b := w.heap.size + 1) HB2.out (by omega) f0 f1 f2 f3 bo wa bu; h.alloc h.size _) 7 _ rfl rfl rfl
set_option maxHeartbeats 2000000 in
theorem rmove_range_bad (f0 f1 f2 f3 bo wa bu f t n : Int) (w : World) (hg : goodB f0 f1 f2 f3 bo wa bu = false) :
    Calls Try.prog 76 #[.agg #[.int .i64 f0, .int .i64 f1, .int .i64 f2, .int .i64 f3, .int .i64 bo, .int .i64 wa, .int .i64 bu], .int .i64 f, .int .i64 t, .int .i64 n] w fun e w' => e = .returned (.tuple #[.agg #[.int .i64 f0, .int .i64 f1, .int .i64 f2, .int .i64 f3, .int .i64 bo, .int .i64 wa, .int .i64 bu], .int .i64 2]) ∧ Below w.heap.size w w' := by
  have hG := rgood_any f0 f1 f2 f3 bo wa bu
  rw [hg] at hG
  clear hg
  go_enter Try.func76, Try.ntmps76
  go_wp2_with fail
  refine (hG _).mono ?_
  rintro e w1 ⟨rfl, hb⟩
  have B1 := ((BAt.new w f0 f1 f2 f3 bo wa bu).alloc (.cells #[.int .i64 0, .int .i64 0, .int .i64 0, .int .i64 0, .int .i64 0, .int .i64 0, .int .i64 0] 24)).later hb (by simp; omega)
  have R1 : BAt w1 (w.heap.size + 1) 0 0 0 0 0 0 0 := by
    have := (BAt.new (w.alloc (.cells #[.int .i64 f0, .int .i64 f1, .int .i64 f2, .int .i64 f3, .int .i64 bo, .int .i64 wa, .int .i64 bu] 24)) 0 0 0 0 0 0 0).later hb (by simp)
    simpa using this
  have HB : Hid (Below w.heap.size w w1) := (((Below.refl _ w).alloc (Nat.le_refl _) _).alloc (by simp) _).trans (hb.mono (by simp; omega))
  clear hb
  obtain ⟨x0, x1, x2, x3, x4, x5, x6⟩ := B1.cells
  obtain ⟨u0, u1, u2, u3, u4, u5, u6⟩ := R1.frees
  obtain ⟨v0, v1, v2, v3, v4, v5, v6⟩ := R1.cells
  have HR1 : Hid (BAt w1 (w.heap.size + 1) 0 0 0 0 0 0 0) := R1
  clear B1 R1
  go_wp2
  exact rmove_end HR1.out HB.out f0 f1 f2 f3 bo wa bu 2 _ rfl rfl rfl
set_option maxHeartbeats 2000000 in
theorem rmove_range_in (f0 f1 f2 f3 bo wa bu f t n : Int) (w : World) (hg : goodB f0 f1 f2 f3 bo wa bu = true) (hn : ¬ (0 ≤ n ∧ n ≤ 1125899906842624)) :
    Calls Try.prog 76 #[.agg #[.int .i64 f0, .int .i64 f1, .int .i64 f2, .int .i64 f3, .int .i64 bo, .int .i64 wa, .int .i64 bu], .int .i64 f, .int .i64 t, .int .i64 n] w fun e w' => e = .returned (.tuple #[.agg #[.int .i64 f0, .int .i64 f1, .int .i64 f2, .int .i64 f3, .int .i64 bo, .int .i64 wa, .int .i64 bu], .int .i64 2]) ∧ Below w.heap.size w w' := by
  have hG := rgood_any f0 f1 f2 f3 bo wa bu
  rw [hg] at hG
  clear hg
  have hI := rin_any n
  rw [decide_eq_false hn] at hI
  clear hn
  go_enter Try.func76, Try.ntmps76
  go_wp2_with fail
  refine (hG _).mono ?_
  rintro e w1 ⟨rfl, hb⟩
  have B1 := ((BAt.new w f0 f1 f2 f3 bo wa bu).alloc (.cells #[.int .i64 0, .int .i64 0, .int .i64 0, .int .i64 0, .int .i64 0, .int .i64 0, .int .i64 0] 24)).later hb (by simp; omega)
  have R1 : BAt w1 (w.heap.size + 1) 0 0 0 0 0 0 0 := by
    have := (BAt.new (w.alloc (.cells #[.int .i64 f0, .int .i64 f1, .int .i64 f2, .int .i64 f3, .int .i64 bo, .int .i64 wa, .int .i64 bu] 24)) 0 0 0 0 0 0 0).later hb (by simp)
    simpa using this
  have HB : Hid (Below w.heap.size w w1) := (((Below.refl _ w).alloc (Nat.le_refl _) _).alloc (by simp) _).trans (hb.mono (by simp; omega))
  clear hb
  obtain ⟨x0, x1, x2, x3, x4, x5, x6⟩ := B1.cells
  obtain ⟨u0, u1, u2, u3, u4, u5, u6⟩ := R1.frees
  obtain ⟨v0, v1, v2, v3, v4, v5, v6⟩ := R1.cells
  have HR1 : Hid (BAt w1 (w.heap.size + 1) 0 0 0 0 0 0 0) := R1
  clear B1 R1
  go_wp2_with (go_at_call 55; refine (hI _).mono ?_; rintro e wI ⟨rfl, rfl⟩)
  exact rmove_end HR1.out HB.out f0 f1 f2 f3 bo wa bu 2 _ rfl rfl rfl
end Go.Proofs.Ytookecjeknpheac
namespace Go.Proofs.Ytookecjeknpheac
open Go.RowKit
set_option maxHeartbeats 2000000 in
theorem rmove_ok_04 (f0 f1 f2 f3 bo wa bu n : Int) (w : World) (hg : goodB f0 f1 f2 f3 bo wa bu = true) (hn0 : 0 ≤ n) (hn1 : n ≤ 1125899906842624) (hle : n ≤ f0) :
    Calls Try.prog 76 #[.agg #[.int .i64 f0, .int .i64 f1, .int .i64 f2, .int .i64 f3, .int .i64 bo, .int .i64 wa, .int .i64 bu], .int .i64 0, .int .i64 4, .int .i64 n] w fun e w' => e = .returned (.tuple #[.agg #[.int .i64 (f0 - n), .int .i64 f1, .int .i64 f2, .int .i64 f3, .int .i64 (bo + n), .int .i64 wa, .int .i64 bu], .int .i64 0]) ∧ Below w.heap.size w w' := by
  have hG := rgood_any f0 f1 f2 f3 bo wa bu
  rw [hg] at hG
  have hI := rin_any n
  rw [decide_eq_true ⟨hn0, hn1⟩] at hI
  unfold goodB at hg
  obtain ⟨g0, g1, g2, g3, g4, g5, g6, gs⟩ := of_decide_eq_true hg
  clear hg
  have k1 : wrap64 (f0 - n) = f0 - n := wrap64_small (by omega) (by omega)
  have k2 : wrap64 (bo + n) = bo + n := wrap64_small (by omega) (by omega)
  clear g0 g1 g2 g3 g4 g5 g6 gs hn0 hn1
  go_enter Try.func76, Try.ntmps76
  go_wp2_with fail
  refine (hG _).mono ?_
  rintro e w1 ⟨rfl, hb⟩
  have B1 := ((BAt.new w f0 f1 f2 f3 bo wa bu).alloc (.cells #[.int .i64 0, .int .i64 0, .int .i64 0, .int .i64 0, .int .i64 0, .int .i64 0, .int .i64 0] 24)).later hb (by simp; omega)
  have R1 : BAt w1 (w.heap.size + 1) 0 0 0 0 0 0 0 := by
    have := (BAt.new (w.alloc (.cells #[.int .i64 f0, .int .i64 f1, .int .i64 f2, .int .i64 f3, .int .i64 bo, .int .i64 wa, .int .i64 bu] 24)) 0 0 0 0 0 0 0).later hb (by simp)
    simpa using this
  have HB : Hid (Below w.heap.size w w1) := (((Below.refl _ w).alloc (Nat.le_refl _) _).alloc (by simp) _).trans (hb.mono (by simp; omega))
  clear hb
  obtain ⟨x0, x1, x2, x3, x4, x5, x6⟩ := B1.cells
  go_wp2_with (first
    | (go_at_call 55; refine (hI _).mono ?_; rintro e wI ⟨rfl, rfl⟩)
    | (go_at_call 78; refine (rplaces_any f0 f1 f2 f3 bo wa bu _).mono ?_; rintro e w2 ⟨rfl, h2⟩; have R2 := R1.later h2 R1.lt; have B2 := B1.later h2 B1.lt; have HB2 : Hid (Below w.heap.size w w2) := HB.out.trans (h2.mono HB.out.size); have hz2 : w.heap.size < w2.heap.size := B2.lt; have hz3 : w.heap.size + 1 < w2.heap.size := R2.lt; clear h2; clear B1 R1 HB B2 x0 x1 x2 x3 x4 x5 x6)
    | (go_at_call 79; refine (rbanked_any (f0 - n) f1 f2 f3 (bo + n) wa bu _).mono ?_; rintro e w3 ⟨rfl, h3⟩; have R3 := (R2.alloc _).later h3 (by simp; omega); have HB3 : Hid (Below w.heap.size w w3) := (HB2.out.alloc (Nat.le_of_lt hz2) _).trans (h3.mono (by simp; omega)); obtain ⟨u0, u1, u2, u3, u4, u5, u6⟩ := R3.frees; obtain ⟨v0, v1, v2, v3, v4, v5, v6⟩ := R3.cells; have HR3 : Hid (BAt w3 (w.heap.size + 1) 0 0 0 0 0 0 0) := R3; clear R2 R3 h3 HB2))
  exact rmove_end HR3.out HB3.out (f0 - n) f1 f2 f3 (bo + n) wa bu 0 _ rfl rfl rfl
set_option maxHeartbeats 2000000 in
theorem rmove_ok_14 (f0 f1 f2 f3 bo wa bu n : Int) (w : World) (hg : goodB f0 f1 f2 f3 bo wa bu = true) (hn0 : 0 ≤ n) (hn1 : n ≤ 1125899906842624) (hle : n ≤ f1) :
    Calls Try.prog 76 #[.agg #[.int .i64 f0, .int .i64 f1, .int .i64 f2, .int .i64 f3, .int .i64 bo, .int .i64 wa, .int .i64 bu], .int .i64 1, .int .i64 4, .int .i64 n] w fun e w' => e = .returned (.tuple #[.agg #[.int .i64 f0, .int .i64 (f1 - n), .int .i64 f2, .int .i64 f3, .int .i64 (bo + n), .int .i64 wa, .int .i64 bu], .int .i64 0]) ∧ Below w.heap.size w w' := by
  have hG := rgood_any f0 f1 f2 f3 bo wa bu
  rw [hg] at hG
  have hI := rin_any n
  rw [decide_eq_true ⟨hn0, hn1⟩] at hI
  unfold goodB at hg
  obtain ⟨g0, g1, g2, g3, g4, g5, g6, gs⟩ := of_decide_eq_true hg
  clear hg
  have k1 : wrap64 (f1 - n) = f1 - n := wrap64_small (by omega) (by omega)
  have k2 : wrap64 (bo + n) = bo + n := wrap64_small (by omega) (by omega)
  clear g0 g1 g2 g3 g4 g5 g6 gs hn0 hn1
  go_enter Try.func76, Try.ntmps76
  go_wp2_with fail
  refine (hG _).mono ?_
  rintro e w1 ⟨rfl, hb⟩
  have B1 := ((BAt.new w f0 f1 f2 f3 bo wa bu).alloc (.cells #[.int .i64 0, .int .i64 0, .int .i64 0, .int .i64 0, .int .i64 0, .int .i64 0, .int .i64 0] 24)).later hb (by simp; omega)
  have R1 : BAt w1 (w.heap.size + 1) 0 0 0 0 0 0 0 := by
    have := (BAt.new (w.alloc (.cells #[.int .i64 f0, .int .i64 f1, .int .i64 f2, .int .i64 f3, .int .i64 bo, .int .i64 wa, .int .i64 bu] 24)) 0 0 0 0 0 0 0).later hb (by simp)
    simpa using this
  have HB : Hid (Below w.heap.size w w1) := (((Below.refl _ w).alloc (Nat.le_refl _) _).alloc (by simp) _).trans (hb.mono (by simp; omega))
  clear hb
  obtain ⟨x0, x1, x2, x3, x4, x5, x6⟩ := B1.cells
  go_wp2_with (first
    | (go_at_call 55; refine (hI _).mono ?_; rintro e wI ⟨rfl, rfl⟩)
    | (go_at_call 78; refine (rplaces_any f0 f1 f2 f3 bo wa bu _).mono ?_; rintro e w2 ⟨rfl, h2⟩; have R2 := R1.later h2 R1.lt; have B2 := B1.later h2 B1.lt; have HB2 : Hid (Below w.heap.size w w2) := HB.out.trans (h2.mono HB.out.size); have hz2 : w.heap.size < w2.heap.size := B2.lt; have hz3 : w.heap.size + 1 < w2.heap.size := R2.lt; clear h2; clear B1 R1 HB B2 x0 x1 x2 x3 x4 x5 x6)
    | (go_at_call 79; refine (rbanked_any f0 (f1 - n) f2 f3 (bo + n) wa bu _).mono ?_; rintro e w3 ⟨rfl, h3⟩; have R3 := (R2.alloc _).later h3 (by simp; omega); have HB3 : Hid (Below w.heap.size w w3) := (HB2.out.alloc (Nat.le_of_lt hz2) _).trans (h3.mono (by simp; omega)); obtain ⟨u0, u1, u2, u3, u4, u5, u6⟩ := R3.frees; obtain ⟨v0, v1, v2, v3, v4, v5, v6⟩ := R3.cells; have HR3 : Hid (BAt w3 (w.heap.size + 1) 0 0 0 0 0 0 0) := R3; clear R2 R3 h3 HB2))
  exact rmove_end HR3.out HB3.out f0 (f1 - n) f2 f3 (bo + n) wa bu 0 _ rfl rfl rfl
set_option maxHeartbeats 2000000 in
theorem rmove_ok_24 (f0 f1 f2 f3 bo wa bu n : Int) (w : World) (hg : goodB f0 f1 f2 f3 bo wa bu = true) (hn0 : 0 ≤ n) (hn1 : n ≤ 1125899906842624) (hle : n ≤ f2) :
    Calls Try.prog 76 #[.agg #[.int .i64 f0, .int .i64 f1, .int .i64 f2, .int .i64 f3, .int .i64 bo, .int .i64 wa, .int .i64 bu], .int .i64 2, .int .i64 4, .int .i64 n] w fun e w' => e = .returned (.tuple #[.agg #[.int .i64 f0, .int .i64 f1, .int .i64 (f2 - n), .int .i64 f3, .int .i64 (bo + n), .int .i64 wa, .int .i64 bu], .int .i64 0]) ∧ Below w.heap.size w w' := by
  have hG := rgood_any f0 f1 f2 f3 bo wa bu
  rw [hg] at hG
  have hI := rin_any n
  rw [decide_eq_true ⟨hn0, hn1⟩] at hI
  unfold goodB at hg
  obtain ⟨g0, g1, g2, g3, g4, g5, g6, gs⟩ := of_decide_eq_true hg
  clear hg
  have k1 : wrap64 (f2 - n) = f2 - n := wrap64_small (by omega) (by omega)
  have k2 : wrap64 (bo + n) = bo + n := wrap64_small (by omega) (by omega)
  clear g0 g1 g2 g3 g4 g5 g6 gs hn0 hn1
  go_enter Try.func76, Try.ntmps76
  go_wp2_with fail
  refine (hG _).mono ?_
  rintro e w1 ⟨rfl, hb⟩
  have B1 := ((BAt.new w f0 f1 f2 f3 bo wa bu).alloc (.cells #[.int .i64 0, .int .i64 0, .int .i64 0, .int .i64 0, .int .i64 0, .int .i64 0, .int .i64 0] 24)).later hb (by simp; omega)
  have R1 : BAt w1 (w.heap.size + 1) 0 0 0 0 0 0 0 := by
    have := (BAt.new (w.alloc (.cells #[.int .i64 f0, .int .i64 f1, .int .i64 f2, .int .i64 f3, .int .i64 bo, .int .i64 wa, .int .i64 bu] 24)) 0 0 0 0 0 0 0).later hb (by simp)
    simpa using this
  have HB : Hid (Below w.heap.size w w1) := (((Below.refl _ w).alloc (Nat.le_refl _) _).alloc (by simp) _).trans (hb.mono (by simp; omega))
  clear hb
  obtain ⟨x0, x1, x2, x3, x4, x5, x6⟩ := B1.cells
  go_wp2_with (first
    | (go_at_call 55; refine (hI _).mono ?_; rintro e wI ⟨rfl, rfl⟩)
    | (go_at_call 78; refine (rplaces_any f0 f1 f2 f3 bo wa bu _).mono ?_; rintro e w2 ⟨rfl, h2⟩; have R2 := R1.later h2 R1.lt; have B2 := B1.later h2 B1.lt; have HB2 : Hid (Below w.heap.size w w2) := HB.out.trans (h2.mono HB.out.size); have hz2 : w.heap.size < w2.heap.size := B2.lt; have hz3 : w.heap.size + 1 < w2.heap.size := R2.lt; clear h2; clear B1 R1 HB B2 x0 x1 x2 x3 x4 x5 x6)
    | (go_at_call 79; refine (rbanked_any f0 f1 (f2 - n) f3 (bo + n) wa bu _).mono ?_; rintro e w3 ⟨rfl, h3⟩; have R3 := (R2.alloc _).later h3 (by simp; omega); have HB3 : Hid (Below w.heap.size w w3) := (HB2.out.alloc (Nat.le_of_lt hz2) _).trans (h3.mono (by simp; omega)); obtain ⟨u0, u1, u2, u3, u4, u5, u6⟩ := R3.frees; obtain ⟨v0, v1, v2, v3, v4, v5, v6⟩ := R3.cells; have HR3 : Hid (BAt w3 (w.heap.size + 1) 0 0 0 0 0 0 0) := R3; clear R2 R3 h3 HB2))
  exact rmove_end HR3.out HB3.out f0 f1 (f2 - n) f3 (bo + n) wa bu 0 _ rfl rfl rfl
set_option maxHeartbeats 2000000 in
theorem rmove_ok_34 (f0 f1 f2 f3 bo wa bu n : Int) (w : World) (hg : goodB f0 f1 f2 f3 bo wa bu = true) (hn0 : 0 ≤ n) (hn1 : n ≤ 1125899906842624) (hle : n ≤ f3) :
    Calls Try.prog 76 #[.agg #[.int .i64 f0, .int .i64 f1, .int .i64 f2, .int .i64 f3, .int .i64 bo, .int .i64 wa, .int .i64 bu], .int .i64 3, .int .i64 4, .int .i64 n] w fun e w' => e = .returned (.tuple #[.agg #[.int .i64 f0, .int .i64 f1, .int .i64 f2, .int .i64 (f3 - n), .int .i64 (bo + n), .int .i64 wa, .int .i64 bu], .int .i64 0]) ∧ Below w.heap.size w w' := by
  have hG := rgood_any f0 f1 f2 f3 bo wa bu
  rw [hg] at hG
  have hI := rin_any n
  rw [decide_eq_true ⟨hn0, hn1⟩] at hI
  unfold goodB at hg
  obtain ⟨g0, g1, g2, g3, g4, g5, g6, gs⟩ := of_decide_eq_true hg
  clear hg
  have k1 : wrap64 (f3 - n) = f3 - n := wrap64_small (by omega) (by omega)
  have k2 : wrap64 (bo + n) = bo + n := wrap64_small (by omega) (by omega)
  clear g0 g1 g2 g3 g4 g5 g6 gs hn0 hn1
  go_enter Try.func76, Try.ntmps76
  go_wp2_with fail
  refine (hG _).mono ?_
  rintro e w1 ⟨rfl, hb⟩
  have B1 := ((BAt.new w f0 f1 f2 f3 bo wa bu).alloc (.cells #[.int .i64 0, .int .i64 0, .int .i64 0, .int .i64 0, .int .i64 0, .int .i64 0, .int .i64 0] 24)).later hb (by simp; omega)
  have R1 : BAt w1 (w.heap.size + 1) 0 0 0 0 0 0 0 := by
    have := (BAt.new (w.alloc (.cells #[.int .i64 f0, .int .i64 f1, .int .i64 f2, .int .i64 f3, .int .i64 bo, .int .i64 wa, .int .i64 bu] 24)) 0 0 0 0 0 0 0).later hb (by simp)
    simpa using this
  have HB : Hid (Below w.heap.size w w1) := (((Below.refl _ w).alloc (Nat.le_refl _) _).alloc (by simp) _).trans (hb.mono (by simp; omega))
  clear hb
  obtain ⟨x0, x1, x2, x3, x4, x5, x6⟩ := B1.cells
  go_wp2_with (first
    | (go_at_call 55; refine (hI _).mono ?_; rintro e wI ⟨rfl, rfl⟩)
    | (go_at_call 78; refine (rplaces_any f0 f1 f2 f3 bo wa bu _).mono ?_; rintro e w2 ⟨rfl, h2⟩; have R2 := R1.later h2 R1.lt; have B2 := B1.later h2 B1.lt; have HB2 : Hid (Below w.heap.size w w2) := HB.out.trans (h2.mono HB.out.size); have hz2 : w.heap.size < w2.heap.size := B2.lt; have hz3 : w.heap.size + 1 < w2.heap.size := R2.lt; clear h2; clear B1 R1 HB B2 x0 x1 x2 x3 x4 x5 x6)
    | (go_at_call 79; refine (rbanked_any f0 f1 f2 (f3 - n) (bo + n) wa bu _).mono ?_; rintro e w3 ⟨rfl, h3⟩; have R3 := (R2.alloc _).later h3 (by simp; omega); have HB3 : Hid (Below w.heap.size w w3) := (HB2.out.alloc (Nat.le_of_lt hz2) _).trans (h3.mono (by simp; omega)); obtain ⟨u0, u1, u2, u3, u4, u5, u6⟩ := R3.frees; obtain ⟨v0, v1, v2, v3, v4, v5, v6⟩ := R3.cells; have HR3 : Hid (BAt w3 (w.heap.size + 1) 0 0 0 0 0 0 0) := R3; clear R2 R3 h3 HB2))
  exact rmove_end HR3.out HB3.out f0 f1 f2 (f3 - n) (bo + n) wa bu 0 _ rfl rfl rfl
end Go.Proofs.Ytookecjeknpheac
namespace Go.Proofs.Ytookecjeknpheac
open Go.RowKit
set_option maxHeartbeats 2000000 in
theorem rmove_ok_50 (f0 f1 f2 f3 bo wa bu n : Int) (w : World) (hg : goodB f0 f1 f2 f3 bo wa bu = true) (hn0 : 0 ≤ n) (hn1 : n ≤ 1125899906842624) (hle : n ≤ wa) :
    Calls Try.prog 76 #[.agg #[.int .i64 f0, .int .i64 f1, .int .i64 f2, .int .i64 f3, .int .i64 bo, .int .i64 wa, .int .i64 bu], .int .i64 5, .int .i64 0, .int .i64 n] w fun e w' => e = .returned (.tuple #[.agg #[.int .i64 (f0 + n), .int .i64 f1, .int .i64 f2, .int .i64 f3, .int .i64 bo, .int .i64 (wa - n), .int .i64 bu], .int .i64 0]) ∧ Below w.heap.size w w' := by
  have hG := rgood_any f0 f1 f2 f3 bo wa bu
  rw [hg] at hG
  have hI := rin_any n
  rw [decide_eq_true ⟨hn0, hn1⟩] at hI
  unfold goodB at hg
  obtain ⟨g0, g1, g2, g3, g4, g5, g6, gs⟩ := of_decide_eq_true hg
  clear hg
  have k1 : wrap64 (wa - n) = wa - n := wrap64_small (by omega) (by omega)
  have k2 : wrap64 (f0 + n) = f0 + n := wrap64_small (by omega) (by omega)
  clear g0 g1 g2 g3 g4 g5 g6 gs hn0 hn1
  go_enter Try.func76, Try.ntmps76
  go_wp2_with fail
  refine (hG _).mono ?_
  rintro e w1 ⟨rfl, hb⟩
  have B1 := ((BAt.new w f0 f1 f2 f3 bo wa bu).alloc (.cells #[.int .i64 0, .int .i64 0, .int .i64 0, .int .i64 0, .int .i64 0, .int .i64 0, .int .i64 0] 24)).later hb (by simp; omega)
  have R1 : BAt w1 (w.heap.size + 1) 0 0 0 0 0 0 0 := by
    have := (BAt.new (w.alloc (.cells #[.int .i64 f0, .int .i64 f1, .int .i64 f2, .int .i64 f3, .int .i64 bo, .int .i64 wa, .int .i64 bu] 24)) 0 0 0 0 0 0 0).later hb (by simp)
    simpa using this
  have HB : Hid (Below w.heap.size w w1) := (((Below.refl _ w).alloc (Nat.le_refl _) _).alloc (by simp) _).trans (hb.mono (by simp; omega))
  clear hb
  obtain ⟨x0, x1, x2, x3, x4, x5, x6⟩ := B1.cells
  go_wp2_with (first
    | (go_at_call 55; refine (hI _).mono ?_; rintro e wI ⟨rfl, rfl⟩)
    | (go_at_call 78; refine (rplaces_any f0 f1 f2 f3 bo wa bu _).mono ?_; rintro e w2 ⟨rfl, h2⟩; have R2 := R1.later h2 R1.lt; have B2 := B1.later h2 B1.lt; have HB2 : Hid (Below w.heap.size w w2) := HB.out.trans (h2.mono HB.out.size); have hz2 : w.heap.size < w2.heap.size := B2.lt; have hz3 : w.heap.size + 1 < w2.heap.size := R2.lt; clear h2; clear B1 R1 HB B2 x0 x1 x2 x3 x4 x5 x6)
    | (go_at_call 79; refine (rbanked_any (f0 + n) f1 f2 f3 bo (wa - n) bu _).mono ?_; rintro e w3 ⟨rfl, h3⟩; have R3 := (R2.alloc _).later h3 (by simp; omega); have HB3 : Hid (Below w.heap.size w w3) := (HB2.out.alloc (Nat.le_of_lt hz2) _).trans (h3.mono (by simp; omega)); obtain ⟨u0, u1, u2, u3, u4, u5, u6⟩ := R3.frees; obtain ⟨v0, v1, v2, v3, v4, v5, v6⟩ := R3.cells; have HR3 : Hid (BAt w3 (w.heap.size + 1) 0 0 0 0 0 0 0) := R3; clear R2 R3 h3 HB2))
  exact rmove_end HR3.out HB3.out (f0 + n) f1 f2 f3 bo (wa - n) bu 0 _ rfl rfl rfl
set_option maxHeartbeats 2000000 in
theorem rmove_ok_51 (f0 f1 f2 f3 bo wa bu n : Int) (w : World) (hg : goodB f0 f1 f2 f3 bo wa bu = true) (hn0 : 0 ≤ n) (hn1 : n ≤ 1125899906842624) (hle : n ≤ wa) :
    Calls Try.prog 76 #[.agg #[.int .i64 f0, .int .i64 f1, .int .i64 f2, .int .i64 f3, .int .i64 bo, .int .i64 wa, .int .i64 bu], .int .i64 5, .int .i64 1, .int .i64 n] w fun e w' => e = .returned (.tuple #[.agg #[.int .i64 f0, .int .i64 (f1 + n), .int .i64 f2, .int .i64 f3, .int .i64 bo, .int .i64 (wa - n), .int .i64 bu], .int .i64 0]) ∧ Below w.heap.size w w' := by
  have hG := rgood_any f0 f1 f2 f3 bo wa bu
  rw [hg] at hG
  have hI := rin_any n
  rw [decide_eq_true ⟨hn0, hn1⟩] at hI
  unfold goodB at hg
  obtain ⟨g0, g1, g2, g3, g4, g5, g6, gs⟩ := of_decide_eq_true hg
  clear hg
  have k1 : wrap64 (wa - n) = wa - n := wrap64_small (by omega) (by omega)
  have k2 : wrap64 (f1 + n) = f1 + n := wrap64_small (by omega) (by omega)
  clear g0 g1 g2 g3 g4 g5 g6 gs hn0 hn1
  go_enter Try.func76, Try.ntmps76
  go_wp2_with fail
  refine (hG _).mono ?_
  rintro e w1 ⟨rfl, hb⟩
  have B1 := ((BAt.new w f0 f1 f2 f3 bo wa bu).alloc (.cells #[.int .i64 0, .int .i64 0, .int .i64 0, .int .i64 0, .int .i64 0, .int .i64 0, .int .i64 0] 24)).later hb (by simp; omega)
  have R1 : BAt w1 (w.heap.size + 1) 0 0 0 0 0 0 0 := by
    have := (BAt.new (w.alloc (.cells #[.int .i64 f0, .int .i64 f1, .int .i64 f2, .int .i64 f3, .int .i64 bo, .int .i64 wa, .int .i64 bu] 24)) 0 0 0 0 0 0 0).later hb (by simp)
    simpa using this
  have HB : Hid (Below w.heap.size w w1) := (((Below.refl _ w).alloc (Nat.le_refl _) _).alloc (by simp) _).trans (hb.mono (by simp; omega))
  clear hb
  obtain ⟨x0, x1, x2, x3, x4, x5, x6⟩ := B1.cells
  go_wp2_with (first
    | (go_at_call 55; refine (hI _).mono ?_; rintro e wI ⟨rfl, rfl⟩)
    | (go_at_call 78; refine (rplaces_any f0 f1 f2 f3 bo wa bu _).mono ?_; rintro e w2 ⟨rfl, h2⟩; have R2 := R1.later h2 R1.lt; have B2 := B1.later h2 B1.lt; have HB2 : Hid (Below w.heap.size w w2) := HB.out.trans (h2.mono HB.out.size); have hz2 : w.heap.size < w2.heap.size := B2.lt; have hz3 : w.heap.size + 1 < w2.heap.size := R2.lt; clear h2; clear B1 R1 HB B2 x0 x1 x2 x3 x4 x5 x6)
    | (go_at_call 79; refine (rbanked_any f0 (f1 + n) f2 f3 bo (wa - n) bu _).mono ?_; rintro e w3 ⟨rfl, h3⟩; have R3 := (R2.alloc _).later h3 (by simp; omega); have HB3 : Hid (Below w.heap.size w w3) := (HB2.out.alloc (Nat.le_of_lt hz2) _).trans (h3.mono (by simp; omega)); obtain ⟨u0, u1, u2, u3, u4, u5, u6⟩ := R3.frees; obtain ⟨v0, v1, v2, v3, v4, v5, v6⟩ := R3.cells; have HR3 : Hid (BAt w3 (w.heap.size + 1) 0 0 0 0 0 0 0) := R3; clear R2 R3 h3 HB2))
  exact rmove_end HR3.out HB3.out f0 (f1 + n) f2 f3 bo (wa - n) bu 0 _ rfl rfl rfl
set_option maxHeartbeats 2000000 in
theorem rmove_ok_52 (f0 f1 f2 f3 bo wa bu n : Int) (w : World) (hg : goodB f0 f1 f2 f3 bo wa bu = true) (hn0 : 0 ≤ n) (hn1 : n ≤ 1125899906842624) (hle : n ≤ wa) :
    Calls Try.prog 76 #[.agg #[.int .i64 f0, .int .i64 f1, .int .i64 f2, .int .i64 f3, .int .i64 bo, .int .i64 wa, .int .i64 bu], .int .i64 5, .int .i64 2, .int .i64 n] w fun e w' => e = .returned (.tuple #[.agg #[.int .i64 f0, .int .i64 f1, .int .i64 (f2 + n), .int .i64 f3, .int .i64 bo, .int .i64 (wa - n), .int .i64 bu], .int .i64 0]) ∧ Below w.heap.size w w' := by
  have hG := rgood_any f0 f1 f2 f3 bo wa bu
  rw [hg] at hG
  have hI := rin_any n
  rw [decide_eq_true ⟨hn0, hn1⟩] at hI
  unfold goodB at hg
  obtain ⟨g0, g1, g2, g3, g4, g5, g6, gs⟩ := of_decide_eq_true hg
  clear hg
  have k1 : wrap64 (wa - n) = wa - n := wrap64_small (by omega) (by omega)
  have k2 : wrap64 (f2 + n) = f2 + n := wrap64_small (by omega) (by omega)
  clear g0 g1 g2 g3 g4 g5 g6 gs hn0 hn1
  go_enter Try.func76, Try.ntmps76
  go_wp2_with fail
  refine (hG _).mono ?_
  rintro e w1 ⟨rfl, hb⟩
  have B1 := ((BAt.new w f0 f1 f2 f3 bo wa bu).alloc (.cells #[.int .i64 0, .int .i64 0, .int .i64 0, .int .i64 0, .int .i64 0, .int .i64 0, .int .i64 0] 24)).later hb (by simp; omega)
  have R1 : BAt w1 (w.heap.size + 1) 0 0 0 0 0 0 0 := by
    have := (BAt.new (w.alloc (.cells #[.int .i64 f0, .int .i64 f1, .int .i64 f2, .int .i64 f3, .int .i64 bo, .int .i64 wa, .int .i64 bu] 24)) 0 0 0 0 0 0 0).later hb (by simp)
    simpa using this
  have HB : Hid (Below w.heap.size w w1) := (((Below.refl _ w).alloc (Nat.le_refl _) _).alloc (by simp) _).trans (hb.mono (by simp; omega))
  clear hb
  obtain ⟨x0, x1, x2, x3, x4, x5, x6⟩ := B1.cells
  go_wp2_with (first
    | (go_at_call 55; refine (hI _).mono ?_; rintro e wI ⟨rfl, rfl⟩)
    | (go_at_call 78; refine (rplaces_any f0 f1 f2 f3 bo wa bu _).mono ?_; rintro e w2 ⟨rfl, h2⟩; have R2 := R1.later h2 R1.lt; have B2 := B1.later h2 B1.lt; have HB2 : Hid (Below w.heap.size w w2) := HB.out.trans (h2.mono HB.out.size); have hz2 : w.heap.size < w2.heap.size := B2.lt; have hz3 : w.heap.size + 1 < w2.heap.size := R2.lt; clear h2; clear B1 R1 HB B2 x0 x1 x2 x3 x4 x5 x6)
    | (go_at_call 79; refine (rbanked_any f0 f1 (f2 + n) f3 bo (wa - n) bu _).mono ?_; rintro e w3 ⟨rfl, h3⟩; have R3 := (R2.alloc _).later h3 (by simp; omega); have HB3 : Hid (Below w.heap.size w w3) := (HB2.out.alloc (Nat.le_of_lt hz2) _).trans (h3.mono (by simp; omega)); obtain ⟨u0, u1, u2, u3, u4, u5, u6⟩ := R3.frees; obtain ⟨v0, v1, v2, v3, v4, v5, v6⟩ := R3.cells; have HR3 : Hid (BAt w3 (w.heap.size + 1) 0 0 0 0 0 0 0) := R3; clear R2 R3 h3 HB2))
  exact rmove_end HR3.out HB3.out f0 f1 (f2 + n) f3 bo (wa - n) bu 0 _ rfl rfl rfl
set_option maxHeartbeats 2000000 in
theorem rmove_ok_53 (f0 f1 f2 f3 bo wa bu n : Int) (w : World) (hg : goodB f0 f1 f2 f3 bo wa bu = true) (hn0 : 0 ≤ n) (hn1 : n ≤ 1125899906842624) (hle : n ≤ wa) :
    Calls Try.prog 76 #[.agg #[.int .i64 f0, .int .i64 f1, .int .i64 f2, .int .i64 f3, .int .i64 bo, .int .i64 wa, .int .i64 bu], .int .i64 5, .int .i64 3, .int .i64 n] w fun e w' => e = .returned (.tuple #[.agg #[.int .i64 f0, .int .i64 f1, .int .i64 f2, .int .i64 (f3 + n), .int .i64 bo, .int .i64 (wa - n), .int .i64 bu], .int .i64 0]) ∧ Below w.heap.size w w' := by
  have hG := rgood_any f0 f1 f2 f3 bo wa bu
  rw [hg] at hG
  have hI := rin_any n
  rw [decide_eq_true ⟨hn0, hn1⟩] at hI
  unfold goodB at hg
  obtain ⟨g0, g1, g2, g3, g4, g5, g6, gs⟩ := of_decide_eq_true hg
  clear hg
  have k1 : wrap64 (wa - n) = wa - n := wrap64_small (by omega) (by omega)
  have k2 : wrap64 (f3 + n) = f3 + n := wrap64_small (by omega) (by omega)
  clear g0 g1 g2 g3 g4 g5 g6 gs hn0 hn1
  go_enter Try.func76, Try.ntmps76
  go_wp2_with fail
  refine (hG _).mono ?_
  rintro e w1 ⟨rfl, hb⟩
  have B1 := ((BAt.new w f0 f1 f2 f3 bo wa bu).alloc (.cells #[.int .i64 0, .int .i64 0, .int .i64 0, .int .i64 0, .int .i64 0, .int .i64 0, .int .i64 0] 24)).later hb (by simp; omega)
  have R1 : BAt w1 (w.heap.size + 1) 0 0 0 0 0 0 0 := by
    have := (BAt.new (w.alloc (.cells #[.int .i64 f0, .int .i64 f1, .int .i64 f2, .int .i64 f3, .int .i64 bo, .int .i64 wa, .int .i64 bu] 24)) 0 0 0 0 0 0 0).later hb (by simp)
    simpa using this
  have HB : Hid (Below w.heap.size w w1) := (((Below.refl _ w).alloc (Nat.le_refl _) _).alloc (by simp) _).trans (hb.mono (by simp; omega))
  clear hb
  obtain ⟨x0, x1, x2, x3, x4, x5, x6⟩ := B1.cells
  go_wp2_with (first
    | (go_at_call 55; refine (hI _).mono ?_; rintro e wI ⟨rfl, rfl⟩)
    | (go_at_call 78; refine (rplaces_any f0 f1 f2 f3 bo wa bu _).mono ?_; rintro e w2 ⟨rfl, h2⟩; have R2 := R1.later h2 R1.lt; have B2 := B1.later h2 B1.lt; have HB2 : Hid (Below w.heap.size w w2) := HB.out.trans (h2.mono HB.out.size); have hz2 : w.heap.size < w2.heap.size := B2.lt; have hz3 : w.heap.size + 1 < w2.heap.size := R2.lt; clear h2; clear B1 R1 HB B2 x0 x1 x2 x3 x4 x5 x6)
    | (go_at_call 79; refine (rbanked_any f0 f1 f2 (f3 + n) bo (wa - n) bu _).mono ?_; rintro e w3 ⟨rfl, h3⟩; have R3 := (R2.alloc _).later h3 (by simp; omega); have HB3 : Hid (Below w.heap.size w w3) := (HB2.out.alloc (Nat.le_of_lt hz2) _).trans (h3.mono (by simp; omega)); obtain ⟨u0, u1, u2, u3, u4, u5, u6⟩ := R3.frees; obtain ⟨v0, v1, v2, v3, v4, v5, v6⟩ := R3.cells; have HR3 : Hid (BAt w3 (w.heap.size + 1) 0 0 0 0 0 0 0) := R3; clear R2 R3 h3 HB2))
  exact rmove_end HR3.out HB3.out f0 f1 f2 (f3 + n) bo (wa - n) bu 0 _ rfl rfl rfl
end Go.Proofs.Ytookecjeknpheac
namespace Go.Proofs.Ytookecjeknpheac
open Go.RowKit
set_option maxHeartbeats 2000000 in
theorem rmove_ok_45 (f0 f1 f2 f3 bo wa bu n : Int) (w : World) (hg : goodB f0 f1 f2 f3 bo wa bu = true) (hn0 : 0 ≤ n) (hn1 : n ≤ 1125899906842624) (hle : n ≤ bo) :
    Calls Try.prog 76 #[.agg #[.int .i64 f0, .int .i64 f1, .int .i64 f2, .int .i64 f3, .int .i64 bo, .int .i64 wa, .int .i64 bu], .int .i64 4, .int .i64 5, .int .i64 n] w fun e w' => e = .returned (.tuple #[.agg #[.int .i64 f0, .int .i64 f1, .int .i64 f2, .int .i64 f3, .int .i64 (bo - n), .int .i64 (wa + n), .int .i64 bu], .int .i64 0]) ∧ Below w.heap.size w w' := by
  have hG := rgood_any f0 f1 f2 f3 bo wa bu
  rw [hg] at hG
  have hI := rin_any n
  rw [decide_eq_true ⟨hn0, hn1⟩] at hI
  unfold goodB at hg
  obtain ⟨g0, g1, g2, g3, g4, g5, g6, gs⟩ := of_decide_eq_true hg
  clear hg
  have k1 : wrap64 (bo - n) = bo - n := wrap64_small (by omega) (by omega)
  have k2 : wrap64 (wa + n) = wa + n := wrap64_small (by omega) (by omega)
  clear g0 g1 g2 g3 g4 g5 g6 gs hn0 hn1
  go_enter Try.func76, Try.ntmps76
  go_wp2_with fail
  refine (hG _).mono ?_
  rintro e w1 ⟨rfl, hb⟩
  have B1 := ((BAt.new w f0 f1 f2 f3 bo wa bu).alloc (.cells #[.int .i64 0, .int .i64 0, .int .i64 0, .int .i64 0, .int .i64 0, .int .i64 0, .int .i64 0] 24)).later hb (by simp; omega)
  have R1 : BAt w1 (w.heap.size + 1) 0 0 0 0 0 0 0 := by
    have := (BAt.new (w.alloc (.cells #[.int .i64 f0, .int .i64 f1, .int .i64 f2, .int .i64 f3, .int .i64 bo, .int .i64 wa, .int .i64 bu] 24)) 0 0 0 0 0 0 0).later hb (by simp)
    simpa using this
  have HB : Hid (Below w.heap.size w w1) := (((Below.refl _ w).alloc (Nat.le_refl _) _).alloc (by simp) _).trans (hb.mono (by simp; omega))
  clear hb
  obtain ⟨x0, x1, x2, x3, x4, x5, x6⟩ := B1.cells
  go_wp2_with (first
    | (go_at_call 55; refine (hI _).mono ?_; rintro e wI ⟨rfl, rfl⟩)
    | (go_at_call 78; refine (rplaces_any f0 f1 f2 f3 bo wa bu _).mono ?_; rintro e w2 ⟨rfl, h2⟩; have R2 := R1.later h2 R1.lt; have B2 := B1.later h2 B1.lt; have HB2 : Hid (Below w.heap.size w w2) := HB.out.trans (h2.mono HB.out.size); have hz2 : w.heap.size < w2.heap.size := B2.lt; have hz3 : w.heap.size + 1 < w2.heap.size := R2.lt; clear h2; clear B1 R1 HB B2 x0 x1 x2 x3 x4 x5 x6)
    | (go_at_call 79; refine (rbanked_any f0 f1 f2 f3 (bo - n) (wa + n) bu _).mono ?_; rintro e w3 ⟨rfl, h3⟩; have R3 := (R2.alloc _).later h3 (by simp; omega); have HB3 : Hid (Below w.heap.size w w3) := (HB2.out.alloc (Nat.le_of_lt hz2) _).trans (h3.mono (by simp; omega)); obtain ⟨u0, u1, u2, u3, u4, u5, u6⟩ := R3.frees; obtain ⟨v0, v1, v2, v3, v4, v5, v6⟩ := R3.cells; have HR3 : Hid (BAt w3 (w.heap.size + 1) 0 0 0 0 0 0 0) := R3; clear R2 R3 h3 HB2))
  exact rmove_end HR3.out HB3.out f0 f1 f2 f3 (bo - n) (wa + n) bu 0 _ rfl rfl rfl
set_option maxHeartbeats 2000000 in
theorem rmove_ok_46 (f0 f1 f2 f3 bo wa bu n : Int) (w : World) (hg : goodB f0 f1 f2 f3 bo wa bu = true) (hn0 : 0 ≤ n) (hn1 : n ≤ 1125899906842624) (hle : n ≤ bo) :
    Calls Try.prog 76 #[.agg #[.int .i64 f0, .int .i64 f1, .int .i64 f2, .int .i64 f3, .int .i64 bo, .int .i64 wa, .int .i64 bu], .int .i64 4, .int .i64 6, .int .i64 n] w fun e w' => e = .returned (.tuple #[.agg #[.int .i64 f0, .int .i64 f1, .int .i64 f2, .int .i64 f3, .int .i64 (bo - n), .int .i64 wa, .int .i64 (bu + n)], .int .i64 0]) ∧ Below w.heap.size w w' := by
  have hG := rgood_any f0 f1 f2 f3 bo wa bu
  rw [hg] at hG
  have hI := rin_any n
  rw [decide_eq_true ⟨hn0, hn1⟩] at hI
  unfold goodB at hg
  obtain ⟨g0, g1, g2, g3, g4, g5, g6, gs⟩ := of_decide_eq_true hg
  clear hg
  have k1 : wrap64 (bo - n) = bo - n := wrap64_small (by omega) (by omega)
  have k2 : wrap64 (bu + n) = bu + n := wrap64_small (by omega) (by omega)
  clear g0 g1 g2 g3 g4 g5 g6 gs hn0 hn1
  go_enter Try.func76, Try.ntmps76
  go_wp2_with fail
  refine (hG _).mono ?_
  rintro e w1 ⟨rfl, hb⟩
  have B1 := ((BAt.new w f0 f1 f2 f3 bo wa bu).alloc (.cells #[.int .i64 0, .int .i64 0, .int .i64 0, .int .i64 0, .int .i64 0, .int .i64 0, .int .i64 0] 24)).later hb (by simp; omega)
  have R1 : BAt w1 (w.heap.size + 1) 0 0 0 0 0 0 0 := by
    have := (BAt.new (w.alloc (.cells #[.int .i64 f0, .int .i64 f1, .int .i64 f2, .int .i64 f3, .int .i64 bo, .int .i64 wa, .int .i64 bu] 24)) 0 0 0 0 0 0 0).later hb (by simp)
    simpa using this
  have HB : Hid (Below w.heap.size w w1) := (((Below.refl _ w).alloc (Nat.le_refl _) _).alloc (by simp) _).trans (hb.mono (by simp; omega))
  clear hb
  obtain ⟨x0, x1, x2, x3, x4, x5, x6⟩ := B1.cells
  go_wp2_with (first
    | (go_at_call 55; refine (hI _).mono ?_; rintro e wI ⟨rfl, rfl⟩)
    | (go_at_call 78; refine (rplaces_any f0 f1 f2 f3 bo wa bu _).mono ?_; rintro e w2 ⟨rfl, h2⟩; have R2 := R1.later h2 R1.lt; have B2 := B1.later h2 B1.lt; have HB2 : Hid (Below w.heap.size w w2) := HB.out.trans (h2.mono HB.out.size); have hz2 : w.heap.size < w2.heap.size := B2.lt; have hz3 : w.heap.size + 1 < w2.heap.size := R2.lt; clear h2; clear B1 R1 HB B2 x0 x1 x2 x3 x4 x5 x6)
    | (go_at_call 79; refine (rbanked_any f0 f1 f2 f3 (bo - n) wa (bu + n) _).mono ?_; rintro e w3 ⟨rfl, h3⟩; have R3 := (R2.alloc _).later h3 (by simp; omega); have HB3 : Hid (Below w.heap.size w w3) := (HB2.out.alloc (Nat.le_of_lt hz2) _).trans (h3.mono (by simp; omega)); obtain ⟨u0, u1, u2, u3, u4, u5, u6⟩ := R3.frees; obtain ⟨v0, v1, v2, v3, v4, v5, v6⟩ := R3.cells; have HR3 : Hid (BAt w3 (w.heap.size + 1) 0 0 0 0 0 0 0) := R3; clear R2 R3 h3 HB2))
  exact rmove_end HR3.out HB3.out f0 f1 f2 f3 (bo - n) wa (bu + n) 0 _ rfl rfl rfl
set_option maxHeartbeats 2000000 in
theorem rmove_ok_56 (f0 f1 f2 f3 bo wa bu n : Int) (w : World) (hg : goodB f0 f1 f2 f3 bo wa bu = true) (hn0 : 0 ≤ n) (hn1 : n ≤ 1125899906842624) (hle : n ≤ wa) :
    Calls Try.prog 76 #[.agg #[.int .i64 f0, .int .i64 f1, .int .i64 f2, .int .i64 f3, .int .i64 bo, .int .i64 wa, .int .i64 bu], .int .i64 5, .int .i64 6, .int .i64 n] w fun e w' => e = .returned (.tuple #[.agg #[.int .i64 f0, .int .i64 f1, .int .i64 f2, .int .i64 f3, .int .i64 bo, .int .i64 (wa - n), .int .i64 (bu + n)], .int .i64 0]) ∧ Below w.heap.size w w' := by
  have hG := rgood_any f0 f1 f2 f3 bo wa bu
  rw [hg] at hG
  have hI := rin_any n
  rw [decide_eq_true ⟨hn0, hn1⟩] at hI
  unfold goodB at hg
  obtain ⟨g0, g1, g2, g3, g4, g5, g6, gs⟩ := of_decide_eq_true hg
  clear hg
  have k1 : wrap64 (wa - n) = wa - n := wrap64_small (by omega) (by omega)
  have k2 : wrap64 (bu + n) = bu + n := wrap64_small (by omega) (by omega)
  clear g0 g1 g2 g3 g4 g5 g6 gs hn0 hn1
  go_enter Try.func76, Try.ntmps76
  go_wp2_with fail
  refine (hG _).mono ?_
  rintro e w1 ⟨rfl, hb⟩
  have B1 := ((BAt.new w f0 f1 f2 f3 bo wa bu).alloc (.cells #[.int .i64 0, .int .i64 0, .int .i64 0, .int .i64 0, .int .i64 0, .int .i64 0, .int .i64 0] 24)).later hb (by simp; omega)
  have R1 : BAt w1 (w.heap.size + 1) 0 0 0 0 0 0 0 := by
    have := (BAt.new (w.alloc (.cells #[.int .i64 f0, .int .i64 f1, .int .i64 f2, .int .i64 f3, .int .i64 bo, .int .i64 wa, .int .i64 bu] 24)) 0 0 0 0 0 0 0).later hb (by simp)
    simpa using this
  have HB : Hid (Below w.heap.size w w1) := (((Below.refl _ w).alloc (Nat.le_refl _) _).alloc (by simp) _).trans (hb.mono (by simp; omega))
  clear hb
  obtain ⟨x0, x1, x2, x3, x4, x5, x6⟩ := B1.cells
  go_wp2_with (first
    | (go_at_call 55; refine (hI _).mono ?_; rintro e wI ⟨rfl, rfl⟩)
    | (go_at_call 78; refine (rplaces_any f0 f1 f2 f3 bo wa bu _).mono ?_; rintro e w2 ⟨rfl, h2⟩; have R2 := R1.later h2 R1.lt; have B2 := B1.later h2 B1.lt; have HB2 : Hid (Below w.heap.size w w2) := HB.out.trans (h2.mono HB.out.size); have hz2 : w.heap.size < w2.heap.size := B2.lt; have hz3 : w.heap.size + 1 < w2.heap.size := R2.lt; clear h2; clear B1 R1 HB B2 x0 x1 x2 x3 x4 x5 x6)
    | (go_at_call 79; refine (rbanked_any f0 f1 f2 f3 bo (wa - n) (bu + n) _).mono ?_; rintro e w3 ⟨rfl, h3⟩; have R3 := (R2.alloc _).later h3 (by simp; omega); have HB3 : Hid (Below w.heap.size w w3) := (HB2.out.alloc (Nat.le_of_lt hz2) _).trans (h3.mono (by simp; omega)); obtain ⟨u0, u1, u2, u3, u4, u5, u6⟩ := R3.frees; obtain ⟨v0, v1, v2, v3, v4, v5, v6⟩ := R3.cells; have HR3 : Hid (BAt w3 (w.heap.size + 1) 0 0 0 0 0 0 0) := R3; clear R2 R3 h3 HB2))
  exact rmove_end HR3.out HB3.out f0 f1 f2 f3 bo (wa - n) (bu + n) 0 _ rfl rfl rfl
end Go.Proofs.Ytookecjeknpheac
namespace Go.Proofs.Ytookecjeknpheac
open Go.RowKit
theorem rbond_end {w wq : World} (R : BAt wq (w.heap.size + 1) 0 0 0 0 0 0 0) (H : Below w.heap.size w wq) (r0 r1 r2 r3 r4 r5 r6 er : Int) (act : Act)
    (h8 : act.tmps.getD 6 undef = .pointer (some ⟨w.heap.size + 1, 0, none⟩)) (h9 : act.tmps.getD 7 undef = .int .i64 er) (hd : act.defers = []) :
    bodyPost Try.prog Try.f49 (fun e w' => e = .returned (.tuple #[.agg #[.int .i64 r0, .int .i64 r1, .int .i64 r2, .int .i64 r3, .int .i64 r4, .int .i64 r5, .int .i64 r6], .int .i64 er]) ∧ Below w.heap.size w w') Exit.ret act
      (set7 wq (w.heap.size + 1) r0 r1 r2 r3 r4 r5 r6) := by
  have HR := R.set7 r0 r1 r2 r3 r4 r5 r6
  have HW := set7_below (b := w.heap.size + 1) H (by omega) r0 r1 r2 r3 r4 r5 r6
  generalize set7 wq (w.heap.size + 1) r0 r1 r2 r3 r4 r5 r6 = w9 at *
  obtain ⟨u0, u1, u2, u3, u4, u5, u6⟩ := HR.cells
  have h8' : act.tmps[6]?.getD undef = .pointer (some ⟨w.heap.size + 1, 0, none⟩) := by simpa using h8
  have h9' : act.tmps[7]?.getD undef = .int .i64 er := by simpa using h9
  exact bodyPost_ret (v := .tuple #[.agg #[.int .i64 r0, .int .i64 r1, .int .i64 r2, .int .i64 r3, .int .i64 r4, .int .i64 r5, .int .i64 r6], .int .i64 er]) (by simp [results, Try.results49, go_sem, h8', h9', u0, u1, u2, u3, u4, u5, u6]) hd ⟨rfl, HW⟩
set_option maxHeartbeats 1000000 in
theorem rbond_walk (f0 f1 f2 f3 bo wa bu d n r0 r1 r2 r3 r4 r5 r6 er : Int) (w : World) (h0 : 0 ≤ d) (h1 : d < 4)
    (hmv : ∀ w : World, Calls Try.prog 76 #[.agg #[.int .i64 f0, .int .i64 f1, .int .i64 f2, .int .i64 f3, .int .i64 bo, .int .i64 wa, .int .i64 bu], .int .i64 d, .int .i64 4, .int .i64 n] w
      fun e w' => e = .returned (.tuple #[.agg #[.int .i64 r0, .int .i64 r1, .int .i64 r2, .int .i64 r3, .int .i64 r4, .int .i64 r5, .int .i64 r6], .int .i64 er]) ∧ Below w.heap.size w w') :
    Calls Try.prog 49 #[.agg #[.int .i64 f0, .int .i64 f1, .int .i64 f2, .int .i64 f3, .int .i64 bo, .int .i64 wa, .int .i64 bu], .int .i64 d, .int .i64 n] w
      fun e w' => e = .returned (.tuple #[.agg #[.int .i64 r0, .int .i64 r1, .int .i64 r2, .int .i64 r3, .int .i64 r4, .int .i64 r5, .int .i64 r6], .int .i64 er]) ∧ Below w.heap.size w w' := by
  have h2 : d ≤ 3 := by omega
  go_enter Try.func49, Try.ntmps49
  go_wp2_with fail
  refine (hmv _).mono ?_
  rintro e w5 ⟨rfl, hb5⟩
  have R5 : BAt w5 (w.heap.size + 1) 0 0 0 0 0 0 0 := by
    have := (BAt.new (w.alloc (.cells #[.int .i64 f0, .int .i64 f1, .int .i64 f2, .int .i64 f3, .int .i64 bo, .int .i64 wa, .int .i64 bu] 24)) 0 0 0 0 0 0 0).later hb5 (by simp)
    simpa using this
  have HB5 : Hid (Below w.heap.size w w5) := (((Below.refl _ w).alloc (Nat.le_refl _) _).alloc (by simp) _).trans (hb5.mono (by simp; omega))
  clear hb5
  obtain ⟨u0, u1, u2, u3, u4, u5, u6⟩ := R5.frees
  obtain ⟨v0, v1, v2, v3, v4, v5, v6⟩ := R5.cells
  have HR5 : Hid (BAt w5 (w.heap.size + 1) 0 0 0 0 0 0 0) := R5
  clear R5
  go_wp2
  exact rbond_end HR5.out HB5.out r0 r1 r2 r3 r4 r5 r6 er _ rfl rfl rfl
theorem rbond_fin {w w9 : World} {r0 r1 r2 r3 r4 r5 r6 : Int} (HR : BAt w9 (w.heap.size + 1) r0 r1 r2 r3 r4 r5 r6) (HW : Below w.heap.size w w9) (er : Int) (act : Act)
    (h8 : act.tmps.getD 6 undef = .pointer (some ⟨w.heap.size + 1, 0, none⟩)) (h9 : act.tmps.getD 7 undef = .int .i64 er) (hd : act.defers = []) :
    bodyPost Try.prog Try.f49 (fun e w' => e = .returned (.tuple #[.agg #[.int .i64 r0, .int .i64 r1, .int .i64 r2, .int .i64 r3, .int .i64 r4, .int .i64 r5, .int .i64 r6], .int .i64 er]) ∧ Below w.heap.size w w') Exit.ret act w9 := by
  obtain ⟨u0, u1, u2, u3, u4, u5, u6⟩ := HR.cells
  have h8' : act.tmps[6]?.getD undef = .pointer (some ⟨w.heap.size + 1, 0, none⟩) := by simpa using h8
  have h9' : act.tmps[7]?.getD undef = .int .i64 er := by simpa using h9
  exact bodyPost_ret (v := .tuple #[.agg #[.int .i64 r0, .int .i64 r1, .int .i64 r2, .int .i64 r3, .int .i64 r4, .int .i64 r5, .int .i64 r6], .int .i64 er]) (by simp [results, Try.results49, go_sem, h8', h9', u0, u1, u2, u3, u4, u5, u6]) hd ⟨rfl, HW⟩
theorem rbond_no (f0 f1 f2 f3 bo wa bu d n : Int) (w : World) (h : ¬ (0 ≤ d ∧ d < 4)) :
    Calls Try.prog 49 #[.agg #[.int .i64 f0, .int .i64 f1, .int .i64 f2, .int .i64 f3, .int .i64 bo, .int .i64 wa, .int .i64 bu], .int .i64 d, .int .i64 n] w
      fun e w' => e = .returned (.tuple #[.agg #[.int .i64 f0, .int .i64 f1, .int .i64 f2, .int .i64 f3, .int .i64 bo, .int .i64 wa, .int .i64 bu], .int .i64 4]) ∧ Below w.heap.size w w' := by
  rcases (show d < 0 ∨ (0 ≤ d ∧ 3 < d) by omega) with h1 | ⟨h1, h2⟩
  all_goals
    clear h
    go_enter Try.func49, Try.ntmps49
    go_wp2
    exact rbond_fin (by have := BAt.new (w.alloc (.cells #[.int .i64 f0, .int .i64 f1, .int .i64 f2, .int .i64 f3, .int .i64 bo, .int .i64 wa, .int .i64 bu] 24)) f0 f1 f2 f3 bo wa bu; simpa using this) (((Below.refl _ w).alloc (Nat.le_refl _) _).alloc (by simp) _) 4 _ rfl rfl rfl
theorem rpay_end {w wq : World} (R : BAt wq (w.heap.size + 1) 0 0 0 0 0 0 0) (H : Below w.heap.size w wq) (r0 r1 r2 r3 r4 r5 r6 er : Int) (act : Act)
    (h8 : act.tmps.getD 6 undef = .pointer (some ⟨w.heap.size + 1, 0, none⟩)) (h9 : act.tmps.getD 7 undef = .int .i64 er) (hd : act.defers = []) :
    bodyPost Try.prog Try.f62 (fun e w' => e = .returned (.tuple #[.agg #[.int .i64 r0, .int .i64 r1, .int .i64 r2, .int .i64 r3, .int .i64 r4, .int .i64 r5, .int .i64 r6], .int .i64 er]) ∧ Below w.heap.size w w') Exit.ret act
      (set7 wq (w.heap.size + 1) r0 r1 r2 r3 r4 r5 r6) := by
  have HR := R.set7 r0 r1 r2 r3 r4 r5 r6
  have HW := set7_below (b := w.heap.size + 1) H (by omega) r0 r1 r2 r3 r4 r5 r6
  generalize set7 wq (w.heap.size + 1) r0 r1 r2 r3 r4 r5 r6 = w9 at *
  obtain ⟨u0, u1, u2, u3, u4, u5, u6⟩ := HR.cells
  have h8' : act.tmps[6]?.getD undef = .pointer (some ⟨w.heap.size + 1, 0, none⟩) := by simpa using h8
  have h9' : act.tmps[7]?.getD undef = .int .i64 er := by simpa using h9
  exact bodyPost_ret (v := .tuple #[.agg #[.int .i64 r0, .int .i64 r1, .int .i64 r2, .int .i64 r3, .int .i64 r4, .int .i64 r5, .int .i64 r6], .int .i64 er]) (by simp [results, Try.results62, go_sem, h8', h9', u0, u1, u2, u3, u4, u5, u6]) hd ⟨rfl, HW⟩
set_option maxHeartbeats 1000000 in
theorem rpay_walk (f0 f1 f2 f3 bo wa bu d n r0 r1 r2 r3 r4 r5 r6 er : Int) (w : World) (h0 : 0 ≤ d) (h1 : d < 4)
    (hmv : ∀ w : World, Calls Try.prog 76 #[.agg #[.int .i64 f0, .int .i64 f1, .int .i64 f2, .int .i64 f3, .int .i64 bo, .int .i64 wa, .int .i64 bu], .int .i64 5, .int .i64 d, .int .i64 n] w
      fun e w' => e = .returned (.tuple #[.agg #[.int .i64 r0, .int .i64 r1, .int .i64 r2, .int .i64 r3, .int .i64 r4, .int .i64 r5, .int .i64 r6], .int .i64 er]) ∧ Below w.heap.size w w') :
    Calls Try.prog 62 #[.agg #[.int .i64 f0, .int .i64 f1, .int .i64 f2, .int .i64 f3, .int .i64 bo, .int .i64 wa, .int .i64 bu], .int .i64 d, .int .i64 n] w
      fun e w' => e = .returned (.tuple #[.agg #[.int .i64 r0, .int .i64 r1, .int .i64 r2, .int .i64 r3, .int .i64 r4, .int .i64 r5, .int .i64 r6], .int .i64 er]) ∧ Below w.heap.size w w' := by
  have h2 : d ≤ 3 := by omega
  go_enter Try.func62, Try.ntmps62
  go_wp2_with fail
  refine (hmv _).mono ?_
  rintro e w5 ⟨rfl, hb5⟩
  have R5 : BAt w5 (w.heap.size + 1) 0 0 0 0 0 0 0 := by
    have := (BAt.new (w.alloc (.cells #[.int .i64 f0, .int .i64 f1, .int .i64 f2, .int .i64 f3, .int .i64 bo, .int .i64 wa, .int .i64 bu] 24)) 0 0 0 0 0 0 0).later hb5 (by simp)
    simpa using this
  have HB5 : Hid (Below w.heap.size w w5) := (((Below.refl _ w).alloc (Nat.le_refl _) _).alloc (by simp) _).trans (hb5.mono (by simp; omega))
  clear hb5
  obtain ⟨u0, u1, u2, u3, u4, u5, u6⟩ := R5.frees
  obtain ⟨v0, v1, v2, v3, v4, v5, v6⟩ := R5.cells
  have HR5 : Hid (BAt w5 (w.heap.size + 1) 0 0 0 0 0 0 0) := R5
  clear R5
  go_wp2
  exact rpay_end HR5.out HB5.out r0 r1 r2 r3 r4 r5 r6 er _ rfl rfl rfl
theorem rpay_fin {w w9 : World} {r0 r1 r2 r3 r4 r5 r6 : Int} (HR : BAt w9 (w.heap.size + 1) r0 r1 r2 r3 r4 r5 r6) (HW : Below w.heap.size w w9) (er : Int) (act : Act)
    (h8 : act.tmps.getD 6 undef = .pointer (some ⟨w.heap.size + 1, 0, none⟩)) (h9 : act.tmps.getD 7 undef = .int .i64 er) (hd : act.defers = []) :
    bodyPost Try.prog Try.f62 (fun e w' => e = .returned (.tuple #[.agg #[.int .i64 r0, .int .i64 r1, .int .i64 r2, .int .i64 r3, .int .i64 r4, .int .i64 r5, .int .i64 r6], .int .i64 er]) ∧ Below w.heap.size w w') Exit.ret act w9 := by
  obtain ⟨u0, u1, u2, u3, u4, u5, u6⟩ := HR.cells
  have h8' : act.tmps[6]?.getD undef = .pointer (some ⟨w.heap.size + 1, 0, none⟩) := by simpa using h8
  have h9' : act.tmps[7]?.getD undef = .int .i64 er := by simpa using h9
  exact bodyPost_ret (v := .tuple #[.agg #[.int .i64 r0, .int .i64 r1, .int .i64 r2, .int .i64 r3, .int .i64 r4, .int .i64 r5, .int .i64 r6], .int .i64 er]) (by simp [results, Try.results62, go_sem, h8', h9', u0, u1, u2, u3, u4, u5, u6]) hd ⟨rfl, HW⟩
theorem rpay_no (f0 f1 f2 f3 bo wa bu d n : Int) (w : World) (h : ¬ (0 ≤ d ∧ d < 4)) :
    Calls Try.prog 62 #[.agg #[.int .i64 f0, .int .i64 f1, .int .i64 f2, .int .i64 f3, .int .i64 bo, .int .i64 wa, .int .i64 bu], .int .i64 d, .int .i64 n] w
      fun e w' => e = .returned (.tuple #[.agg #[.int .i64 f0, .int .i64 f1, .int .i64 f2, .int .i64 f3, .int .i64 bo, .int .i64 wa, .int .i64 bu], .int .i64 4]) ∧ Below w.heap.size w w' := by
  rcases (show d < 0 ∨ (0 ≤ d ∧ 3 < d) by omega) with h1 | ⟨h1, h2⟩
  all_goals
    clear h
    go_enter Try.func62, Try.ntmps62
    go_wp2
    exact rpay_fin (by have := BAt.new (w.alloc (.cells #[.int .i64 f0, .int .i64 f1, .int .i64 f2, .int .i64 f3, .int .i64 bo, .int .i64 wa, .int .i64 bu] 24)) f0 f1 f2 f3 bo wa bu; simpa using this) (((Below.refl _ w).alloc (Nat.le_refl _) _).alloc (by simp) _) 4 _ rfl rfl rfl
theorem runbond_end {w wq : World} (R : BAt wq (w.heap.size + 1) 0 0 0 0 0 0 0) (H : Below w.heap.size w wq) (r0 r1 r2 r3 r4 r5 r6 er : Int) (act : Act)
    (h8 : act.tmps.getD 4 undef = .pointer (some ⟨w.heap.size + 1, 0, none⟩)) (h9 : act.tmps.getD 5 undef = .int .i64 er) (hd : act.defers = []) :
    bodyPost Try.prog Try.f60 (fun e w' => e = .returned (.tuple #[.agg #[.int .i64 r0, .int .i64 r1, .int .i64 r2, .int .i64 r3, .int .i64 r4, .int .i64 r5, .int .i64 r6], .int .i64 er]) ∧ Below w.heap.size w w') Exit.ret act
      (set7 wq (w.heap.size + 1) r0 r1 r2 r3 r4 r5 r6) := by
  have HR := R.set7 r0 r1 r2 r3 r4 r5 r6
  have HW := set7_below (b := w.heap.size + 1) H (by omega) r0 r1 r2 r3 r4 r5 r6
  generalize set7 wq (w.heap.size + 1) r0 r1 r2 r3 r4 r5 r6 = w9 at *
  obtain ⟨u0, u1, u2, u3, u4, u5, u6⟩ := HR.cells
  have h8' : act.tmps[4]?.getD undef = .pointer (some ⟨w.heap.size + 1, 0, none⟩) := by simpa using h8
  have h9' : act.tmps[5]?.getD undef = .int .i64 er := by simpa using h9
  exact bodyPost_ret (v := .tuple #[.agg #[.int .i64 r0, .int .i64 r1, .int .i64 r2, .int .i64 r3, .int .i64 r4, .int .i64 r5, .int .i64 r6], .int .i64 er]) (by simp [results, Try.results60, go_sem, h8', h9', u0, u1, u2, u3, u4, u5, u6]) hd ⟨rfl, HW⟩
set_option maxHeartbeats 1000000 in
theorem runbond_walk (f0 f1 f2 f3 bo wa bu n r0 r1 r2 r3 r4 r5 r6 er : Int) (w : World) 
    (hmv : ∀ w : World, Calls Try.prog 76 #[.agg #[.int .i64 f0, .int .i64 f1, .int .i64 f2, .int .i64 f3, .int .i64 bo, .int .i64 wa, .int .i64 bu], .int .i64 4, .int .i64 5, .int .i64 n] w
      fun e w' => e = .returned (.tuple #[.agg #[.int .i64 r0, .int .i64 r1, .int .i64 r2, .int .i64 r3, .int .i64 r4, .int .i64 r5, .int .i64 r6], .int .i64 er]) ∧ Below w.heap.size w w') :
    Calls Try.prog 60 #[.agg #[.int .i64 f0, .int .i64 f1, .int .i64 f2, .int .i64 f3, .int .i64 bo, .int .i64 wa, .int .i64 bu], .int .i64 n] w
      fun e w' => e = .returned (.tuple #[.agg #[.int .i64 r0, .int .i64 r1, .int .i64 r2, .int .i64 r3, .int .i64 r4, .int .i64 r5, .int .i64 r6], .int .i64 er]) ∧ Below w.heap.size w w' := by
  skip
  go_enter Try.func60, Try.ntmps60
  go_wp2_with fail
  refine (hmv _).mono ?_
  rintro e w5 ⟨rfl, hb5⟩
  have R5 : BAt w5 (w.heap.size + 1) 0 0 0 0 0 0 0 := by
    have := (BAt.new (w.alloc (.cells #[.int .i64 f0, .int .i64 f1, .int .i64 f2, .int .i64 f3, .int .i64 bo, .int .i64 wa, .int .i64 bu] 24)) 0 0 0 0 0 0 0).later hb5 (by simp)
    simpa using this
  have HB5 : Hid (Below w.heap.size w w5) := (((Below.refl _ w).alloc (Nat.le_refl _) _).alloc (by simp) _).trans (hb5.mono (by simp; omega))
  clear hb5
  obtain ⟨u0, u1, u2, u3, u4, u5, u6⟩ := R5.frees
  obtain ⟨v0, v1, v2, v3, v4, v5, v6⟩ := R5.cells
  have HR5 : Hid (BAt w5 (w.heap.size + 1) 0 0 0 0 0 0 0) := R5
  clear R5
  go_wp2
  exact runbond_end HR5.out HB5.out r0 r1 r2 r3 r4 r5 r6 er _ rfl rfl rfl
theorem rburn_fin {w w9 : World} {r0 r1 r2 r3 r4 r5 r6 : Int} (HR : BAt w9 (w.heap.size + 1) r0 r1 r2 r3 r4 r5 r6) (HW : Below w.heap.size w w9) (er : Int) (act : Act)
    (h8 : act.tmps.getD 6 undef = .pointer (some ⟨w.heap.size + 1, 0, none⟩)) (h9 : act.tmps.getD 7 undef = .int .i64 er) (hd : act.defers = []) :
    bodyPost Try.prog Try.f68 (fun e w' => e = .returned (.tuple #[.agg #[.int .i64 r0, .int .i64 r1, .int .i64 r2, .int .i64 r3, .int .i64 r4, .int .i64 r5, .int .i64 r6], .int .i64 er]) ∧ Below w.heap.size w w') Exit.ret act w9 := by
  obtain ⟨u0, u1, u2, u3, u4, u5, u6⟩ := HR.cells
  have h8' : act.tmps[6]?.getD undef = .pointer (some ⟨w.heap.size + 1, 0, none⟩) := by simpa using h8
  have h9' : act.tmps[7]?.getD undef = .int .i64 er := by simpa using h9
  exact bodyPost_ret (v := .tuple #[.agg #[.int .i64 r0, .int .i64 r1, .int .i64 r2, .int .i64 r3, .int .i64 r4, .int .i64 r5, .int .i64 r6], .int .i64 er]) (by simp [results, Try.results68, go_sem, h8', h9', u0, u1, u2, u3, u4, u5, u6]) hd ⟨rfl, HW⟩
set_option maxHeartbeats 2000000 in
theorem rburn_walk (f0 f1 f2 f3 bo wa bu n m r0 r1 r2 r3 r4 r5 r6 er s0 s1 s2 s3 s4 s5 s6 es t0 t1 t2 t3 t4 t5 t6 et : Int) (w : World)
    (hres : (er ≠ 0 ∧ f0 = t0 ∧ f1 = t1 ∧ f2 = t2 ∧ f3 = t3 ∧ bo = t4 ∧ wa = t5 ∧ bu = t6 ∧ er = et) ∨ (er = 0 ∧ es ≠ 0 ∧ f0 = t0 ∧ f1 = t1 ∧ f2 = t2 ∧ f3 = t3 ∧ bo = t4 ∧ wa = t5 ∧ bu = t6 ∧ es = et) ∨ (er = 0 ∧ es = 0 ∧ s0 = t0 ∧ s1 = t1 ∧ s2 = t2 ∧ s3 = t3 ∧ s4 = t4 ∧ s5 = t5 ∧ s6 = t6 ∧ 0 = et))
    (hm1 : ∀ w : World, Calls Try.prog 76 #[.agg #[.int .i64 f0, .int .i64 f1, .int .i64 f2, .int .i64 f3, .int .i64 bo, .int .i64 wa, .int .i64 bu], .int .i64 4, .int .i64 6, .int .i64 n] w fun e w' => e = .returned (.tuple #[.agg #[.int .i64 r0, .int .i64 r1, .int .i64 r2, .int .i64 r3, .int .i64 r4, .int .i64 r5, .int .i64 r6], .int .i64 er]) ∧ Below w.heap.size w w')
    (hm2 : ∀ w : World, Calls Try.prog 76 #[.agg #[.int .i64 r0, .int .i64 r1, .int .i64 r2, .int .i64 r3, .int .i64 r4, .int .i64 r5, .int .i64 r6], .int .i64 5, .int .i64 6, .int .i64 m] w fun e w' => e = .returned (.tuple #[.agg #[.int .i64 s0, .int .i64 s1, .int .i64 s2, .int .i64 s3, .int .i64 s4, .int .i64 s5, .int .i64 s6], .int .i64 es]) ∧ Below w.heap.size w w') :
    Calls Try.prog 68 #[.agg #[.int .i64 f0, .int .i64 f1, .int .i64 f2, .int .i64 f3, .int .i64 bo, .int .i64 wa, .int .i64 bu], .int .i64 n, .int .i64 m] w
      fun e w' => e = .returned (.tuple #[.agg #[.int .i64 t0, .int .i64 t1, .int .i64 t2, .int .i64 t3, .int .i64 t4, .int .i64 t5, .int .i64 t6], .int .i64 et]) ∧ Below w.heap.size w w' := by
  go_enter Try.func68, Try.ntmps68
  go_wp2_with fail
  have R0 : BAt ((w.alloc (.cells #[.int .i64 f0, .int .i64 f1, .int .i64 f2, .int .i64 f3, .int .i64 bo, .int .i64 wa, .int .i64 bu] 24)).alloc (.cells #[.int .i64 0, .int .i64 0, .int .i64 0, .int .i64 0, .int .i64 0, .int .i64 0, .int .i64 0] 24)) (w.heap.size + 1) 0 0 0 0 0 0 0 := by
    have := BAt.new (w.alloc (.cells #[.int .i64 f0, .int .i64 f1, .int .i64 f2, .int .i64 f3, .int .i64 bo, .int .i64 wa, .int .i64 bu] 24)) 0 0 0 0 0 0 0
    simpa using this
  have B0 := ((BAt.new w f0 f1 f2 f3 bo wa bu).alloc (.cells #[.int .i64 0, .int .i64 0, .int .i64 0, .int .i64 0, .int .i64 0, .int .i64 0, .int .i64 0] 24))
  have HB : Hid (Below w.heap.size w ((w.alloc (.cells #[.int .i64 f0, .int .i64 f1, .int .i64 f2, .int .i64 f3, .int .i64 bo, .int .i64 wa, .int .i64 bu] 24)).alloc (.cells #[.int .i64 0, .int .i64 0, .int .i64 0, .int .i64 0, .int .i64 0, .int .i64 0, .int .i64 0] 24))) := (((Below.refl _ w).alloc (Nat.le_refl _) _).alloc (by simp) _)
  generalize (w.alloc (.cells #[.int .i64 f0, .int .i64 f1, .int .i64 f2, .int .i64 f3, .int .i64 bo, .int .i64 wa, .int .i64 bu] 24)).alloc (.cells #[.int .i64 0, .int .i64 0, .int .i64 0, .int .i64 0, .int .i64 0, .int .i64 0, .int .i64 0] 24) = w0 at *
  obtain ⟨x0, x1, x2, x3, x4, x5, x6⟩ := B0.cells
  have hz0 : w.heap.size < w0.heap.size := B0.lt
  have hz1 : w.heap.size + 1 < w0.heap.size := R0.lt
  refine (hm1 _).mono ?_
  rintro e w1 ⟨rfl, h1⟩
  have B1 := B0.later h1 hz0
  have R1 := R0.later h1 hz1
  have HB1 : Hid (Below w.heap.size w w1) := HB.out.trans (h1.mono (Nat.le_of_lt hz0))
  have hz2 : w.heap.size < w1.heap.size := B1.lt
  have hz3 : w.heap.size + 1 < w1.heap.size := R1.lt
  clear B0 R0 h1 HB hz0 hz1 x0 x1 x2 x3 x4 x5 x6 hm1
  obtain ⟨x0, x1, x2, x3, x4, x5, x6⟩ := B1.cells
  obtain ⟨u0, u1, u2, u3, u4, u5, u6⟩ := R1.frees
  obtain ⟨v0, v1, v2, v3, v4, v5, v6⟩ := R1.cells
  have HR1 : Hid (BAt w1 (w.heap.size + 1) 0 0 0 0 0 0 0) := R1
  have HX1 : Hid (BAt w1 w.heap.size f0 f1 f2 f3 bo wa bu) := B1
  clear R1 B1
  by_cases her : er = 0
  · subst her
    go_wp2_with fail
    refine (hm2 _).mono ?_
    rintro e w2 ⟨rfl, h2⟩
    have B2 := (HX1.out.alloc (.cells #[.int .i64 r0, .int .i64 r1, .int .i64 r2, .int .i64 r3, .int .i64 r4, .int .i64 r5, .int .i64 r6] 24)).later h2 (by simp; omega)
    have R2 := (HR1.out.alloc (.cells #[.int .i64 r0, .int .i64 r1, .int .i64 r2, .int .i64 r3, .int .i64 r4, .int .i64 r5, .int .i64 r6] 24)).later h2 (by simp; omega)
    have H2 := (BAt.new w1 r0 r1 r2 r3 r4 r5 r6).later h2 (by simp)
    have HB2 : Hid (Below w.heap.size w w2) := (HB1.out.alloc (Nat.le_of_lt hz2) _).trans (h2.mono (by simp; omega))
    clear h2 HB1 HX1 HR1 x0 x1 x2 x3 x4 x5 x6 u0 u1 u2 u3 u4 u5 u6 v0 v1 v2 v3 v4 v5 v6 hm2
    obtain ⟨u0, u1, u2, u3, u4, u5, u6⟩ := R2.frees
    obtain ⟨v0, v1, v2, v3, v4, v5, v6⟩ := R2.cells
    obtain ⟨y0, y1, y2, y3, y4, y5, y6⟩ := H2.frees
    obtain ⟨z0, z1, z2, z3, z4, z5, z6⟩ := H2.cells
    have hne1 : ¬ w1.heap.size = w.heap.size := by omega
    have hne2 : ¬ w1.heap.size = w.heap.size + 1 := by omega
    have hne3 : ¬ w.heap.size = w1.heap.size := by omega
    have hne4 : ¬ w.heap.size + 1 = w1.heap.size := by omega
    rcases hres with ⟨h, _⟩ | ⟨_, h, rfl, rfl, rfl, rfl, rfl, rfl, rfl, rfl⟩ | ⟨_, rfl, rfl, rfl, rfl, rfl, rfl, rfl, rfl, rfl⟩
    · exact absurd rfl h
    · have hb : (es != 0) = true := by simpa using h
      obtain ⟨x0, x1, x2, x3, x4, x5, x6⟩ := B2.cells
      have HR2 : Hid (BAt w2 (w.heap.size + 1) 0 0 0 0 0 0 0) := R2
      clear B2 H2 R2
      go_wp2
      exact rburn_fin (w9 := set7 (set7 w2 w1.heap.size s0 s1 s2 s3 s4 s5 s6) (w.heap.size + 1) f0 f1 f2 f3 bo wa bu) ((HR2.out.other7 hne4 _ _ _ _ _ _ _).set7 _ _ _ _ _ _ _) (set7_below (set7_below HB2.out (by omega) _ _ _ _ _ _ _) (by omega) _ _ _ _ _ _ _) es _ rfl rfl rfl
    · have HR2 : Hid (BAt w2 (w.heap.size + 1) 0 0 0 0 0 0 0) := R2
      clear B2 H2 R2
      go_wp2
      exact rburn_fin (w9 := set7 (set7 w2 w1.heap.size s0 s1 s2 s3 s4 s5 s6) (w.heap.size + 1) s0 s1 s2 s3 s4 s5 s6) ((HR2.out.other7 hne4 _ _ _ _ _ _ _).set7 _ _ _ _ _ _ _) (set7_below (set7_below HB2.out (by omega) _ _ _ _ _ _ _) (by omega) _ _ _ _ _ _ _) 0 _ rfl rfl rfl
  · have hb : (er != 0) = true := by simpa using her
    rcases hres with ⟨_, rfl, rfl, rfl, rfl, rfl, rfl, rfl, rfl⟩ | ⟨h, _⟩ | ⟨h, _⟩
    · go_wp2
      exact rburn_fin (w9 := (set7 w1 (w.heap.size + 1) f0 f1 f2 f3 bo wa bu).alloc _) ((HR1.out.set7 f0 f1 f2 f3 bo wa bu).alloc _) (let h := set7_below (b := w.heap.size + 1) HB1.out (by omega) f0 f1 f2 f3 bo wa bu; h.alloc h.size _) er _ rfl rfl rfl
    · exact absurd h her
    · exact absurd h her
end Go.Proofs.Ytookecjeknpheac
namespace Go.Proofs.Ytookecjeknpheac
open Go.RowKit
theorem rmv_04 (b : Bk) (n : Int) (w : World) :
    Calls Try.prog 76 #[.agg #[.int .i64 b.f0, .int .i64 b.f1, .int .i64 b.f2, .int .i64 b.f3, .int .i64 b.bo, .int .i64 b.wa, .int .i64 b.bu], .int .i64 0, .int .i64 4, .int .i64 n] w fun e w' => e = .returned (.tuple #[.agg #[.int .i64 (mv b 0 4 n).1.f0, .int .i64 (mv b 0 4 n).1.f1, .int .i64 (mv b 0 4 n).1.f2, .int .i64 (mv b 0 4 n).1.f3, .int .i64 (mv b 0 4 n).1.bo, .int .i64 (mv b 0 4 n).1.wa, .int .i64 (mv b 0 4 n).1.bu], .int .i64 (mv b 0 4 n).2]) ∧ Below w.heap.size w w' := by
  by_cases hg : b.good = true
  · by_cases hn : 0 ≤ n ∧ n ≤ 1125899906842624
    · have h1 : ¬ (b.good = false ∨ ¬ (0 ≤ n ∧ n ≤ 1125899906842624)) := by rw [hg]; simp [hn]
      by_cases hl : b.f0 < n
      · have e : mv b 0 4 n = (b, 7) := by rw [mv, if_neg h1, if_pos (show b.get 0 < n from hl)]
        rw [e]
        exact rmove_funds_0 b.f0 b.f1 b.f2 b.f3 b.bo b.wa b.bu _ n w hg hn.1 hn.2 hl
      · have e : mv b 0 4 n = ((b.put 0 (b.f0 - n)).put 4 (b.bo + n), 0) := by rw [mv, if_neg h1, if_neg (show ¬ b.get 0 < n from hl)]; rfl
        rw [e]
        exact rmove_ok_04 b.f0 b.f1 b.f2 b.f3 b.bo b.wa b.bu n w hg hn.1 hn.2 (by omega)
    · have e : mv b 0 4 n = (b, 2) := by rw [mv, if_pos (.inr hn)]
      rw [e]
      exact rmove_range_in b.f0 b.f1 b.f2 b.f3 b.bo b.wa b.bu _ _ n w hg hn
  · have e : mv b 0 4 n = (b, 2) := by rw [mv, if_pos (.inl (by simpa using hg))]
    rw [e]
    exact rmove_range_bad b.f0 b.f1 b.f2 b.f3 b.bo b.wa b.bu _ _ n w (by simpa [Bk.good] using hg)
theorem rmv_14 (b : Bk) (n : Int) (w : World) :
    Calls Try.prog 76 #[.agg #[.int .i64 b.f0, .int .i64 b.f1, .int .i64 b.f2, .int .i64 b.f3, .int .i64 b.bo, .int .i64 b.wa, .int .i64 b.bu], .int .i64 1, .int .i64 4, .int .i64 n] w fun e w' => e = .returned (.tuple #[.agg #[.int .i64 (mv b 1 4 n).1.f0, .int .i64 (mv b 1 4 n).1.f1, .int .i64 (mv b 1 4 n).1.f2, .int .i64 (mv b 1 4 n).1.f3, .int .i64 (mv b 1 4 n).1.bo, .int .i64 (mv b 1 4 n).1.wa, .int .i64 (mv b 1 4 n).1.bu], .int .i64 (mv b 1 4 n).2]) ∧ Below w.heap.size w w' := by
  by_cases hg : b.good = true
  · by_cases hn : 0 ≤ n ∧ n ≤ 1125899906842624
    · have h1 : ¬ (b.good = false ∨ ¬ (0 ≤ n ∧ n ≤ 1125899906842624)) := by rw [hg]; simp [hn]
      by_cases hl : b.f1 < n
      · have e : mv b 1 4 n = (b, 7) := by rw [mv, if_neg h1, if_pos (show b.get 1 < n from hl)]
        rw [e]
        exact rmove_funds_1 b.f0 b.f1 b.f2 b.f3 b.bo b.wa b.bu _ n w hg hn.1 hn.2 hl
      · have e : mv b 1 4 n = ((b.put 1 (b.f1 - n)).put 4 (b.bo + n), 0) := by rw [mv, if_neg h1, if_neg (show ¬ b.get 1 < n from hl)]; rfl
        rw [e]
        exact rmove_ok_14 b.f0 b.f1 b.f2 b.f3 b.bo b.wa b.bu n w hg hn.1 hn.2 (by omega)
    · have e : mv b 1 4 n = (b, 2) := by rw [mv, if_pos (.inr hn)]
      rw [e]
      exact rmove_range_in b.f0 b.f1 b.f2 b.f3 b.bo b.wa b.bu _ _ n w hg hn
  · have e : mv b 1 4 n = (b, 2) := by rw [mv, if_pos (.inl (by simpa using hg))]
    rw [e]
    exact rmove_range_bad b.f0 b.f1 b.f2 b.f3 b.bo b.wa b.bu _ _ n w (by simpa [Bk.good] using hg)
theorem rmv_24 (b : Bk) (n : Int) (w : World) :
    Calls Try.prog 76 #[.agg #[.int .i64 b.f0, .int .i64 b.f1, .int .i64 b.f2, .int .i64 b.f3, .int .i64 b.bo, .int .i64 b.wa, .int .i64 b.bu], .int .i64 2, .int .i64 4, .int .i64 n] w fun e w' => e = .returned (.tuple #[.agg #[.int .i64 (mv b 2 4 n).1.f0, .int .i64 (mv b 2 4 n).1.f1, .int .i64 (mv b 2 4 n).1.f2, .int .i64 (mv b 2 4 n).1.f3, .int .i64 (mv b 2 4 n).1.bo, .int .i64 (mv b 2 4 n).1.wa, .int .i64 (mv b 2 4 n).1.bu], .int .i64 (mv b 2 4 n).2]) ∧ Below w.heap.size w w' := by
  by_cases hg : b.good = true
  · by_cases hn : 0 ≤ n ∧ n ≤ 1125899906842624
    · have h1 : ¬ (b.good = false ∨ ¬ (0 ≤ n ∧ n ≤ 1125899906842624)) := by rw [hg]; simp [hn]
      by_cases hl : b.f2 < n
      · have e : mv b 2 4 n = (b, 7) := by rw [mv, if_neg h1, if_pos (show b.get 2 < n from hl)]
        rw [e]
        exact rmove_funds_2 b.f0 b.f1 b.f2 b.f3 b.bo b.wa b.bu _ n w hg hn.1 hn.2 hl
      · have e : mv b 2 4 n = ((b.put 2 (b.f2 - n)).put 4 (b.bo + n), 0) := by rw [mv, if_neg h1, if_neg (show ¬ b.get 2 < n from hl)]; rfl
        rw [e]
        exact rmove_ok_24 b.f0 b.f1 b.f2 b.f3 b.bo b.wa b.bu n w hg hn.1 hn.2 (by omega)
    · have e : mv b 2 4 n = (b, 2) := by rw [mv, if_pos (.inr hn)]
      rw [e]
      exact rmove_range_in b.f0 b.f1 b.f2 b.f3 b.bo b.wa b.bu _ _ n w hg hn
  · have e : mv b 2 4 n = (b, 2) := by rw [mv, if_pos (.inl (by simpa using hg))]
    rw [e]
    exact rmove_range_bad b.f0 b.f1 b.f2 b.f3 b.bo b.wa b.bu _ _ n w (by simpa [Bk.good] using hg)
theorem rmv_34 (b : Bk) (n : Int) (w : World) :
    Calls Try.prog 76 #[.agg #[.int .i64 b.f0, .int .i64 b.f1, .int .i64 b.f2, .int .i64 b.f3, .int .i64 b.bo, .int .i64 b.wa, .int .i64 b.bu], .int .i64 3, .int .i64 4, .int .i64 n] w fun e w' => e = .returned (.tuple #[.agg #[.int .i64 (mv b 3 4 n).1.f0, .int .i64 (mv b 3 4 n).1.f1, .int .i64 (mv b 3 4 n).1.f2, .int .i64 (mv b 3 4 n).1.f3, .int .i64 (mv b 3 4 n).1.bo, .int .i64 (mv b 3 4 n).1.wa, .int .i64 (mv b 3 4 n).1.bu], .int .i64 (mv b 3 4 n).2]) ∧ Below w.heap.size w w' := by
  by_cases hg : b.good = true
  · by_cases hn : 0 ≤ n ∧ n ≤ 1125899906842624
    · have h1 : ¬ (b.good = false ∨ ¬ (0 ≤ n ∧ n ≤ 1125899906842624)) := by rw [hg]; simp [hn]
      by_cases hl : b.f3 < n
      · have e : mv b 3 4 n = (b, 7) := by rw [mv, if_neg h1, if_pos (show b.get 3 < n from hl)]
        rw [e]
        exact rmove_funds_3 b.f0 b.f1 b.f2 b.f3 b.bo b.wa b.bu _ n w hg hn.1 hn.2 hl
      · have e : mv b 3 4 n = ((b.put 3 (b.f3 - n)).put 4 (b.bo + n), 0) := by rw [mv, if_neg h1, if_neg (show ¬ b.get 3 < n from hl)]; rfl
        rw [e]
        exact rmove_ok_34 b.f0 b.f1 b.f2 b.f3 b.bo b.wa b.bu n w hg hn.1 hn.2 (by omega)
    · have e : mv b 3 4 n = (b, 2) := by rw [mv, if_pos (.inr hn)]
      rw [e]
      exact rmove_range_in b.f0 b.f1 b.f2 b.f3 b.bo b.wa b.bu _ _ n w hg hn
  · have e : mv b 3 4 n = (b, 2) := by rw [mv, if_pos (.inl (by simpa using hg))]
    rw [e]
    exact rmove_range_bad b.f0 b.f1 b.f2 b.f3 b.bo b.wa b.bu _ _ n w (by simpa [Bk.good] using hg)
theorem rmv_50 (b : Bk) (n : Int) (w : World) :
    Calls Try.prog 76 #[.agg #[.int .i64 b.f0, .int .i64 b.f1, .int .i64 b.f2, .int .i64 b.f3, .int .i64 b.bo, .int .i64 b.wa, .int .i64 b.bu], .int .i64 5, .int .i64 0, .int .i64 n] w fun e w' => e = .returned (.tuple #[.agg #[.int .i64 (mv b 5 0 n).1.f0, .int .i64 (mv b 5 0 n).1.f1, .int .i64 (mv b 5 0 n).1.f2, .int .i64 (mv b 5 0 n).1.f3, .int .i64 (mv b 5 0 n).1.bo, .int .i64 (mv b 5 0 n).1.wa, .int .i64 (mv b 5 0 n).1.bu], .int .i64 (mv b 5 0 n).2]) ∧ Below w.heap.size w w' := by
  by_cases hg : b.good = true
  · by_cases hn : 0 ≤ n ∧ n ≤ 1125899906842624
    · have h1 : ¬ (b.good = false ∨ ¬ (0 ≤ n ∧ n ≤ 1125899906842624)) := by rw [hg]; simp [hn]
      by_cases hl : b.wa < n
      · have e : mv b 5 0 n = (b, 7) := by rw [mv, if_neg h1, if_pos (show b.get 5 < n from hl)]
        rw [e]
        exact rmove_funds_5 b.f0 b.f1 b.f2 b.f3 b.bo b.wa b.bu _ n w hg hn.1 hn.2 hl
      · have e : mv b 5 0 n = ((b.put 5 (b.wa - n)).put 0 (b.f0 + n), 0) := by rw [mv, if_neg h1, if_neg (show ¬ b.get 5 < n from hl)]; rfl
        rw [e]
        exact rmove_ok_50 b.f0 b.f1 b.f2 b.f3 b.bo b.wa b.bu n w hg hn.1 hn.2 (by omega)
    · have e : mv b 5 0 n = (b, 2) := by rw [mv, if_pos (.inr hn)]
      rw [e]
      exact rmove_range_in b.f0 b.f1 b.f2 b.f3 b.bo b.wa b.bu _ _ n w hg hn
  · have e : mv b 5 0 n = (b, 2) := by rw [mv, if_pos (.inl (by simpa using hg))]
    rw [e]
    exact rmove_range_bad b.f0 b.f1 b.f2 b.f3 b.bo b.wa b.bu _ _ n w (by simpa [Bk.good] using hg)
theorem rmv_51 (b : Bk) (n : Int) (w : World) :
    Calls Try.prog 76 #[.agg #[.int .i64 b.f0, .int .i64 b.f1, .int .i64 b.f2, .int .i64 b.f3, .int .i64 b.bo, .int .i64 b.wa, .int .i64 b.bu], .int .i64 5, .int .i64 1, .int .i64 n] w fun e w' => e = .returned (.tuple #[.agg #[.int .i64 (mv b 5 1 n).1.f0, .int .i64 (mv b 5 1 n).1.f1, .int .i64 (mv b 5 1 n).1.f2, .int .i64 (mv b 5 1 n).1.f3, .int .i64 (mv b 5 1 n).1.bo, .int .i64 (mv b 5 1 n).1.wa, .int .i64 (mv b 5 1 n).1.bu], .int .i64 (mv b 5 1 n).2]) ∧ Below w.heap.size w w' := by
  by_cases hg : b.good = true
  · by_cases hn : 0 ≤ n ∧ n ≤ 1125899906842624
    · have h1 : ¬ (b.good = false ∨ ¬ (0 ≤ n ∧ n ≤ 1125899906842624)) := by rw [hg]; simp [hn]
      by_cases hl : b.wa < n
      · have e : mv b 5 1 n = (b, 7) := by rw [mv, if_neg h1, if_pos (show b.get 5 < n from hl)]
        rw [e]
        exact rmove_funds_5 b.f0 b.f1 b.f2 b.f3 b.bo b.wa b.bu _ n w hg hn.1 hn.2 hl
      · have e : mv b 5 1 n = ((b.put 5 (b.wa - n)).put 1 (b.f1 + n), 0) := by rw [mv, if_neg h1, if_neg (show ¬ b.get 5 < n from hl)]; rfl
        rw [e]
        exact rmove_ok_51 b.f0 b.f1 b.f2 b.f3 b.bo b.wa b.bu n w hg hn.1 hn.2 (by omega)
    · have e : mv b 5 1 n = (b, 2) := by rw [mv, if_pos (.inr hn)]
      rw [e]
      exact rmove_range_in b.f0 b.f1 b.f2 b.f3 b.bo b.wa b.bu _ _ n w hg hn
  · have e : mv b 5 1 n = (b, 2) := by rw [mv, if_pos (.inl (by simpa using hg))]
    rw [e]
    exact rmove_range_bad b.f0 b.f1 b.f2 b.f3 b.bo b.wa b.bu _ _ n w (by simpa [Bk.good] using hg)
theorem rmv_52 (b : Bk) (n : Int) (w : World) :
    Calls Try.prog 76 #[.agg #[.int .i64 b.f0, .int .i64 b.f1, .int .i64 b.f2, .int .i64 b.f3, .int .i64 b.bo, .int .i64 b.wa, .int .i64 b.bu], .int .i64 5, .int .i64 2, .int .i64 n] w fun e w' => e = .returned (.tuple #[.agg #[.int .i64 (mv b 5 2 n).1.f0, .int .i64 (mv b 5 2 n).1.f1, .int .i64 (mv b 5 2 n).1.f2, .int .i64 (mv b 5 2 n).1.f3, .int .i64 (mv b 5 2 n).1.bo, .int .i64 (mv b 5 2 n).1.wa, .int .i64 (mv b 5 2 n).1.bu], .int .i64 (mv b 5 2 n).2]) ∧ Below w.heap.size w w' := by
  by_cases hg : b.good = true
  · by_cases hn : 0 ≤ n ∧ n ≤ 1125899906842624
    · have h1 : ¬ (b.good = false ∨ ¬ (0 ≤ n ∧ n ≤ 1125899906842624)) := by rw [hg]; simp [hn]
      by_cases hl : b.wa < n
      · have e : mv b 5 2 n = (b, 7) := by rw [mv, if_neg h1, if_pos (show b.get 5 < n from hl)]
        rw [e]
        exact rmove_funds_5 b.f0 b.f1 b.f2 b.f3 b.bo b.wa b.bu _ n w hg hn.1 hn.2 hl
      · have e : mv b 5 2 n = ((b.put 5 (b.wa - n)).put 2 (b.f2 + n), 0) := by rw [mv, if_neg h1, if_neg (show ¬ b.get 5 < n from hl)]; rfl
        rw [e]
        exact rmove_ok_52 b.f0 b.f1 b.f2 b.f3 b.bo b.wa b.bu n w hg hn.1 hn.2 (by omega)
    · have e : mv b 5 2 n = (b, 2) := by rw [mv, if_pos (.inr hn)]
      rw [e]
      exact rmove_range_in b.f0 b.f1 b.f2 b.f3 b.bo b.wa b.bu _ _ n w hg hn
  · have e : mv b 5 2 n = (b, 2) := by rw [mv, if_pos (.inl (by simpa using hg))]
    rw [e]
    exact rmove_range_bad b.f0 b.f1 b.f2 b.f3 b.bo b.wa b.bu _ _ n w (by simpa [Bk.good] using hg)
theorem rmv_53 (b : Bk) (n : Int) (w : World) :
    Calls Try.prog 76 #[.agg #[.int .i64 b.f0, .int .i64 b.f1, .int .i64 b.f2, .int .i64 b.f3, .int .i64 b.bo, .int .i64 b.wa, .int .i64 b.bu], .int .i64 5, .int .i64 3, .int .i64 n] w fun e w' => e = .returned (.tuple #[.agg #[.int .i64 (mv b 5 3 n).1.f0, .int .i64 (mv b 5 3 n).1.f1, .int .i64 (mv b 5 3 n).1.f2, .int .i64 (mv b 5 3 n).1.f3, .int .i64 (mv b 5 3 n).1.bo, .int .i64 (mv b 5 3 n).1.wa, .int .i64 (mv b 5 3 n).1.bu], .int .i64 (mv b 5 3 n).2]) ∧ Below w.heap.size w w' := by
  by_cases hg : b.good = true
  · by_cases hn : 0 ≤ n ∧ n ≤ 1125899906842624
    · have h1 : ¬ (b.good = false ∨ ¬ (0 ≤ n ∧ n ≤ 1125899906842624)) := by rw [hg]; simp [hn]
      by_cases hl : b.wa < n
      · have e : mv b 5 3 n = (b, 7) := by rw [mv, if_neg h1, if_pos (show b.get 5 < n from hl)]
        rw [e]
        exact rmove_funds_5 b.f0 b.f1 b.f2 b.f3 b.bo b.wa b.bu _ n w hg hn.1 hn.2 hl
      · have e : mv b 5 3 n = ((b.put 5 (b.wa - n)).put 3 (b.f3 + n), 0) := by rw [mv, if_neg h1, if_neg (show ¬ b.get 5 < n from hl)]; rfl
        rw [e]
        exact rmove_ok_53 b.f0 b.f1 b.f2 b.f3 b.bo b.wa b.bu n w hg hn.1 hn.2 (by omega)
    · have e : mv b 5 3 n = (b, 2) := by rw [mv, if_pos (.inr hn)]
      rw [e]
      exact rmove_range_in b.f0 b.f1 b.f2 b.f3 b.bo b.wa b.bu _ _ n w hg hn
  · have e : mv b 5 3 n = (b, 2) := by rw [mv, if_pos (.inl (by simpa using hg))]
    rw [e]
    exact rmove_range_bad b.f0 b.f1 b.f2 b.f3 b.bo b.wa b.bu _ _ n w (by simpa [Bk.good] using hg)
theorem rmv_45 (b : Bk) (n : Int) (w : World) :
    Calls Try.prog 76 #[.agg #[.int .i64 b.f0, .int .i64 b.f1, .int .i64 b.f2, .int .i64 b.f3, .int .i64 b.bo, .int .i64 b.wa, .int .i64 b.bu], .int .i64 4, .int .i64 5, .int .i64 n] w fun e w' => e = .returned (.tuple #[.agg #[.int .i64 (mv b 4 5 n).1.f0, .int .i64 (mv b 4 5 n).1.f1, .int .i64 (mv b 4 5 n).1.f2, .int .i64 (mv b 4 5 n).1.f3, .int .i64 (mv b 4 5 n).1.bo, .int .i64 (mv b 4 5 n).1.wa, .int .i64 (mv b 4 5 n).1.bu], .int .i64 (mv b 4 5 n).2]) ∧ Below w.heap.size w w' := by
  by_cases hg : b.good = true
  · by_cases hn : 0 ≤ n ∧ n ≤ 1125899906842624
    · have h1 : ¬ (b.good = false ∨ ¬ (0 ≤ n ∧ n ≤ 1125899906842624)) := by rw [hg]; simp [hn]
      by_cases hl : b.bo < n
      · have e : mv b 4 5 n = (b, 7) := by rw [mv, if_neg h1, if_pos (show b.get 4 < n from hl)]
        rw [e]
        exact rmove_funds_4 b.f0 b.f1 b.f2 b.f3 b.bo b.wa b.bu _ n w hg hn.1 hn.2 hl
      · have e : mv b 4 5 n = ((b.put 4 (b.bo - n)).put 5 (b.wa + n), 0) := by rw [mv, if_neg h1, if_neg (show ¬ b.get 4 < n from hl)]; rfl
        rw [e]
        exact rmove_ok_45 b.f0 b.f1 b.f2 b.f3 b.bo b.wa b.bu n w hg hn.1 hn.2 (by omega)
    · have e : mv b 4 5 n = (b, 2) := by rw [mv, if_pos (.inr hn)]
      rw [e]
      exact rmove_range_in b.f0 b.f1 b.f2 b.f3 b.bo b.wa b.bu _ _ n w hg hn
  · have e : mv b 4 5 n = (b, 2) := by rw [mv, if_pos (.inl (by simpa using hg))]
    rw [e]
    exact rmove_range_bad b.f0 b.f1 b.f2 b.f3 b.bo b.wa b.bu _ _ n w (by simpa [Bk.good] using hg)
theorem rmv_46 (b : Bk) (n : Int) (w : World) :
    Calls Try.prog 76 #[.agg #[.int .i64 b.f0, .int .i64 b.f1, .int .i64 b.f2, .int .i64 b.f3, .int .i64 b.bo, .int .i64 b.wa, .int .i64 b.bu], .int .i64 4, .int .i64 6, .int .i64 n] w fun e w' => e = .returned (.tuple #[.agg #[.int .i64 (mv b 4 6 n).1.f0, .int .i64 (mv b 4 6 n).1.f1, .int .i64 (mv b 4 6 n).1.f2, .int .i64 (mv b 4 6 n).1.f3, .int .i64 (mv b 4 6 n).1.bo, .int .i64 (mv b 4 6 n).1.wa, .int .i64 (mv b 4 6 n).1.bu], .int .i64 (mv b 4 6 n).2]) ∧ Below w.heap.size w w' := by
  by_cases hg : b.good = true
  · by_cases hn : 0 ≤ n ∧ n ≤ 1125899906842624
    · have h1 : ¬ (b.good = false ∨ ¬ (0 ≤ n ∧ n ≤ 1125899906842624)) := by rw [hg]; simp [hn]
      by_cases hl : b.bo < n
      · have e : mv b 4 6 n = (b, 7) := by rw [mv, if_neg h1, if_pos (show b.get 4 < n from hl)]
        rw [e]
        exact rmove_funds_4 b.f0 b.f1 b.f2 b.f3 b.bo b.wa b.bu _ n w hg hn.1 hn.2 hl
      · have e : mv b 4 6 n = ((b.put 4 (b.bo - n)).put 6 (b.bu + n), 0) := by rw [mv, if_neg h1, if_neg (show ¬ b.get 4 < n from hl)]; rfl
        rw [e]
        exact rmove_ok_46 b.f0 b.f1 b.f2 b.f3 b.bo b.wa b.bu n w hg hn.1 hn.2 (by omega)
    · have e : mv b 4 6 n = (b, 2) := by rw [mv, if_pos (.inr hn)]
      rw [e]
      exact rmove_range_in b.f0 b.f1 b.f2 b.f3 b.bo b.wa b.bu _ _ n w hg hn
  · have e : mv b 4 6 n = (b, 2) := by rw [mv, if_pos (.inl (by simpa using hg))]
    rw [e]
    exact rmove_range_bad b.f0 b.f1 b.f2 b.f3 b.bo b.wa b.bu _ _ n w (by simpa [Bk.good] using hg)
theorem rmv_56 (b : Bk) (n : Int) (w : World) :
    Calls Try.prog 76 #[.agg #[.int .i64 b.f0, .int .i64 b.f1, .int .i64 b.f2, .int .i64 b.f3, .int .i64 b.bo, .int .i64 b.wa, .int .i64 b.bu], .int .i64 5, .int .i64 6, .int .i64 n] w fun e w' => e = .returned (.tuple #[.agg #[.int .i64 (mv b 5 6 n).1.f0, .int .i64 (mv b 5 6 n).1.f1, .int .i64 (mv b 5 6 n).1.f2, .int .i64 (mv b 5 6 n).1.f3, .int .i64 (mv b 5 6 n).1.bo, .int .i64 (mv b 5 6 n).1.wa, .int .i64 (mv b 5 6 n).1.bu], .int .i64 (mv b 5 6 n).2]) ∧ Below w.heap.size w w' := by
  by_cases hg : b.good = true
  · by_cases hn : 0 ≤ n ∧ n ≤ 1125899906842624
    · have h1 : ¬ (b.good = false ∨ ¬ (0 ≤ n ∧ n ≤ 1125899906842624)) := by rw [hg]; simp [hn]
      by_cases hl : b.wa < n
      · have e : mv b 5 6 n = (b, 7) := by rw [mv, if_neg h1, if_pos (show b.get 5 < n from hl)]
        rw [e]
        exact rmove_funds_5 b.f0 b.f1 b.f2 b.f3 b.bo b.wa b.bu _ n w hg hn.1 hn.2 hl
      · have e : mv b 5 6 n = ((b.put 5 (b.wa - n)).put 6 (b.bu + n), 0) := by rw [mv, if_neg h1, if_neg (show ¬ b.get 5 < n from hl)]; rfl
        rw [e]
        exact rmove_ok_56 b.f0 b.f1 b.f2 b.f3 b.bo b.wa b.bu n w hg hn.1 hn.2 (by omega)
    · have e : mv b 5 6 n = (b, 2) := by rw [mv, if_pos (.inr hn)]
      rw [e]
      exact rmove_range_in b.f0 b.f1 b.f2 b.f3 b.bo b.wa b.bu _ _ n w hg hn
  · have e : mv b 5 6 n = (b, 2) := by rw [mv, if_pos (.inl (by simpa using hg))]
    rw [e]
    exact rmove_range_bad b.f0 b.f1 b.f2 b.f3 b.bo b.wa b.bu _ _ n w (by simpa [Bk.good] using hg)
theorem rbond_any (b : Bk) (d n : Int) (w : World) : Calls Try.prog 49 #[.agg #[.int .i64 b.f0, .int .i64 b.f1, .int .i64 b.f2, .int .i64 b.f3, .int .i64 b.bo, .int .i64 b.wa, .int .i64 b.bu], .int .i64 d, .int .i64 n] w fun e w' => e = .returned (.tuple #[.agg #[.int .i64 (bondR b d n).1.f0, .int .i64 (bondR b d n).1.f1, .int .i64 (bondR b d n).1.f2, .int .i64 (bondR b d n).1.f3, .int .i64 (bondR b d n).1.bo, .int .i64 (bondR b d n).1.wa, .int .i64 (bondR b d n).1.bu], .int .i64 (bondR b d n).2]) ∧ Below w.heap.size w w' := by
  by_cases h : 0 ≤ d ∧ d < 4
  · rw [bondR, if_pos h]
    refine rbond_walk b.f0 b.f1 b.f2 b.f3 b.bo b.wa b.bu d n (mv b d.toNat 4 n).1.f0 (mv b d.toNat 4 n).1.f1 (mv b d.toNat 4 n).1.f2 (mv b d.toNat 4 n).1.f3 (mv b d.toNat 4 n).1.bo (mv b d.toNat 4 n).1.wa (mv b d.toNat 4 n).1.bu (mv b d.toNat 4 n).2 w h.1 h.2 ?_
    intro w
    rcases (show d = 0 ∨ d = 1 ∨ d = 2 ∨ d = 3 by omega) with rfl | rfl | rfl | rfl
    · exact rmv_04 b n w
    · exact rmv_14 b n w
    · exact rmv_24 b n w
    · exact rmv_34 b n w
  · rw [bondR, if_neg h]
    exact rbond_no b.f0 b.f1 b.f2 b.f3 b.bo b.wa b.bu d n w h
theorem rpay_any (b : Bk) (d n : Int) (w : World) : Calls Try.prog 62 #[.agg #[.int .i64 b.f0, .int .i64 b.f1, .int .i64 b.f2, .int .i64 b.f3, .int .i64 b.bo, .int .i64 b.wa, .int .i64 b.bu], .int .i64 d, .int .i64 n] w fun e w' => e = .returned (.tuple #[.agg #[.int .i64 (payR b d n).1.f0, .int .i64 (payR b d n).1.f1, .int .i64 (payR b d n).1.f2, .int .i64 (payR b d n).1.f3, .int .i64 (payR b d n).1.bo, .int .i64 (payR b d n).1.wa, .int .i64 (payR b d n).1.bu], .int .i64 (payR b d n).2]) ∧ Below w.heap.size w w' := by
  by_cases h : 0 ≤ d ∧ d < 4
  · rw [payR, if_pos h]
    refine rpay_walk b.f0 b.f1 b.f2 b.f3 b.bo b.wa b.bu d n (mv b 5 d.toNat n).1.f0 (mv b 5 d.toNat n).1.f1 (mv b 5 d.toNat n).1.f2 (mv b 5 d.toNat n).1.f3 (mv b 5 d.toNat n).1.bo (mv b 5 d.toNat n).1.wa (mv b 5 d.toNat n).1.bu (mv b 5 d.toNat n).2 w h.1 h.2 ?_
    intro w
    rcases (show d = 0 ∨ d = 1 ∨ d = 2 ∨ d = 3 by omega) with rfl | rfl | rfl | rfl
    · exact rmv_50 b n w
    · exact rmv_51 b n w
    · exact rmv_52 b n w
    · exact rmv_53 b n w
  · rw [payR, if_neg h]
    exact rpay_no b.f0 b.f1 b.f2 b.f3 b.bo b.wa b.bu d n w h
theorem runbond_any (b : Bk) (n : Int) (w : World) : Calls Try.prog 60 #[.agg #[.int .i64 b.f0, .int .i64 b.f1, .int .i64 b.f2, .int .i64 b.f3, .int .i64 b.bo, .int .i64 b.wa, .int .i64 b.bu], .int .i64 n] w fun e w' => e = .returned (.tuple #[.agg #[.int .i64 (unbondR b n).1.f0, .int .i64 (unbondR b n).1.f1, .int .i64 (unbondR b n).1.f2, .int .i64 (unbondR b n).1.f3, .int .i64 (unbondR b n).1.bo, .int .i64 (unbondR b n).1.wa, .int .i64 (unbondR b n).1.bu], .int .i64 (unbondR b n).2]) ∧ Below w.heap.size w w' :=
  runbond_walk b.f0 b.f1 b.f2 b.f3 b.bo b.wa b.bu n (mv b 4 5 n).1.f0 (mv b 4 5 n).1.f1 (mv b 4 5 n).1.f2 (mv b 4 5 n).1.f3 (mv b 4 5 n).1.bo (mv b 4 5 n).1.wa (mv b 4 5 n).1.bu (mv b 4 5 n).2 w (rmv_45 b n)
theorem rburn_any (b : Bk) (x y : Int) (w : World) : Calls Try.prog 68 #[.agg #[.int .i64 b.f0, .int .i64 b.f1, .int .i64 b.f2, .int .i64 b.f3, .int .i64 b.bo, .int .i64 b.wa, .int .i64 b.bu], .int .i64 x, .int .i64 y] w fun e w' => e = .returned (.tuple #[.agg #[.int .i64 (burnR b x y).1.f0, .int .i64 (burnR b x y).1.f1, .int .i64 (burnR b x y).1.f2, .int .i64 (burnR b x y).1.f3, .int .i64 (burnR b x y).1.bo, .int .i64 (burnR b x y).1.wa, .int .i64 (burnR b x y).1.bu], .int .i64 (burnR b x y).2]) ∧ Below w.heap.size w w' := by
  refine rburn_walk b.f0 b.f1 b.f2 b.f3 b.bo b.wa b.bu x y (mv b 4 6 x).1.f0 (mv b 4 6 x).1.f1 (mv b 4 6 x).1.f2 (mv b 4 6 x).1.f3 (mv b 4 6 x).1.bo (mv b 4 6 x).1.wa (mv b 4 6 x).1.bu (mv b 4 6 x).2 (mv (mv b 4 6 x).1 5 6 y).1.f0 (mv (mv b 4 6 x).1 5 6 y).1.f1 (mv (mv b 4 6 x).1 5 6 y).1.f2 (mv (mv b 4 6 x).1 5 6 y).1.f3 (mv (mv b 4 6 x).1 5 6 y).1.bo (mv (mv b 4 6 x).1 5 6 y).1.wa (mv (mv b 4 6 x).1 5 6 y).1.bu (mv (mv b 4 6 x).1 5 6 y).2 (burnR b x y).1.f0 (burnR b x y).1.f1 (burnR b x y).1.f2 (burnR b x y).1.f3 (burnR b x y).1.bo (burnR b x y).1.wa (burnR b x y).1.bu (burnR b x y).2 w ?_ (rmv_46 b x) (rmv_56 (mv b 4 6 x).1 y)
  unfold burnR
  by_cases h1 : (mv b 4 6 x).2 = 0
  · by_cases h2 : (mv (mv b 4 6 x).1 5 6 y).2 = 0
    · rw [if_pos h1, if_pos h2]
      exact .inr (.inr ⟨h1, h2, rfl, rfl, rfl, rfl, rfl, rfl, rfl, rfl⟩)
    · rw [if_pos h1, if_neg h2]
      exact .inr (.inl ⟨h1, h2, rfl, rfl, rfl, rfl, rfl, rfl, rfl, rfl⟩)
  · rw [if_neg h1]
    exact .inl ⟨h1, rfl, rfl, rfl, rfl, rfl, rfl, rfl, rfl⟩
end Go.Proofs.Ytookecjeknpheac
