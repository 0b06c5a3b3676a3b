/- Parts of the proof: T1 RD RE RG1. -/
import Derived.Test.YtjghbciepinofaaGreatRows
import Derived.Test.YtjghbciepinofaaGreatPEK33
import Derived.Test.YtjghbciepinofaaGreatPEK40
import Derived.WalkKit
import Derived.LoopN
import Derived.RowKit3
import Derived.BigQuiet
set_option maxRecDepth 100000
namespace Go.Proofs.YtjghbciepinofaaGreat
open Go.RowKit
theorem ix7_0 (w : World) (a0 a1 a2 a3 a4 a5 a6 : Value) : (Instr.index 191 (.agg #[a0, a1, a2, a3, a4, a5, a6]) (.int .i64 0)).run Tryz.prog w = .ok a0 w := by kernel_rfl
theorem ix7_1 (w : World) (a0 a1 a2 a3 a4 a5 a6 : Value) : (Instr.index 191 (.agg #[a0, a1, a2, a3, a4, a5, a6]) (.int .i64 1)).run Tryz.prog w = .ok a1 w := by kernel_rfl
theorem ix7_2 (w : World) (a0 a1 a2 a3 a4 a5 a6 : Value) : (Instr.index 191 (.agg #[a0, a1, a2, a3, a4, a5, a6]) (.int .i64 2)).run Tryz.prog w = .ok a2 w := by kernel_rfl
theorem ix7_3 (w : World) (a0 a1 a2 a3 a4 a5 a6 : Value) : (Instr.index 191 (.agg #[a0, a1, a2, a3, a4, a5, a6]) (.int .i64 3)).run Tryz.prog w = .ok a3 w := by kernel_rfl
theorem ix7_4 (w : World) (a0 a1 a2 a3 a4 a5 a6 : Value) : (Instr.index 191 (.agg #[a0, a1, a2, a3, a4, a5, a6]) (.int .i64 4)).run Tryz.prog w = .ok a4 w := by kernel_rfl
theorem ix7_5 (w : World) (a0 a1 a2 a3 a4 a5 a6 : Value) : (Instr.index 191 (.agg #[a0, a1, a2, a3, a4, a5, a6]) (.int .i64 5)).run Tryz.prog w = .ok a5 w := by kernel_rfl
theorem ix7_6 (w : World) (a0 a1 a2 a3 a4 a5 a6 : Value) : (Instr.index 191 (.agg #[a0, a1, a2, a3, a4, a5, a6]) (.int .i64 6)).run Tryz.prog w = .ok a6 w := by kernel_rfl
theorem rplaces_any (f0 f1 f2 f3 bo wa bu : Int) (w : World) : Calls Tryz.prog 157 #[.agg #[.int .i64 f0, .int .i64 f1, .int .i64 f2, .int .i64 f3, .int .i64 bo, .int .i64 wa, .int .i64 bu]] w fun e w' => e = .returned (.agg #[.int .i64 f0, .int .i64 f1, .int .i64 f2, .int .i64 f3, .int .i64 bo, .int .i64 wa, .int .i64 bu]) ∧ Below w.heap.size w w' := by
  go_enter Tryz.func157, Tryz.ntmps157
  go_wp2
  exact bodyPost_ret (v := .agg #[.int .i64 f0, .int .i64 f1, .int .i64 f2, .int .i64 f3, .int .i64 bo, .int .i64 wa, .int .i64 bu]) (by simp [results, Tryz.results157, go_sem]) rfl ⟨rfl, ((Below.refl _ w).alloc (Nat.le_refl _) _).alloc (by simp) _⟩
theorem rbanked_any (f0 f1 f2 f3 bo wa bu : Int) (w : World) : Calls Tryz.prog 158 #[.agg #[.int .i64 f0, .int .i64 f1, .int .i64 f2, .int .i64 f3, .int .i64 bo, .int .i64 wa, .int .i64 bu]] w fun e w' => e = .returned (.agg #[.int .i64 f0, .int .i64 f1, .int .i64 f2, .int .i64 f3, .int .i64 bo, .int .i64 wa, .int .i64 bu]) ∧ Below w.heap.size w w' := by
  go_enter Tryz.func158, Tryz.ntmps158
  go_wp2
  exact bodyPost_ret (v := .agg #[.int .i64 f0, .int .i64 f1, .int .i64 f2, .int .i64 f3, .int .i64 bo, .int .i64 wa, .int .i64 bu]) (by simp [results, Tryz.results158, go_sem]) rfl ⟨rfl, ((Below.refl _ w).alloc (Nat.le_refl _) _).alloc (by simp) _⟩
theorem rin_any (d : Int) (w : World) : Calls Tryz.prog 138 #[.int .i64 d] w fun e w' => e = .returned (.bool (decide (0 ≤ d ∧ d ≤ 1125899906842624))) ∧ w = w' := by
  by_cases h0 : 0 ≤ d
  · by_cases h1 : d ≤ 1125899906842624
    · rw [decide_eq_true ⟨h0, h1⟩]
      go_enter Tryz.func138, Tryz.ntmps138
      go_wp2
      go_ret
      exact ⟨rfl, rfl⟩
    · rw [decide_eq_false (fun h => h1 h.2)]
      have h2 : 1125899906842624 < d := by omega
      go_enter Tryz.func138, Tryz.ntmps138
      go_wp2
      go_ret
      exact ⟨rfl, rfl⟩
  · rw [decide_eq_false (fun h => h0 h.1)]
    have h2 : d < 0 := by omega
    go_enter Tryz.func138, Tryz.ntmps138
    go_wp2
    go_ret
    exact ⟨rfl, rfl⟩
def psm (f0 f1 f2 f3 bo wa bu : Int) : Nat → Int
  | 0 => 0
  | 1 => f0
  | 2 => f0 + f1
  | 3 => f0 + f1 + f2
  | 4 => f0 + f1 + f2 + f3
  | 5 => f0 + f1 + f2 + f3 + bo
  | 6 => f0 + f1 + f2 + f3 + bo + wa
  | _ => f0 + f1 + f2 + f3 + bo + wa + bu
def inr (n : Int) : Prop := 0 ≤ n ∧ n ≤ 400000
def okk (f0 f1 f2 f3 bo wa bu : Int) (k : Nat) : Prop := (0 < k → inr f0) ∧ (1 < k → inr f1) ∧ (2 < k → inr f2) ∧ (3 < k → inr f3) ∧ (4 < k → inr bo) ∧ (5 < k → inr wa) ∧ (6 < k → inr bu)
set_option maxHeartbeats 2000000 in
theorem rgood_any (f0 f1 f2 f3 bo wa bu : Int) (w : World) : Calls Tryz.prog 137 #[.agg #[.int .i64 f0, .int .i64 f1, .int .i64 f2, .int .i64 f3, .int .i64 bo, .int .i64 wa, .int .i64 bu]] w fun e w' => e = .returned (.bool (goodB f0 f1 f2 f3 bo wa bu)) ∧ Below w.heap.size w w' := by
  have hno : ¬ (inr f0 ∧ inr f1 ∧ inr f2 ∧ inr f3 ∧ inr bo ∧ inr wa ∧ inr bu) → goodB f0 f1 f2 f3 bo wa bu = false := fun h => decide_eq_false fun g => h ⟨g.1, g.2.1, g.2.2.1, g.2.2.2.1, g.2.2.2.2.1, g.2.2.2.2.2.1, g.2.2.2.2.2.2.1⟩
  have HN : Hid (¬ (inr f0 ∧ inr f1 ∧ inr f2 ∧ inr f3 ∧ inr bo ∧ inr wa ∧ inr bu) → goodB f0 f1 f2 f3 bo wa bu = false) := hno
  clear hno
  have hyes : inr f0 ∧ inr f1 ∧ inr f2 ∧ inr f3 ∧ inr bo ∧ inr wa ∧ inr bu → goodB f0 f1 f2 f3 bo wa bu = (f0 + f1 + f2 + f3 + bo + wa + bu == 400000) := by
    intro h
    unfold goodB inr at *
    simp [h]
    rfl
  have HY : Hid (inr f0 ∧ inr f1 ∧ inr f2 ∧ inr f3 ∧ inr bo ∧ inr wa ∧ inr bu → goodB f0 f1 f2 f3 bo wa bu = (f0 + f1 + f2 + f3 + bo + wa + bu == 400000)) := hyes
  clear hyes
  generalize goodB f0 f1 f2 f3 bo wa bu = G at *
  have HB : Hid (Below w.heap.size w (w.alloc (.cells #[.int .i64 f0, .int .i64 f1, .int .i64 f2, .int .i64 f3, .int .i64 bo, .int .i64 wa, .int .i64 bu] 24))) := (Below.refl _ w).alloc (Nat.le_refl _) _
  go_enter Tryz.func137, Tryz.ntmps137
  go_wp2_with fail
  refine (rplaces_any f0 f1 f2 f3 bo wa bu _).mono ?_
  rintro e w1 ⟨rfl, h1⟩
  have HB1 : Hid (Below w.heap.size w w1) := HB.out.trans (h1.mono HB.out.size)
  clear HB h1
  go_wp2
  go_loop [3, 8] (fun s i => ∃ k : Nat, k ≤ 7 ∧ i = .int .i64 (k : Int) ∧ s = .int .i64 (psm f0 f1 f2 f3 bo wa bu k) ∧ Hid (okk f0 f1 f2 f3 bo wa bu k)) (fun _ i => (7 - intOf i).toNat)
  case atStart => exact ⟨0, by omega, rfl, rfl, by simp [Hid, okk]⟩
  case round =>
    obtain ⟨k, hk, rfl, rfl, HO⟩ := hrel
    rcases (show k = 0 ∨ k = 1 ∨ k = 2 ∨ k = 3 ∨ k = 4 ∨ k = 5 ∨ k = 6 ∨ k = 7 by omega) with rfl | rfl | rfl | rfl | rfl | rfl | rfl | rfl
    · have hi := ix7_0
      have hw : 0 ≤ f0 → f0 ≤ 400000 → wrap64 (0 + f0) = f0 := by
        intro g1 g2
        skip
        rw [wrap64_small (by omega) (by omega)]
        omega
      skip
      simp only [psm]
      by_cases g1 : f0 < 0
      · have hG := HN.out (fun h => absurd h.1.1 (by omega))
        subst hG
        clear hw
        go_wp2
        go_ret
        exact ⟨rfl, HB1.out⟩
      · by_cases g2 : 400000 < f0
        · have hG := HN.out (fun h => absurd h.1.2 (by omega))
          subst hG
          clear hw
          go_wp2
          go_ret
          exact ⟨rfl, HB1.out⟩
        · have hw' := hw (by omega) (by omega)
          clear hw
          have hgin : inr f0 := ⟨by omega, by omega⟩
          have HO' : Hid (okk f0 f1 f2 f3 bo wa bu 1) := by
            skip
            simp [Hid, okk]
            exact hgin
          clear hgin HO
          go_wp2
          go_round
          case rel => exact ⟨1, by omega, by go_num, by first | rfl | (rw [hw']; rfl), HO'⟩
          case measure => simp [intOf]
    · have hi := ix7_1
      have o0 := HO.out.1 (by omega)
      have hw : 0 ≤ f1 → f1 ≤ 400000 → wrap64 (f0 + f1) = f0 + f1 := by
        intro g1 g2
        unfold inr at *
        rw [wrap64_small (by omega) (by omega)]
        
      clear o0
      simp only [psm]
      by_cases g1 : f1 < 0
      · have hG := HN.out (fun h => absurd h.2.1.1 (by omega))
        subst hG
        clear hw
        go_wp2
        go_ret
        exact ⟨rfl, HB1.out⟩
      · by_cases g2 : 400000 < f1
        · have hG := HN.out (fun h => absurd h.2.1.2 (by omega))
          subst hG
          clear hw
          go_wp2
          go_ret
          exact ⟨rfl, HB1.out⟩
        · have hw' := hw (by omega) (by omega)
          clear hw
          have hgin : inr f1 := ⟨by omega, by omega⟩
          have HO' : Hid (okk f0 f1 f2 f3 bo wa bu 2) := by
            have := HO.out
            simp [Hid, okk] at this ⊢
            simp [this, hgin]
          clear hgin HO
          go_wp2
          go_round
          case rel => exact ⟨2, by omega, by go_num, by first | rfl | (rw [hw']; rfl), HO'⟩
          case measure => simp [intOf]
    · have hi := ix7_2
      have o0 := HO.out.1 (by omega)
      have o1 := HO.out.2.1 (by omega)
      have hw : 0 ≤ f2 → f2 ≤ 400000 → wrap64 (f0 + f1 + f2) = f0 + f1 + f2 := by
        intro g1 g2
        unfold inr at *
        rw [wrap64_small (by omega) (by omega)]
        
      clear o0 o1
      simp only [psm]
      by_cases g1 : f2 < 0
      · have hG := HN.out (fun h => absurd h.2.2.1.1 (by omega))
        subst hG
        clear hw
        go_wp2
        go_ret
        exact ⟨rfl, HB1.out⟩
      · by_cases g2 : 400000 < f2
        · have hG := HN.out (fun h => absurd h.2.2.1.2 (by omega))
          subst hG
          clear hw
          go_wp2
          go_ret
          exact ⟨rfl, HB1.out⟩
        · have hw' := hw (by omega) (by omega)
          clear hw
          have hgin : inr f2 := ⟨by omega, by omega⟩
          have HO' : Hid (okk f0 f1 f2 f3 bo wa bu 3) := by
            have := HO.out
            simp [Hid, okk] at this ⊢
            simp [this, hgin]
          clear hgin HO
          go_wp2
          go_round
          case rel => exact ⟨3, by omega, by go_num, by first | rfl | (rw [hw']; rfl), HO'⟩
          case measure => simp [intOf]
    · have hi := ix7_3
      have o0 := HO.out.1 (by omega)
      have o1 := HO.out.2.1 (by omega)
      have o2 := HO.out.2.2.1 (by omega)
      have hw : 0 ≤ f3 → f3 ≤ 400000 → wrap64 (f0 + f1 + f2 + f3) = f0 + f1 + f2 + f3 := by
        intro g1 g2
        unfold inr at *
        rw [wrap64_small (by omega) (by omega)]
        
      clear o0 o1 o2
      simp only [psm]
      by_cases g1 : f3 < 0
      · have hG := HN.out (fun h => absurd h.2.2.2.1.1 (by omega))
        subst hG
        clear hw
        go_wp2
        go_ret
        exact ⟨rfl, HB1.out⟩
      · by_cases g2 : 400000 < f3
        · have hG := HN.out (fun h => absurd h.2.2.2.1.2 (by omega))
          subst hG
          clear hw
          go_wp2
          go_ret
          exact ⟨rfl, HB1.out⟩
        · have hw' := hw (by omega) (by omega)
          clear hw
          have hgin : inr f3 := ⟨by omega, by omega⟩
          have HO' : Hid (okk f0 f1 f2 f3 bo wa bu 4) := by
            have := HO.out
            simp [Hid, okk] at this ⊢
            simp [this, hgin]
          clear hgin HO
          go_wp2
          go_round
          case rel => exact ⟨4, by omega, by go_num, by first | rfl | (rw [hw']; rfl), HO'⟩
          case measure => simp [intOf]
    · have hi := ix7_4
      have o0 := HO.out.1 (by omega)
      have o1 := HO.out.2.1 (by omega)
      have o2 := HO.out.2.2.1 (by omega)
      have o3 := HO.out.2.2.2.1 (by omega)
      have hw : 0 ≤ bo → bo ≤ 400000 → wrap64 (f0 + f1 + f2 + f3 + bo) = f0 + f1 + f2 + f3 + bo := by
        intro g1 g2
        unfold inr at *
        rw [wrap64_small (by omega) (by omega)]
        
      clear o0 o1 o2 o3
      simp only [psm]
      by_cases g1 : bo < 0
      · have hG := HN.out (fun h => absurd h.2.2.2.2.1.1 (by omega))
        subst hG
        clear hw
        go_wp2
        go_ret
        exact ⟨rfl, HB1.out⟩
      · by_cases g2 : 400000 < bo
        · have hG := HN.out (fun h => absurd h.2.2.2.2.1.2 (by omega))
          subst hG
          clear hw
          go_wp2
          go_ret
          exact ⟨rfl, HB1.out⟩
        · have hw' := hw (by omega) (by omega)
          clear hw
          have hgin : inr bo := ⟨by omega, by omega⟩
          have HO' : Hid (okk f0 f1 f2 f3 bo wa bu 5) := by
            have := HO.out
            simp [Hid, okk] at this ⊢
            simp [this, hgin]
          clear hgin HO
          go_wp2
          go_round
          case rel => exact ⟨5, by omega, by go_num, by first | rfl | (rw [hw']; rfl), HO'⟩
          case measure => simp [intOf]
    · have hi := ix7_5
      have o0 := HO.out.1 (by omega)
      have o1 := HO.out.2.1 (by omega)
      have o2 := HO.out.2.2.1 (by omega)
      have o3 := HO.out.2.2.2.1 (by omega)
      have o4 := HO.out.2.2.2.2.1 (by omega)
      have hw : 0 ≤ wa → wa ≤ 400000 → wrap64 (f0 + f1 + f2 + f3 + bo + wa) = f0 + f1 + f2 + f3 + bo + wa := by
        intro g1 g2
        unfold inr at *
        rw [wrap64_small (by omega) (by omega)]
        
      clear o0 o1 o2 o3 o4
      simp only [psm]
      by_cases g1 : wa < 0
      · have hG := HN.out (fun h => absurd h.2.2.2.2.2.1.1 (by omega))
        subst hG
        clear hw
        go_wp2
        go_ret
        exact ⟨rfl, HB1.out⟩
      · by_cases g2 : 400000 < wa
        · have hG := HN.out (fun h => absurd h.2.2.2.2.2.1.2 (by omega))
          subst hG
          clear hw
          go_wp2
          go_ret
          exact ⟨rfl, HB1.out⟩
        · have hw' := hw (by omega) (by omega)
          clear hw
          have hgin : inr wa := ⟨by omega, by omega⟩
          have HO' : Hid (okk f0 f1 f2 f3 bo wa bu 6) := by
            have := HO.out
            simp [Hid, okk] at this ⊢
            simp [this, hgin]
          clear hgin HO
          go_wp2
          go_round
          case rel => exact ⟨6, by omega, by go_num, by first | rfl | (rw [hw']; rfl), HO'⟩
          case measure => simp [intOf]
    · have hi := ix7_6
      have o0 := HO.out.1 (by omega)
      have o1 := HO.out.2.1 (by omega)
      have o2 := HO.out.2.2.1 (by omega)
      have o3 := HO.out.2.2.2.1 (by omega)
      have o4 := HO.out.2.2.2.2.1 (by omega)
      have o5 := HO.out.2.2.2.2.2.1 (by omega)
      have hw : 0 ≤ bu → bu ≤ 400000 → wrap64 (f0 + f1 + f2 + f3 + bo + wa + bu) = f0 + f1 + f2 + f3 + bo + wa + bu := by
        intro g1 g2
        unfold inr at *
        rw [wrap64_small (by omega) (by omega)]
        
      clear o0 o1 o2 o3 o4 o5
      simp only [psm]
      by_cases g1 : bu < 0
      · have hG := HN.out (fun h => absurd h.2.2.2.2.2.2.1 (by omega))
        subst hG
        clear hw
        go_wp2
        go_ret
        exact ⟨rfl, HB1.out⟩
      · by_cases g2 : 400000 < bu
        · have hG := HN.out (fun h => absurd h.2.2.2.2.2.2.2 (by omega))
          subst hG
          clear hw
          go_wp2
          go_ret
          exact ⟨rfl, HB1.out⟩
        · have hw' := hw (by omega) (by omega)
          clear hw
          have hgin : inr bu := ⟨by omega, by omega⟩
          have HO' : Hid (okk f0 f1 f2 f3 bo wa bu 7) := by
            have := HO.out
            simp [Hid, okk] at this ⊢
            simp [this, hgin]
          clear hgin HO
          go_wp2
          go_round
          case rel => exact ⟨7, by omega, by go_num, by first | rfl | (rw [hw']; rfl), HO'⟩
          case measure => simp [intOf]
    · have o := HO.out
      have hG := HY.out ⟨o.1 (by omega), o.2.1 (by omega), o.2.2.1 (by omega), o.2.2.2.1 (by omega), o.2.2.2.2.1 (by omega), o.2.2.2.2.2.1 (by omega), o.2.2.2.2.2.2 (by omega)⟩
      clear o HO HN HY
      simp only [psm]
      go_wp2
      go_ret
      exact ⟨rfl, HB1.out⟩
end Go.Proofs.YtjghbciepinofaaGreat

set_option maxRecDepth 100000
namespace Go.Proofs.YtjghbciepinofaaGreat.Ra
open Go.RowKit

set_option maxHeartbeats 4000000 in
theorem div64_core (hi lo y Y y1 y0 H L u N u1 u0 Q1 R1 Q0 : Int) (s : Nat) (h0 : 0 < hi) (h1 : hi < y) (hs1 : 1 ≤ s) (hs2 : s ≤ 63)
    (eY : IntKind.u64.wrap (y * 2 ^ s) = Y) (ey1 : Y / 4294967296 = y1) (ey0 : bits .and .u64 Y 4294967295 = y0)
    (eH : IntKind.u64.wrap (hi * 2 ^ s) = H) (eL : lo / 2 ^ (64 - s) = L) (eu : bits .or .u64 H L = u)
    (eN : IntKind.u64.wrap (lo * 2 ^ s) = N) (eu1 : N / 4294967296 = u1) (eu0 : bits .and .u64 N 4294967295 = u0)
    (by0 : 0 ≤ y0) (by0' : y0 < 4294967296) (by1 : 2147483648 ≤ y1) (by1' : y1 < 4294967296) (bu : 0 ≤ u) (HY : Hid (Y = y1 * 4294967296 + y0)) (HU : Hid (u < y1 * 4294967296 + y0))
    (bu1 : 0 ≤ u1) (bu1' : u1 < 4294967296) (bu0 : 0 ≤ u0) (bu0' : u0 < 4294967296)
    (HQ1 : Hid (Q1 = (u * 4294967296 + u1) / (y1 * 4294967296 + y0))) (HR1 : Hid (R1 = (u * 4294967296 + u1) % (y1 * 4294967296 + y0))) (HQ0 : Hid (Q0 = (R1 * 4294967296 + u0) / (y1 * 4294967296 + y0)))
    (c : ∀ w, Calls Tryz.prog 168 #[.int .u64 y] w fun e w' => e = .returned (.int .i64 s) ∧ w' = w) (w : World) :
    Calls Tryz.prog 160 #[.int .u64 hi, .int .u64 lo, .int .u64 y] w fun e w' => ∃ r, e = .returned (.tuple #[.int .u64 (Q1 * 4294967296 + Q0), .int .u64 r]) ∧ Below w.heap.size w w' := by
  have t1 : (y == 0) = false := by simp; omega
  have t2 : ¬ y ≤ hi := by omega
  have t3 : (hi == 0) = false := by simp; omega
  have t4 : ¬ y1 = 0 := by omega
  have bR : 0 ≤ R1 := by rw [HR1.out]; exact Int.emod_nonneg _ (by omega)
  have HR : Hid (R1 < y1 * 4294967296 + y0) := by show _ < _; rw [HR1.out]; exact Int.emod_lt_of_pos _ (by omega)
  obtain ⟨D1, a0, a1, p0, p1, d1⟩ := Dig.first y1 y0 u u1 Q1 by0 by0' by1 by1' bu HU.out bu1 bu1' HQ1.out
  obtain ⟨D2, b0, b1, v0, v1, d2⟩ := Dig.first y1 y0 R1 u0 Q0 by0 by0' by1 by1' bR HR.out bu0 bu0' HQ0.out
  have ed : u.tdiv y1 = u / y1 := Int.tdiv_eq_ediv_of_nonneg bu
  have ed2 : R1.tdiv y1 = R1 / y1 := Int.tdiv_eq_ediv_of_nonneg bR
  have bU : u < 18446744073709551616 := by have := HU.out; omega
  have bRr : R1 < 18446744073709551616 := by have := HR.out; omega
  have gd : 0 ≤ u / y1 ∧ u / y1 ≤ 4294967297 := ⟨D1.2.2.1, D1.2.2.2.1⟩
  have gm : 0 ≤ u % y1 ∧ u % y1 < 4294967296 := ⟨D1.2.2.2.2.1, D1.2.2.2.2.2⟩
  have gd2 : 0 ≤ R1 / y1 ∧ R1 / y1 ≤ 4294967297 := ⟨D2.2.2.1, D2.2.2.2.1⟩
  have gm2 : 0 ≤ R1 % y1 ∧ R1 % y1 < 4294967296 := ⟨D2.2.2.2.2.1, D2.2.2.2.2.2⟩
  -- what the text reckons between the loops
  obtain ⟨A, eA⟩ : ∃ A, IntKind.u64.wrap (u * 4294967296) = A := ⟨_, rfl⟩
  obtain ⟨B, eB⟩ : ∃ B, IntKind.u64.wrap (A + u1) = B := ⟨_, rfl⟩
  obtain ⟨C, eC⟩ : ∃ C, IntKind.u64.wrap (Q1 * Y) = C := ⟨_, rfl⟩
  have eD : IntKind.u64.wrap (B - C) = R1 := by
    have e := Int.mul_ediv_add_emod (u * 4294967296 + u1) (y1 * 4294967296 + y0)
    rw [← HR1.out, ← HQ1.out, ← HY.out, Int.mul_comm Y Q1] at e
    rw [← eB, ← eC, ← eA]
    simp only [IntKind.wrap_u64]
    generalize Q1 * Y = z at *
    omega
  obtain ⟨E1, eE⟩ : ∃ E, IntKind.u64.wrap (Q1 * 4294967296) = E := ⟨_, rfl⟩
  have eF : IntKind.u64.wrap (E1 + Q0) = Q1 * 4294967296 + Q0 := by
    rw [← eE]
    simp only [IntKind.wrap_u64]
    omega
  obtain ⟨q, hq⟩ : ∃ q, u / y1 = q := ⟨_, rfl⟩
  obtain ⟨r, hr⟩ : ∃ r, u % y1 = r := ⟨_, rfl⟩
  rw [hq] at gd ed D1 p0 p1 d1
  rw [hr] at gm d1 D1
  obtain ⟨p, hp⟩ : ∃ p, q * y1 = p := ⟨_, rfl⟩
  rw [hp] at p0 p1 d1
  have eq1 : IntKind.u64.wrap q = q := by rw [IntKind.wrap_u64]; omega
  have ep : IntKind.u64.wrap p = p := by rw [IntKind.wrap_u64]; omega
  have er : IntKind.u64.wrap (u - p) = r := by rw [IntKind.wrap_u64]; omega
  obtain ⟨q', hq'⟩ : ∃ q, R1 / y1 = q := ⟨_, rfl⟩
  obtain ⟨r', hr'⟩ : ∃ r, R1 % y1 = r := ⟨_, rfl⟩
  rw [hq'] at gd2 ed2 D2 v0 v1 d2
  rw [hr'] at gm2 d2 D2
  obtain ⟨p', hp'⟩ : ∃ p, q' * y1 = p := ⟨_, rfl⟩
  rw [hp'] at v0 v1 d2
  have eq2 : IntKind.u64.wrap q' = q' := by rw [IntKind.wrap_u64]; omega
  have ep2 : IntKind.u64.wrap p' = p' := by rw [IntKind.wrap_u64]; omega
  have er2 : IntKind.u64.wrap (R1 - p') = r' := by rw [IntKind.wrap_u64]; omega
  have HD : Hid (Dig y1 u Q1 q r) := D1
  have HD2 : Hid (Dig y1 R1 Q0 q' r') := D2
  clear D1 hr hq d1 D2 hr' hq' d2
  go_enter Tryz.func160, Tryz.ntmps160
  go_wp2_with (go_at_call 168; refine (c _).mono ?_; rintro e w' ⟨rfl, rfl⟩)
  clear eY ey1 ey0 eH eL eu eN eu1 eu0 ed hp ep er c gd gm p0 p1 eq1 t1 t2 t3
  go_loop [15, 16] (fun a b => ∃ q r : Int, a = .int .u64 q ∧ b = .int .u64 r ∧ Hid (Dig y1 u Q1 q r)) (fun a _ => (intOf a).toNat)
  case atStart => exact ⟨q, r, rfl, rfl, HD⟩
  case round =>
    obtain ⟨a1, b1, rfl, rfl, D1⟩ := hrel
    have ga1 : 0 ≤ a1 ∧ a1 ≤ 4294967297 ∧ 0 ≤ b1 ∧ b1 < 4294967296 ∧ Q1 ≤ a1 := ⟨D1.out.2.2.1, D1.out.2.2.2.1, D1.out.2.2.2.2.1, D1.out.2.2.2.2.2, D1.out.2.1⟩
    obtain ⟨ga1, ga2, ga3, ga4, ga5⟩ := ga1
    by_cases hlt : Q1 < a1
    · by_cases hbig : 4294967296 ≤ a1
      · skip
        have hm : IntKind.u64.wrap (a1 - 1) = a1 - 1 := by rw [IntKind.wrap_u64]; omega
        have hp : IntKind.u64.wrap (b1 + y1) = b1 + y1 := by rw [IntKind.wrap_u64]; omega
        by_cases hr : 4294967296 ≤ b1 + y1
        · have hl := D1.out.last hlt by0 by0' bu1 (by omega) HQ1.out hr
          obtain rfl : a1 = Q1 + 1 := by omega
          have hm2 : IntKind.u64.wrap (Q1 + 1 - 1) = Q1 := by rw [IntKind.wrap_u64]; omega
          clear D1 hl hm 
          go_wp2
          go_loop [18, 16] (fun a b => ∃ q r : Int, a = .int .u64 q ∧ b = .int .u64 r ∧ Hid (Dig y1 R1 Q0 q r)) (fun a _ => (intOf a).toNat)
          case atStart => exact ⟨q', r', rfl, rfl, HD2⟩
          case round =>
            obtain ⟨a2, b2, rfl, rfl, D2⟩ := hrel
            have ga2 : 0 ≤ a2 ∧ a2 ≤ 4294967297 ∧ 0 ≤ b2 ∧ b2 < 4294967296 ∧ Q0 ≤ a2 := ⟨D2.out.2.2.1, D2.out.2.2.2.1, D2.out.2.2.2.2.1, D2.out.2.2.2.2.2, D2.out.2.1⟩
            obtain ⟨ga1, ga2, ga3, ga4, ga5⟩ := ga2
            by_cases hlt : Q0 < a2
            · by_cases hbig : 4294967296 ≤ a2
              · skip
                have hm : IntKind.u64.wrap (a2 - 1) = a2 - 1 := by rw [IntKind.wrap_u64]; omega
                have hp : IntKind.u64.wrap (b2 + y1) = b2 + y1 := by rw [IntKind.wrap_u64]; omega
                by_cases hr : 4294967296 ≤ b2 + y1
                · have hl := D2.out.last hlt by0 by0' bu0 (by omega) HQ0.out hr
                  obtain rfl : a2 = Q0 + 1 := by omega
                  have hm2 : IntKind.u64.wrap (Q0 + 1 - 1) = Q0 := by rw [IntKind.wrap_u64]; omega
                  clear D2 hl hm 
                  go_wp2
                  go_ret2
                  exact ⟨⟨_, rfl⟩, ⟨rfl, rfl, rfl, Nat.le_refl _, fun _ _ => rfl⟩⟩
                · have HN : Hid (Dig y1 R1 Q0 (a2 - 1) (b2 + y1)) := D2.out.next hlt (by omega) (by omega) (by omega)
                  clear D2
                  go_wp2
                  go_round
                  case rel => exact ⟨_, _, rfl, rfl, HN⟩
                  case measure => simp [intOf]; omega
              · skip
                have hP := D2.out.prod by0 by0'
                have hG := D2.out.gt (y0 := y0) (u1 := u0) (by omega) HQ0.out
                obtain ⟨P, eP⟩ : ∃ P, a2 * y0 = P := ⟨_, rfl⟩
                rw [eP] at hP hG
                have wP : IntKind.u64.wrap P = P := by rw [IntKind.wrap_u64]; omega
                have wT : IntKind.u64.wrap (4294967296 * b2) = 4294967296 * b2 := by rw [IntKind.wrap_u64]; omega
                have wS : IntKind.u64.wrap (4294967296 * b2 + u0) = 4294967296 * b2 + u0 := by rw [IntKind.wrap_u64]; omega
                have hS : 4294967296 * b2 + u0 < P := hG.2 hlt
                clear hG hP
                have hm : IntKind.u64.wrap (a2 - 1) = a2 - 1 := by rw [IntKind.wrap_u64]; omega
                have hp : IntKind.u64.wrap (b2 + y1) = b2 + y1 := by rw [IntKind.wrap_u64]; omega
                by_cases hr : 4294967296 ≤ b2 + y1
                · have hl := D2.out.last hlt by0 by0' bu0 (by omega) HQ0.out hr
                  obtain rfl : a2 = Q0 + 1 := by omega
                  have hm2 : IntKind.u64.wrap (Q0 + 1 - 1) = Q0 := by rw [IntKind.wrap_u64]; omega
                  clear D2 hl hm 
                  go_wp2
                  go_ret2
                  exact ⟨⟨_, rfl⟩, ⟨rfl, rfl, rfl, Nat.le_refl _, fun _ _ => rfl⟩⟩
                · have HN : Hid (Dig y1 R1 Q0 (a2 - 1) (b2 + y1)) := D2.out.next hlt (by omega) (by omega) (by omega)
                  clear D2
                  go_wp2
                  go_round
                  case rel => exact ⟨_, _, rfl, rfl, HN⟩
                  case measure => simp [intOf]; omega
            · obtain rfl : Q0 = a2 := by omega
              have hbig : ¬ 4294967296 ≤ Q0 := by omega
              have hP := D2.out.prod by0 by0'
              have hG := D2.out.gt (y0 := y0) (u1 := u0) (by omega) HQ0.out
              obtain ⟨P, eP⟩ : ∃ P, Q0 * y0 = P := ⟨_, rfl⟩
              rw [eP] at hP hG
              have wP : IntKind.u64.wrap P = P := by rw [IntKind.wrap_u64]; omega
              have wT : IntKind.u64.wrap (4294967296 * b2) = 4294967296 * b2 := by rw [IntKind.wrap_u64]; omega
              have wS : IntKind.u64.wrap (4294967296 * b2 + u0) = 4294967296 * b2 + u0 := by rw [IntKind.wrap_u64]; omega
              have hS : ¬ 4294967296 * b2 + u0 < P := fun h => hlt (hG.1 h)
              clear hG hP D2
              go_wp2
              go_ret2
              exact ⟨⟨_, rfl⟩, ⟨rfl, rfl, rfl, Nat.le_refl _, fun _ _ => rfl⟩⟩
        · have HN : Hid (Dig y1 u Q1 (a1 - 1) (b1 + y1)) := D1.out.next hlt (by omega) (by omega) (by omega)
          clear D1
          go_wp2
          go_round
          case rel => exact ⟨_, _, rfl, rfl, HN⟩
          case measure => simp [intOf]; omega
      · skip
        have hP := D1.out.prod by0 by0'
        have hG := D1.out.gt (y0 := y0) (u1 := u1) (by omega) HQ1.out
        obtain ⟨P, eP⟩ : ∃ P, a1 * y0 = P := ⟨_, rfl⟩
        rw [eP] at hP hG
        have wP : IntKind.u64.wrap P = P := by rw [IntKind.wrap_u64]; omega
        have wT : IntKind.u64.wrap (4294967296 * b1) = 4294967296 * b1 := by rw [IntKind.wrap_u64]; omega
        have wS : IntKind.u64.wrap (4294967296 * b1 + u1) = 4294967296 * b1 + u1 := by rw [IntKind.wrap_u64]; omega
        have hS : 4294967296 * b1 + u1 < P := hG.2 hlt
        clear hG hP
        have hm : IntKind.u64.wrap (a1 - 1) = a1 - 1 := by rw [IntKind.wrap_u64]; omega
        have hp : IntKind.u64.wrap (b1 + y1) = b1 + y1 := by rw [IntKind.wrap_u64]; omega
        by_cases hr : 4294967296 ≤ b1 + y1
        · have hl := D1.out.last hlt by0 by0' bu1 (by omega) HQ1.out hr
          obtain rfl : a1 = Q1 + 1 := by omega
          have hm2 : IntKind.u64.wrap (Q1 + 1 - 1) = Q1 := by rw [IntKind.wrap_u64]; omega
          clear D1 hl hm 
          go_wp2
          go_loop [18, 16] (fun a b => ∃ q r : Int, a = .int .u64 q ∧ b = .int .u64 r ∧ Hid (Dig y1 R1 Q0 q r)) (fun a _ => (intOf a).toNat)
          case atStart => exact ⟨q', r', rfl, rfl, HD2⟩
          case round =>
            obtain ⟨a2, b2, rfl, rfl, D2⟩ := hrel
            have ga2 : 0 ≤ a2 ∧ a2 ≤ 4294967297 ∧ 0 ≤ b2 ∧ b2 < 4294967296 ∧ Q0 ≤ a2 := ⟨D2.out.2.2.1, D2.out.2.2.2.1, D2.out.2.2.2.2.1, D2.out.2.2.2.2.2, D2.out.2.1⟩
            obtain ⟨ga1, ga2, ga3, ga4, ga5⟩ := ga2
            by_cases hlt : Q0 < a2
            · by_cases hbig : 4294967296 ≤ a2
              · skip
                have hm : IntKind.u64.wrap (a2 - 1) = a2 - 1 := by rw [IntKind.wrap_u64]; omega
                have hp : IntKind.u64.wrap (b2 + y1) = b2 + y1 := by rw [IntKind.wrap_u64]; omega
                by_cases hr : 4294967296 ≤ b2 + y1
                · have hl := D2.out.last hlt by0 by0' bu0 (by omega) HQ0.out hr
                  obtain rfl : a2 = Q0 + 1 := by omega
                  have hm2 : IntKind.u64.wrap (Q0 + 1 - 1) = Q0 := by rw [IntKind.wrap_u64]; omega
                  clear D2 hl hm 
                  go_wp2
                  go_ret2
                  exact ⟨⟨_, rfl⟩, ⟨rfl, rfl, rfl, Nat.le_refl _, fun _ _ => rfl⟩⟩
                · have HN : Hid (Dig y1 R1 Q0 (a2 - 1) (b2 + y1)) := D2.out.next hlt (by omega) (by omega) (by omega)
                  clear D2
                  go_wp2
                  go_round
                  case rel => exact ⟨_, _, rfl, rfl, HN⟩
                  case measure => simp [intOf]; omega
              · skip
                have hP := D2.out.prod by0 by0'
                have hG := D2.out.gt (y0 := y0) (u1 := u0) (by omega) HQ0.out
                obtain ⟨P, eP⟩ : ∃ P, a2 * y0 = P := ⟨_, rfl⟩
                rw [eP] at hP hG
                have wP : IntKind.u64.wrap P = P := by rw [IntKind.wrap_u64]; omega
                have wT : IntKind.u64.wrap (4294967296 * b2) = 4294967296 * b2 := by rw [IntKind.wrap_u64]; omega
                have wS : IntKind.u64.wrap (4294967296 * b2 + u0) = 4294967296 * b2 + u0 := by rw [IntKind.wrap_u64]; omega
                have hS : 4294967296 * b2 + u0 < P := hG.2 hlt
                clear hG hP
                have hm : IntKind.u64.wrap (a2 - 1) = a2 - 1 := by rw [IntKind.wrap_u64]; omega
                have hp : IntKind.u64.wrap (b2 + y1) = b2 + y1 := by rw [IntKind.wrap_u64]; omega
                by_cases hr : 4294967296 ≤ b2 + y1
                · have hl := D2.out.last hlt by0 by0' bu0 (by omega) HQ0.out hr
                  obtain rfl : a2 = Q0 + 1 := by omega
                  have hm2 : IntKind.u64.wrap (Q0 + 1 - 1) = Q0 := by rw [IntKind.wrap_u64]; omega
                  clear D2 hl hm 
                  go_wp2
                  go_ret2
                  exact ⟨⟨_, rfl⟩, ⟨rfl, rfl, rfl, Nat.le_refl _, fun _ _ => rfl⟩⟩
                · have HN : Hid (Dig y1 R1 Q0 (a2 - 1) (b2 + y1)) := D2.out.next hlt (by omega) (by omega) (by omega)
                  clear D2
                  go_wp2
                  go_round
                  case rel => exact ⟨_, _, rfl, rfl, HN⟩
                  case measure => simp [intOf]; omega
            · obtain rfl : Q0 = a2 := by omega
              have hbig : ¬ 4294967296 ≤ Q0 := by omega
              have hP := D2.out.prod by0 by0'
              have hG := D2.out.gt (y0 := y0) (u1 := u0) (by omega) HQ0.out
              obtain ⟨P, eP⟩ : ∃ P, Q0 * y0 = P := ⟨_, rfl⟩
              rw [eP] at hP hG
              have wP : IntKind.u64.wrap P = P := by rw [IntKind.wrap_u64]; omega
              have wT : IntKind.u64.wrap (4294967296 * b2) = 4294967296 * b2 := by rw [IntKind.wrap_u64]; omega
              have wS : IntKind.u64.wrap (4294967296 * b2 + u0) = 4294967296 * b2 + u0 := by rw [IntKind.wrap_u64]; omega
              have hS : ¬ 4294967296 * b2 + u0 < P := fun h => hlt (hG.1 h)
              clear hG hP D2
              go_wp2
              go_ret2
              exact ⟨⟨_, rfl⟩, ⟨rfl, rfl, rfl, Nat.le_refl _, fun _ _ => rfl⟩⟩
        · have HN : Hid (Dig y1 u Q1 (a1 - 1) (b1 + y1)) := D1.out.next hlt (by omega) (by omega) (by omega)
          clear D1
          go_wp2
          go_round
          case rel => exact ⟨_, _, rfl, rfl, HN⟩
          case measure => simp [intOf]; omega
    · obtain rfl : Q1 = a1 := by omega
      have hbig : ¬ 4294967296 ≤ Q1 := by omega
      have hP := D1.out.prod by0 by0'
      have hG := D1.out.gt (y0 := y0) (u1 := u1) (by omega) HQ1.out
      obtain ⟨P, eP⟩ : ∃ P, Q1 * y0 = P := ⟨_, rfl⟩
      rw [eP] at hP hG
      have wP : IntKind.u64.wrap P = P := by rw [IntKind.wrap_u64]; omega
      have wT : IntKind.u64.wrap (4294967296 * b1) = 4294967296 * b1 := by rw [IntKind.wrap_u64]; omega
      have wS : IntKind.u64.wrap (4294967296 * b1 + u1) = 4294967296 * b1 + u1 := by rw [IntKind.wrap_u64]; omega
      have hS : ¬ 4294967296 * b1 + u1 < P := fun h => hlt (hG.1 h)
      clear hG hP D1
      go_wp2
      go_loop [18, 16] (fun a b => ∃ q r : Int, a = .int .u64 q ∧ b = .int .u64 r ∧ Hid (Dig y1 R1 Q0 q r)) (fun a _ => (intOf a).toNat)
      case atStart => exact ⟨q', r', rfl, rfl, HD2⟩
      case round =>
        obtain ⟨a2, b2, rfl, rfl, D2⟩ := hrel
        have ga2 : 0 ≤ a2 ∧ a2 ≤ 4294967297 ∧ 0 ≤ b2 ∧ b2 < 4294967296 ∧ Q0 ≤ a2 := ⟨D2.out.2.2.1, D2.out.2.2.2.1, D2.out.2.2.2.2.1, D2.out.2.2.2.2.2, D2.out.2.1⟩
        obtain ⟨ga1, ga2, ga3, ga4, ga5⟩ := ga2
        by_cases hlt : Q0 < a2
        · by_cases hbig : 4294967296 ≤ a2
          · skip
            have hm : IntKind.u64.wrap (a2 - 1) = a2 - 1 := by rw [IntKind.wrap_u64]; omega
            have hp : IntKind.u64.wrap (b2 + y1) = b2 + y1 := by rw [IntKind.wrap_u64]; omega
            by_cases hr : 4294967296 ≤ b2 + y1
            · have hl := D2.out.last hlt by0 by0' bu0 (by omega) HQ0.out hr
              obtain rfl : a2 = Q0 + 1 := by omega
              have hm2 : IntKind.u64.wrap (Q0 + 1 - 1) = Q0 := by rw [IntKind.wrap_u64]; omega
              clear D2 hl hm 
              go_wp2
              go_ret2
              exact ⟨⟨_, rfl⟩, ⟨rfl, rfl, rfl, Nat.le_refl _, fun _ _ => rfl⟩⟩
            · have HN : Hid (Dig y1 R1 Q0 (a2 - 1) (b2 + y1)) := D2.out.next hlt (by omega) (by omega) (by omega)
              clear D2
              go_wp2
              go_round
              case rel => exact ⟨_, _, rfl, rfl, HN⟩
              case measure => simp [intOf]; omega
          · skip
            have hP := D2.out.prod by0 by0'
            have hG := D2.out.gt (y0 := y0) (u1 := u0) (by omega) HQ0.out
            obtain ⟨P, eP⟩ : ∃ P, a2 * y0 = P := ⟨_, rfl⟩
            rw [eP] at hP hG
            have wP : IntKind.u64.wrap P = P := by rw [IntKind.wrap_u64]; omega
            have wT : IntKind.u64.wrap (4294967296 * b2) = 4294967296 * b2 := by rw [IntKind.wrap_u64]; omega
            have wS : IntKind.u64.wrap (4294967296 * b2 + u0) = 4294967296 * b2 + u0 := by rw [IntKind.wrap_u64]; omega
            have hS : 4294967296 * b2 + u0 < P := hG.2 hlt
            clear hG hP
            have hm : IntKind.u64.wrap (a2 - 1) = a2 - 1 := by rw [IntKind.wrap_u64]; omega
            have hp : IntKind.u64.wrap (b2 + y1) = b2 + y1 := by rw [IntKind.wrap_u64]; omega
            by_cases hr : 4294967296 ≤ b2 + y1
            · have hl := D2.out.last hlt by0 by0' bu0 (by omega) HQ0.out hr
              obtain rfl : a2 = Q0 + 1 := by omega
              have hm2 : IntKind.u64.wrap (Q0 + 1 - 1) = Q0 := by rw [IntKind.wrap_u64]; omega
              clear D2 hl hm 
              go_wp2
              go_ret2
              exact ⟨⟨_, rfl⟩, ⟨rfl, rfl, rfl, Nat.le_refl _, fun _ _ => rfl⟩⟩
            · have HN : Hid (Dig y1 R1 Q0 (a2 - 1) (b2 + y1)) := D2.out.next hlt (by omega) (by omega) (by omega)
              clear D2
              go_wp2
              go_round
              case rel => exact ⟨_, _, rfl, rfl, HN⟩
              case measure => simp [intOf]; omega
        · obtain rfl : Q0 = a2 := by omega
          have hbig : ¬ 4294967296 ≤ Q0 := by omega
          have hP := D2.out.prod by0 by0'
          have hG := D2.out.gt (y0 := y0) (u1 := u0) (by omega) HQ0.out
          obtain ⟨P, eP⟩ : ∃ P, Q0 * y0 = P := ⟨_, rfl⟩
          rw [eP] at hP hG
          have wP : IntKind.u64.wrap P = P := by rw [IntKind.wrap_u64]; omega
          have wT : IntKind.u64.wrap (4294967296 * b2) = 4294967296 * b2 := by rw [IntKind.wrap_u64]; omega
          have wS : IntKind.u64.wrap (4294967296 * b2 + u0) = 4294967296 * b2 + u0 := by rw [IntKind.wrap_u64]; omega
          have hS : ¬ 4294967296 * b2 + u0 < P := fun h => hlt (hG.1 h)
          clear hG hP D2
          go_wp2
          go_ret2
          exact ⟨⟨_, rfl⟩, ⟨rfl, rfl, rfl, Nat.le_refl _, fun _ _ => rfl⟩⟩

end Go.Proofs.YtjghbciepinofaaGreat.Ra

set_option maxRecDepth 100000
namespace Go.Proofs.YtjghbciepinofaaGreat.Ra
open Go.RowKit

theorem div64_zero (lo y : Int) (l0 : 0 ≤ lo) (l1 : lo < 18446744073709551616) (hy0 : 0 < y) (_hy : y < 9223372036854775808) (w : World) :
    Calls Tryz.prog 160 #[.int .u64 0, .int .u64 lo, .int .u64 y] w fun e w' => ∃ r, e = .returned (.tuple #[.int .u64 (lo / y), .int .u64 r]) ∧ Below w.heap.size w w' := by
  have t1 : (y == 0) = false := by simp; omega
  have t1' : ¬ y = 0 := by omega
  have t2 : ¬ y ≤ 0 := by omega
  have ed : lo.tdiv y = lo / y := Int.tdiv_eq_ediv_of_nonneg l0
  have b0 : 0 ≤ lo / y := Int.ediv_nonneg l0 (by omega)
  have b1 : lo / y ≤ lo := Int.ediv_le_self _ l0
  obtain ⟨q, hq⟩ : ∃ q, lo / y = q := ⟨_, rfl⟩
  rw [hq] at ed b0 b1 ⊢
  have eq : IntKind.u64.wrap q = q := by rw [IntKind.wrap_u64]; omega
  go_enter Tryz.func160, Tryz.ntmps160
  go_wp2
  go_quiet (fail)
  go_wp2
  go_ret2
  exact ⟨_, rfl, ⟨rfl, rfl, rfl, Nat.le_refl _, fun _ _ => rfl⟩⟩

/-- math/bits.Div64 where it does not panic. -/
theorem div64 (hi lo y : Int) (h0 : 0 ≤ hi) (h1 : hi < y) (l0 : 0 ≤ lo) (l1 : lo < 18446744073709551616) (hy : y < 9223372036854775808) (w : World) :
    Calls Tryz.prog 160 #[.int .u64 hi, .int .u64 lo, .int .u64 y] w fun e w' => ∃ r, e = .returned (.tuple #[.int .u64 ((hi * 18446744073709551616 + lo) / y), .int .u64 r]) ∧ Below w.heap.size w w' := by
  by_cases hz : hi = 0
  · subst hz
    have e : 0 * 18446744073709551616 + lo = lo := by omega
    rw [e]
    exact div64_zero lo y l0 l1 h1 hy w
  · obtain ⟨hn, rfl⟩ := Int.eq_ofNat_of_zero_le h0
    obtain ⟨ln, rfl⟩ := Int.eq_ofNat_of_zero_le l0
    obtain ⟨yn, rfl⟩ := Int.eq_ofNat_of_zero_le (show 0 ≤ y by omega)
    obtain ⟨s, hs, hs1, hs2, hY1, hY2⟩ := lead_norm yn (by omega) (by omega)
    obtain ⟨e, b1, b2, b3⟩ := shift_pair hn ln yn s hs1 hs2 (by omega) (by omega) hY2
    have hc : ∀ w, Calls Tryz.prog 168 #[.int .u64 (yn : Int)] w fun e w' => e = .returned (.int .i64 s) ∧ w' = w := fun w => by
      have := leading64 yn (by omega) (by omega) w
      rwa [show (64 : Int) - (bitLen yn : Int) = (s : Int) by omega] at this
    have hp : ((2 ^ s : Nat) : Int) = (2 : Int) ^ s := by rw [Int.natCast_pow]; rfl
    have hp' : ((2 ^ (64 - s) : Nat) : Int) = (2 : Int) ^ (64 - s) := by rw [Int.natCast_pow]; rfl
    have b4 : ln / 2 ^ (64 - s) ≤ ln := Nat.div_le_self _ _
    obtain ⟨Y, eY⟩ : ∃ Y, yn * 2 ^ s = Y := ⟨_, rfl⟩
    obtain ⟨u, eu⟩ : ∃ u, hn * 2 ^ s + ln / 2 ^ (64 - s) = u := ⟨_, rfl⟩
    obtain ⟨N, eN⟩ : ∃ N, ln * 2 ^ s % 18446744073709551616 = N := ⟨_, rfl⟩
    have hN : N < 18446744073709551616 := by omega
    have hor := or_join hn (ln / 2 ^ (64 - s)) s b2 b3 (by omega)
    rw [eu] at e b1 hor
    rw [eY] at hY1 hY2 b1
    rw [eN] at e
    have c := div64_core (hn : Int) (ln : Int) (yn : Int) (Y : Int) ((Y : Int) / 4294967296) ((Y : Int) % 4294967296) ((hn * 2 ^ s : Nat) : Int) ((ln / 2 ^ (64 - s) : Nat) : Int) (u : Int) (N : Int) ((N : Int) / 4294967296) ((N : Int) % 4294967296)
      _ _ _ s (by omega) h1 hs1 hs2
      (by rw [← hp, ← Int.natCast_mul, eY, IntKind.wrap_u64]; omega) rfl (and_low32 _ (by omega) (by omega))
      (by rw [← hp, ← Int.natCast_mul, IntKind.wrap_u64]; omega) (by rw [← hp', ← Int.natCast_ediv]) hor
      (by rw [← hp, ← Int.natCast_mul, IntKind.wrap_u64, ← eN]; omega) rfl (and_low32 _ (by omega) (by omega))
      (by omega) (by omega) (by omega) (by omega) (by omega) (by show _ = _; omega) (by show _ < _; omega) (by omega) (by omega) (by omega) (by omega) rfl rfl rfl hc w
    have eYY : (Y : Int) / 4294967296 * 4294967296 + (Y : Int) % 4294967296 = (Y : Int) := by omega
    rw [eYY, two_digits _ _ _ _ (by omega)] at c
    have eNN : (u : Int) * 18446744073709551616 + (N : Int) / 4294967296 * 4294967296 + (N : Int) % 4294967296 = ((hn : Int) * 18446744073709551616 + (ln : Int)) * (2 : Int) ^ s := by
      have : (u : Int) * 18446744073709551616 + (N : Int) = ((hn : Int) * 18446744073709551616 + (ln : Int)) * (2 : Int) ^ s := by
        rw [← hp]
        have e' : (((hn * 18446744073709551616 + ln) * 2 ^ s : Nat) : Int) = ((u * 18446744073709551616 + N : Nat) : Int) := by rw [e]
        rw [Int.natCast_mul, Int.natCast_add, Int.natCast_mul, Int.natCast_add, Int.natCast_mul] at e'
        exact e'.symm
      rw [← this]
      omega
    rw [eNN, ← eY, Int.natCast_mul, hp, quot_scale _ _ _ (Int.pow_pos (by decide))] at c
    exact c


/-! ### the answers -/
/-- What MulDiv answers: the number. -/
def mdN (a b c : Int) : Int := if a < 0 ∨ b < 0 ∨ c < 1 then 0 else if a * b / c ≤ 1125899906842624 then a * b / c else 0
/-- What MulDiv answers: the error (2: ErrRange). -/
def mdE (a b c : Int) : Int := if a < 0 ∨ b < 0 ∨ c < 1 then 2 else if a * b / c ≤ 1125899906842624 then 0 else 2

theorem md_bad {a b c : Int} (h : a < 0 ∨ b < 0 ∨ c < 1) : mdN a b c = 0 ∧ mdE a b c = 2 := by
  unfold mdN mdE; rw [if_pos h, if_pos h]; exact ⟨rfl, rfl⟩
theorem md_over {a b c : Int} (h : 1125899906842624 < a * b / c) : mdN a b c = 0 ∧ mdE a b c = 2 := by
  unfold mdN mdE
  have : ¬ a * b / c ≤ 1125899906842624 := by omega
  by_cases g : a < 0 ∨ b < 0 ∨ c < 1
  · rw [if_pos g, if_pos g]; exact ⟨rfl, rfl⟩
  · rw [if_neg g, if_neg g, if_neg this, if_neg this]; exact ⟨rfl, rfl⟩
theorem md_good {a b c : Int} (h1 : 0 ≤ a) (h2 : 0 ≤ b) (h3 : 1 ≤ c) (h : a * b / c ≤ 1125899906842624) : mdN a b c = a * b / c ∧ mdE a b c = 0 := by
  unfold mdN mdE
  have g : ¬ (a < 0 ∨ b < 0 ∨ c < 1) := by omega
  rw [if_neg g, if_neg g, if_pos h, if_pos h]; exact ⟨rfl, rfl⟩

/-- ratio.MulDiv, where the numbers are right. -/
theorem muldiv_right (a b c : Int) (a0 : 0 ≤ a) (a1 : a ≤ 9223372036854775807) (b0 : 0 ≤ b) (b1 : b ≤ 9223372036854775807) (c0 : 1 ≤ c) (c1 : c ≤ 9223372036854775807) (w : World) :
    Calls Tryz.prog 145 #[.int .i64 a, .int .i64 b, .int .i64 c] w fun e w' => e = .returned (.tuple #[.int .i64 (mdN a b c), .int .i64 (mdE a b c)]) ∧ Below w.heap.size w w' := by
  have t1 : ¬ a < 0 := by omega
  have t2 : ¬ b < 0 := by omega
  have t3 : ¬ c < 1 := by omega
  have cm := mul64 a b a0 (by omega) b0 (by omega)
  have hab : 0 ≤ a * b := Int.mul_nonneg a0 b0
  have hab1 : a * b < 340282366920938463463374607431768211456 := by
    have := Int.mul_le_mul a1 b1 b0 (by omega)
    omega
  have dv := Int.mul_ediv_add_emod (a * b) c
  have Hgood : Hid (a * b / c ≤ 1125899906842624 → mdN a b c = a * b / c ∧ mdE a b c = 0) := fun h => md_good a0 b0 c0 h
  have Hover : Hid (1125899906842624 < a * b / c → mdN a b c = 0 ∧ mdE a b c = 2) := fun h => md_over h
  have hdv : a * b / 18446744073709551616 ≥ c → 1125899906842624 < a * b / c := fun h => by
    have : 1125899906842625 ≤ a * b / c := by
      rw [Int.le_ediv_iff_mul_le (by omega)]
      omega
    omega
  have hq0 : 0 ≤ a * b / c := Int.ediv_nonneg hab (by omega)
  generalize mdN a b c = X at *
  generalize mdE a b c = Y at *
  clear dv
  generalize a * b = p at *
  obtain ⟨hi, hhi⟩ : ∃ h, p / 18446744073709551616 = h := ⟨_, rfl⟩
  obtain ⟨lo, hlo⟩ : ∃ l, p % 18446744073709551616 = l := ⟨_, rfl⟩
  have hp : hi * 18446744073709551616 + lo = p := by omega
  have hi0 : 0 ≤ hi := by omega
  have lo0 : 0 ≤ lo := by omega
  have lo1 : lo < 18446744073709551616 := by omega
  rw [hhi] at hdv cm
  rw [hlo] at cm
  by_cases hc : c ≤ hi
  · have hX := Hover.out (hdv hc)
    obtain ⟨rfl, rfl⟩ := hX
    clear Hgood Hover hdv hhi hlo hp hab hab1 hq0
    go_enter Tryz.func145, Tryz.ntmps145
    go_wp2_with (go_at_call 159; refine (cm _).mono ?_; rintro e w' ⟨rfl, rfl⟩)
    go_ret2
    exact ⟨rfl, ⟨rfl, rfl, rfl, Nat.le_refl _, fun _ _ => rfl⟩⟩
  · have cd := div64 hi lo c hi0 (by omega) lo0 lo1 (by omega)
    rw [hp] at cd
    obtain ⟨n, hn⟩ : ∃ n, p / c = n := ⟨_, rfl⟩
    rw [hn] at cd Hgood Hover hq0
    by_cases hm : n ≤ 1125899906842624
    · obtain ⟨rfl, rfl⟩ := Hgood.out hm
      have hm' : ¬ 1125899906842624 < X := by omega
      clear Hgood Hover hdv hhi hlo hp hab hab1 hn
      go_enter Tryz.func145, Tryz.ntmps145
      go_wp2_with (first | (go_at_call 159; refine (cm _).mono ?_; rintro e w' ⟨rfl, rfl⟩) | (go_at_call 160; refine (cd _).mono ?_; rintro e w' ⟨r, rfl, hg⟩))
      go_ret2
      exact ⟨rfl, hg⟩
    · obtain ⟨rfl, rfl⟩ := Hover.out (by omega)
      have hm' : 1125899906842624 < n := by omega
      clear Hgood Hover hdv hhi hlo hp hab hab1 hn
      go_enter Tryz.func145, Tryz.ntmps145
      go_wp2_with (first | (go_at_call 159; refine (cm _).mono ?_; rintro e w' ⟨rfl, rfl⟩) | (go_at_call 160; refine (cd _).mono ?_; rintro e w' ⟨r, rfl, hg⟩))
      go_ret2
      exact ⟨rfl, hg⟩

/-- ratio.MulDiv, where a number is not right. -/
theorem muldiv_bad (a b c : Int) (h : a < 0 ∨ b < 0 ∨ c < 1) (w : World) :
    Calls Tryz.prog 145 #[.int .i64 a, .int .i64 b, .int .i64 c] w fun e w' => e = .returned (.tuple #[.int .i64 (mdN a b c), .int .i64 (mdE a b c)]) ∧ Below w.heap.size w w' := by
  obtain ⟨e1, e2⟩ := md_bad h
  rw [e1, e2]
  clear e1 e2
  by_cases t1 : a < 0
  · clear h
    go_enter Tryz.func145, Tryz.ntmps145
    go_wp2
    go_ret2
    exact ⟨rfl, ⟨rfl, rfl, rfl, Nat.le_refl _, fun _ _ => rfl⟩⟩
  · by_cases t2 : b < 0
    · clear h
      go_enter Tryz.func145, Tryz.ntmps145
      go_wp2
      go_ret2
      exact ⟨rfl, ⟨rfl, rfl, rfl, Nat.le_refl _, fun _ _ => rfl⟩⟩
    · have t3 : c < 1 := by omega
      clear h
      go_enter Tryz.func145, Tryz.ntmps145
      go_wp2
      go_ret2
      exact ⟨rfl, ⟨rfl, rfl, rfl, Nat.le_refl _, fun _ _ => rfl⟩⟩

/-- ratio.MulDiv. -/
theorem muldiv (a b c : Int) (a1 : a ≤ 9223372036854775807) (b1 : b ≤ 9223372036854775807) (c1 : c ≤ 9223372036854775807) (w : World) :
    Calls Tryz.prog 145 #[.int .i64 a, .int .i64 b, .int .i64 c] w fun e w' => e = .returned (.tuple #[.int .i64 (mdN a b c), .int .i64 (mdE a b c)]) ∧ Below w.heap.size w w' := by
  by_cases h : a < 0 ∨ b < 0 ∨ c < 1
  · exact muldiv_bad a b c h w
  · exact muldiv_right a b c (by omega) a1 (by omega) b1 (by omega) c1 w

end Go.Proofs.YtjghbciepinofaaGreat.Ra

set_option maxRecDepth 100000
namespace Go.Proofs.YtjghbciepinofaaGreat.Ra
open Go.RowKit

/-- Whether a number is an amount. -/
def inB (n : Int) : Bool := decide (0 ≤ n) && decide (n ≤ 1125899906842624)
theorem inB_true {n : Int} (h0 : 0 ≤ n) (h1 : n ≤ 1125899906842624) : inB n = true := by simp [inB, h0, h1]
theorem inB_low {n : Int} (h : ¬ 0 ≤ n) : inB n = false := by simp [inB, h]
theorem inB_high {n : Int} (h : ¬ n ≤ 1125899906842624) : inB n = false := by simp [inB, h]
theorem inB_iff {n : Int} : inB n = true ↔ 0 ≤ n ∧ n ≤ 1125899906842624 := by simp [inB]

theorem in10 (n : Int) (w : World) : Calls Tryz.prog 121 #[.int .i64 n] w fun e w' => e = .returned (.bool (inB n)) ∧ w' = w := by
  by_cases h0 : 0 ≤ n
  · by_cases h1 : n ≤ 1125899906842624
    · rw [inB_true h0 h1]
      go_enter Tryz.func121, Tryz.ntmps121
      go_wp2
      go_ret
      exact ⟨rfl, rfl⟩
    · rw [inB_high h1]
      go_enter Tryz.func121, Tryz.ntmps121
      go_wp2
      go_ret
      exact ⟨rfl, rfl⟩
  · rw [inB_low h0]
    go_enter Tryz.func121, Tryz.ntmps121
    go_wp2
    go_ret
    exact ⟨rfl, rfl⟩
/-- What Part answers. -/
def ptN (n f : Int) : Int := if inB n = true ∧ 0 ≤ f ∧ f ≤ 1000 then n * f / 1000 else 0
def ptE (n f : Int) : Int := if inB n = true ∧ 0 ≤ f ∧ f ≤ 1000 then 0 else 2
theorem pt_good {n f : Int} (h : inB n = true ∧ 0 ≤ f ∧ f ≤ 1000) : ptN n f = n * f / 1000 ∧ ptE n f = 0 := by unfold ptN ptE; rw [if_pos h, if_pos h]; exact ⟨rfl, rfl⟩
theorem pt_bad {n f : Int} (h : ¬ (inB n = true ∧ 0 ≤ f ∧ f ≤ 1000)) : ptN n f = 0 ∧ ptE n f = 2 := by unfold ptN ptE; rw [if_neg h, if_neg h]; exact ⟨rfl, rfl⟩
theorem pt_le {n f : Int} (h0 : 0 ≤ n) (f0 : 0 ≤ f) (f1 : f ≤ 1000) : 0 ≤ n * f / 1000 ∧ n * f / 1000 ≤ n := by
  have h1 : 0 ≤ n * f := Int.mul_nonneg h0 f0
  have h2 := Int.mul_le_mul_of_nonneg_left f1 h0
  omega
theorem pt_split {n f : Int} : n / 1000 * f + n % 1000 * f / 1000 = n * f / 1000 := by
  have e : n * f = n % 1000 * f + n / 1000 * f * 1000 := by
    have := Int.mul_ediv_add_emod n 1000
    have e2 : (1000 * (n / 1000) + n % 1000) * f = n * f := by rw [this]
    rw [Int.add_mul, Int.mul_assoc] at e2
    omega
  rw [e, Int.add_mul_ediv_right _ _ (by decide)]
  omega

theorem part_key {n f : Int} (n0 : 0 ≤ n) (n1 : n ≤ 1125899906842624) (f0 : 0 ≤ f) (f1 : f ≤ 1000) : wrap64 (wrap64 (n / 1000 * f) + wrap64 ((wrap64 (n % 1000 * f)).tdiv 1000)) = n * f / 1000 := by
  have a0 : 0 ≤ n / 1000 * f := Int.mul_nonneg (by omega) f0
  have a1 := Int.mul_le_mul_of_nonneg_left f1 (show 0 ≤ n / 1000 by omega)
  have b0 : 0 ≤ n % 1000 * f := Int.mul_nonneg (by omega) f0
  have b1 := Int.mul_le_mul_of_nonneg_left f1 (show 0 ≤ n % 1000 by omega)
  rw [← pt_split]
  generalize n / 1000 * f = A at *
  generalize n % 1000 * f = B at *
  have e1 : wrap64 A = A := by unfold wrap64; omega
  have e2 : wrap64 B = B := by unfold wrap64; omega
  rw [e1, e2, Int.tdiv_eq_ediv_of_nonneg b0]
  unfold wrap64
  omega

theorem part13 (n f : Int) (w : World) : Calls Tryz.prog 164 #[.int .i64 n, .int .i64 f] w fun e w' => e = .returned (.tuple #[.int .i64 (ptN n f), .int .i64 (ptE n f)]) ∧ Below w.heap.size w w' := by
  have ci := in10 n
  by_cases hi : inB n = true
  · obtain ⟨n0, n1⟩ := inB_iff.1 hi
    by_cases f0 : f < 0
    · obtain ⟨e1, e2⟩ := pt_bad (n := n) (f := f) (by omega)
      rw [e1, e2]
      rw [hi] at ci
      clear e1 e2 hi
      go_enter Tryz.func164, Tryz.ntmps164
      go_wp2_with (go_at_call 121; refine (ci _).mono ?_; rintro e w' ⟨rfl, rfl⟩)
      go_ret2
      exact ⟨rfl, ⟨rfl, rfl, rfl, Nat.le_refl _, fun _ _ => rfl⟩⟩
    · by_cases f1 : 1000 < f
      · obtain ⟨e1, e2⟩ := pt_bad (n := n) (f := f) (by omega)
        rw [e1, e2]
        rw [hi] at ci
        clear e1 e2 hi
        go_enter Tryz.func164, Tryz.ntmps164
        go_wp2_with (go_at_call 121; refine (ci _).mono ?_; rintro e w' ⟨rfl, rfl⟩)
        go_ret2
        exact ⟨rfl, ⟨rfl, rfl, rfl, Nat.le_refl _, fun _ _ => rfl⟩⟩
      · obtain ⟨e1, e2⟩ := pt_good (n := n) (f := f) ⟨hi, by omega, by omega⟩
        have cm := muldiv n f 1000 (by omega) (by omega) (by omega)
        have hl := pt_le (n := n) (f := f) n0 (by omega) (by omega)
        obtain ⟨e3, e4⟩ := md_good (a := n) (b := f) (c := 1000) n0 (by omega) (by omega) (by omega)
        rw [e3, e4] at cm
        rw [e1, e2]
        rw [hi] at ci
        generalize n * f / 1000 = x at *
        clear e1 e2 e3 e4 hi
        go_enter Tryz.func164, Tryz.ntmps164
        go_wp2_with (first | (go_at_call 121; refine (ci _).mono ?_; rintro e w' ⟨rfl, rfl⟩) | (go_at_call 145; refine (cm _).mono ?_; rintro e w' ⟨rfl, hg⟩))
        go_ret2
        exact ⟨rfl, hg⟩
  · obtain ⟨e1, e2⟩ := pt_bad (n := n) (f := f) (by simp [hi])
    rw [e1, e2]
    have hi' : inB n = false := by simpa using hi
    rw [hi'] at ci
    clear e1 e2 hi hi'
    go_enter Tryz.func164, Tryz.ntmps164
    go_wp2_with (go_at_call 121; refine (ci _).mono ?_; rintro e w' ⟨rfl, rfl⟩)
    go_ret2
    exact ⟨rfl, ⟨rfl, rfl, rfl, Nat.le_refl _, fun _ _ => rfl⟩⟩

end Go.Proofs.YtjghbciepinofaaGreat.Ra

