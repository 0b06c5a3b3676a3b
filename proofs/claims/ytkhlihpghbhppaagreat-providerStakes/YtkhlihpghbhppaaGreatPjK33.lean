/- Parts of the proof: PVS SJ3 T1 RD1. -/
import Derived.Test.YtkhlihpghbhppaaGreatRows
import Derived.Test.YtkhlihpghbhppaaGreatPjK31
import Derived.Test.YtkhlihpghbhppaaGreatPjK32
import Derived.Test.YtkhlihpghbhppaaGreatPjK34
import Derived.Test.YtkhlihpghbhppaaGreatPjK35
import Derived.Test.YtkhlihpghbhppaaGreatPjK36
import Derived.Test.YtkhlihpghbhppaaGreatPjK50
import Derived.WalkKit
import Derived.LoopN
set_option maxRecDepth 100000
namespace Go.Proofs.YtkhlihpghbhppaaGreat.Pv
open Go.RowKit
section
variable {P P' : Nat → Prop} {w : World}
theorem samepw_rep (l : List (Int × Int)) (v v' : Value) (h : Rep P w v 2 16 (pwC l)) (h' : Rep P' w v' 2 16 (pwC l)) : Calls Tryz.prog 43 #[v, v'] w fun e w' => e = .returned (.bool true) ∧ Below w.heap.size w w' := by
  obtain ⟨A1, C1, A2, C2, sb, so, db, dO, rfl, -, L⟩ := Rep.lies (D := []) h (Rep.nil P w 1 8)
  obtain ⟨B1, D1, B2, D2, sb', so', db', dO', rfl, -, L'⟩ := Rep.lies (D := []) h' (Rep.nil P' w 1 8)
  have := Cd.pws30 l l A1 B1 C1 D1 sb so sb' so' w L.hls L.hls L.hsa L'.hsa L.PS L'.PS
  rwa [decide_eq_true rfl] at this
theorem samenm_rep (l : List Int) (v v' : Value) (h : Rep P w v 1 8 (inC l)) (h' : Rep P' w v' 1 8 (inC l)) : Calls Tryz.prog 30 #[v, v'] w fun e w' => e = .returned (.bool true) ∧ Below w.heap.size w w' := by
  obtain ⟨A1, C1, A2, C2, sb, so, db, dO, -, rfl, L⟩ := Rep.lies (S := []) (Rep.nil P w 2 16) h
  obtain ⟨B1, D1, B2, D2, sb', so', db', dO', -, rfl, L'⟩ := Rep.lies (S := []) (Rep.nil P' w 2 16) h'
  have := Cd.nums31 l l A2 B2 C2 D2 db dO db' dO' w L.hld L.hld L.hda L'.hda L.PD L'.PD
  rwa [decide_eq_true rfl] at this
theorem samek_rep (k i n m : Int) (S : List (Int × Int)) (D : List Int) (v1 v2 v1' v2' : Value) (h1 : Rep P w v1 2 16 (pwC S)) (h2 : Rep P w v2 1 8 (inC D)) (h1' : Rep P' w v1' 2 16 (pwC S)) (h2' : Rep P' w v2' 1 8 (inC D)) :
    Calls Tryz.prog 45 #[.agg #[.int .i64 k, .int .i64 i, .int .i64 n, .int .i64 m, v1, v2], .agg #[.int .i64 k, .int .i64 i, .int .i64 n, .int .i64 m, v1', v2']] w fun e w' => e = .returned (.bool true) ∧ Below w.heap.size w w' := by
  obtain ⟨A1, C1, A2, C2, sb, so, db, dO, rfl, rfl, L⟩ := Rep.lies h1 h2
  obtain ⟨B1, D1, B2, D2, sb', so', db', dO', rfl, rfl, L'⟩ := Rep.lies h1' h2'
  have e : decide (k = k ∧ i = i ∧ n = n ∧ m = m ∧ S = S ∧ D = D) = true := decide_eq_true ⟨rfl, rfl, rfl, rfl, rfl, rfl⟩
  have := Cd.same17 k i n m k i n m S S D D A1 A2 B1 B2 C1 C2 sb so db dO D1 D2 sb' so' db' dO' w L.hls L.hld L.hsa L.hda L.PS L.PD L.hls L.hld L'.hsa L'.hda L'.PS L'.PD
  rwa [e] at this
theorem samel_rep (x : Ln.Line) (v1 v2 v1' v2' : Value) (h1 : Rep P w v1 1 16 (txC x.S)) (h2 : Rep P w v2 1 8 (inC x.D)) (h1' : Rep P' w v1' 1 16 (txC x.S)) (h2' : Rep P' w v2' 1 8 (inC x.D)) :
    Calls Tryz.prog 44 #[.agg #[v1, v2, .int .i64 x.g, .bool x.cl], .agg #[v1', v2', .int .i64 x.g, .bool x.cl]] w fun e w' => e = .returned (.bool true) ∧ Below w.heap.size w w' := by
  obtain ⟨A1, C1, A2, C2, sb, so, db, dO, rfl, rfl, L, -, -⟩ := Rep.line h1 h2
  obtain ⟨B1, D1, B2, D2, sb', so', db', dO', rfl, rfl, L', -, -⟩ := Rep.line h1' h2'
  exact Ln.same_any x A1 A2 B1 B2 C1 C2 sb so db dO D1 D2 sb' so' db' dO' w L L'
theorem sames_rep (s : St) (v v' : Value) (h : Rep P w v 8 64 (wsL s.W)) (h' : Rep P' w v' 8 64 (wsL s.W)) : Calls Tryz.prog 42 #[.agg (stC s v), .agg (stC s v')] w fun e w' => e = .returned (.bool true) ∧ Below w.heap.size w w' := by
  obtain ⟨A, C, b, o, rfl, W, -, -⟩ := h.wsAt
  obtain ⟨A', C', b', o', rfl, W', -, -⟩ := h'.wsAt
  exact same_any s A A' b o b' o' C C' w W W'
end
end Go.Proofs.YtkhlihpghbhppaaGreat.Pv

set_option maxRecDepth 100000
namespace Go.Proofs.YtkhlihpghbhppaaGreat
open Go.RowKit
/-- a stake is loaded -/
def loadS (v : Value) : Sem Value := Instr.loadAt 32 v
theorem loadS_eq (v : Value) : Instr.loadAt 32 v = loadS v := rfl
theorem SAt.loadS {w : World} {b : Nat} {cs : Array Value} (h : SAt w b cs) (hs : cs.size = 63) : (loadS (.pointer (some ⟨b, 0, none⟩))).run Tryz.prog w = .ok (.agg cs) w := h.load hs
end Go.Proofs.YtkhlihpghbhppaaGreat

set_option maxRecDepth 100000
namespace Go.Proofs.YtkhlihpghbhppaaGreat
open Go.RowKit
theorem ix7_0 (w : World) (a0 a1 a2 a3 a4 a5 a6 : Value) : (Instr.index 180 (.agg #[a0, a1, a2, a3, a4, a5, a6]) (.int .i64 0)).run Tryz.prog w = .ok a0 w := by kernel_rfl
theorem ix7_1 (w : World) (a0 a1 a2 a3 a4 a5 a6 : Value) : (Instr.index 180 (.agg #[a0, a1, a2, a3, a4, a5, a6]) (.int .i64 1)).run Tryz.prog w = .ok a1 w := by kernel_rfl
theorem ix7_2 (w : World) (a0 a1 a2 a3 a4 a5 a6 : Value) : (Instr.index 180 (.agg #[a0, a1, a2, a3, a4, a5, a6]) (.int .i64 2)).run Tryz.prog w = .ok a2 w := by kernel_rfl
theorem ix7_3 (w : World) (a0 a1 a2 a3 a4 a5 a6 : Value) : (Instr.index 180 (.agg #[a0, a1, a2, a3, a4, a5, a6]) (.int .i64 3)).run Tryz.prog w = .ok a3 w := by kernel_rfl
theorem ix7_4 (w : World) (a0 a1 a2 a3 a4 a5 a6 : Value) : (Instr.index 180 (.agg #[a0, a1, a2, a3, a4, a5, a6]) (.int .i64 4)).run Tryz.prog w = .ok a4 w := by kernel_rfl
theorem ix7_5 (w : World) (a0 a1 a2 a3 a4 a5 a6 : Value) : (Instr.index 180 (.agg #[a0, a1, a2, a3, a4, a5, a6]) (.int .i64 5)).run Tryz.prog w = .ok a5 w := by kernel_rfl
theorem ix7_6 (w : World) (a0 a1 a2 a3 a4 a5 a6 : Value) : (Instr.index 180 (.agg #[a0, a1, a2, a3, a4, a5, a6]) (.int .i64 6)).run Tryz.prog w = .ok a6 w := by kernel_rfl
theorem rplaces_any (f0 f1 f2 f3 bo wa bu : Int) (w : World) : Calls Tryz.prog 158 #[.agg #[.int .i64 f0, .int .i64 f1, .int .i64 f2, .int .i64 f3, .int .i64 bo, .int .i64 wa, .int .i64 bu]] w fun e w' => e = .returned (.agg #[.int .i64 f0, .int .i64 f1, .int .i64 f2, .int .i64 f3, .int .i64 bo, .int .i64 wa, .int .i64 bu]) ∧ Below w.heap.size w w' := by
  go_enter Tryz.func158, Tryz.ntmps158
  go_wp2
  exact bodyPost_ret (v := .agg #[.int .i64 f0, .int .i64 f1, .int .i64 f2, .int .i64 f3, .int .i64 bo, .int .i64 wa, .int .i64 bu]) (by simp [results, Tryz.results158, go_sem]) rfl ⟨rfl, ((Below.refl _ w).alloc (Nat.le_refl _) _).alloc (by simp) _⟩
theorem rbanked_any (f0 f1 f2 f3 bo wa bu : Int) (w : World) : Calls Tryz.prog 159 #[.agg #[.int .i64 f0, .int .i64 f1, .int .i64 f2, .int .i64 f3, .int .i64 bo, .int .i64 wa, .int .i64 bu]] w fun e w' => e = .returned (.agg #[.int .i64 f0, .int .i64 f1, .int .i64 f2, .int .i64 f3, .int .i64 bo, .int .i64 wa, .int .i64 bu]) ∧ Below w.heap.size w w' := by
  go_enter Tryz.func159, Tryz.ntmps159
  go_wp2
  exact bodyPost_ret (v := .agg #[.int .i64 f0, .int .i64 f1, .int .i64 f2, .int .i64 f3, .int .i64 bo, .int .i64 wa, .int .i64 bu]) (by simp [results, Tryz.results159, go_sem]) rfl ⟨rfl, ((Below.refl _ w).alloc (Nat.le_refl _) _).alloc (by simp) _⟩
theorem rnew_any (w : World) : Calls Tryz.prog 122 #[] w fun e w' => e = .returned (.agg #[.int .i64 100000, .int .i64 100000, .int .i64 100000, .int .i64 100000, .int .i64 0, .int .i64 0, .int .i64 0]) ∧ Below w.heap.size w w' := by
  have R0 := BAt.new w 0 0 0 0 0 0 0
  have HB : Hid (Below w.heap.size w (w.alloc (.cells #[.int .i64 0, .int .i64 0, .int .i64 0, .int .i64 0, .int .i64 0, .int .i64 0, .int .i64 0] 24))) := (Below.refl _ w).alloc (Nat.le_refl _) _
  go_enter Tryz.func122, Tryz.ntmps122
  go_wp2_with fail
  refine (rbanked_any 100000 100000 100000 100000 0 0 0 _).mono ?_
  rintro e w1 ⟨rfl, h1⟩
  have R1 := R0.later h1 (by simp)
  have HB1 : Hid (Below w.heap.size w w1) := HB.out.trans (h1.mono HB.out.size)
  clear R0 HB h1
  obtain ⟨u0, u1, u2, u3, u4, u5, u6⟩ := R1.frees
  obtain ⟨v0, v1, v2, v3, v4, v5, v6⟩ := R1.cells
  have HR1 : Hid (BAt w1 w.heap.size 0 0 0 0 0 0 0) := R1
  clear R1
  go_wp2
  have HR := HR1.out.set7 100000 100000 100000 100000 0 0 0
  have HW := set7_below (b := w.heap.size) HB1.out (Nat.le_refl _) 100000 100000 100000 100000 0 0 0
  show bodyPost Tryz.prog Tryz.f122 _ Exit.ret _ (set7 w1 w.heap.size 100000 100000 100000 100000 0 0 0)
  generalize set7 w1 w.heap.size 100000 100000 100000 100000 0 0 0 = w9 at *
  obtain ⟨s0, s1, s2, s3, s4, s5, s6⟩ := HR.cells
  exact bodyPost_ret (v := .agg #[.int .i64 100000, .int .i64 100000, .int .i64 100000, .int .i64 100000, .int .i64 0, .int .i64 0, .int .i64 0]) (by simp [results, Tryz.results122, go_sem, s0, s1, s2, s3, s4, s5, s6]) rfl ⟨rfl, HW⟩
theorem rin_any (d : Int) (w : World) : Calls Tryz.prog 115 #[.int .i64 d] w fun e w' => e = .returned (.bool (decide (0 ≤ d ∧ d ≤ 1125899906842624))) ∧ w = w' := by
  by_cases h0 : 0 ≤ d
  · by_cases h1 : d ≤ 1125899906842624
    · rw [decide_eq_true ⟨h0, h1⟩]
      go_enter Tryz.func115, Tryz.ntmps115
      go_wp2
      go_ret
      exact ⟨rfl, rfl⟩
    · rw [decide_eq_false (fun h => h1 h.2)]
      have h2 : 1125899906842624 < d := by omega
      go_enter Tryz.func115, Tryz.ntmps115
      go_wp2
      go_ret
      exact ⟨rfl, rfl⟩
  · rw [decide_eq_false (fun h => h0 h.1)]
    have h2 : d < 0 := by omega
    go_enter Tryz.func115, Tryz.ntmps115
    go_wp2
    go_ret
    exact ⟨rfl, rfl⟩
def psm (f0 f1 f2 f3 bo wa bu : Int) : Nat → Int
  | 0 => 0
  | 1 => f0
  | 2 => f0 + f1
  | 3 => f0 + f1 + f2
  | 4 => f0 + f1 + f2 + f3
  | 5 => f0 + f1 + f2 + f3 + bo
  | 6 => f0 + f1 + f2 + f3 + bo + wa
  | _ => f0 + f1 + f2 + f3 + bo + wa + bu
def inr (n : Int) : Prop := 0 ≤ n ∧ n ≤ 400000
def okk (f0 f1 f2 f3 bo wa bu : Int) (k : Nat) : Prop := (0 < k → inr f0) ∧ (1 < k → inr f1) ∧ (2 < k → inr f2) ∧ (3 < k → inr f3) ∧ (4 < k → inr bo) ∧ (5 < k → inr wa) ∧ (6 < k → inr bu)
set_option maxHeartbeats 2000000 in
theorem rgood_any (f0 f1 f2 f3 bo wa bu : Int) (w : World) : Calls Tryz.prog 114 #[.agg #[.int .i64 f0, .int .i64 f1, .int .i64 f2, .int .i64 f3, .int .i64 bo, .int .i64 wa, .int .i64 bu]] w fun e w' => e = .returned (.bool (goodB f0 f1 f2 f3 bo wa bu)) ∧ Below w.heap.size w w' := by
  have hno : ¬ (inr f0 ∧ inr f1 ∧ inr f2 ∧ inr f3 ∧ inr bo ∧ inr wa ∧ inr bu) → goodB f0 f1 f2 f3 bo wa bu = false := fun h => decide_eq_false fun g => h ⟨g.1, g.2.1, g.2.2.1, g.2.2.2.1, g.2.2.2.2.1, g.2.2.2.2.2.1, g.2.2.2.2.2.2.1⟩
  have HN : Hid (¬ (inr f0 ∧ inr f1 ∧ inr f2 ∧ inr f3 ∧ inr bo ∧ inr wa ∧ inr bu) → goodB f0 f1 f2 f3 bo wa bu = false) := hno
  clear hno
  have hyes : inr f0 ∧ inr f1 ∧ inr f2 ∧ inr f3 ∧ inr bo ∧ inr wa ∧ inr bu → goodB f0 f1 f2 f3 bo wa bu = (f0 + f1 + f2 + f3 + bo + wa + bu == 400000) := by
    intro h
    unfold goodB inr at *
    simp [h]
    rfl
  have HY : Hid (inr f0 ∧ inr f1 ∧ inr f2 ∧ inr f3 ∧ inr bo ∧ inr wa ∧ inr bu → goodB f0 f1 f2 f3 bo wa bu = (f0 + f1 + f2 + f3 + bo + wa + bu == 400000)) := hyes
  clear hyes
  generalize goodB f0 f1 f2 f3 bo wa bu = G at *
  have HB : Hid (Below w.heap.size w (w.alloc (.cells #[.int .i64 f0, .int .i64 f1, .int .i64 f2, .int .i64 f3, .int .i64 bo, .int .i64 wa, .int .i64 bu] 24))) := (Below.refl _ w).alloc (Nat.le_refl _) _
  go_enter Tryz.func114, Tryz.ntmps114
  go_wp2_with fail
  refine (rplaces_any f0 f1 f2 f3 bo wa bu _).mono ?_
  rintro e w1 ⟨rfl, h1⟩
  have HB1 : Hid (Below w.heap.size w w1) := HB.out.trans (h1.mono HB.out.size)
  clear HB h1
  go_wp2
  go_loop [3, 8] (fun s i => ∃ k : Nat, k ≤ 7 ∧ i = .int .i64 (k : Int) ∧ s = .int .i64 (psm f0 f1 f2 f3 bo wa bu k) ∧ Hid (okk f0 f1 f2 f3 bo wa bu k)) (fun _ i => (7 - intOf i).toNat)
  case atStart => exact ⟨0, by omega, rfl, rfl, by simp [Hid, okk]⟩
  case round =>
    obtain ⟨k, hk, rfl, rfl, HO⟩ := hrel
    rcases (show k = 0 ∨ k = 1 ∨ k = 2 ∨ k = 3 ∨ k = 4 ∨ k = 5 ∨ k = 6 ∨ k = 7 by omega) with rfl | rfl | rfl | rfl | rfl | rfl | rfl | rfl
    · have hi := ix7_0
      have hw : 0 ≤ f0 → f0 ≤ 400000 → wrap64 (0 + f0) = f0 := by
        intro g1 g2
        skip
        rw [wrap64_small (by omega) (by omega)]
        omega
      skip
      simp only [psm]
      by_cases g1 : f0 < 0
      · have hG := HN.out (fun h => absurd h.1.1 (by omega))
        subst hG
        clear hw
        go_wp2
        go_ret
        exact ⟨rfl, HB1.out⟩
      · by_cases g2 : 400000 < f0
        · have hG := HN.out (fun h => absurd h.1.2 (by omega))
          subst hG
          clear hw
          go_wp2
          go_ret
          exact ⟨rfl, HB1.out⟩
        · have hw' := hw (by omega) (by omega)
          clear hw
          have hgin : inr f0 := ⟨by omega, by omega⟩
          have HO' : Hid (okk f0 f1 f2 f3 bo wa bu 1) := by
            skip
            simp [Hid, okk]
            exact hgin
          clear hgin HO
          go_wp2
          go_round
          case rel => exact ⟨1, by omega, by go_num, by first | rfl | (rw [hw']; rfl), HO'⟩
          case measure => simp [intOf]
    · have hi := ix7_1
      have o0 := HO.out.1 (by omega)
      have hw : 0 ≤ f1 → f1 ≤ 400000 → wrap64 (f0 + f1) = f0 + f1 := by
        intro g1 g2
        unfold inr at *
        rw [wrap64_small (by omega) (by omega)]
        
      clear o0
      simp only [psm]
      by_cases g1 : f1 < 0
      · have hG := HN.out (fun h => absurd h.2.1.1 (by omega))
        subst hG
        clear hw
        go_wp2
        go_ret
        exact ⟨rfl, HB1.out⟩
      · by_cases g2 : 400000 < f1
        · have hG := HN.out (fun h => absurd h.2.1.2 (by omega))
          subst hG
          clear hw
          go_wp2
          go_ret
          exact ⟨rfl, HB1.out⟩
        · have hw' := hw (by omega) (by omega)
          clear hw
          have hgin : inr f1 := ⟨by omega, by omega⟩
          have HO' : Hid (okk f0 f1 f2 f3 bo wa bu 2) := by
            have := HO.out
            simp [Hid, okk] at this ⊢
            simp [this, hgin]
          clear hgin HO
          go_wp2
          go_round
          case rel => exact ⟨2, by omega, by go_num, by first | rfl | (rw [hw']; rfl), HO'⟩
          case measure => simp [intOf]
    · have hi := ix7_2
      have o0 := HO.out.1 (by omega)
      have o1 := HO.out.2.1 (by omega)
      have hw : 0 ≤ f2 → f2 ≤ 400000 → wrap64 (f0 + f1 + f2) = f0 + f1 + f2 := by
        intro g1 g2
        unfold inr at *
        rw [wrap64_small (by omega) (by omega)]
        
      clear o0 o1
      simp only [psm]
      by_cases g1 : f2 < 0
      · have hG := HN.out (fun h => absurd h.2.2.1.1 (by omega))
        subst hG
        clear hw
        go_wp2
        go_ret
        exact ⟨rfl, HB1.out⟩
      · by_cases g2 : 400000 < f2
        · have hG := HN.out (fun h => absurd h.2.2.1.2 (by omega))
          subst hG
          clear hw
          go_wp2
          go_ret
          exact ⟨rfl, HB1.out⟩
        · have hw' := hw (by omega) (by omega)
          clear hw
          have hgin : inr f2 := ⟨by omega, by omega⟩
          have HO' : Hid (okk f0 f1 f2 f3 bo wa bu 3) := by
            have := HO.out
            simp [Hid, okk] at this ⊢
            simp [this, hgin]
          clear hgin HO
          go_wp2
          go_round
          case rel => exact ⟨3, by omega, by go_num, by first | rfl | (rw [hw']; rfl), HO'⟩
          case measure => simp [intOf]
    · have hi := ix7_3
      have o0 := HO.out.1 (by omega)
      have o1 := HO.out.2.1 (by omega)
      have o2 := HO.out.2.2.1 (by omega)
      have hw : 0 ≤ f3 → f3 ≤ 400000 → wrap64 (f0 + f1 + f2 + f3) = f0 + f1 + f2 + f3 := by
        intro g1 g2
        unfold inr at *
        rw [wrap64_small (by omega) (by omega)]
        
      clear o0 o1 o2
      simp only [psm]
      by_cases g1 : f3 < 0
      · have hG := HN.out (fun h => absurd h.2.2.2.1.1 (by omega))
        subst hG
        clear hw
        go_wp2
        go_ret
        exact ⟨rfl, HB1.out⟩
      · by_cases g2 : 400000 < f3
        · have hG := HN.out (fun h => absurd h.2.2.2.1.2 (by omega))
          subst hG
          clear hw
          go_wp2
          go_ret
          exact ⟨rfl, HB1.out⟩
        · have hw' := hw (by omega) (by omega)
          clear hw
          have hgin : inr f3 := ⟨by omega, by omega⟩
          have HO' : Hid (okk f0 f1 f2 f3 bo wa bu 4) := by
            have := HO.out
            simp [Hid, okk] at this ⊢
            simp [this, hgin]
          clear hgin HO
          go_wp2
          go_round
          case rel => exact ⟨4, by omega, by go_num, by first | rfl | (rw [hw']; rfl), HO'⟩
          case measure => simp [intOf]
    · have hi := ix7_4
      have o0 := HO.out.1 (by omega)
      have o1 := HO.out.2.1 (by omega)
      have o2 := HO.out.2.2.1 (by omega)
      have o3 := HO.out.2.2.2.1 (by omega)
      have hw : 0 ≤ bo → bo ≤ 400000 → wrap64 (f0 + f1 + f2 + f3 + bo) = f0 + f1 + f2 + f3 + bo := by
        intro g1 g2
        unfold inr at *
        rw [wrap64_small (by omega) (by omega)]
        
      clear o0 o1 o2 o3
      simp only [psm]
      by_cases g1 : bo < 0
      · have hG := HN.out (fun h => absurd h.2.2.2.2.1.1 (by omega))
        subst hG
        clear hw
        go_wp2
        go_ret
        exact ⟨rfl, HB1.out⟩
      · by_cases g2 : 400000 < bo
        · have hG := HN.out (fun h => absurd h.2.2.2.2.1.2 (by omega))
          subst hG
          clear hw
          go_wp2
          go_ret
          exact ⟨rfl, HB1.out⟩
        · have hw' := hw (by omega) (by omega)
          clear hw
          have hgin : inr bo := ⟨by omega, by omega⟩
          have HO' : Hid (okk f0 f1 f2 f3 bo wa bu 5) := by
            have := HO.out
            simp [Hid, okk] at this ⊢
            simp [this, hgin]
          clear hgin HO
          go_wp2
          go_round
          case rel => exact ⟨5, by omega, by go_num, by first | rfl | (rw [hw']; rfl), HO'⟩
          case measure => simp [intOf]
    · have hi := ix7_5
      have o0 := HO.out.1 (by omega)
      have o1 := HO.out.2.1 (by omega)
      have o2 := HO.out.2.2.1 (by omega)
      have o3 := HO.out.2.2.2.1 (by omega)
      have o4 := HO.out.2.2.2.2.1 (by omega)
      have hw : 0 ≤ wa → wa ≤ 400000 → wrap64 (f0 + f1 + f2 + f3 + bo + wa) = f0 + f1 + f2 + f3 + bo + wa := by
        intro g1 g2
        unfold inr at *
        rw [wrap64_small (by omega) (by omega)]
        
      clear o0 o1 o2 o3 o4
      simp only [psm]
      by_cases g1 : wa < 0
      · have hG := HN.out (fun h => absurd h.2.2.2.2.2.1.1 (by omega))
        subst hG
        clear hw
        go_wp2
        go_ret
        exact ⟨rfl, HB1.out⟩
      · by_cases g2 : 400000 < wa
        · have hG := HN.out (fun h => absurd h.2.2.2.2.2.1.2 (by omega))
          subst hG
          clear hw
          go_wp2
          go_ret
          exact ⟨rfl, HB1.out⟩
        · have hw' := hw (by omega) (by omega)
          clear hw
          have hgin : inr wa := ⟨by omega, by omega⟩
          have HO' : Hid (okk f0 f1 f2 f3 bo wa bu 6) := by
            have := HO.out
            simp [Hid, okk] at this ⊢
            simp [this, hgin]
          clear hgin HO
          go_wp2
          go_round
          case rel => exact ⟨6, by omega, by go_num, by first | rfl | (rw [hw']; rfl), HO'⟩
          case measure => simp [intOf]
    · have hi := ix7_6
      have o0 := HO.out.1 (by omega)
      have o1 := HO.out.2.1 (by omega)
      have o2 := HO.out.2.2.1 (by omega)
      have o3 := HO.out.2.2.2.1 (by omega)
      have o4 := HO.out.2.2.2.2.1 (by omega)
      have o5 := HO.out.2.2.2.2.2.1 (by omega)
      have hw : 0 ≤ bu → bu ≤ 400000 → wrap64 (f0 + f1 + f2 + f3 + bo + wa + bu) = f0 + f1 + f2 + f3 + bo + wa + bu := by
        intro g1 g2
        unfold inr at *
        rw [wrap64_small (by omega) (by omega)]
        
      clear o0 o1 o2 o3 o4 o5
      simp only [psm]
      by_cases g1 : bu < 0
      · have hG := HN.out (fun h => absurd h.2.2.2.2.2.2.1 (by omega))
        subst hG
        clear hw
        go_wp2
        go_ret
        exact ⟨rfl, HB1.out⟩
      · by_cases g2 : 400000 < bu
        · have hG := HN.out (fun h => absurd h.2.2.2.2.2.2.2 (by omega))
          subst hG
          clear hw
          go_wp2
          go_ret
          exact ⟨rfl, HB1.out⟩
        · have hw' := hw (by omega) (by omega)
          clear hw
          have hgin : inr bu := ⟨by omega, by omega⟩
          have HO' : Hid (okk f0 f1 f2 f3 bo wa bu 7) := by
            have := HO.out
            simp [Hid, okk] at this ⊢
            simp [this, hgin]
          clear hgin HO
          go_wp2
          go_round
          case rel => exact ⟨7, by omega, by go_num, by first | rfl | (rw [hw']; rfl), HO'⟩
          case measure => simp [intOf]
    · have o := HO.out
      have hG := HY.out ⟨o.1 (by omega), o.2.1 (by omega), o.2.2.1 (by omega), o.2.2.2.1 (by omega), o.2.2.2.2.1 (by omega), o.2.2.2.2.2.1 (by omega), o.2.2.2.2.2.2 (by omega)⟩
      clear o HO HN HY
      simp only [psm]
      go_wp2
      go_ret
      exact ⟨rfl, HB1.out⟩
end Go.Proofs.YtkhlihpghbhppaaGreat

set_option maxRecDepth 100000
namespace Go.Proofs.YtkhlihpghbhppaaGreat
open Go.RowKit
theorem rinA_any (d : Int) (w : World) : Calls Tryz.prog 115 #[.int .i64 d] w fun e w' => e = .returned (.bool (inA d)) ∧ w = w' := rin_any d w
/-- a validator's five cells lie in a block -/
def VAt (w : World) (y : Nat) (x : Vd) : Prop := w.heap[y]? = some (.cells #[.int .i64 x.tok, .int .i64 x.sh, .int .i64 x.lost, .bool x.jail, .bool x.dead] 26)
theorem VAt.later {w w' : World} {y B : Nat} {x : Vd} (h : VAt w y x) (hb : Below B w w') (hB : y < B) : VAt w' y x := (hb.block y hB).trans h
theorem VAt.lt {w : World} {y : Nat} {x : Vd} (h : VAt w y x) : y < w.heap.size := (Array.getElem?_eq_some_iff.1 h).1
theorem VAt.cells {w : World} {y : Nat} {x : Vd} (h : VAt w y x) : w.cell? ⟨y, 0, none⟩ = some (.int .i64 x.tok) ∧ w.cell? ⟨y, 1, none⟩ = some (.int .i64 x.sh) ∧ w.cell? ⟨y, 2, none⟩ = some (.int .i64 x.lost) ∧ w.cell? ⟨y, 3, none⟩ = some (.bool x.jail) ∧ w.cell? ⟨y, 4, none⟩ = some (.bool x.dead) := by
  unfold VAt at h
  simp [World.cell?, h]
theorem row_get (r : Nat → Int) (k : Nat) (hk : k < 6) : (rowC r)[k]? = some (.int .i64 (r k)) := by
  rcases (show k = 0 ∨ k = 1 ∨ k = 2 ∨ k = 3 ∨ k = 4 ∨ k = 5 by omega) with rfl | rfl | rfl | rfl | rfl | rfl <;> rfl
theorem row_cell (w : World) (r : Nat → Int) (e : TypeId) (k : Nat) (hk : k < 6) : (w.alloc (.cells #[.int .i64 (r 0), .int .i64 (r 1), .int .i64 (r 2), .int .i64 (r 3), .int .i64 (r 4), .int .i64 (r 5)] e)).cell? ⟨w.heap.size, k, none⟩ = some (.int .i64 (r k)) := by
  rw [World.cell?_alloc_at _ _ _ _ rfl]
  exact row_get r k hk
theorem pshOk_no {S : Nat → Nat → Int} {v j : Nat} (hj : j < 4) (hin : inA (S j v) = false) : pshOk S v 4 = false := by
  rcases (show j = 0 ∨ j = 1 ∨ j = 2 ∨ j = 3 by omega) with rfl | rfl | rfl | rfl <;> simp [pshOk, hin]
set_option maxHeartbeats 4000000 in
theorem rgoods_any (s : St) (ao : Option Addr) (sb so c : Nat) (w : World) (hW : WsAt w ao sb so s.W) :
    Calls Tryz.prog 52 #[.agg (stC s (.slice ao s.W.length c))] w fun e w' => e = .returned (.bool (goodS s)) ∧ Below w.heap.size w w' := by
  have S0 := SAt.new w (stC s (.slice ao s.W.length c))
  have HB0 : Hid (Below w.heap.size w (w.alloc (.cells (stC s (.slice ao s.W.length c)) 32))) := (Below.refl _ w).alloc (Nat.le_refl _) _
  have HW := hide hW
  have hlen := hW.len
  have hadr := hW.adr
  have hGB := rgood_any s.b.f0 s.b.f1 s.b.f2 s.b.f3 s.b.bo s.b.wa s.b.bu
  have HG : Hid (goodS s = (goodB s.b.f0 s.b.f1 s.b.f2 s.b.f3 s.b.bo s.b.wa s.b.bu && decide (1 ≤ s.next) && decide (s.next ≤ 1125899906842624) && decide (s.W.length ≤ 60) && wOk s.next 0 s.W && pvs s 6 && bal s)) := rfl
  generalize goodB s.b.f0 s.b.f1 s.b.f2 s.b.f3 s.b.bo s.b.wa s.b.bu = t1 at *
  clear hW
  go_enter Tryz.func52, Tryz.ntmps52
  go_upto_region 1 with fail
  generalize w.alloc (.cells (stC s (.slice ao s.W.length c)) 32) = w0 at *
  obtain ⟨x0, x1, x2, x3, x4, x5, x6, x7, x8⟩ := st_cells S0
  go_upto_region 4 with (go_at_call 114; refine (hGB _).mono ?_; rintro e w1 ⟨rfl, h1⟩; have S1 := S0.later h1 S0.lt; have HB1 : Hid (Below w.heap.size w w1) := HB0.out.trans (h1.mono HB0.out.size); obtain ⟨y0, y1, y2, y3, y4, y5, y6, y7, y8⟩ := st_cells S1; clear x0 x1 x2 x3 x4 x5 x6 x7 x8 y0 y1 y2 y3 y4 y5 y6 h1 S0 HB0)
  all_goals first
    | (go_ret; refine ⟨?_, HB1.out⟩; rw [HG.out]; congr 1; congr 1; first | (simp_all; done) | (simp_all; omega) | (simp_all; intros; omega))
    | skip
  have hl60 : s.W.length ≤ 60 := by omega
  have hg2 : goodS s = (wOk s.next 0 s.W && pvs s 6 && bal s) := by rw [HG.out]; simp_all
  have HG2 := hide hg2
  have hbl : w.heap.size < w1.heap.size := S1.lt
  have hn1 : 1 ≤ s.next ∧ s.next ≤ 1125899906842624 := by omega
  clear hg2 HG hGB y7 y8
  generalize decide (s.next < 1) = b1
  generalize decide (1125899906842624 < s.next) = b2
  generalize decide (60 < (s.W.length : Int)) = b3
  apply wp_region_lit
  iterate 3 go_step
  refine wpList_load_mid rfl 27 _ rfl _ 7 rfl _ _ (st_vals S1) Tryz.underlying27 rfl (by rw [infoVs]; rfl) ?_
  go_wp2_with fail
  go_loopw [3, 4, 36] (fun s3 s4 i wl => ∃ k : Nat, k ≤ 6 ∧ i = .int .i64 (k : Int) ∧ s3 = .int .i64 (ptok s.V k) ∧ s4 = .int .i64 (plost s.V k) ∧ Hid (pvs s k = true ∧ Below w1.heap.size w1 wl)) (fun _ _ i _ => (6 - intOf i).toNat)
  case atStart => exact ⟨0, by omega, rfl, rfl, rfl, rfl, Below.refl _ _⟩
  case round =>
    obtain ⟨k, hk, rfl, rfl, rfl, HO⟩ := hrel
    rename World => w2
    have hsz2 : w1.heap.size ≤ w2.heap.size := HO.out.2.size
    by_cases hk6 : k < 6
    · have S2 := S1.later HO.out.2 hbl
      have hix := fun w => ixV w s.V k hk6
      clear S1
      go_upto_region 8 with fail
      have V3 : VAt (w2.alloc (.cells #[.int .i64 (s.V k).tok, .int .i64 (s.V k).sh, .int .i64 (s.V k).lost, .bool (s.V k).jail, .bool (s.V k).dead] 26)) w2.heap.size (s.V k) := heap_alloc_new _ _
      have S3 := S2.alloc (.cells #[.int .i64 (s.V k).tok, .int .i64 (s.V k).sh, .int .i64 (s.V k).lost, .bool (s.V k).jail, .bool (s.V k).dead] 26)
      have HB3 := hide (HB1.out.trans ((HO.out.2.alloc hsz2 (.cells #[.int .i64 (s.V k).tok, .int .i64 (s.V k).sh, .int .i64 (s.V k).lost, .bool (s.V k).jail, .bool (s.V k).dead] 26)).mono (Nat.le_of_lt hbl)))
      have HP := hide HO.out.1
      have HC3 := hide (HO.out.2.alloc hsz2 (.cells #[.int .i64 (s.V k).tok, .int .i64 (s.V k).sh, .int .i64 (s.V k).lost, .bool (s.V k).jail, .bool (s.V k).dead] 26))
      generalize w2.alloc (.cells #[.int .i64 (s.V k).tok, .int .i64 (s.V k).sh, .int .i64 (s.V k).lost, .bool (s.V k).jail, .bool (s.V k).dead] 26) = w3 at *
      have hbl2 : w.heap.size < w2.heap.size := by omega
      clear S2 HO hix
      have hV3 := V3.lt
      have hS3 := S3.lt
      apply wp_region_lit
      iterate 3 go_step
      refine wpList_load_mid rfl 29 _ rfl _ 37 rfl _ _ (st_shares S3) Tryz.underlying29 rfl (by rw [infoSh]; rfl) ?_
      go_wp2_with fail
      go_loopw [7, 42] (fun s7 i wl => ∃ j : Nat, j ≤ 4 ∧ i = .int .i64 (j : Int) ∧ s7 = .int .i64 (psh s.S k j) ∧ Hid (pshOk s.S k j = true ∧ Below w3.heap.size w3 wl)) (fun _ i _ => (4 - intOf i).toNat)
      case atStart => exact ⟨0, by omega, rfl, rfl, rfl, Below.refl _ _⟩
      case round =>
        obtain ⟨j, hj, rfl, rfl, HI⟩ := hrel
        rename World => w4
        have hsz4 : w3.heap.size ≤ w4.heap.size := HI.out.2.size
        have HB4 := hide (HB3.out.trans (HI.out.2.mono (Nat.le_of_lt (Nat.lt_of_lt_of_le (Nat.lt_of_lt_of_le hbl hsz2) (Nat.le_of_lt hV3)))))
        have hsz5 : w.heap.size ≤ w4.heap.size := HB4.out.size
        by_cases hj4 : j < 4
        · have hixS := fun w => ixS w s.S j hj4
          have hrc := row_cell w4 (s.S j) 28 k hk6
          have hkk : (k : Int) < 6 := by omega
          have hpb := psh_bound (S := s.S) (v := k) j HI.out.1
          have i1 := rinA_any (s.S j k)
          by_cases hin : inA (s.S j k) = true
          · rw [hin] at i1
            have HR2 : Hid (pshOk s.S k (j + 1) = true) := by show (pshOk s.S k j && inA (s.S j k)) = true; rw [HI.out.1, hin]; rfl
            rw [inA_iff] at hin
            have HPs : Hid (psh s.S k (j + 1) = psh s.S k j + s.S j k) := rfl
            clear S3 V3
            go_wp2_with (go_at_call 115; refine (i1 _).mono ?_; rintro e w5 ⟨rfl, rfl⟩)
            go_roundw
            case rel => exact ⟨j + 1, by omega, by go_num, by rw [HPs.out], HR2.out, HI.out.2.alloc hsz4 _⟩
            case measure => simp [intOf]; omega
          · simp only [Bool.not_eq_true] at hin
            rw [hin] at i1
            have hvs : vsOk s k = false := by unfold vsOk shOk; rw [pshOk_no hj4 hin]; simp
            have HF := hide (show goodS s = false by rw [HG2.out, pvs_no hk6 hvs]; simp)
            clear hin hvs S3 V3
            go_wp2_with (go_at_call 115; refine (i1 _).mono ?_; rintro e w5 ⟨rfl, rfl⟩)
            go_ret
            exact ⟨by rw [HF.out]; rfl, HB4.out.alloc hsz5 _⟩
        · obtain rfl : j = 4 := by omega
          obtain ⟨c0, c1, c2, c3, c4⟩ := (V3.later HI.out.2 hV3).cells
          have hpb := psh_bound (S := s.S) (v := k) 4 HI.out.1
          have hpt := ptok_bound (V := s.V) k (fun i hi => (vOk_amounts (by have h := pvs_at HP.out hi; unfold vsOk at h; rw [Bool.and_eq_true] at h; exact h.1)).1)
          have hpl := plost_bound (V := s.V) k (fun i hi => (vOk_amounts (by have h := pvs_at HP.out hi; unfold vsOk at h; rw [Bool.and_eq_true] at h; exact h.1)).2.2)
          have hv0 : vsOk s k = (inA (s.V k).tok && inA (s.V k).sh && inA (s.V k).lost && !(decide (0 < (s.V k).tok) && decide ((s.V k).sh = 0)) && ((s.V k).jail || !(s.V k).dead) && decide (psh s.S k 4 = (s.V k).sh)) := by unfold vsOk vOk; rw [shOk_dec HI.out.1]
          have HV := hide hv0
          have HP1 : Hid (ptok s.V (k + 1) = ptok s.V k + (s.V k).tok) := rfl
          have HP2 : Hid (plost s.V (k + 1) = plost s.V k + (s.V k).lost) := rfl
          have HPk : Hid (pvs s (k + 1) = vsOk s k) := by show (pvs s k && vsOk s k) = vsOk s k; rw [HP.out, Bool.true_and]
          have HNo : Hid (vsOk s k = false → goodS s = false) := fun h => by rw [HG2.out, pvs_no hk6 h]; simp
          have HBr := hide (HC3.out.trans (HI.out.2.mono (by omega)))
          clear hv0 S3 V3 HI HP HG2
          generalize psh s.S k 4 = ps at *
          generalize (s.V k).tok = xt at *
          generalize (s.V k).sh = xs at *
          generalize (s.V k).lost = xl at *
          generalize (s.V k).jail = xj at *
          generalize (s.V k).dead = xd at *
          have i1 := rinA_any xt
          have i2 := rinA_any xs
          have i3 := rinA_any xl
          by_cases g1 : inA xt = true
          · by_cases g2 : inA xs = true
            · by_cases g3 : inA xl = true
              · have hvv : vsOk s k = (!(decide (0 < xt) && decide (xs = 0)) && (xj || !xd) && decide (ps = xs)) := by rw [HV.out, g1, g2, g3]; simp
                have HV2 := hide hvv
                rw [g1] at i1
                rw [g2] at i2
                rw [g3] at i3
                rw [inA_iff] at g1 g2 g3
                clear hvv HV
                go_wp2_with (first
                  | (go_at_call 115; have _m := m2; refine (i3 _).mono ?_; rintro e w7 ⟨rfl, rfl⟩)
                  | (go_at_call 115; have _m := m1; refine (i2 _).mono ?_; rintro e w6 ⟨rfl, rfl⟩; have m2 : True := trivial)
                  | (go_at_call 115; refine (i1 _).mono ?_; rintro e w5 ⟨rfl, rfl⟩; have m1 : True := trivial))
                all_goals first
                  | (go_ret
                     have hv : vsOk s k = false := by rw [HV2.out]; first | (simp_all; done) | (simp_all; omega)
                     exact ⟨by rw [HNo.out hv]; rfl, HB4.out⟩)
                  | (have hv : pvs s (k + 1) = true := by rw [HPk.out, HV2.out]; first | (simp_all; done) | (simp_all; omega)
                     have hp1 := HP1.out
                     have hp2 := HP2.out
                     refine ⟨⟨k + 1, by omega, by go_num, ?_, ?_, hv, HBr.out⟩, by simp [intOf]; omega⟩
                     · congr 1; omega
                     · congr 1; omega)
              · simp only [Bool.not_eq_true] at g3
                rw [g3] at i3
                rw [g1] at i1
                rw [g2] at i2
                have HF := hide (HNo.out (by rw [HV.out, g3]; simp))
                clear HNo HV g3
                go_wp2_with (first
                  | (go_at_call 115; have _m := m2; refine (i3 _).mono ?_; rintro e w7 ⟨rfl, rfl⟩)
                  | (go_at_call 115; have _m := m1; refine (i2 _).mono ?_; rintro e w6 ⟨rfl, rfl⟩; have m2 : True := trivial)
                  | (go_at_call 115; refine (i1 _).mono ?_; rintro e w5 ⟨rfl, rfl⟩; have m1 : True := trivial))
                go_ret
                exact ⟨by rw [HF.out]; rfl, HB4.out⟩
            · simp only [Bool.not_eq_true] at g2
              rw [g2] at i2
              rw [g1] at i1
              have HF := hide (HNo.out (by rw [HV.out, g2]; simp))
              clear HNo HV g2
              go_wp2_with (first
                | (go_at_call 115; have _m := m1; refine (i2 _).mono ?_; rintro e w6 ⟨rfl, rfl⟩)
                | (go_at_call 115; refine (i1 _).mono ?_; rintro e w5 ⟨rfl, rfl⟩; have m1 : True := trivial))
              go_ret
              exact ⟨by rw [HF.out]; rfl, HB4.out⟩
          · simp only [Bool.not_eq_true] at g1
            rw [g1] at i1
            have HF := hide (HNo.out (by rw [HV.out, g1]; simp))
            clear HNo HV g1
            go_wp2_with (go_at_call 115; refine (i1 _).mono ?_; rintro e w5 ⟨rfl, rfl⟩)
            go_ret
            exact ⟨by rw [HF.out]; rfl, HB4.out⟩
    · obtain rfl : k = 6 := by omega
      have HB5 := hide (HB1.out.trans (HO.out.2.mono (Nat.le_of_lt hbl)))
      have S5 := S1.later HO.out.2 hbl
      have HG3 : Hid (goodS s = (wOk s.next 0 s.W && bal s)) := by have := HO.out.1; rw [HG2.out, this]; simp [Hid]
      obtain ⟨_, _, _, _, _, _, _, x7, x8⟩ := st_cells S5
      have HS5 := hide S5
      have hbl5 := S5.lt
      clear S1 S5 x8 HG2
      go_wp2_with fail
      clear x7
      go_loopw [10, 11, 108] (fun s10 s11 i wl => ∃ (k : Nat) (last : Int), k ≤ s.W.length ∧ i = .int .i64 (k : Int) ∧ s10 = .int .i64 (amts (s.W.take k)) ∧ s11 = .int .i64 last ∧ Hid (wOk s.next 0 s.W = wOk s.next last (s.W.drop k) ∧ (∀ x ∈ s.W.take k, inA x.amt = true) ∧ Below w2.heap.size w2 wl)) (fun _ _ i _ => s.W.length - (intOf i).toNat)
      case atStart => exact ⟨0, 0, by omega, rfl, rfl, rfl, rfl, by simp, Below.refl _ _⟩
      case round =>
        obtain ⟨k, last, hk, rfl, rfl, rfl, HR⟩ := hrel
        have hsz6 : w2.heap.size ≤ wr.heap.size := HR.out.2.2.size
        have HB6 := hide (HB5.out.trans (HR.out.2.2.mono (Nat.le_of_lt hbl5)))
        have hsz7 : w.heap.size ≤ wr.heap.size := HB6.out.size
        have hlt7 : w.heap.size < wr.heap.size := Nat.lt_of_lt_of_le hbl5 hsz6
        obtain ⟨_, _, _, _, y4, y5, y6, _, y8⟩ := st_cells (HS5.out.later HR.out.2.2 hbl5)
        have hab := amts_bound HR.out.2.1
        by_cases hlt : k < s.W.length
        · obtain ⟨x, hx, hd⟩ := drop_at hlt
          obtain ⟨c0, c1, c2, c3, c4, c5, c6, c7⟩ := (HW.out.over HB6.out).cell k x hx
          have HE : Hid (wOk s.next 0 s.W = (wOk1 last s.next x && wOk s.next x.num (s.W.drop (k + 1)))) := by have := HR.out.1; rw [hd] at this; exact this
          have HM := hide (amts_take hx)
          rw [List.length_take, Nat.min_eq_left hk] at hab
          have HT : Hid (inA x.amt = true → ∀ y ∈ s.W.take (k + 1), inA y.amt = true) := fun h y hy => by
            have ex : s.W[k] = x := by simpa [List.getElem?_eq_getElem hlt] using hx
            rw [List.take_succ_eq_append_getElem hlt, List.mem_append, List.mem_singleton, ex] at hy
            rcases hy with hy | rfl
            · exact HR.out.2.1 y hy
            · exact h
          have HBq := hide HR.out.2.2
          obtain rfl := hadr (by omega)
          have j3 := rinA_any x.amt
          have HO1 : Hid (wOk1 last s.next x = (decide (last < x.num) && decide (x.num < s.next) && isD x.d && isV x.v && inA x.amt && decide (0 ≤ x.hei) && decide (0 ≤ x.due))) := rfl
          have HD1 : Hid (isD x.d = decide (0 ≤ x.d ∧ x.d < 4)) := rfl
          have HD2 : Hid (isV x.v = decide (0 ≤ x.v ∧ x.v < 6)) := rfl
          clear hadr hd hx HR y4 y5 y6
          by_cases g3 : inA x.amt = true
          · rw [g3] at j3
            have HT2 := hide (HT.out g3)
            have ho := HO1.out
            rw [g3] at ho
            have HO2 := hide ho
            rw [inA_iff] at g3
            clear ho HO1 HT
            go_wp2_with (go_at_call 115; refine (j3 _).mono ?_; rintro e w7 ⟨rfl, rfl⟩)
            all_goals first
              | (go_ret
                 have hf : goodS s = false := by rw [HG3.out, HE.out, HO2.out, HD1.out, HD2.out]; first | (simp_all; done) | (simp_all; omega) | (simp_all; intros; omega)
                 exact ⟨by rw [hf]; rfl, HB6.out.alloc hsz7 _⟩)
              | (have hf : wOk s.next 0 s.W = wOk s.next x.num (s.W.drop (k + 1)) := by rw [HE.out, HO2.out, HD1.out, HD2.out]; first | (simp_all; done) | (simp_all; omega)
                 have hm := HM.out
                 have hs : amts (s.W.take k) + x.amt = amts (s.W.take (k + 1)) := by omega
                 refine ⟨?_, by simp [intOf]; omega⟩
                 (repeat apply Exists.intro)
                 exact ⟨⟨k + 1, x.num, by omega, by go_num, by rw [hs], rfl, hf, HT2.out, HBq.out.alloc hsz6 _⟩, rfl⟩)
          · simp only [Bool.not_eq_true] at g3
            rw [g3] at j3
            have hf : goodS s = false := by rw [HG3.out, HE.out, HO1.out, g3]; simp
            have HF := hide hf
            clear hf HE HO1 g3 HT HG3
            go_wp2_with (go_at_call 115; refine (j3 _).mono ?_; rintro e w7 ⟨rfl, rfl⟩)
            all_goals (go_ret; exact ⟨by rw [HF.out]; rfl, HB6.out.alloc hsz7 _⟩)
        · have hf : goodS s = bal s := by rw [HG3.out, HR.out.1, List.drop_eq_nil_of_le (by omega)]; simp [wOk]
          have HF : Hid (goodS s = (decide (ptok s.V 6 = s.b.bo) && decide (amts (s.W.take k) = s.b.wa) && decide (plost s.V 6 = s.b.bu))) := by rw [hf, List.take_of_length_le (by omega)]; exact rfl
          clear hf y8
          generalize ptok s.V 6 = pt at *
          generalize plost s.V 6 = pl at *
          generalize amts (s.W.take k) = pa at *
          go_wp2_with fail
          all_goals (go_ret; refine ⟨?_, HB6.out⟩; rw [HF.out]; congr 1; congr 1; first | (simp_all; done) | (simp_all; rfl))
end Go.Proofs.YtkhlihpghbhppaaGreat

