/- Whether a bank is good. -/
import Derived.Test.YtfajfebpchfkoaePB
import Derived.Test.YtfajfebpchfkoaeD
import Derived.Test.YtfajfebpchfkoaeQ
import Derived.WalkKit
import Derived.WalkSmall
import Derived.BigQuiet
import Derived.Deep.QuietTactic
import Derived.Deep.RegionHeld3
set_option maxRecDepth 100000
namespace Go.Proofs.Ytfajfebpchfkoae
open Go.RowKit
theorem cells_keep {f : Nat} {args : Array Value} {w0 w : World} {b : Nat} {v : Value} {f0 f1 f2 f3 bo wa bu : Int} (h : Calls Try.prog f args w fun e w' => e = .returned v ∧ Below w.heap.size w w')
    (hb : b < w0.heap.size) (hS : w.cell? ⟨b, 0, none⟩ = some (.int .i64 f0) ∧ w.cell? ⟨b, 1, none⟩ = some (.int .i64 f1) ∧ w.cell? ⟨b, 2, none⟩ = some (.int .i64 f2) ∧ w.cell? ⟨b, 3, none⟩ = some (.int .i64 f3) ∧ w.cell? ⟨b, 4, none⟩ = some (.int .i64 bo) ∧ w.cell? ⟨b, 5, none⟩ = some (.int .i64 wa) ∧ w.cell? ⟨b, 6, none⟩ = some (.int .i64 bu) ∧ Below w0.heap.size w0 w) :
    Calls Try.prog f args w fun e w' => e = .returned v ∧ w'.cell? ⟨b, 0, none⟩ = some (.int .i64 f0) ∧ w'.cell? ⟨b, 1, none⟩ = some (.int .i64 f1) ∧ w'.cell? ⟨b, 2, none⟩ = some (.int .i64 f2) ∧ w'.cell? ⟨b, 3, none⟩ = some (.int .i64 f3) ∧ w'.cell? ⟨b, 4, none⟩ = some (.int .i64 bo) ∧ w'.cell? ⟨b, 5, none⟩ = some (.int .i64 wa) ∧ w'.cell? ⟨b, 6, none⟩ = some (.int .i64 bu) ∧ Below w0.heap.size w0 w' := by
  refine h.mono ?_
  rintro e w' ⟨rfl, hb'⟩
  obtain ⟨h0, h1, h2, h3, h4, h5, h6, hB⟩ := hS
  have k : ∀ o, w'.cell? ⟨b, o, none⟩ = w.cell? ⟨b, o, none⟩ := fun o => hb'.cell (Nat.lt_of_lt_of_le hb hB.size)
  exact ⟨rfl, (k 0).trans h0, (k 1).trans h1, (k 2).trans h2, (k 3).trans h3, (k 4).trans h4, (k 5).trans h5, (k 6).trans h6, hB.trans (hb'.mono hB.size)⟩
theorem wrap64_small {n : Int} (h0 : -9223372036854775808 ≤ n) (h1 : n < 9223372036854775808) : wrap64 n = n := by
  unfold wrap64
  omega
set_option maxHeartbeats 1000000 in
theorem good_no (f0 f1 f2 f3 bo wa bu : Int) (w : World) (y0 y1 y2 y3 y4 y5 y6 : Int) (hne : ∀ w, (binOp .eql 35 (.agg #[.int .i64 y0, .int .i64 y1, .int .i64 y2, .int .i64 y3, .int .i64 y4, .int .i64 y5, .int .i64 y6]) (.agg #[.int .i64 f0, .int .i64 f1, .int .i64 f2, .int .i64 f3, .int .i64 bo, .int .i64 wa, .int .i64 bu])).run Try.prog w = .ok (.bool false) w)
    (hcl : ∀ w, Calls Try.prog 74 #[.agg #[.int .i64 f0, .int .i64 f1, .int .i64 f2, .int .i64 f3, .int .i64 bo, .int .i64 wa, .int .i64 bu]] w fun e w' => e = .returned (.agg #[.int .i64 y0, .int .i64 y1, .int .i64 y2, .int .i64 y3, .int .i64 y4, .int .i64 y5, .int .i64 y6]) ∧ Below w.heap.size w w') :
    Calls Try.prog 44 #[.agg #[.int .i64 f0, .int .i64 f1, .int .i64 f2, .int .i64 f3, .int .i64 bo, .int .i64 wa, .int .i64 bu]] w fun e w' => e = .returned (.bool false) ∧ Below w.heap.size w w' := by
  go_enter Try.func44, Try.ntmps44
  go_wp2_with fail
  have HB0 : Hid (Below w.heap.size w (w.alloc (.cells #[.int .i64 f0, .int .i64 f1, .int .i64 f2, .int .i64 f3, .int .i64 bo, .int .i64 wa, .int .i64 bu] 35))) := (Below.refl _ w).alloc (Nat.le_refl _) _
  have B0 := BAt.new w f0 f1 f2 f3 bo wa bu
  have hlt : w.heap.size < (w.alloc (.cells #[.int .i64 f0, .int .i64 f1, .int .i64 f2, .int .i64 f3, .int .i64 bo, .int .i64 wa, .int .i64 bu] 35)).heap.size := by simp
  generalize w.alloc (.cells #[.int .i64 f0, .int .i64 f1, .int .i64 f2, .int .i64 f3, .int .i64 bo, .int .i64 wa, .int .i64 bu] 35) = w0 at *
  obtain ⟨x0, x1, x2, x3, x4, x5, x6⟩ := id B0.cells
  clear B0
  have hbb : Below w0.heap.size w0 w0.drew := (Below.refl _ _).drew
  go_region_with (go_at_call 74; refine (cells_keep (f0 := f0) (f1 := f1) (f2 := f2) (f3 := f3) (bo := bo) (wa := wa) (bu := bu) (hcl _) hlt ?_).mono ?_; (simp [*]); rintro e wA ⟨rfl, z0, z1, z2, z3, z4, z5, z6, hA⟩)
  all_goals
    have HF : Hid (Below w.heap.size w wA) := HB0.out.trans (hA.mono (Nat.le_of_lt hlt))
    clear hA
    go_wp2
    go_ret
    exact ⟨rfl, HF.out⟩
set_option maxHeartbeats 1000000 in
theorem good_yes (f0 f1 f2 f3 bo wa bu s : Int) (r : Bool) (w : World) (heq : ∀ w, (binOp .eql 35 (.agg #[.int .i64 f0, .int .i64 f1, .int .i64 f2, .int .i64 f3, .int .i64 bo, .int .i64 wa, .int .i64 bu]) (.agg #[.int .i64 f0, .int .i64 f1, .int .i64 f2, .int .i64 f3, .int .i64 bo, .int .i64 wa, .int .i64 bu])).run Try.prog w = .ok (.bool true) w)
    (hcl : ∀ w, Calls Try.prog 74 #[.agg #[.int .i64 f0, .int .i64 f1, .int .i64 f2, .int .i64 f3, .int .i64 bo, .int .i64 wa, .int .i64 bu]] w fun e w' => e = .returned (.agg #[.int .i64 f0, .int .i64 f1, .int .i64 f2, .int .i64 f3, .int .i64 bo, .int .i64 wa, .int .i64 bu]) ∧ Below w.heap.size w w')
    (hsum : ∀ w, Calls Try.prog 18 #[.agg #[.int .i64 f0, .int .i64 f1, .int .i64 f2, .int .i64 f3, .int .i64 bo, .int .i64 wa, .int .i64 bu]] w fun e w' => e = .returned (.int .i64 s) ∧ Below w.heap.size w w') (hr : (s == 400000) = r) :
    Calls Try.prog 44 #[.agg #[.int .i64 f0, .int .i64 f1, .int .i64 f2, .int .i64 f3, .int .i64 bo, .int .i64 wa, .int .i64 bu]] w fun e w' => e = .returned (.bool r) ∧ Below w.heap.size w w' := by
  go_enter Try.func44, Try.ntmps44
  go_wp2_with fail
  have HB0 : Hid (Below w.heap.size w (w.alloc (.cells #[.int .i64 f0, .int .i64 f1, .int .i64 f2, .int .i64 f3, .int .i64 bo, .int .i64 wa, .int .i64 bu] 35))) := (Below.refl _ w).alloc (Nat.le_refl _) _
  have B0 := BAt.new w f0 f1 f2 f3 bo wa bu
  have hlt : w.heap.size < (w.alloc (.cells #[.int .i64 f0, .int .i64 f1, .int .i64 f2, .int .i64 f3, .int .i64 bo, .int .i64 wa, .int .i64 bu] 35)).heap.size := by simp
  generalize w.alloc (.cells #[.int .i64 f0, .int .i64 f1, .int .i64 f2, .int .i64 f3, .int .i64 bo, .int .i64 wa, .int .i64 bu] 35) = w0 at *
  obtain ⟨x0, x1, x2, x3, x4, x5, x6⟩ := id B0.cells
  clear B0
  have hbb : Below w0.heap.size w0 w0.drew := (Below.refl _ _).drew
  go_region_held3 (fun w' => w'.cell? ⟨w.heap.size, 0, none⟩ = some (.int .i64 f0) ∧ w'.cell? ⟨w.heap.size, 1, none⟩ = some (.int .i64 f1) ∧ w'.cell? ⟨w.heap.size, 2, none⟩ = some (.int .i64 f2) ∧ w'.cell? ⟨w.heap.size, 3, none⟩ = some (.int .i64 f3) ∧ w'.cell? ⟨w.heap.size, 4, none⟩ = some (.int .i64 bo) ∧ w'.cell? ⟨w.heap.size, 5, none⟩ = some (.int .i64 wa) ∧ w'.cell? ⟨w.heap.size, 6, none⟩ = some (.int .i64 bu) ∧ Below w0.heap.size w0 w') (go_keep)
    (first
      | (go_at_call 74; refine (cells_keep (f0 := f0) (f1 := f1) (f2 := f2) (f3 := f3) (bo := bo) (wa := wa) (bu := bu) (hcl _) hlt ?_).mono ?_; (simp [*]); rintro e wA ⟨rfl, hA⟩)
      | (go_at_call 18; refine (cells_keep (f0 := f0) (f1 := f1) (f2 := f2) (f3 := f3) (bo := bo) (wa := wa) (bu := bu) (hsum _) hlt ?_).mono ?_; (simp [*]); rintro e wB ⟨rfl, hB⟩))
  have HF : Hid (Below w.heap.size w wB) := HB0.out.trans (hB.2.2.2.2.2.2.2.mono (Nat.le_of_lt hlt))
  clear hA hB
  go_wp2
  go_ret
  exact ⟨rfl, HF.out⟩
theorem cl_iff (n : Int) : cl n = n ↔ 0 ≤ n ∧ n ≤ 400000 := by
  unfold cl
  omega
theorem good_any (f0 f1 f2 f3 bo wa bu : Int) (w : World) : Calls Try.prog 44 #[.agg #[.int .i64 f0, .int .i64 f1, .int .i64 f2, .int .i64 f3, .int .i64 bo, .int .i64 wa, .int .i64 bu]] w fun e w' => e = .returned (.bool (goodB f0 f1 f2 f3 bo wa bu)) ∧ Below w.heap.size w w' := by
  have hc := clamped_any f0 f1 f2 f3 bo wa bu
  have he := fun w => eqB w (cl f0) (cl f1) (cl f2) (cl f3) (cl bo) (cl wa) (cl bu) f0 f1 f2 f3 bo wa bu
  by_cases h : cl f0 = f0 ∧ cl f1 = f1 ∧ cl f2 = f2 ∧ cl f3 = f3 ∧ cl bo = bo ∧ cl wa = wa ∧ cl bu = bu
  · rw [decide_eq_true h] at he
    obtain ⟨h0, h1, h2, h3, h4, h5, h6⟩ := h
    rw [h0, h1, h2, h3, h4, h5, h6] at hc he
    rw [cl_iff] at h0 h1 h2 h3 h4 h5 h6
    refine good_yes f0 f1 f2 f3 bo wa bu _ _ w he hc (sum_any f0 f1 f2 f3 bo wa bu) ?_
    rw [wrap64_small (by omega) (by omega)]
    unfold goodB
    simp [h0, h1, h2, h3, h4, h5, h6]
    rfl
  · rw [decide_eq_false h] at he
    have hn : goodB f0 f1 f2 f3 bo wa bu = false := by
      unfold goodB
      refine decide_eq_false fun g => h ?_
      simp only [cl_iff]
      exact ⟨g.1, g.2.1, g.2.2.1, g.2.2.2.1, g.2.2.2.2.1, g.2.2.2.2.2.1, g.2.2.2.2.2.2.1⟩
    rw [hn]
    exact good_no f0 f1 f2 f3 bo wa bu w _ _ _ _ _ _ _ he hc
end Go.Proofs.Ytfajfebpchfkoae
