/- The stake's small functions: isValidator, isDelegator, isSome, validatorGood. -/
import Derived.Test.YtfajfebpchfkoaeSM
import Derived.Test.YtfajfebpchfkoaeA
import Derived.WalkKit
import Derived.WalkSmall
import Derived.Below
set_option maxRecDepth 100000
namespace Go.Proofs.Ytfajfebpchfkoae
open Go.RowKit
theorem hide {p : Prop} (h : p) : Hid p := h
theorem isVal_any (d : Int) (w : World) : Calls Try.prog 55 #[.int .i64 d] w fun e w' => e = .returned (.bool (isV d)) ∧ w = w' := by
  unfold isV
  by_cases h0 : 0 ≤ d
  · by_cases h1 : d < 6
    · rw [decide_eq_true ⟨h0, h1⟩]
      go_enter Try.func55, Try.ntmps55
      go_wp2
      go_ret
      exact ⟨rfl, rfl⟩
    · rw [decide_eq_false (by omega)]
      go_enter Try.func55, Try.ntmps55
      go_wp2
      go_ret
      exact ⟨rfl, rfl⟩
  · rw [decide_eq_false (by omega)]
    go_enter Try.func55, Try.ntmps55
    go_wp2
    go_ret
    exact ⟨rfl, rfl⟩
theorem sisDel_any (d : Int) (w : World) : Calls Try.prog 75 #[.int .i64 d] w fun e w' => e = .returned (.bool (isD d)) ∧ w = w' := by
  unfold isD
  by_cases h0 : 0 ≤ d
  · by_cases h1 : d < 4
    · rw [decide_eq_true ⟨h0, h1⟩]
      go_enter Try.func75, Try.ntmps75
      go_wp2
      go_ret
      exact ⟨rfl, rfl⟩
    · rw [decide_eq_false (by omega)]
      go_enter Try.func75, Try.ntmps75
      go_wp2
      go_ret
      exact ⟨rfl, rfl⟩
  · rw [decide_eq_false (by omega)]
    go_enter Try.func75, Try.ntmps75
    go_wp2
    go_ret
    exact ⟨rfl, rfl⟩
theorem inA_any (d : Int) (w : World) : Calls Try.prog 76 #[.int .i64 d] w fun e w' => e = .returned (.bool (inA d)) ∧ w = w' := inn_any d w
theorem validatorGood_any (b o : Nat) (x : Vd) (w : World) (h0 : w.cell? ⟨b, o, none⟩ = some (.int .i64 x.tok)) (h1 : w.cell? ⟨b, o + 1, none⟩ = some (.int .i64 x.sh)) (h2 : w.cell? ⟨b, o + 2, none⟩ = some (.int .i64 x.lost))
    (h3 : w.cell? ⟨b, o + 3, none⟩ = some (.bool x.jail)) (h4 : w.cell? ⟨b, o + 4, none⟩ = some (.bool x.dead)) :
    Calls Try.prog 46 #[.pointer (some ⟨b, o, none⟩)] w fun e w' => e = .returned (.bool (vOk x)) ∧ w = w' := by
  unfold vOk
  have i1 := inA_any x.tok
  have i2 := inA_any x.sh
  have i3 := inA_any x.lost
  obtain ⟨xt, xs, xl, xj, xd⟩ := x
  simp only at *
  generalize inA xt = t1 at *
  generalize inA xs = t2 at *
  generalize inA xl = t3 at *
  go_enter Try.func46, Try.ntmps46
  go_wp2_with (first
    | (go_at_call 76; have _m := m2; refine (i3 _).mono ?_; rintro e w7 ⟨rfl, rfl⟩)
    | (go_at_call 76; have _m := m1; refine (i2 _).mono ?_; rintro e w6 ⟨rfl, rfl⟩; have m2 : True := trivial)
    | (go_at_call 76; refine (i1 _).mono ?_; rintro e w5 ⟨rfl, rfl⟩; have m1 : True := trivial))
  all_goals (go_ret; refine ⟨?_, rfl⟩; congr 1; congr 1; simp_all)
end Go.Proofs.Ytfajfebpchfkoae
