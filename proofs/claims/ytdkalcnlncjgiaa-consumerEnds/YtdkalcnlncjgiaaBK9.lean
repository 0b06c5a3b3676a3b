/- Parts of the proof: SA. -/
import Derived.Test.YtdkalcnlncjgiaaRows
import Derived.Test.YtdkalcnlncjgiaaBK54
import Derived.WalkKit
import Derived.WalkSmall
import Derived.Below
import Derived.Test.YtdkalcnlncjgiaaProg
import Derived.BigQuiet
import Derived.Deep.QuietTactic
set_option maxRecDepth 100000
namespace Go.Proofs.Ytdkalcnlncjgiaa
open Go.RowKit
theorem hide {p : Prop} (h : p) : Hid p := h
theorem isVal_any (d : Int) (w : World) : Calls Try.prog 57 #[.int .i64 d] w fun e w' => e = .returned (.bool (isV d)) ∧ w = w' := by
  unfold isV
  by_cases h0 : 0 ≤ d
  · by_cases h1 : d < 6
    · rw [decide_eq_true ⟨h0, h1⟩]
      go_enter Try.func57, Try.ntmps57
      go_wp2
      go_ret
      exact ⟨rfl, rfl⟩
    · rw [decide_eq_false (by omega)]
      go_enter Try.func57, Try.ntmps57
      go_wp2
      go_ret
      exact ⟨rfl, rfl⟩
  · rw [decide_eq_false (by omega)]
    go_enter Try.func57, Try.ntmps57
    go_wp2
    go_ret
    exact ⟨rfl, rfl⟩
end Go.Proofs.Ytdkalcnlncjgiaa

