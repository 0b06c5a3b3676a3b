/- Bank answers at all; what is bonded, unbonded and paid again is as it was. -/
import Derived.Test.YtjdjflkagopgoabJ
import Derived.Test.YtjdjflkagopgoabN
import Derived.Test.YtjdjflkagopgoabQ
import Derived.WalkKit
namespace Go.Proofs.Ytjdjflkagopgoab
open Go.RowKit
theorem bond_new : bondR ⟨100000, 100000, 100000, 100000, 0, 0, 0⟩ 1 5 = (⟨100000, 99995, 100000, 100000, 5, 0, 0⟩, 0) := by kernel_rfl
theorem good_new : goodB 100000 99995 100000 100000 5 0 0 = true := by decide +kernel
set_option maxHeartbeats 1000000 in
theorem banks_any (w : World) : Calls Try.prog 31 #[] w fun e w' => e = .returned (.bool true) ∧ Below w.heap.size w w' := by
  have hB := bond_any ⟨100000, 100000, 100000, 100000, 0, 0, 0⟩ 1 5
  rw [bond_new] at hB
  have hG := good_any 100000 99995 100000 100000 5 0 0
  rw [good_new] at hG
  go_enter Try.func31, Try.ntmps31
  go_wp2_with (first
    | (go_at_call 29; refine (new_any _).mono ?_; rintro e w1 ⟨rfl, h1⟩)
    | (go_at_call 17; refine (hB _).mono ?_; rintro e w2 ⟨rfl, h2⟩)
    | (go_at_call 25; refine (hG _).mono ?_; rintro e w3 ⟨rfl, h3⟩))
  go_ret
  refine ⟨rfl, ?_⟩
  have h12 := h1.trans (h2.mono h1.size)
  exact (h12.alloc h12.size _).trans (h3.mono (Nat.le_trans h12.size (by simp)))
end Go.Proofs.Ytjdjflkagopgoab
