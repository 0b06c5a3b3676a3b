/- Drawn regions, the last call: laws without a guard. -/
import Derived.Test.YtjmhmmphbcohdaaZOR1
set_option maxRecDepth 100000
namespace Go.Proofs.Ytjmhmmphbcohdaa.Od
open Go
section
variable {P : Program} {md : Region.Mode} {ops : Array Oper} {Q : Exit → Act → World → Prop} {S : World → Prop} {c : Nat}
/-- the last call, nothing guards it -/
theorem anyC_go {o : Oper} {n : Nat} {L : Array Bool} {a : Act} {w : World} (hr : Region.ready md ops L = [c]) (ho : ops[c]? = some o) (hg : o.guard = none)
    (h : ∀ K' : Act → World → Prop, (∀ a w, wpAny P md ops Q n (L.setIfInBounds c true) a w → K' a w) → Oper.wp P o a w K' Q) : anyC P md ops Q S c (n + 1) L a w :=
  anyC_last hr ho fun K' hK => by
    have hw : Region.wanted o (yielded ops a.tmps) = true := by simp [Region.wanted, hg]
    rw [if_pos hw]
    exact h K' hK
/-- the last call or one other may come up -/
theorem anyC_two {j : Nat} {oc oj : Oper} {n : Nat} {L : Array Bool} {a : Act} {w : World} (hr : Region.ready md ops L = [c, j]) (hjc : j ≠ c) (hoc : ops[c]? = some oc) (hgc : oc.guard = none) (hoj : ops[j]? = some oj) (hgj : oj.guard = none)
    (h1 : ∀ K' : Act → World → Prop, (∀ a w, wpAny P md ops Q n (L.setIfInBounds c true) a w → K' a w) → Oper.wp P oc a w K' Q)
    (h2 : ∀ K' : Act → World → Prop, (∀ a w, S w → anyC P md ops Q S c n (L.setIfInBounds j true) a w → K' a w) → Oper.wp P oj a w K' Q) : anyC P md ops Q S c (n + 1) L a w := by
  refine ⟨fun h0 => (by rw [hr] at h0; cases h0), fun i hi => ?_⟩
  rw [hr] at hi
  rcases List.mem_cons.1 hi with rfl | hi
  · refine wpOp_step hoc fun K' hK => ?_
    rw [if_pos (show Region.wanted oc (yielded ops a.tmps) = true by simp [Region.wanted, hgc])]
    exact h1 K' fun a w hA => hK a w ⟨fun _ => hA, fun e => absurd rfl e⟩
  · rw [List.mem_singleton] at hi
    subst hi
    refine wpOp_step hoj fun K' hK => ?_
    rw [if_pos (show Region.wanted oj (yielded ops a.tmps) = true by simp [Region.wanted, hgj])]
    exact h2 K' fun a w hS hA => hK a w ⟨fun e => absurd e hjc, fun _ => ⟨hS, hA⟩⟩
end
end Go.Proofs.Ytjmhmmphbcohdaa.Od
