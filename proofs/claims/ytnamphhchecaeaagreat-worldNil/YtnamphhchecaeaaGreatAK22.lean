/- Parts of the proof: OR3. -/
import Derived.Test.YtnamphhchecaeaaGreatRows
import Derived.Test.YtnamphhchecaeaaGreatProg
import Derived.OrdersHeld
import Derived.RegionTactic
import Derived.Deep.MidRow
set_option maxRecDepth 100000
namespace Go.Proofs.YtnamphhchecaeaaGreat.Od
open Go
section
variable {P : Program} {md : Region.Mode} {ops : Array Oper} {Q : Exit → Act → World → Prop} {S : World → Prop} {c : Nat}
theorem anyH_sl {i : Nat} {oi : Oper} {v : Value} {n : Nat} {L : Array Bool} {a : Act} {w : World} (dd : Option Tmp) (hi : ops[i]? = some oi) (hd : oi.dst = dd)
    (hs : Region.noSelect ops = true) (hf : Region.free md ops L i = true) (hr : (Region.ready md ops L).contains i = true)
    (hQ : ∀ c a w, Q (.panic c) (a.put dd v) w → Q (.panic c) a w) (hy : YieldsIf P ops S oi v a) (hS : S w)
    (h : wpAnyH P md ops Q S n (L.setIfInBounds i true) (a.put dd v) w) : wpAnyH P md ops Q S (n + 1) L a w := by
  subst hd
  exact wpAnyH_take hi hs hf hr hQ hy hS h
/-- one alone may come up, and nothing guards it -/
theorem anyH_one {i : Nat} {o : Oper} {n : Nat} {L : Array Bool} {a : Act} {w : World} (hr : Region.ready md ops L = [i]) (ho : ops[i]? = some o) (hg : o.guard = none)
    (h : ∀ K' : Act → World → Prop, (∀ a w, S w → wpAnyH P md ops Q S n (L.setIfInBounds i true) a w → K' a w) → Oper.wp P o a w K' Q) : wpAnyH P md ops Q S (n + 1) L a w := by
  refine ⟨fun h0 => (by rw [hr] at h0; cases h0), fun j hj => ?_⟩
  rw [hr, List.mem_singleton] at hj
  subst hj
  refine wpOp_step ho fun K' hK => ?_
  rw [if_pos (show Region.wanted o (yielded ops a.tmps) = true by simp [Region.wanted, hg])]
  exact h K' fun a w hS hA => hK a w ⟨hS, hA⟩
theorem anyH_two {i j : Nat} {oi oj : Oper} {n : Nat} {L : Array Bool} {a : Act} {w : World} (hr : Region.ready md ops L = [i, j]) (hoi : ops[i]? = some oi) (hgi : oi.guard = none) (hoj : ops[j]? = some oj) (hgj : oj.guard = none)
    (h1 : ∀ K' : Act → World → Prop, (∀ a w, S w → wpAnyH P md ops Q S n (L.setIfInBounds i true) a w → K' a w) → Oper.wp P oi a w K' Q)
    (h2 : ∀ K' : Act → World → Prop, (∀ a w, S w → wpAnyH P md ops Q S n (L.setIfInBounds j true) a w → K' a w) → Oper.wp P oj a w K' Q) : wpAnyH P md ops Q S (n + 1) L a w := by
  refine ⟨fun h0 => (by rw [hr] at h0; cases h0), fun k hk => ?_⟩
  rw [hr] at hk
  rcases List.mem_cons.1 hk with rfl | hk
  · refine wpOp_step hoi fun K' hK => ?_
    rw [if_pos (show Region.wanted oi (yielded ops a.tmps) = true by simp [Region.wanted, hgi])]
    exact h1 K' fun a w hS hA => hK a w ⟨hS, hA⟩
  · rw [List.mem_singleton] at hk
    subst hk
    refine wpOp_step hoj fun K' hK => ?_
    rw [if_pos (show Region.wanted oj (yielded ops a.tmps) = true by simp [Region.wanted, hgj])]
    exact h2 K' fun a w hS hA => hK a w ⟨hS, hA⟩
theorem anyH_store {i : Nat} {o : Oper} {n : Nat} {L : Array Bool} {a : Act} {w : World} (hr : Region.ready md ops L = [i]) (ho : ops[i]? = some o) (hg : o.guard = none)
    (ty : TypeId) (x y : Operand) (hop : o.op = .store ty x y) (hd : o.dst = none) (b off : Nat) (cells : Array Value) (hx : a.eval x = .pointer (some ⟨b, off, none⟩)) (hy : a.eval y = .agg cells)
    (ht : w.there b off cells.size) (hi : (P.info? ty).map (·.size) = some cells.size) (h1 : cells.all (·.oneCell') = true) (hS : S (w.setCells b off cells.toList))
    (h : wpAnyH P md ops Q S n (L.setIfInBounds i true) a (w.setCells b off cells.toList)) : wpAnyH P md ops Q S (n + 1) L a w :=
  anyH_one hr ho hg fun _ hK => wp_store_mid ty x y hop b off cells hx hy ht hi h1 (hK _ _ hS (by rw [hd]; exact h))
end
end Go.Proofs.YtnamphhchecaeaaGreat.Od

