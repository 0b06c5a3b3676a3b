/- Parts of the proof: PDR PVGR PVSM PVG0. -/
import Derived.Test.YtjghbciepinofaaGreatRows
import Derived.Test.YtjghbciepinofaaGreatPK37
import Derived.Test.YtjghbciepinofaaGreatPK41
import Derived.Test.YtjghbciepinofaaGreatPK43
import Derived.Test.YtjghbciepinofaaGreatPK49
import Derived.Test.YtjghbciepinofaaGreatPK54
set_option maxRecDepth 100000
namespace Go.Proofs.YtjghbciepinofaaGreat.Pv
open Go.RowKit
def isT (n : Int) : Bool := decide (0 ≤ n) && decide (n ≤ 1099511627776)
theorem Rep.clip {P : Nat → Prop} {w : World} {A : Option Addr} {n C sz bts : Nat} {cs : List Value} (h : Rep P w (.slice A n C) sz bts cs) : Rep P w (.slice A n n) sz bts cs := by
  obtain ⟨A', n', C', h1, h2, h3, h4, h5⟩ := h
  cases h1
  refine ⟨A, n, n, rfl, h2, h3, ⟨fun e => ?_, Nat.le_refl _⟩, h5⟩
  have := h4.1 e
  omega
end Go.Proofs.YtjghbciepinofaaGreat.Pv

set_option maxRecDepth 100000
namespace Go.Proofs.YtjghbciepinofaaGreat.Pv
open Go.RowKit
def setB1 (last : Int) (x : Int × Int) : Bool := decide (last < x.1) && decide (x.1 ≤ 5) && decide (1 ≤ x.2) && decide (x.2 ≤ 1125899906842624)
/-- a set: validators that rise, with powers -/
def setB (last : Int) : List (Int × Int) → Bool
  | [] => true
  | x :: l => setB1 last x && setB x.1 l
/-- validators that rise -/
def riseB (last : Int) : List Int → Bool
  | [] => true
  | x :: l => (decide (last < x) && decide (x ≤ 5)) && riseB x l
theorem drop_at' {α : Type} {l : List α} {k : Nat} (h : k < l.length) : ∃ x, l[k]? = some x ∧ l.drop k = x :: l.drop (k + 1) := ⟨l[k], List.getElem?_eq_getElem h, List.drop_eq_getElem_cons h⟩
end Go.Proofs.YtjghbciepinofaaGreat.Pv

set_option maxRecDepth 100000
namespace Go.Proofs.YtjghbciepinofaaGreat.Pv
open Go.RowKit
/-- what a walk reads of a provider in a block -/
theorem pr_facts {w : World} {b : Nat} {p : Pr} {v : PrV} (h : CAt 47 w b (prC p v)) : (w.cell? ⟨b, 0, none⟩ = some (.int .i64 p.h) ∧ w.cell? ⟨b, 1, none⟩ = some (.int .i64 p.t) ∧ w.cell? ⟨b, 65, none⟩ = some v.set ∧ w.cell? ⟨b, 94, none⟩ = some (.int .i64 p.ml) ∧ w.cell? ⟨b, 95, none⟩ = some (.int .i64 p.mn) ∧ w.cell? ⟨b, 96, none⟩ = some v.q) ∧ (loadS (.pointer (some ⟨b, 2, none⟩))).run Tryz.prog w = .ok (.agg (stC p.s v.ws)) w :=
  ⟨⟨h.cell 0, h.cell 1, h.cell 65, h.cell 94, h.cell 95, h.cell 96⟩, pr_loadS h⟩
attribute [local go_sem ↓] loadS_eq
end Go.Proofs.YtjghbciepinofaaGreat.Pv

set_option maxRecDepth 100000
namespace Go.Proofs.YtjghbciepinofaaGreat.Pv
open Go.RowKit
def goodLk (h : Int) (x : Lk) : Bool := riseB (-1) x.done && (!(x.on && x.gone) && decide (0 ≤ x.base) && decide (x.base ≤ h) && setB (-1) x.told && Ln.goodL x.out)
def goodQ (L : Nat → Lk) (a : Int × Pkt) : Bool := decide (0 ≤ a.1) && decide (a.1 ≤ 1) && (L a.1.toNat).on && decide (a.2.k ≠ 1) && decide (Cd.goodN a.2.k a.2.i a.2.v a.2.n a.2.S a.2.D = 0)
/-- P7.1 -/
def goodP (p : Pr) : Bool := (goodS p.s && decide (0 ≤ p.h) && decide (p.h ≤ 1099511627775) && decide (0 ≤ p.t) && decide (p.t ≤ 1099511627776) && setB (-1) p.set) && (goodLk p.h (p.L 0) && goodLk p.h (p.L 1)) && p.q.all (goodQ p.L)
/-- what makes a good provider, one by one -/
structure GG (p : Pr) (G : Bool) : Prop where
  one : (goodS p.s && decide (0 ≤ p.h) && decide (p.h ≤ 1099511627775) && decide (0 ≤ p.t) && decide (p.t ≤ 1099511627776) && setB (-1) p.set) = false → G = false
  lks : ∀ k, k < 2 → goodLk p.h (p.L k) = false → G = false
  qus : ∀ (i : Nat) (x : Int × Pkt), p.q[i]? = some x → goodQ p.L x = false → G = false
  all : (goodS p.s && decide (0 ≤ p.h) && decide (p.h ≤ 1099511627775) && decide (0 ≤ p.t) && decide (p.t ≤ 1099511627776) && setB (-1) p.set) = true → (∀ k, k < 2 → goodLk p.h (p.L k) = true) → (∀ (i : Nat) (x : Int × Pkt), p.q[i]? = some x → goodQ p.L x = true) → G = true
theorem goodP_gg (p : Pr) : GG p (goodP p) := by
  refine ⟨fun h => by simp only [goodP, h, Bool.false_and], fun k hk h => ?_, fun i x hx h => ?_, fun h1 h2 h3 => ?_⟩
  · have e : (goodLk p.h (p.L 0) && goodLk p.h (p.L 1)) = false := by
      match k, hk with
      | 0, _ => rw [h, Bool.false_and]
      | 1, _ => rw [h, Bool.and_false]
    simp only [goodP, e, Bool.and_false, Bool.false_and]
  · have e : p.q.all (goodQ p.L) = false := by
      rw [List.all_eq_false]
      exact ⟨x, List.mem_of_getElem? hx, by rw [h]; simp⟩
    simp only [goodP, e, Bool.and_false]
  · have e : p.q.all (goodQ p.L) = true := by
      rw [List.all_eq_true]
      intro x hx
      obtain ⟨i, hi⟩ := List.getElem?_of_mem hx
      exact h3 i x hi
    simp only [goodP, h1, h2 0 (by omega), h2 1 (by omega), e, Bool.and_self]
end Go.Proofs.YtjghbciepinofaaGreat.Pv

