/- Parts of the proof: RD1 PVG0. -/
import Derived.Test.YtjghbciepinofaaGreatRows
import Derived.Test.YtjghbciepinofaaGreatOK1
import Derived.Test.YtjghbciepinofaaGreatOK45
import Derived.Test.YtjghbciepinofaaGreatOK46
import Derived.Test.YtjghbciepinofaaGreatOK53
import Derived.Test.YtjghbciepinofaaGreatOK54
set_option maxRecDepth 100000
namespace Go.Proofs.YtjghbciepinofaaGreat
open Go.RowKit
/-- a validator's five cells lie in a block -/
def VAt (w : World) (y : Nat) (x : Vd) : Prop := w.heap[y]? = some (.cells #[.int .i64 x.tok, .int .i64 x.sh, .int .i64 x.lost, .bool x.jail, .bool x.dead] 26)
theorem VAt.later {w w' : World} {y B : Nat} {x : Vd} (h : VAt w y x) (hb : Below B w w') (hB : y < B) : VAt w' y x := (hb.block y hB).trans h
theorem VAt.lt {w : World} {y : Nat} {x : Vd} (h : VAt w y x) : y < w.heap.size := (Array.getElem?_eq_some_iff.1 h).1
theorem VAt.cells {w : World} {y : Nat} {x : Vd} (h : VAt w y x) : w.cell? ⟨y, 0, none⟩ = some (.int .i64 x.tok) ∧ w.cell? ⟨y, 1, none⟩ = some (.int .i64 x.sh) ∧ w.cell? ⟨y, 2, none⟩ = some (.int .i64 x.lost) ∧ w.cell? ⟨y, 3, none⟩ = some (.bool x.jail) ∧ w.cell? ⟨y, 4, none⟩ = some (.bool x.dead) := by
  unfold VAt at h
  simp [World.cell?, h]
end Go.Proofs.YtjghbciepinofaaGreat

set_option maxRecDepth 100000
namespace Go.Proofs.YtjghbciepinofaaGreat.Pv
open Go.RowKit
def goodLk (h : Int) (x : Lk) : Bool := riseB (-1) x.done && (!(x.on && x.gone) && decide (0 ≤ x.base) && decide (x.base ≤ h) && setB (-1) x.told && Ln.goodL x.out)
def goodQ (L : Nat → Lk) (a : Int × Pkt) : Bool := decide (0 ≤ a.1) && decide (a.1 ≤ 1) && (L a.1.toNat).on && decide (a.2.k ≠ 1) && decide (Cd.goodN a.2.k a.2.i a.2.v a.2.n a.2.S a.2.D = 0)
/-- P7.1 -/
def goodP (p : Pr) : Bool := (goodS p.s && decide (0 ≤ p.h) && decide (p.h ≤ 1099511627775) && decide (0 ≤ p.t) && decide (p.t ≤ 1099511627776) && setB (-1) p.set) && (goodLk p.h (p.L 0) && goodLk p.h (p.L 1)) && p.q.all (goodQ p.L)
/-- what makes a good provider, one by one -/
structure GG (p : Pr) (G : Bool) : Prop where
  one : (goodS p.s && decide (0 ≤ p.h) && decide (p.h ≤ 1099511627775) && decide (0 ≤ p.t) && decide (p.t ≤ 1099511627776) && setB (-1) p.set) = false → G = false
  lks : ∀ k, k < 2 → goodLk p.h (p.L k) = false → G = false
  qus : ∀ (i : Nat) (x : Int × Pkt), p.q[i]? = some x → goodQ p.L x = false → G = false
  all : (goodS p.s && decide (0 ≤ p.h) && decide (p.h ≤ 1099511627775) && decide (0 ≤ p.t) && decide (p.t ≤ 1099511627776) && setB (-1) p.set) = true → (∀ k, k < 2 → goodLk p.h (p.L k) = true) → (∀ (i : Nat) (x : Int × Pkt), p.q[i]? = some x → goodQ p.L x = true) → G = true
theorem goodP_gg (p : Pr) : GG p (goodP p) := by
  refine ⟨fun h => by simp only [goodP, h, Bool.false_and], fun k hk h => ?_, fun i x hx h => ?_, fun h1 h2 h3 => ?_⟩
  · have e : (goodLk p.h (p.L 0) && goodLk p.h (p.L 1)) = false := by
      match k, hk with
      | 0, _ => rw [h, Bool.false_and]
      | 1, _ => rw [h, Bool.and_false]
    simp only [goodP, e, Bool.and_false, Bool.false_and]
  · have e : p.q.all (goodQ p.L) = false := by
      rw [List.all_eq_false]
      exact ⟨x, List.mem_of_getElem? hx, by rw [h]; simp⟩
    simp only [goodP, e, Bool.and_false]
  · have e : p.q.all (goodQ p.L) = true := by
      rw [List.all_eq_true]
      intro x hx
      obtain ⟨i, hi⟩ := List.getElem?_of_mem hx
      exact h3 i x hi
    simp only [goodP, h1, h2 0 (by omega), h2 1 (by omega), e, Bool.and_self]
end Go.Proofs.YtjghbciepinofaaGreat.Pv

