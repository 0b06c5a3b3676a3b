/- Parts of the proof: PVSA PVSM RD1 PVG0. -/
import Derived.Test.YtkhlihpghbhppabGreatRows
import Derived.Test.YtkhlihpghbhppabGreatProviderRemovesK8
import Derived.Test.YtkhlihpghbhppabGreatProviderRemovesK11
import Derived.Test.YtkhlihpghbhppabGreatProviderRemovesK13
import Derived.Test.YtkhlihpghbhppabGreatProviderRemovesK14
import Derived.Test.YtkhlihpghbhppabGreatProviderRemovesK15
import Derived.Test.YtkhlihpghbhppabGreatProviderRemovesK19
import Derived.Test.YtkhlihpghbhppabGreatProviderRemovesK21
import Derived.Test.YtkhlihpghbhppabGreatProviderRemovesK45
import Derived.Test.YtkhlihpghbhppabGreatProviderRemovesK53
import Derived.BigQuiet
import Derived.Deep.QuietTactic
import Derived.WalkKit
import Derived.ChangeKeysEq
import Derived.WalkSmall
set_option maxRecDepth 100000
namespace Go.Proofs.YtkhlihpghbhppabGreat.Pv
open Go.RowKit
def loadLk (v : Value) : Sem Value := Instr.loadAt 41 v
theorem loadLk_eq (v : Value) : Instr.loadAt 41 v = loadLk v := rfl
theorem pr_loadS {w : World} {b : Nat} {p : Pr} {v : PrV} (h : CAt 47 w b (prC p v)) : (loadS (.pointer (some ⟨b, 2, none⟩))).run Tryz.prog w = .ok (.agg (stC p.s v.ws)) w := by
  have := run_loadAt_mid (P := Tryz.prog) w b 2 32 _ _ (pr_stake h) Tryz.underlying32 rfl (by rw [infoS]; rfl)
  change (Instr.loadAt 32 _).run Tryz.prog w = _
  simpa using this
attribute [local go_sem ↓] loadLk_eq
end Go.Proofs.YtkhlihpghbhppabGreat.Pv

set_option maxRecDepth 100000
namespace Go.Proofs.YtkhlihpghbhppabGreat.Pv
open Go.RowKit
/-- what a walk reads of a provider in a block -/
theorem pr_facts {w : World} {b : Nat} {p : Pr} {v : PrV} (h : CAt 47 w b (prC p v)) : (w.cell? ⟨b, 0, none⟩ = some (.int .i64 p.h) ∧ w.cell? ⟨b, 1, none⟩ = some (.int .i64 p.t) ∧ w.cell? ⟨b, 65, none⟩ = some v.set ∧ w.cell? ⟨b, 94, none⟩ = some (.int .i64 p.ml) ∧ w.cell? ⟨b, 95, none⟩ = some (.int .i64 p.mn) ∧ w.cell? ⟨b, 96, none⟩ = some v.q) ∧ (loadS (.pointer (some ⟨b, 2, none⟩))).run Tryz.prog w = .ok (.agg (stC p.s v.ws)) w :=
  ⟨⟨h.cell 0, h.cell 1, h.cell 65, h.cell 94, h.cell 95, h.cell 96⟩, pr_loadS h⟩
attribute [local go_sem ↓] loadS_eq
end Go.Proofs.YtkhlihpghbhppabGreat.Pv

set_option maxRecDepth 100000
namespace Go.Proofs.YtkhlihpghbhppabGreat
open Go.RowKit
/-- a validator's five cells lie in a block -/
def VAt (w : World) (y : Nat) (x : Vd) : Prop := w.heap[y]? = some (.cells #[.int .i64 x.tok, .int .i64 x.sh, .int .i64 x.lost, .bool x.jail, .bool x.dead] 26)
theorem VAt.later {w w' : World} {y B : Nat} {x : Vd} (h : VAt w y x) (hb : Below B w w') (hB : y < B) : VAt w' y x := (hb.block y hB).trans h
theorem VAt.lt {w : World} {y : Nat} {x : Vd} (h : VAt w y x) : y < w.heap.size := (Array.getElem?_eq_some_iff.1 h).1
theorem VAt.cells {w : World} {y : Nat} {x : Vd} (h : VAt w y x) : w.cell? ⟨y, 0, none⟩ = some (.int .i64 x.tok) ∧ w.cell? ⟨y, 1, none⟩ = some (.int .i64 x.sh) ∧ w.cell? ⟨y, 2, none⟩ = some (.int .i64 x.lost) ∧ w.cell? ⟨y, 3, none⟩ = some (.bool x.jail) ∧ w.cell? ⟨y, 4, none⟩ = some (.bool x.dead) := by
  unfold VAt at h
  simp [World.cell?, h]
end Go.Proofs.YtkhlihpghbhppabGreat

set_option maxRecDepth 100000
namespace Go.Proofs.YtkhlihpghbhppabGreat.Pv
open Go.RowKit
def setB1 (last : Int) (x : Int × Int) : Bool := decide (last < x.1) && decide (x.1 ≤ 5) && decide (1 ≤ x.2) && decide (x.2 ≤ 1125899906842624)
/-- a set: validators that rise, with powers -/
def setB (last : Int) : List (Int × Int) → Bool
  | [] => true
  | x :: l => setB1 last x && setB x.1 l
/-- validators that rise -/
def riseB (last : Int) : List Int → Bool
  | [] => true
  | x :: l => (decide (last < x) && decide (x ≤ 5)) && riseB x l
def goodLk (h : Int) (x : Lk) : Bool := riseB (-1) x.done && (!(x.on && x.gone) && decide (0 ≤ x.base) && decide (x.base ≤ h) && setB (-1) x.told && Ln.goodL x.out)
def goodQ (L : Nat → Lk) (a : Int × Pkt) : Bool := decide (0 ≤ a.1) && decide (a.1 ≤ 1) && (L a.1.toNat).on && decide (a.2.k ≠ 1) && decide (Cd.goodN a.2.k a.2.i a.2.v a.2.n a.2.S a.2.D = 0)
/-- P7.1 -/
def goodP (p : Pr) : Bool := (goodS p.s && decide (0 ≤ p.h) && decide (p.h ≤ 1099511627775) && decide (0 ≤ p.t) && decide (p.t ≤ 1099511627776) && setB (-1) p.set) && (goodLk p.h (p.L 0) && goodLk p.h (p.L 1)) && p.q.all (goodQ p.L)
/-- what makes a good provider, one by one -/
structure GG (p : Pr) (G : Bool) : Prop where
  one : (goodS p.s && decide (0 ≤ p.h) && decide (p.h ≤ 1099511627775) && decide (0 ≤ p.t) && decide (p.t ≤ 1099511627776) && setB (-1) p.set) = false → G = false
  lks : ∀ k, k < 2 → goodLk p.h (p.L k) = false → G = false
  qus : ∀ (i : Nat) (x : Int × Pkt), p.q[i]? = some x → goodQ p.L x = false → G = false
  all : (goodS p.s && decide (0 ≤ p.h) && decide (p.h ≤ 1099511627775) && decide (0 ≤ p.t) && decide (p.t ≤ 1099511627776) && setB (-1) p.set) = true → (∀ k, k < 2 → goodLk p.h (p.L k) = true) → (∀ (i : Nat) (x : Int × Pkt), p.q[i]? = some x → goodQ p.L x = true) → G = true
theorem goodP_gg (p : Pr) : GG p (goodP p) := by
  refine ⟨fun h => by simp only [goodP, h, Bool.false_and], fun k hk h => ?_, fun i x hx h => ?_, fun h1 h2 h3 => ?_⟩
  · have e : (goodLk p.h (p.L 0) && goodLk p.h (p.L 1)) = false := by
      match k, hk with
      | 0, _ => rw [h, Bool.false_and]
      | 1, _ => rw [h, Bool.and_false]
    simp only [goodP, e, Bool.and_false, Bool.false_and]
  · have e : p.q.all (goodQ p.L) = false := by
      rw [List.all_eq_false]
      exact ⟨x, List.mem_of_getElem? hx, by rw [h]; simp⟩
    simp only [goodP, e, Bool.and_false]
  · have e : p.q.all (goodQ p.L) = true := by
      rw [List.all_eq_true]
      intro x hx
      obtain ⟨i, hi⟩ := List.getElem?_of_mem hx
      exact h3 i x hi
    simp only [goodP, h1, h2 0 (by omega), h2 1 (by omega), e, Bool.and_self]
theorem drop_at' {α : Type} {l : List α} {k : Nat} (h : k < l.length) : ∃ x, l[k]? = some x ∧ l.drop k = x :: l.drop (k + 1) := ⟨l[k], List.getElem?_eq_getElem h, List.drop_eq_getElem_cons h⟩
end Go.Proofs.YtkhlihpghbhppabGreat.Pv

