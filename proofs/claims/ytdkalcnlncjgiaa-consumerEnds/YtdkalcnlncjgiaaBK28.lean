/- Parts of the proof: KRD. -/
import Derived.Test.YtdkalcnlncjgiaaRows
import Derived.Test.YtdkalcnlncjgiaaBK24
import Derived.Test.YtdkalcnlncjgiaaBK25
import Derived.Test.YtdkalcnlncjgiaaBK27
import Derived.Deep.RegionHeld3
set_option maxRecDepth 100000
namespace Go.Proofs.Ytdkalcnlncjgiaa.Kc
open Go.RowKit Pv
/-- all orders come to one frame, with a consumer's slices -/
def Joinu (F : CsV → Nat → Act) (R : CsV → Nat → World → Prop) (ex : Exit) (a : Act) (w : World) : Prop := ∃ u g, ex = Exit.normal ∧ a = F u g ∧ R u g w
theorem wp_joinu {P : Program} {c : Code} {Q : Exit → Act → World → Prop} {a : Act} {w : World} (R : CsV → Nat → World → Prop) (F : CsV → Nat → Act) (h1 : Code.wp P c (Joinu F R) a w) (h2 : ∀ u g w', R u g w' → Q Exit.normal (F u g) w') : Code.wp P c Q a w :=
  Code.wp_mono (fun e a' w' h => by obtain ⟨u, g, rfl, rfl, h⟩ := h; exact h2 u g w' h) h1
/-- a consumer in a block, its lists elsewhere -/
structure Sits (P : Nat → Prop) (w2 : World) (c : Cs) (u : CsV) (g : Nat) (w : World) : Prop where
  cat : CAt 33 w g (csC c u)
  cin : CIn (fun b => P b ∧ b ≠ g) w c u
  bel : Below w2.heap.size w2 w
  le : w2.heap.size ≤ g
theorem sits_new {P : Nat → Prop} {w2 wb : World} {c : Cs} {u : CsV} (h : CIn P wb c u) (hb : Below w2.heap.size w2 wb) : Sits P w2 c u wb.heap.size (laidW wb c u) :=
  ⟨laid_cat wb c u, ((h.mono (P' := fun b => P b ∧ b ≠ wb.heap.size) fun b hl hp => ⟨hp, by omega⟩).over (laid_below wb c u)), hb.trans ((laid_below wb c u).mono hb.size), hb.size⟩
theorem sits_old {P : Nat → Prop} {w2 wb : World} {c : Cs} {u : CsV} {g : Nat} (h : CIn (fun b => P b ∧ b ≠ g) wb c u) (hb : Below w2.heap.size w2 wb) (hg : w2.heap.size ≤ g) (hc : CAt 33 wb g Z22) : Sits P w2 c u g (wb.setCells g 0 (csC c u).toList) :=
  ⟨hc.setAll (by rw [Z22_size]; rfl), h.sets (fun e => e.2 rfl) _ _, below_sets hg _ _ _ hb, hg⟩
attribute [local go_sem ↓] loadC_eq storeC_eq
end Go.Proofs.Ytdkalcnlncjgiaa.Kc

