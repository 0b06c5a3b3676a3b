/- Parts of the proof: KCO. -/
import Derived.Test.YtdkalcnlncjgiaaRows
import Derived.Test.YtdkalcnlncjgiaaBK26
set_option maxRecDepth 100000
namespace Go.Proofs.Ytdkalcnlncjgiaa.Kc
open Go.RowKit Pv
theorem pw_one (w : World) (a b : Int) : Rep (fun _ => True) (w.alloc (.cells #[.int .i64 a, .int .i64 b] 64)) (.slice (some ⟨w.heap.size, 0, none⟩) 1 1) 2 16 (pwC [(a, b)]) := by
  refine ⟨_, 1, 1, rfl, rfl, by omega, ⟨fun h => (by cases h), Nat.le_refl _⟩, fun _ => ⟨w.heap.size, 0, rfl, trivial, by simp, fun j u hu => ?_⟩⟩
  have h := (CAt.new 64 w #[.int .i64 a, .int .i64 b]).cell j
  rw [Nat.zero_add, h]
  simpa [pwC] using hu
/-- a consumer in a new block of its own -/
def laidW (w : World) (c : Cs) (v : CsV) : World := (w.alloc (.cells Z22 33)).setCells w.heap.size 0 (csC c v).toList
theorem laid_cat (w : World) (c : Cs) (v : CsV) : CAt 33 (laidW w c v) w.heap.size (csC c v) := (CAt.new 33 w Z22).setAll (by rw [Z22_size]; rfl)
theorem laid_below (w : World) (c : Cs) (v : CsV) : Below w.heap.size w (laidW w c v) := below_sets (Nat.le_refl _) _ _ _ ((Below.refl _ w).alloc (Nat.le_refl _) _)
theorem laid_store {P : Nat → Prop} {w : World} {c : Cs} {v : CsV} (h : CIn P w c v) : (storeC (.pointer (some ⟨w.heap.size, 0, none⟩)) (.agg (csC c v))).run Try.prog (w.alloc (.cells Z22 33)) = .ok () (laidW w c v) := cs_store (CAt.new _ w _) Z22_size (csC_size c v) (cs_one h)
def twoC : Cs := ⟨true, false, 1, 8, 3, [(1, 5)], [], [], fun _ => false, ⟨[], [], 0, false⟩, 0, 0, 0, 0⟩
theorem one_end : endC (beginC [(1, 5)] 3 7) 8 = (twoC, 0) := by
  have h1 : refC (beginC [(1, 5)] 3 7) = 0 := by decide
  unfold endC
  rw [if_pos h1, if_pos ⟨by decide, by decide⟩]
  rfl
theorem two_good : goodC twoC = true := by decide
attribute [local go_sem ↓] loadC_eq storeC_eq
set_option maxHeartbeats 4000000 in
theorem lconsumes_any (w : World) : Calls Try.prog 11 #[] w fun e w' => e = .returned (.bool true) ∧ Below w.heap.size w w' := by
  have HBG := hide (fun (u : Value) (P : Nat → Prop) (wx : World) (h : Rep P wx u 2 16 (pwC [(1, 5)])) => cbegin_any [(1, 5)] u 3 7 P wx h)
  have HEN := hide (fun (u : CsV) (P : Nat → Prop) (wx : World) (h : CIn P wx (beginC [(1, 5)] 3 7) u) => cend_any (beginC [(1, 5)] 3 7) u P wx 8 h (by decide))
  rw [one_end] at HEN
  have HGD := hide (fun (u : CsV) (P : Nat → Prop) (wx : World) (h : CIn P wx twoC u) => cgood_any twoC u P wx h)
  rw [two_good] at HGD
  have HTF : Hid (∀ (g : Nat) (u : CsV) (wx : World), CAt 33 wx g (csC twoC u) → wx.cell? ⟨g, 2, none⟩ = some (.int .i64 1) ∧ wx.cell? ⟨g, 4, none⟩ = some (.int .i64 3)) := fun g u wx h => ⟨h.cell 2, h.cell 4⟩
  generalize beginC [(1, 5)] 3 7 = c1 at *
  generalize twoC = c2 at *
  have HRP : Hid (∀ wx : World, Rep (fun _ => True) (wx.alloc (.cells #[.int .i64 1, .int .i64 5] 64)) (.slice (some ⟨wx.heap.size, 0, none⟩) 1 1) 2 16 (pwC [(1, 5)])) := fun wx => pw_one wx 1 5
  go_enter Try.func11, Try.ntmps11
  go_upto_region 2 with (first
    | (go_at_call 29; refine (HBG.out _ _ _ (HRP.out _)).mono ?_; rintro e w1 ⟨v1, rfl, I1, hb1⟩; have hb1' : Below w.heap.size w w1 := ((Below.refl _ w).alloc (Nat.le_refl _) _).trans (hb1.mono (by simp)); have HI1 := hide I1; have HB1 := hide hb1'; clear I1 hb1 hb1')
    | (go_at_call 6; refine (HEN.out _ _ _ HI1.out).mono ?_; rintro e w2 ⟨v2, rfl, I2, hb2⟩; dsimp only at I2; dsimp only; have sA := laid_store I2; unfold Z22 at sA; have HI2 := hide I2; have HB2 := hide (HB1.out.trans (hb2.mono HB1.out.size)); clear I2 hb2))
  clear sA
  have C3 := laid_cat w2 c2 v2
  have B3 := laid_below w2 c2 v2
  have I3 := HI2.out.over B3
  generalize laidW w2 c2 v2 = w3 at *
  obtain ⟨a2, a4⟩ := HTF.out _ _ _ C3
  have l3 := cs_load C3 (csC_size _ _)
  have HZ := hide (show _ ∧ _ from ⟨I3, HB2.out.trans (B3.mono HB2.out.size)⟩)
  clear C3 B3 I3
  go_wp2_with (go_at_call 30; refine (HGD.out _ _ _ HZ.out.1).mono ?_; rintro e w4 ⟨rfl, hb4⟩)
  go_ret
  exact ⟨rfl, HZ.out.2.trans (hb4.mono HZ.out.2.size)⟩
end Go.Proofs.Ytdkalcnlncjgiaa.Kc

