/- Parts of the proof: KLE. -/
import Derived.Test.YtdkalcnlncjgiaaRows
import Derived.Test.YtdkalcnlncjgiaaBK27
import Derived.Test.YtdkalcnlncjgiaaBK30
import Derived.Test.YtdkalcnlncjgiaaBK31
import Derived.Test.YtdkalcnlncjgiaaBK34
import Derived.Deep.RegionHeld3
set_option maxRecDepth 100000
namespace Go.Proofs.Ytdkalcnlncjgiaa.Kc
open Go.RowKit Pv
attribute [local go_sem ↓] loadC_eq storeC_eq
set_option maxHeartbeats 8000000 in
theorem lcends_any (c : Cs) (v : CsV) (now : Int) (P : Nat → Prop) (w : World) (hp : CIn P w c v) (h80 : c.pd.length * 80 ≤ 140737488351232) (h16 : c.rp.length * 16 ≤ 140737488351232) :
    Calls Try.prog 3 #[.agg (csC c v), .int .i64 now] w fun e w' => e = .returned (.bool true) ∧ Below w.heap.size w w' := by
  have h16' : c.rp.length * 16 ≤ 168884986026393 := by omega
  have hsum : (c.rp.length + c.pd.length) * 16 ≤ 168884986026393 := by omega
  have HCP := hide (fun (wx : World) (h : CIn P wx c v) => rcopyc_any c v P wx h h80 h16')
  have HCI := hide (fun (B L : Nat) (wx : World) (u : CsV) (h : CCp B L wx c u) => h.cin h80 h16')
  have HEN := hide (fun (u : CsV) (Q : Nat → Prop) (wx : World) (h : CIn Q wx c u) => cend_any c u Q wx now h hsum)
  have HRE := hide (fun (wx : World) (h : CIn P wx c v) => rcend_any c v P wx now h h80 hsum)
  have HRM := hide (fun (u : CsV) (Q : Nat → Prop) (wx : World) (h : CIn Q wx c u) => cremove_any c u Q wx h)
  have HRR := hide (fun (wx : World) (h : CIn P wx c v) => rcremove_any c v P wx h h80 h16')
  have HSM := hide (fun (d : Cs) (u u' : CsV) (Q Q' : Nat → Prop) (wx : World) (h : CIn Q wx d u) (h' : CIn Q' wx d u') => samec_any d u u' Q Q' wx h h')
  have HCO := hide (fun (wx : World) => lconsumes_any wx)
  have HP := hide hp
  clear hp h80 h16 h16' hsum
  generalize endC c now = D at *
  obtain ⟨d, er⟩ := D
  generalize removeC c = rm at *
  go_enter Try.func3, Try.ntmps3
  go_upto_region 1 with fail
  have C1 := CAt.new 33 w (csC c v)
  have B1 : Below w.heap.size w (w.alloc (.cells (csC c v) 33)) := (Below.refl _ w).alloc (Nat.le_refl _) _
  generalize w.alloc (.cells (csC c v) 33) = w1 at *
  have l1 := cs_load C1 (csC_size _ _)
  have HX1 := hide (show _ ∧ _ ∧ _ from ⟨C1, B1, HP.out.over B1⟩)
  clear C1 B1
  go_upto_region 2 with (go_at_call 5; refine (HCP.out _ HX1.out.2.2).mono ?_; rintro e w2 ⟨v2, L, rfl, N2, hb2⟩; have I2 := HCI.out _ _ _ _ N2; have sA := laid_store I2; unfold Z22 at sA; have HI2 := hide I2; have HB2 := hide hb2; clear N2 hb2 l1 I2)
  clear sA
  have C3 := laid_cat w2 c v2
  have b3 := laid_below w2 c v2
  generalize laidW w2 c v2 = w3 at *
  have b13 := HB2.out.trans (b3.mono HB2.out.size)
  have HX3 := hide (show _ ∧ _ ∧ _ ∧ _ ∧ _ from ⟨HX1.out.1.over b13, HX1.out.2.1.trans (b13.mono HX1.out.2.1.size), HX1.out.2.2.over b13, C3, HI2.out.over b3⟩)
  have l3 := cs_load C3 (csC_size _ _)
  clear C3 b3 b13 HX1 HI2 HB2
  go_upto_region 3 with (go_at_call 6; refine (HEN.out _ _ _ HX3.out.2.2.2.2).mono ?_; rintro e w4 ⟨v4, rfl, I4, hb4⟩; dsimp only at I4; dsimp only; have sA := laid_store I4; unfold Z22 at sA; have HI4 := hide I4; have HB4 := hide hb4; clear I4 hb4 l3)
  clear sA
  have C5 := laid_cat w4 d v4
  have b5 := laid_below w4 d v4
  generalize laidW w4 d v4 = w5 at *
  have b35 := HB4.out.trans (b5.mono HB4.out.size)
  have HX5 := hide (show _ ∧ _ ∧ _ ∧ _ ∧ _ ∧ _ ∧ _ from ⟨HX3.out.1.over b35, HX3.out.2.1.trans (b35.mono HX3.out.2.1.size), HX3.out.2.2.1.over b35, HX3.out.2.2.2.1.over b35, HX3.out.2.2.2.2.over b35, C5, HI4.out.over b5⟩)
  have l5 := cs_load HX5.out.1 (csC_size _ _)
  clear C5 b5 b35 HX3 HI4 HB4
  go_upto_region 4 with (go_at_call 7; refine (HRE.out _ HX5.out.2.2.1).mono ?_; rintro e w6 ⟨v6, rfl, I6, hb6⟩; dsimp only at I6; dsimp only; have sA := laid_store I6; unfold Z22 at sA; have HI6 := hide I6; have HB6 := hide hb6; clear I6 hb6 l5)
  clear sA
  have C7 := laid_cat w6 d v6
  have b7 := laid_below w6 d v6
  generalize laidW w6 d v6 = w7 at *
  have b57 := HB6.out.trans (b7.mono HB6.out.size)
  have HX7 := hide (show _ ∧ _ ∧ _ ∧ _ ∧ _ ∧ _ ∧ _ ∧ _ ∧ _ from ⟨HX5.out.1.over b57, HX5.out.2.1.trans (b57.mono HX5.out.2.1.size), HX5.out.2.2.1.over b57, HX5.out.2.2.2.1.over b57, HX5.out.2.2.2.2.1.over b57, HX5.out.2.2.2.2.2.1.over b57, HX5.out.2.2.2.2.2.2.over b57, C7, HI6.out.over b7⟩)
  clear C7 b7 b57 HX5 HI6 HB6
  have hS : ∀ wx, Below w7.heap.size w7 wx → (loadC (.pointer (some ⟨w.heap.size, 0, none⟩))).run Try.prog wx = .ok (.agg (csC c v)) wx ∧ (loadC (.pointer (some ⟨w2.heap.size, 0, none⟩))).run Try.prog wx = .ok (.agg (csC c v2)) wx ∧ (loadC (.pointer (some ⟨w4.heap.size, 0, none⟩))).run Try.prog wx = .ok (.agg (csC d v4)) wx ∧ (loadC (.pointer (some ⟨w6.heap.size, 0, none⟩))).run Try.prog wx = .ok (.agg (csC d v6)) wx := fun wx hb => ⟨cs_load (HX7.out.1.over hb) (csC_size _ _), cs_load (HX7.out.2.2.2.1.over hb) (csC_size _ _), cs_load (HX7.out.2.2.2.2.2.1.over hb) (csC_size _ _), cs_load (HX7.out.2.2.2.2.2.2.2.1.over hb) (csC_size _ _)⟩
  have hc1 : ∀ wx, Below w7.heap.size w7 wx → Calls Try.prog 8 #[.agg (csC d v4), .agg (csC d v6)] wx fun e w' => e = .returned (.bool true) ∧ Below w7.heap.size w7 w' := fun wx h => (HSM.out d v4 v6 _ _ wx (HX7.out.2.2.2.2.2.2.1.over h) (HX7.out.2.2.2.2.2.2.2.2.over h)).mono fun _ _ hh => ⟨hh.1, h.trans (hh.2.mono h.size)⟩
  have hc2 : ∀ wx, Below w7.heap.size w7 wx → Calls Try.prog 8 #[.agg (csC c v2), .agg (csC c v)] wx fun e w' => e = .returned (.bool true) ∧ Below w7.heap.size w7 w' := fun wx h => (HSM.out c v2 v _ _ wx (HX7.out.2.2.2.2.1.over h) (HX7.out.2.2.1.over h)).mono fun _ _ hh => ⟨hh.1, h.trans (hh.2.mono h.size)⟩
  have hc3 : ∀ wx, Below w7.heap.size w7 wx → Calls Try.prog 5 #[.agg (csC c v)] wx fun e w' => ∃ v', e = .returned (.agg (csC c v')) ∧ (∃ Q, CIn Q w' c v') ∧ Below w7.heap.size w7 w' := fun wx h => (HCP.out wx (HX7.out.2.2.1.over h)).mono fun _ _ ⟨v', L, e1, n1, b1⟩ => ⟨v', e1, ⟨_, HCI.out _ _ _ _ n1⟩, h.trans (b1.mono h.size)⟩
  have hc4 : ∀ u wx, (∃ Q, CIn Q wx c u) → Below w7.heap.size w7 wx → Calls Try.prog 9 #[.agg (csC c u)] wx fun e w' => ∃ v', e = .returned (.agg (csC rm v')) ∧ (∃ Q, CIn Q w' rm v') ∧ Below w7.heap.size w7 w' := fun u wx ⟨Q, hq⟩ h => (HRM.out u Q wx hq).mono fun _ _ ⟨v', e1, n1, b1⟩ => ⟨v', e1, ⟨_, n1⟩, h.trans (b1.mono h.size)⟩
  have hc5 : ∀ u wx, (∃ Q, CIn Q wx rm u) → Below w7.heap.size w7 wx → Calls Try.prog 10 #[.agg (csC c v)] wx fun e w' => ∃ v', e = .returned (.agg (csC rm v')) ∧ (∃ Q, CIn Q w' rm v') ∧ (∃ Q, CIn Q w' rm u) ∧ Below w7.heap.size w7 w' := fun u wx ⟨Q, hq⟩ h => (HRR.out wx (HX7.out.2.2.1.over h)).mono fun _ _ ⟨v', e1, n1, b1⟩ => ⟨v', e1, ⟨_, n1⟩, ⟨_, hq.over b1⟩, h.trans (b1.mono h.size)⟩
  have hc6 : ∀ u u' wx, (∃ Q, CIn Q wx rm u) → (∃ Q, CIn Q wx rm u') → Below w7.heap.size w7 wx → Calls Try.prog 8 #[.agg (csC rm u), .agg (csC rm u')] wx fun e w' => e = .returned (.bool true) ∧ Below w7.heap.size w7 w' := fun u u' wx ⟨Q, hq⟩ ⟨Q', hq'⟩ h => (HSM.out rm u u' _ _ wx hq hq').mono fun _ _ hh => ⟨hh.1, h.trans (hh.2.mono h.size)⟩
  have hc7 : ∀ wx, Below w7.heap.size w7 wx → Calls Try.prog 11 #[] wx fun e w' => e = .returned (.bool true) ∧ Below w7.heap.size w7 w' := fun wx h => (HCO.out wx).mono fun _ _ hh => ⟨hh.1, h.trans (hh.2.mono h.size)⟩
  have HF := hide (show _ from HX7.out.2.1)
  clear HX7 HSM HCP HCI HEN HRE HRM HRR HCO HP
  have hb := Below.refl w7.heap.size w7
  go_region_held3 (fun wx => (loadC (.pointer (some ⟨w.heap.size, 0, none⟩))).run Try.prog wx = .ok (.agg (csC c v)) wx ∧ (loadC (.pointer (some ⟨w2.heap.size, 0, none⟩))).run Try.prog wx = .ok (.agg (csC c v2)) wx ∧ (loadC (.pointer (some ⟨w4.heap.size, 0, none⟩))).run Try.prog wx = .ok (.agg (csC d v4)) wx ∧ (loadC (.pointer (some ⟨w6.heap.size, 0, none⟩))).run Try.prog wx = .ok (.agg (csC d v6)) wx) (first | exact hS _ hb | exact hS _ hb.drew)
    (first
      | (go_at_call 8; have _m := m2; refine (hc6 _ _ _ HQ2.out HQ3.out (by first | exact hb | exact hb.drew)).mono ?_; rintro e wy ⟨rfl, hb⟩)
      | (go_at_call 8; have _m := m1; refine (hc2 _ (by first | exact hb | exact hb.drew)).mono ?_; rintro e wy ⟨rfl, hb⟩; have m2 : True := trivial)
      | (go_at_call 8; refine (hc1 _ (by first | exact hb | exact hb.drew)).mono ?_; rintro e wy ⟨rfl, hb⟩; have m1 : True := trivial)
      | (go_at_call 5; refine (hc3 _ (by first | exact hb | exact hb.drew)).mono ?_; rintro e wy ⟨vy, rfl, hq, hb⟩; have HQ1 := hide hq; clear hq)
      | (go_at_call 9; refine (hc4 _ _ HQ1.out (by first | exact hb | exact hb.drew)).mono ?_; rintro e wy ⟨vz, rfl, hq, hb⟩; have HQ0 := hide hq; clear hq)
      | (go_at_call 10; refine (hc5 _ _ HQ0.out (by first | exact hb | exact hb.drew)).mono ?_; rintro e wy ⟨vt, rfl, hq, hq', hb⟩; have HQ3 := hide hq; have HQ2 := hide hq'; clear hq hq')
      | (go_at_call 11; refine (hc7 _ (by first | exact hb | exact hb.drew)).mono ?_; rintro e wy ⟨rfl, hb⟩))
  have HBz := hide (HF.out.trans (hb.mono HF.out.size))
  clear hc1 hc2 hc3 hc4 hc5 hc6 hc7 hS
  go_wp2
  go_ret
  exact ⟨rfl, HBz.out⟩
end Go.Proofs.Ytdkalcnlncjgiaa.Kc

