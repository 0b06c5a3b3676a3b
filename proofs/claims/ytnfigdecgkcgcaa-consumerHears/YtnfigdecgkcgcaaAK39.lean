/- Parts of the proof: KLH. -/
import Derived.Test.YtnfigdecgkcgcaaRows
import Derived.Test.YtnfigdecgkcgcaaAK10
import Derived.Test.YtnfigdecgkcgcaaAK24
import Derived.Test.YtnfigdecgkcgcaaAK38
import Derived.Deep.RegionHeld3
set_option maxRecDepth 100000
namespace Go.Proofs.Ytnfigdecgkcgcaa.Kc
open Go.RowKit Pv
attribute [local go_sem ↓] loadC_eq storeC_eq
set_option maxHeartbeats 8000000 in
theorem lchears_any (c : Cs) (v : CsV) (s : ByteArray) (P : Nat → Prop) (w : World) (hp : CIn P w c v) (hs : s.size ≤ maxLen) (h80 : c.pd.length * 80 ≤ 140737488351232) (h16 : c.rp.length * 16 ≤ 140737488351232) :
    Calls Try.prog 3 #[.agg (csC c v), .string s] w fun e w' => e = .returned (.bool true) ∧ Below w.heap.size w w' := by
  have h16' : c.rp.length * 16 ≤ 168884986026393 := by omega
  have HCP := hide (fun (wx : World) (h : CIn P wx c v) => rcopyc_any c v P wx h h80 h16')
  have HCI := hide (fun (B L : Nat) (wx : World) (u : CsV) (h : CCp B L wx c u) => h.cin h80 h16')
  have HHR := hide (fun (u : CsV) (Q : Nat → Prop) (wx : World) (h : CIn Q wx c u) => chear_any c u Q wx s h hs h80)
  have HRH := hide (fun (wx : World) (h : CIn P wx c v) => rchear_any c v P wx s h hs h80 h16')
  have HG1 := hide (fun (u : CsV) (Q : Nat → Prop) (wx : World) (h : CIn Q wx c u) => cgood_any c u Q wx h)
  have HG2 := hide (fun (wx : World) (h : CIn P wx c v) => rgoodc_any c v P wx h)
  have HSM := hide (fun (d : Cs) (u u' : CsV) (Q Q' : Nat → Prop) (wx : World) (h : CIn Q wx d u) (h' : CIn Q' wx d u') => samec_any d u u' Q Q' wx h h')
  have HCO := hide (fun (wx : World) => lconsumes_any wx)
  have HP := hide hp
  clear hp hs h80 h16 h16'
  generalize hearC c (Cd.bs s) = D at *
  obtain ⟨d, er⟩ := D
  generalize goodC c = G at *
  go_enter Try.func3, Try.ntmps3
  go_upto_region 1 with fail
  have C1 := CAt.new 33 w (csC c v)
  have B1 : Below w.heap.size w (w.alloc (.cells (csC c v) 33)) := (Below.refl _ w).alloc (Nat.le_refl _) _
  generalize w.alloc (.cells (csC c v) 33) = w1 at *
  have l1 := cs_load C1 (csC_size _ _)
  have HX1 := hide (show _ ∧ _ ∧ _ from ⟨C1, B1, HP.out.over B1⟩)
  clear C1 B1
  go_upto_region 2 with (first
    | (go_at_call 10; refine (HCP.out _ HX1.out.2.2).mono ?_; rintro e w2 ⟨v2, L, rfl, N2, hb2⟩; have HI2 := hide (HCI.out _ _ _ _ N2); have HB2 := hide hb2; clear N2 hb2 l1)
    | (go_at_call 9; refine (HHR.out _ _ _ HI2.out).mono ?_; rintro e w3 ⟨v3, rfl, I3, hb3⟩; dsimp only at I3; dsimp only; have sA := laid_store I3; unfold Z22 at sA; have HI3 := hide I3; have HB3 := hide (HB2.out.trans (hb3.mono HB2.out.size)); clear I3 hb3))
  clear sA
  have C4 := laid_cat w3 d v3
  have b4 := laid_below w3 d v3
  generalize laidW w3 d v3 = w4 at *
  have HX4 := hide (show _ ∧ _ ∧ _ ∧ _ ∧ _ from ⟨HX1.out.1.over (HB3.out.trans (b4.mono HB3.out.size)), HX1.out.2.1.trans ((HB3.out.trans (b4.mono HB3.out.size)).mono HX1.out.2.1.size), HX1.out.2.2.over (HB3.out.trans (b4.mono HB3.out.size)), C4, HI3.out.over b4⟩)
  have l4 := cs_load HX4.out.1 (csC_size _ _)
  clear C4 b4 HX1 HI2 HI3 HB2 HB3
  go_upto_region 3 with (go_at_call 11; refine (HRH.out _ HX4.out.2.2.1).mono ?_; rintro e w5 ⟨v5, rfl, I5, hb5⟩; dsimp only at I5; dsimp only; have sA := laid_store I5; unfold Z22 at sA; have HI5 := hide I5; have HB5 := hide hb5; clear I5 hb5 l4)
  clear sA
  have C6 := laid_cat w5 d v5
  have b6 := laid_below w5 d v5
  generalize laidW w5 d v5 = w6 at *
  have b46 := HB5.out.trans (b6.mono HB5.out.size)
  have HX6 := hide (show _ ∧ _ ∧ _ ∧ _ ∧ _ ∧ _ ∧ _ from ⟨HX4.out.1.over b46, HX4.out.2.1.trans (b46.mono HX4.out.2.1.size), HX4.out.2.2.1.over b46, HX4.out.2.2.2.1.over b46, HX4.out.2.2.2.2.over b46, C6, HI5.out.over b6⟩)
  have HLD : Hid (∀ wx, Below w6.heap.size w6 wx → (loadC (.pointer (some ⟨w.heap.size, 0, none⟩))).run Try.prog wx = .ok (.agg (csC c v)) wx ∧ (loadC (.pointer (some ⟨w3.heap.size, 0, none⟩))).run Try.prog wx = .ok (.agg (csC d v3)) wx ∧ (loadC (.pointer (some ⟨w5.heap.size, 0, none⟩))).run Try.prog wx = .ok (.agg (csC d v5)) wx) := fun wx hb => ⟨cs_load (HX6.out.1.over hb) (csC_size _ _), cs_load (HX6.out.2.2.2.1.over hb) (csC_size _ _), cs_load (HX6.out.2.2.2.2.2.1.over hb) (csC_size _ _)⟩
  clear C6 b6 b46 HX4 HI5 HB5
  have hS : ∀ wx, Below w6.heap.size w6 wx → (loadC (.pointer (some ⟨w.heap.size, 0, none⟩))).run Try.prog wx = .ok (.agg (csC c v)) wx ∧ (loadC (.pointer (some ⟨w3.heap.size, 0, none⟩))).run Try.prog wx = .ok (.agg (csC d v3)) wx ∧ (loadC (.pointer (some ⟨w5.heap.size, 0, none⟩))).run Try.prog wx = .ok (.agg (csC d v5)) wx := HLD.out
  have hc1 : ∀ wx, Below w6.heap.size w6 wx → Calls Try.prog 12 #[.agg (csC d v3), .agg (csC d v5)] wx fun e w' => e = .returned (.bool true) ∧ Below w6.heap.size w6 w' := fun wx h => (HSM.out d v3 v5 _ _ wx (HX6.out.2.2.2.2.1.over h) (HX6.out.2.2.2.2.2.2.over h)).mono fun _ _ hh => ⟨hh.1, h.trans (hh.2.mono h.size)⟩
  have hc2 : ∀ wx, Below w6.heap.size w6 wx → Calls Try.prog 10 #[.agg (csC c v)] wx fun e w' => ∃ v', e = .returned (.agg (csC c v')) ∧ (∃ Q, CIn Q w' c v') ∧ Below w6.heap.size w6 w' := fun wx h => (HCP.out wx (HX6.out.2.2.1.over h)).mono fun _ _ ⟨v', L, e1, n1, b1⟩ => ⟨v', e1, ⟨_, HCI.out _ _ _ _ n1⟩, h.trans (b1.mono h.size)⟩
  have hc3 : ∀ u wx, (∃ Q, CIn Q wx c u) → Below w6.heap.size w6 wx → Calls Try.prog 13 #[.agg (csC c u)] wx fun e w' => e = .returned (.bool G) ∧ Below w6.heap.size w6 w' := fun u wx ⟨Q, hq⟩ h => (HG1.out u Q wx hq).mono fun _ _ hh => ⟨hh.1, h.trans (hh.2.mono h.size)⟩
  have hc4 : ∀ wx, Below w6.heap.size w6 wx → Calls Try.prog 14 #[.agg (csC c v)] wx fun e w' => e = .returned (.bool G) ∧ Below w6.heap.size w6 w' := fun wx h => (HG2.out wx (HX6.out.2.2.1.over h)).mono fun _ _ hh => ⟨hh.1, h.trans (hh.2.mono h.size)⟩
  have hc5 : ∀ wx, Below w6.heap.size w6 wx → Calls Try.prog 15 #[] wx fun e w' => e = .returned (.bool true) ∧ Below w6.heap.size w6 w' := fun wx h => (HCO.out wx).mono fun _ _ hh => ⟨hh.1, h.trans (hh.2.mono h.size)⟩
  have HF := hide (show _ from HX6.out.2.1)
  clear HLD HX6 HSM HCP HCI HG1 HG2 HCO HHR HRH HP
  go_upto_region 3 with fail
  go_region_held3 (fun wx => (loadC (.pointer (some ⟨w.heap.size, 0, none⟩))).run Try.prog wx = .ok (.agg (csC c v)) wx ∧ (loadC (.pointer (some ⟨w3.heap.size, 0, none⟩))).run Try.prog wx = .ok (.agg (csC d v3)) wx ∧ (loadC (.pointer (some ⟨w5.heap.size, 0, none⟩))).run Try.prog wx = .ok (.agg (csC d v5)) wx) (first | exact hS _ hb | exact hS _ hb.drew | exact hS _ (Below.refl _ _).drew | exact hS _ (Below.refl _ _))
    (first
      | (go_at_call 12; refine (hc1 _ (by first | exact hb | exact hb.drew | exact (Below.refl _ _).drew | exact Below.refl _ _)).mono ?_; rintro e wy ⟨rfl, hb⟩)
      | (go_at_call 10; refine (hc2 _ (by first | exact hb | exact hb.drew | exact (Below.refl _ _).drew | exact Below.refl _ _)).mono ?_; rintro e wy ⟨vy, rfl, hq, hb⟩; have HQ := hide hq; clear hq)
      | (go_at_call 13; refine (hc3 _ _ HQ.out (by first | exact hb | exact hb.drew | exact (Below.refl _ _).drew | exact Below.refl _ _)).mono ?_; rintro e wy ⟨rfl, hb⟩)
      | (go_at_call 14; refine (hc4 _ (by first | exact hb | exact hb.drew | exact (Below.refl _ _).drew | exact Below.refl _ _)).mono ?_; rintro e wy ⟨rfl, hb⟩)
      | (go_at_call 15; refine (hc5 _ (by first | exact hb | exact hb.drew | exact (Below.refl _ _).drew | exact Below.refl _ _)).mono ?_; rintro e wy ⟨rfl, hb⟩))
  have HBz := hide (HF.out.trans (hb.mono HF.out.size))
  clear hc1 hc2 hc3 hc4 hc5 hS
  go_wp2
  go_ret
  exact ⟨rfl, HBz.out⟩
end Go.Proofs.Ytnfigdecgkcgcaa.Kc

