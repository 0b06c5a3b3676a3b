/- Parts of the proof: PLJ PLS. -/
import Derived.Test.YtkhlihpghbhppaaGreatRows
import Derived.Test.YtkhlihpghbhppaaGreatPjK3
import Derived.Test.YtkhlihpghbhppaaGreatPjK10
import Derived.Test.YtkhlihpghbhppaaGreatPjK18
import Derived.Test.YtkhlihpghbhppaaGreatPjK19
import Derived.Test.YtkhlihpghbhppaaGreatPjK53
set_option maxRecDepth 100000
namespace Go.Proofs.YtkhlihpghbhppaaGreat.Pv
open Go.RowKit
attribute [local go_sem ↓] loadS_eq loadP_eq storeP_eq storeS_eq
set_option maxHeartbeats 8000000 in
theorem lpjudges_walk (p : Pr) (v : PrV) (w : World) (x h : Int) (hp : PIn (fun _ => True) w p v) (hq88 : p.q.length * 88 ≤ 140737488351232) :
    Calls Tryz.prog 6 #[.agg (prC p v), .int .i64 x, .int .i64 h] w fun e w' => e = .returned (.bool true) ∧ Below w.heap.size w w' := by
  have HCP := hide (fun (wx : World) (hb : Below w.heap.size w wx) => copyp_any p v (fun _ => True) wx (hp.over hb) hq88)
  have HPF := hide (fun (P : Nat → Prop) (wx : World) (u : PrV) (hu : PIn P wx p u) => pevid_any p u P wx x h hu)
  have HRF := hide (fun (wx : World) (hb : Below w.heap.size w wx) => revid_any p v (fun _ => True) wx x h (hp.over hb) hq88)
  generalize evidP p x h = r at *
  obtain ⟨r1, er⟩ := r
  have HONE := hide (fun (P : Nat → Prop) (wx : World) (u : PrV) (hu : PIn P wx r1 u) => pr_one hu)
  have HSM := hide (fun (P P' : Nat → Prop) (wx : World) (u u' : PrV) (hu : PIn P wx r1 u) (hu' : PIn P' wx r1 u') => samep_any r1 u u' P P' wx hu hu')
  clear hp hq88
  go_enter Tryz.func6, Tryz.ntmps6
  go_upto_region 1 with fail
  have C0 : CAt 47 (w.alloc (.cells (prC p v) 47)) w.heap.size (prC p v) := CAt.new _ w _
  have B0 : Below w.heap.size w (w.alloc (.cells (prC p v) 47)) := (Below.refl _ w).alloc (Nat.le_refl _) _
  generalize w.alloc (.cells (prC p v) 47) = w0 at *
  have l0 := pr_loadP C0 (prC_size _ _)
  have H0 := hide (show _ ∧ _ from ⟨C0, B0⟩)
  clear C0 B0
  go_upto_region 2 with (first
    | (go_at_call 10; refine (HCP.out _ H0.out.2).mono ?_; rintro e w1 ⟨v1, rfl, P1, hb1⟩; clear l0)
    | (go_at_call 26; refine (HPF.out _ _ _ P1.pin).mono ?_; rintro e w2 ⟨v2, rfl, P2, hb2⟩; have s2 := pr_storeP (CAt.new 47 w2 Tryz.zeroCells47) Z97_size (prC_size r1 v2) (HONE.out _ _ _ P2)))
  have bS : Below w2.heap.size w2 ((w2.alloc (.cells Tryz.zeroCells47 47)).setCells w2.heap.size 0 (prC r1 v2).toList) := below_sets (Nat.le_refl _) _ _ _ ((Below.refl _ w2).alloc (Nat.le_refl _) _)
  have D3 : CAt 47 ((w2.alloc (.cells Tryz.zeroCells47 47)).setCells w2.heap.size 0 (prC r1 v2).toList) w2.heap.size (prC r1 v2) := (CAt.new 47 w2 Tryz.zeroCells47).setAll (by rw [Z97_size]; rfl)
  have b3 := (hb1.trans (hb2.mono hb1.size)).trans (bS.mono (Nat.le_trans hb1.size hb2.size))
  have C3 := H0.out.1.over b3
  have B3 := H0.out.2.trans (b3.mono H0.out.2.size)
  have Q3 := P2.over bS
  clear s2 bS hb1 hb2 b3 P1 P2 H0 HCP HPF
  generalize (w2.alloc (.cells Tryz.zeroCells47 47)).setCells w2.heap.size 0 (prC r1 v2).toList = w3 at *
  generalize w2.heap.size = g7 at *
  have l3 := pr_loadP C3 (prC_size _ _)
  have h7 := D3.lt
  have H3 := hide (show _ ∧ _ ∧ _ ∧ _ from ⟨C3, D3, B3, Q3⟩)
  clear C3 D3 B3 Q3
  go_upto_region 3 with (go_at_call 27; refine (HRF.out _ H3.out.2.2.1).mono ?_; rintro e w4 ⟨v4, rfl, P4, hb4⟩; clear l3; have s4 := pr_storeP (CAt.new 47 w4 Tryz.zeroCells47) Z97_size (prC_size r1 v4) (HONE.out _ _ _ P4))
  have bS : Below w4.heap.size w4 ((w4.alloc (.cells Tryz.zeroCells47 47)).setCells w4.heap.size 0 (prC r1 v4).toList) := below_sets (Nat.le_refl _) _ _ _ ((Below.refl _ w4).alloc (Nat.le_refl _) _)
  have E5 : CAt 47 ((w4.alloc (.cells Tryz.zeroCells47 47)).setCells w4.heap.size 0 (prC r1 v4).toList) w4.heap.size (prC r1 v4) := (CAt.new 47 w4 Tryz.zeroCells47).setAll (by rw [Z97_size]; rfl)
  have b5 := hb4.trans (bS.mono hb4.size)
  have D5 := H3.out.2.1.over b5
  have B5 := H3.out.2.2.1.trans (b5.mono H3.out.2.2.1.size)
  have Q5 := H3.out.2.2.2.over b5
  have S5 := P4.over bS
  clear s4 bS hb4 b5 P4 H3 HRF
  generalize (w4.alloc (.cells Tryz.zeroCells47 47)).setCells w4.heap.size 0 (prC r1 v4).toList = w5 at *
  generalize w4.heap.size = g9 at *
  have l7 := pr_loadP D5 (prC_size _ _)
  have l9 := pr_loadP E5 (prC_size _ _)
  have hz7 := D5.lt
  have hz9 := E5.lt
  have HSS := hide (HSM.out _ _ _ _ _ Q5 S5)
  have HB5 := hide B5
  clear D5 E5 B5 Q5 S5 HSM HONE
  go_wp2_with (first
    | (go_at_call 12; refine HSS.out.mono ?_; rintro e w6 ⟨rfl, hb6⟩; have HB6 := hide (HB5.out.trans (hb6.mono HB5.out.size)); clear hb6)
    | (go_at_call 19; refine (lprovides_any _).mono ?_; rintro e w7 ⟨rfl, hb7⟩; have HB7 := hide (HB6.out.trans (hb7.mono HB6.out.size)); clear hb7))
  go_ret
  exact ⟨rfl, HB7.out⟩
end Go.Proofs.YtkhlihpghbhppaaGreat.Pv

set_option maxRecDepth 100000
namespace Go.Proofs.YtkhlihpghbhppaaGreat.Pv
open Go.RowKit
/-- all orders of a region come to one frame, but for the lists of a provider that comes about -/
def Joinv (A : PrV → Act) (R : PrV → World → Prop) (ex : Exit) (a : Act) (w : World) : Prop := ∃ x, ex = Exit.normal ∧ a = A x ∧ R x w
theorem wp_joinv {P : Program} {c : Code} {Q : Exit → Act → World → Prop} {a : Act} {w : World} (R : PrV → World → Prop) (A : PrV → Act) (h1 : Code.wp P c (Joinv A R) a w) (h2 : ∀ x w', R x w' → Q Exit.normal (A x) w') : Code.wp P c Q a w :=
  Code.wp_mono (fun e a' w' h => by obtain ⟨x, rfl, rfl, h⟩ := h; exact h2 x w' h) h1
attribute [local go_sem ↓] loadS_eq loadP_eq storeP_eq storeS_eq
set_option maxHeartbeats 16000000 in
theorem lpstakes_walk (p : Pr) (v : PrV) (w : World) (d x n now : Int) (hp : PIn (fun _ => True) w p v) (hq88 : p.q.length * 88 ≤ 140737488351232) :
    Calls Tryz.prog 3 #[.agg (prC p v), .int .i64 d, .int .i64 x, .int .i64 n, .int .i64 now] w fun e w' => e = .returned (.bool true) ∧ Below w.heap.size w w' := by
  have HCP := hide (fun (wx : World) (hb : Below w.heap.size w wx) => copyp_any p v (fun _ => True) wx (hp.over hb) hq88)
  have HPF := hide (fun (P : Nat → Prop) (wx : World) (u : PrV) (hu : PIn P wx p u) => pdeleg_any p u P wx d x n hu)
  have HRF := hide (fun (wx : World) (hb : Below w.heap.size w wx) => rpdeleg_any p v (fun _ => True) wx d x n (hp.over hb) hq88)
  have HPU := hide (fun (P : Nat → Prop) (wx : World) (u : PrV) (hu : PIn P wx p u) => pundel_any p u P wx d x n now hu)
  have HRU := hide (fun (wx : World) (hb : Below w.heap.size w wx) => rpundel_any p v (fun b => b < w.heap.size) wx d x n now ((hp.mono (P' := fun b => b < w.heap.size) fun b hl _ => hl).over hb) hq88)
  have HPG := hide (fun (P : Nat → Prop) (wx : World) (u : PrV) (hu : PIn P wx p u) => pgood_any p u P wx hu)
  have HRG := hide (fun (wx : World) (hb : Below w.heap.size w wx) => goodp_any p v (fun _ => True) wx (hp.over hb))
  generalize goodP p = G at *
  generalize delegP p d x n = r at *
  obtain ⟨r1, er⟩ := r
  generalize undelP p d x n now = q at *
  obtain ⟨q1, eq⟩ := q
  have HONE := hide (fun (P : Nat → Prop) (wx : World) (u : PrV) (hu : PIn P wx r1 u) => pr_one hu)
  have HON2 := hide (fun (P : Nat → Prop) (wx : World) (u : PrV) (hu : PIn P wx q1 u) => pr_one hu)
  have HSM := hide (fun (P P' : Nat → Prop) (wx : World) (u u' : PrV) (hu : PIn P wx r1 u) (hu' : PIn P' wx r1 u') => samep_any r1 u u' P P' wx hu hu')
  have HSU := hide (fun (P P' : Nat → Prop) (wx : World) (u u' : PrV) (hu : PIn P wx q1 u) (hu' : PIn P' wx q1 u') => samep_any q1 u u' P P' wx hu hu')
  have HSN := hide (fun (wx : World) => samep_any newP nilPV nilPV (fun _ => True) (fun _ => True) wx (pin_new _ _) (pin_new _ _))
  clear hp hq88
  go_enter Tryz.func3, Tryz.ntmps3
  go_upto_region 1 with fail
  have C0 : CAt 47 (w.alloc (.cells (prC p v) 47)) w.heap.size (prC p v) := CAt.new _ w _
  have B0 : Below w.heap.size w (w.alloc (.cells (prC p v) 47)) := (Below.refl _ w).alloc (Nat.le_refl _) _
  generalize w.alloc (.cells (prC p v) 47) = w0 at *
  have l0 := pr_loadP C0 (prC_size _ _)
  have H0 := hide (show _ ∧ _ from ⟨C0, B0⟩)
  clear C0 B0
  go_upto_region 2 with (first
    | (go_at_call 10; refine (HCP.out _ H0.out.2).mono ?_; rintro e w1 ⟨v1, rfl, P1, hb1⟩; clear l0)
    | (go_at_call 9; refine (HPF.out _ _ _ P1.pin).mono ?_; rintro e w2 ⟨v2, rfl, P2, hb2⟩; have s2 := pr_storeP (CAt.new 47 w2 Tryz.zeroCells47) Z97_size (prC_size r1 v2) (HONE.out _ _ _ P2)))
  have bS : Below w2.heap.size w2 ((w2.alloc (.cells Tryz.zeroCells47 47)).setCells w2.heap.size 0 (prC r1 v2).toList) := below_sets (Nat.le_refl _) _ _ _ ((Below.refl _ w2).alloc (Nat.le_refl _) _)
  have D3 : CAt 47 ((w2.alloc (.cells Tryz.zeroCells47 47)).setCells w2.heap.size 0 (prC r1 v2).toList) w2.heap.size (prC r1 v2) := (CAt.new 47 w2 Tryz.zeroCells47).setAll (by rw [Z97_size]; rfl)
  have b3 := (hb1.trans (hb2.mono hb1.size)).trans (bS.mono (Nat.le_trans hb1.size hb2.size))
  have C3 := H0.out.1.over b3
  have B3 := H0.out.2.trans (b3.mono H0.out.2.size)
  have Q3 := P2.over bS
  have hgw : w.heap.size < w2.heap.size := Nat.lt_of_lt_of_le H0.out.1.lt (Nat.le_trans hb1.size hb2.size)
  clear s2 bS hb1 hb2 b3 P1 P2 H0 HPF
  generalize (w2.alloc (.cells Tryz.zeroCells47 47)).setCells w2.heap.size 0 (prC r1 v2).toList = w3 at *
  generalize w2.heap.size = g7 at *
  have l3 := pr_loadP C3 (prC_size _ _)
  have h7 := D3.lt
  have H3 := hide (show _ ∧ _ ∧ _ ∧ _ from ⟨C3, D3, B3, Q3⟩)
  clear C3 D3 B3 Q3
  go_upto_region 3 with (go_at_call 11; refine (HRF.out _ H3.out.2.2.1).mono ?_; rintro e w4 ⟨v4, rfl, P4, hb4⟩; clear l3; have s4 := pr_storeP (CAt.new 47 w4 Tryz.zeroCells47) Z97_size (prC_size r1 v4) (HONE.out _ _ _ P4))
  have bS : Below w4.heap.size w4 ((w4.alloc (.cells Tryz.zeroCells47 47)).setCells w4.heap.size 0 (prC r1 v4).toList) := below_sets (Nat.le_refl _) _ _ _ ((Below.refl _ w4).alloc (Nat.le_refl _) _)
  have E5 : CAt 47 ((w4.alloc (.cells Tryz.zeroCells47 47)).setCells w4.heap.size 0 (prC r1 v4).toList) w4.heap.size (prC r1 v4) := (CAt.new 47 w4 Tryz.zeroCells47).setAll (by rw [Z97_size]; rfl)
  have b5 := hb4.trans (bS.mono hb4.size)
  have C5 := H3.out.1.over b5
  have D5 := H3.out.2.1.over b5
  have B5 := H3.out.2.2.1.trans (b5.mono H3.out.2.2.1.size)
  have Q5 := H3.out.2.2.2.over b5
  have S5 := P4.over bS
  have hs4 := hb4.size
  have hw3 := H3.out.1.lt
  clear s4 bS hb4 b5 P4 H3 HRF
  generalize (w4.alloc (.cells Tryz.zeroCells47 47)).setCells w4.heap.size 0 (prC r1 v4).toList = w5 at *
  generalize w4.heap.size = g9 at *
  have hz9 := E5.lt
  have dr : Below w5.heap.size w5 w5.drew := (Below.refl _ _).drew
  have k5 := pr_loadP (C5.over dr) (prC_size _ _)
  have k7 := pr_loadP (D5.over dr) (prC_size _ _)
  have k9 := pr_loadP (E5.over dr) (prC_size _ _)
  have HBx := hide dr
  have HSS := hide (fun (wx : World) (hb : Below w5.heap.size w5 wx) => HSM.out _ _ wx _ _ (Q5.over hb) (S5.over hb))
  have H5 := hide (show _ ∧ _ ∧ _ ∧ _ from ⟨C5, D5, E5, B5⟩)
  clear C5 D5 E5 B5 Q5 S5 HSM HONE dr
  apply wp_joinv (fun _ w' => Below w5.heap.size w5 w')
  · refine wp_region_noPanic ?_
    go_region_with (first
      | (go_at_call 12; refine (HSS.out _ HBx.out).mono ?_; rintro e w6 ⟨rfl, hb6⟩; replace HBx := hide (HBx.out.trans (hb6.mono HBx.out.size)); clear hb6; have k6 := pr_loadP (H5.out.1.over HBx.out) (prC_size _ _))
      | (go_at_call 10; refine (HCP.out _ (H5.out.2.2.2.trans (HBx.out.mono H5.out.2.2.2.size))).mono ?_; rintro e wa ⟨va, rfl, Pa, hba⟩; have HPa := hide Pa.pin; clear Pa; replace HBx := hide (HBx.out.trans (hba.mono HBx.out.size)); clear hba; have ka := pr_loadP (H5.out.1.over HBx.out) (prC_size _ _))
      | (go_at_call 13; refine (HPG.out _ _ _ (by first | exact HPa.out | exact HPa.out.over hbz)).mono ?_; rintro e wb ⟨rfl, hbb⟩; replace HBx := hide (HBx.out.trans (hbb.mono HBx.out.size)); clear hbb; have kb := pr_loadP (H5.out.1.over HBx.out) (prC_size _ _))
      | (go_at_call 14; refine (HRG.out _ (H5.out.2.2.2.trans (HBx.out.mono H5.out.2.2.2.size))).mono ?_; rintro e wc ⟨rfl, hbz⟩; replace HBx := hide (HBx.out.trans (hbz.mono HBx.out.size)); have kc := pr_loadP (H5.out.1.over HBx.out) (prC_size _ _)))
    all_goals exact NoPanic.normal ⟨va, rfl, rfl, HBx.out⟩
  intro va w6 hb6
  have C6 := H5.out.1.over hb6
  have D6 := H5.out.2.1.over hb6
  have E6 := H5.out.2.2.1.over hb6
  have B6 := H5.out.2.2.2.trans (hb6.mono H5.out.2.2.2.size)
  have l6 := pr_loadP C6 (prC_size _ _)
  have H6 := hide (show _ ∧ _ ∧ _ ∧ _ from ⟨C6, D6, E6, B6⟩)
  have hz5 := E6.lt
  clear C6 D6 E6 B6 hb6 H5 HBx HSS k5 k7 k9 HPG HRG
  simp only [Exit.then]
  apply_assumption
  go_upto_region 6 with (first
    | (go_at_call 10; refine (HCP.out _ H6.out.2.2.2).mono ?_; rintro e w7 ⟨v7, rfl, P7, hb7⟩; clear l6)
    | (go_at_call 15; refine (HPU.out _ _ _ P7.pin).mono ?_; rintro e w8 ⟨v8, rfl, P8, hb8⟩; have s8 := pr_storeP ((H6.out.2.1.over hb7).over hb8) (prC_size _ _) (prC_size q1 v8) (HON2.out _ _ _ P8)))
  have b8 := hb7.trans (hb8.mono hb7.size)
  have D9 : CAt 47 (w8.setCells g7 0 (prC q1 v8).toList) g7 (prC q1 v8) := (H6.out.2.1.over b8).setAll rfl
  have C9 := (H6.out.1.over b8).others (c := g7) (o := 0) (by omega) (prC q1 v8).toList
  have E9 := (H6.out.2.2.1.over b8).others (c := g7) (o := 0) (by omega) (prC q1 v8).toList
  have B9 := below_sets (b := g7) (B := w.heap.size) (by omega) (prC q1 v8).toList 0 _ (H6.out.2.2.2.trans (b8.mono H6.out.2.2.2.size))
  have hs7 := hb7.size
  have Q9 := P8.sets (g := g7) (fun h => by
    rcases h with ⟨h, _⟩ | h
    · have h' : w6.heap.size + 2 ≤ g7 := h
      omega
    · omega) 0 (prC q1 v8).toList
  have hb8s := hb8.size
  clear s8 hb7 hb8 b8 P7 P8 H6 HCP HPU
  generalize w8.setCells g7 0 (prC q1 v8).toList = w9 at *
  have l9 := pr_loadP C9 (prC_size _ _)
  have H9 := hide (show _ ∧ _ ∧ _ ∧ _ from ⟨D9, E9, B9, Q9⟩)
  have hz10 := E9.lt
  clear C9 D9 E9 B9 Q9
  go_upto_region 7 with (go_at_call 16; refine (HRU.out _ H9.out.2.2.1).mono ?_; rintro e wa ⟨v10, rfl, P10, hb10⟩; clear l9; have s10 := pr_storeP (H9.out.2.1.over hb10) (prC_size _ _) (prC_size q1 v10) (HON2.out _ _ _ P10))
  have F11 : CAt 47 (wa.setCells g9 0 (prC q1 v10).toList) g9 (prC q1 v10) := (H9.out.2.1.over hb10).setAll rfl
  have D11 := (H9.out.1.over hb10).others (c := g9) (o := 0) (by omega) (prC q1 v10).toList
  have B11 := below_sets (b := g9) (B := w.heap.size) (by omega) (prC q1 v10).toList 0 _ (H9.out.2.2.1.trans (hb10.mono H9.out.2.2.1.size))
  have S11 := P10.sets (g := g9) (fun h => by
    rcases h with ⟨h, _⟩ | h
    · have h' : g9 < w.heap.size := h
      omega
    · omega) 0 (prC q1 v10).toList
  have Q11 := (H9.out.2.2.2.over hb10).sets (g := g9) (fun h => by
    rcases h with ⟨h, _⟩ | h
    · have h' : w6.heap.size + 2 ≤ g9 := h
      omega
    · omega) 0 (prC q1 v10).toList
  clear s10 hb10 P10 H9 HRU
  generalize wa.setCells g9 0 (prC q1 v10).toList = wb at *
  have l11 := pr_loadP D11 (prC_size _ _)
  have l12 := pr_loadP F11 (prC_size _ _)
  have HSS := hide (HSU.out _ _ _ _ _ Q11 S11)
  have HB11 := hide B11
  clear D11 F11 B11 S11 Q11 HSU HON2
  go_wp2_with (first
    | (have _m := mk2; go_at_call 12; refine (HSN.out _).mono ?_; rintro e we ⟨rfl, hbe⟩; have HBe := hide (HBd.out.trans (hbe.mono HBd.out.size)); clear hbe)
    | (go_at_call 12; refine HSS.out.mono ?_; rintro e wc ⟨rfl, hbc⟩; have HBc := hide (HB11.out.trans (hbc.mono HB11.out.size)); clear hbc)
    | (go_at_call 17; refine (pnew_any _).mono ?_; rintro e wn ⟨rfl, hbn⟩; have HBn := hide (HBc.out.trans (hbn.mono HBc.out.size)); clear hbn)
    | (go_at_call 18; refine (rpnew_any _).mono ?_; rintro e wd ⟨rfl, hbd⟩; have HBd := hide (HBn.out.trans (hbd.mono HBn.out.size)); clear hbd; have mk2 : True := trivial)
    | (go_at_call 19; refine (lprovides_any _).mono ?_; rintro e wf ⟨rfl, hbf⟩; have HBf := hide (HBe.out.trans (hbf.mono HBe.out.size)); clear hbf))
  go_ret
  exact ⟨rfl, HBf.out⟩
end Go.Proofs.YtkhlihpghbhppaaGreat.Pv

