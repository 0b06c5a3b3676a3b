/- Parts of the proof: PEC. -/
import Derived.Test.YtkhlihpghbhppabGreatRows
import Derived.Test.YtkhlihpghbhppabGreatProviderRemovesK3
set_option maxRecDepth 100000
namespace Go.Proofs.YtkhlihpghbhppabGreat.Pv
open Go.RowKit
def oneP : Pr := (delegP newP 0 0 500).1
def twoP : Pr := paidP (tickP oneP 3) 3
theorem one_e : (delegP newP 0 0 500).2 = 0 := by decide +kernel
theorem one_good : goodP oneP = true := by decide +kernel
theorem two_good : goodP twoP = true := by decide +kernel
theorem one_goodS : goodS (tickP oneP 3).s = true := by decide +kernel
theorem two_set : twoP.set.length = 1 := by decide +kernel
theorem two_paid : paidW 3 (tickP oneP 3).s.W = [] := by decide +kernel
theorem two_h : twoP.h = 1 := by decide +kernel
theorem one_end : endP oneP 3 = (twoP, [], 0) := by
  unfold endP
  rw [if_pos ⟨one_good, by decide, by decide⟩, queue_none (p := tickP oneP 3) rfl, show paidP (tickP oneP 3) 3 = twoP from rfl, tell_off (p := twoP) (c := 0) rfl, tell_off (p := twoP) (c := 1) rfl, two_paid]
theorem pend_one (v : PrV) (P : Nat → Prop) (w : World) (hp : PIn P w oneP v) : Calls Tryz.prog 11 #[.agg (prC oneP v), .int .i64 3] w (AnsE P w (twoP, [], 0)) := by
  rw [← one_end]
  refine pend_of oneP v P w 3 hp twoP twoP twoP (fun _ _ _ g v wx P' hC hp hg => pqueue_none g (tickP oneP 3) v wx P' rfl hC hp hg) (fun _ => by rw [queue_none (p := tickP oneP 3) rfl]; exact one_goodS) ?_ (by rw [queue_none (p := tickP oneP 3) rfl]; rfl) (by rw [tell_off (p := twoP) (c := 0) rfl]) (by rw [tell_off (p := twoP) (c := 1) rfl])
  intro _ _ _ c hc g v wx P' hC hp hg
  rw [ite_self] at hC hp
  rw [ite_self]
  have h := ptell_off g twoP v wx P' c hc rfl hC hp
  rwa [tell_off (p := twoP) (c := c) rfl] at h
attribute [local go_sem ↓] loadS_eq loadP_eq storeP_eq storeS_eq
set_option maxHeartbeats 8000000 in
theorem kprovides_any (w : World) : Calls Tryz.prog 7 #[] w fun e w' => e = .returned (.bool true) ∧ Below w.heap.size w w' := by
  have HD := hide (fun (wx : World) => pdeleg_any newP nilPV (fun _ => True) wx 0 0 500 (pin_new _ wx))
  have hd1 : delegP newP 0 0 500 = (oneP, 0) := by
    have := one_e
    show ((delegP newP 0 0 500).1, (delegP newP 0 0 500).2) = _
    rw [this]
    rfl
  rw [hd1] at HD
  have HE := hide (fun (v : PrV) (P : Nat → Prop) (wx : World) (hp : PIn P wx oneP v) => pend_one v P wx hp)
  have HG := hide (fun (v : PrV) (P : Nat → Prop) (wx : World) (hp : PIn P wx twoP v) => pgood_any twoP v P wx hp)
  rw [two_good] at HG
  have H2 := hide (show _ ∧ _ from ⟨two_h, two_set⟩)
  have Ho := hide (fun (P : Nat → Prop) (wx : World) (v : PrV) (hp : PIn P wx oneP v) => pr_one hp)
  have Ht := hide (fun (P : Nat → Prop) (wx : World) (v : PrV) (hp : PIn P wx twoP v) => pr_one hp)
  clear hd1
  generalize oneP = p1 at *
  generalize twoP = p2 at *
  go_enter Tryz.func7, Tryz.ntmps7
  go_upto_region 2 with (first
    | (go_at_call 21; refine (pnew_any _).mono ?_; rintro e w1 ⟨rfl, hb1⟩)
    | (go_at_call 20; refine (HD.out _).mono ?_; rintro e w2 ⟨v2, rfl, P2, hb2⟩; have s2 := pr_storeP (CAt.new 47 w2 Tryz.zeroCells47) Z97_size (prC_size p1 v2) (Ho.out _ _ _ P2)))
  have bS : Below w2.heap.size w2 ((w2.alloc (.cells Tryz.zeroCells47 47)).setCells w2.heap.size 0 (prC p1 v2).toList) := below_sets (Nat.le_refl _) _ _ _ ((Below.refl _ w2).alloc (Nat.le_refl _) _)
  have C3 : CAt 47 ((w2.alloc (.cells Tryz.zeroCells47 47)).setCells w2.heap.size 0 (prC p1 v2).toList) w2.heap.size (prC p1 v2) := (CAt.new 47 w2 Tryz.zeroCells47).setAll (by rw [Z97_size]; rfl)
  have B3 := (hb1.trans (hb2.mono hb1.size)).trans (bS.mono (Nat.le_trans hb1.size hb2.size))
  have P3 := (P2.mono (P' := fun b => b < w2.heap.size) (fun _ h _ => h)).over bS
  have hgw : w.heap.size ≤ w2.heap.size := Nat.le_trans hb1.size hb2.size
  clear s2 bS hb1 hb2 P2 HD
  generalize (w2.alloc (.cells Tryz.zeroCells47 47)).setCells w2.heap.size 0 (prC p1 v2).toList = w3 at *
  generalize w2.heap.size = g at *
  have l3 := pr_loadP C3 (prC_size _ _)
  have hgl := C3.lt
  have H3 := hide (show _ ∧ _ ∧ _ from ⟨C3, B3, P3⟩)
  clear C3 B3 P3
  go_upto_region 3 with (go_at_call 11; refine (HE.out v2 _ _ H3.out.2.2).mono ?_; rintro e w4 ⟨v4, u4, rfl, P4, U4, hb4⟩; clear l3; have s4 := pr_storeP (H3.out.1.over hb4) (prC_size _ _) (prC_size p2 v4) (Ht.out _ _ _ P4))
  have C5 : CAt 47 (w4.setCells g 0 (prC p2 v4).toList) g (prC p2 v4) := (H3.out.1.over hb4).setAll rfl
  have B5 := below_sets (b := g) (B := w.heap.size) (by omega) (prC p2 v4).toList 0 _ (H3.out.2.1.trans (hb4.mono H3.out.2.1.size))
  have P5 := P4.sets (g := g) (fun h => by
    rcases h with ⟨h, _⟩ | h
    · have h' : g < g := h
      omega
    · omega) 0 (prC p2 v4).toList
  obtain ⟨A4, n4, D4, e4, l4, -⟩ := U4
  have hn4 : n4 = 0 := by simpa [inC] using l4.symm
  subst e4 hn4
  obtain ⟨AS, CS, eS, -⟩ := P5.set.open (pwC_length _) (by decide)
  rw [H2.out.2] at eS
  have q65 : (w4.setCells g 0 (prC p2 v4).toList).cell? ⟨g, 65, none⟩ = some (.slice AS 1 CS) := by rw [← eS]; exact C5.cell 65
  have q0 : (w4.setCells g 0 (prC p2 v4).toList).cell? ⟨g, 0, none⟩ = some (.int .i64 1) := by rw [← H2.out.1]; exact C5.cell 0
  have l5 := pr_loadP C5 (prC_size _ _)
  have H5 := hide (show _ ∧ _ from ⟨B5, P5⟩)
  clear C5 B5 P5 s4 P4 hb4 H3 HE H2
  generalize w4.setCells g 0 (prC p2 v4).toList = w5 at *
  go_wp2_with (go_at_call 6; refine (HG.out v4 _ _ H5.out.2).mono ?_; rintro e w6 ⟨rfl, hb6⟩)
  go_ret
  exact ⟨rfl, H5.out.1.trans (hb6.mono H5.out.1.size)⟩
end Go.Proofs.YtkhlihpghbhppabGreat.Pv

