/- Parts of the proof: PEB PEC. -/
import Derived.Test.YtjghbciepinofaaGreatRows
import Derived.Test.YtjghbciepinofaaGreatPK23
set_option maxRecDepth 100000
namespace Go.Proofs.YtjghbciepinofaaGreat.Pv
open Go.RowKit
def nilV : Value := .slice none 0 0
def nilPV : PrV := ⟨nilV, nilV, fun _ => ⟨nilV, nilV, nilV, nilV⟩, nilV⟩
theorem pin_new (P : Nat → Prop) (w : World) : PIn P w newP nilPV :=
  ⟨Rep.nil _ _ _ _, Rep.nil _ _ _ _, fun _ _ => ⟨Rep.nil _ _ _ _, Rep.nil _ _ _ _, RepC.nil _ _ _ _, RepC.nil _ _ _ _⟩, [], rfl, Rep.nil _ _ _ _, fun i _ _ h => by simp [newP] at h⟩
theorem results_prov1 {fn : Func} {p : Tmp} (h : fn.results = #[.cell p 47]) (tmps : Array Value) (w : World) (g : Nat) (cs : Array Value)
    (hp : tmps.getD p undef = .pointer (some ⟨g, 0, none⟩)) (hg : CAt 47 w g cs) (hsz : cs.size = 97) :
    (results fn tmps).run Tryz.prog w = .ok (.agg cs) w :=
  results_cell_row h _ _ g 47 cs (0, 0) _ hp hg Tryz.underlying47 rfl (by rw [infoPv, hsz])
set_option maxHeartbeats 4000000 in
theorem pnew_any (w : World) : Calls Tryz.prog 26 #[] w fun e w' => e = .returned (.agg (prC newP nilPV)) ∧ Below w.heap.size w w' := by
  have R0 : CAt 47 (w.alloc (.cells Tryz.zeroCells47 47)) w.heap.size Tryz.zeroCells47 := CAt.new _ w _
  have HB0 : Hid (Below w.heap.size w (w.alloc (.cells Tryz.zeroCells47 47))) := (Below.refl _ w).alloc (Nat.le_refl _) _
  have hM := Mt.mnew_any 0 0 (by unfold Mt.I64; omega)
  rw [show Mt.alw 0 = 1 from rfl, show wrap64 (0 + 10) = 10 by first | rfl | (unfold wrap64; omega) | (unfold wrap64; decide) | (simp [wrap64])] at hM
  go_enter Tryz.func26, Tryz.ntmps26
  go_upto_region 1 with fail
  generalize w.alloc (.cells Tryz.zeroCells47 47) = w0 at *
  apply wp_region_lit
  go_step
  go_step
  refine (snew_any _).mono ?_
  rintro e w1 ⟨rfl, h1⟩
  have R1 := R0.over h1
  have HB1 := hide (HB0.out.trans (h1.mono HB0.out.size))
  clear h1 R0 HB0
  dsimp only
  go_step
  go_step
  go_step
  refine (hM _).mono ?_
  rintro e w2 ⟨rfl, h2⟩
  have R2 := R1.over h2
  have HB2 := hide (HB1.out.trans (h2.mono HB1.out.size))
  clear h2 R1 HB1 hM
  dsimp only
  go_step
  go_step
  go_step
  change Oper.upon Tryz.prog _ _ _ _ (Result.ok (Next.value (.agg (prC newP nilPV))) w2)
  go_simp
  apply_assumption
  refine wpList_store_mid rfl 47 _ _ rfl _ 0 (prC newP nilPV) rfl rfl (R2.there 0 _ (by rw [Z97_size, prC_size]; omega)) (by rw [infoPv]; rfl) (pr_one (pin_new (fun _ => True) w2)) ?_
  go_wp2
  have R3 := R2.setAll (ds := prC newP nilPV) (by rw [Z97_size]; rfl)
  exact bodyPost_ret (v := .agg (prC newP nilPV)) (results_prov1 Tryz.results26 _ _ _ _ rfl R3 rfl) rfl ⟨rfl, below_sets (Nat.le_refl _) _ _ _ HB2.out⟩
theorem PIn.alt {P : Nat → Prop} {w w' : World} {p : Pr} {v : PrV} {g : Nat} (h : PIn P w p v) (hg : ¬ P g) (A : Alt g w w') : PIn (New P w 0) w' p v :=
  (A.pin (P := fun b => P b ∧ b < w.heap.size) (fun h => hg h.1) (h.mono fun _ hb hP => ⟨hP, hb⟩)).mono fun _ _ h => .inl h
/-- nothing is asked -/
theorem queue_none {p : Pr} (h : p.q = []) : queueP p = p := by
  unfold queueP goQ
  rw [h]
  show { p with q := [] } = p
  rw [← h]
set_option maxHeartbeats 4000000 in
theorem pqueue_none (g : Nat) (p : Pr) (v : PrV) (w : World) (P : Nat → Prop) (hq : p.q = []) (hC : CAt 47 w g (prC p v)) (hp : PIn P w p v) (hg : ¬ P g) :
    Calls Tryz.prog 30 #[.pointer (some ⟨g, 0, none⟩)] w (Turns w g P (queueP p)) := by
  rw [queue_none hq]
  obtain ⟨z, hzl, hzr, hzi⟩ := hp.q
  obtain ⟨Aq, Cq, eq, -, hq0, -, -⟩ := hzr.open (quL_length _ _ hzl) (by decide)
  rw [hq] at eq
  have a96 : w.cell? ⟨g, 96, none⟩ = some (.slice Aq 0 Cq) := by rw [show Value.slice Aq 0 Cq = v.q from eq.symm]; exact hC.cell 96
  have b1 : Below w.heap.size w (w.alloc (.cells #[.bool false, .bool false] 123)) := (Below.refl _ w).alloc (Nat.le_refl _) _
  have C1 := hC.over b1
  have d96 : (w.alloc (.cells #[.bool false, .bool false] 123)).cell? ⟨g, 96, none⟩ = some (.slice Aq 0 Cq) := by rw [show Value.slice Aq 0 Cq = v.q from eq.symm]; exact C1.cell 96
  have f96 := C1.free 96
  have hlt := hC.lt
  have C2 := C1.set 96 (.slice none 0 0)
  rw [pr_q] at C2
  have A2 := (Alt.of (g := g) b1).set 96 (.slice none 0 0)
  have P2 : PIn (New P w 0) ((w.alloc (.cells #[.bool false, .bool false] 123)).setCell ⟨g, 96, none⟩ (.slice none 0 0)) p { v with q := .slice none 0 0 } := by
    have h1 := hp.alt hg A2
    exact ⟨h1.ws, h1.set, h1.lk, [], by rw [hq]; rfl, by rw [hq]; exact Rep.nil _ _ _ _, fun i _ _ h => by rw [hq] at h; simp at h⟩
  have HZ := hide (show _ ∧ _ ∧ _ from ⟨C2, P2, A2⟩)
  clear C1 C2 A2 P2 hzr hzi hq0 b1 eq hC hp
  go_enter Tryz.func30, Tryz.ntmps30
  go_upto_region 3 with fail
  generalize w.alloc (.cells #[.bool false, .bool false] 123) = w1 at *
  go_loopw [3, 11] (fun l3 i wl => l3 = .slice none 0 0 ∧ i = .int .i64 0 ∧ w1 = wl) (fun _ _ _ => 0)
  case atStart => exact ⟨rfl, rfl, rfl⟩
  case round =>
    obtain ⟨rfl, rfl, rfl⟩ := hrel
    go_wp2
    go_end0
    exact ⟨_, rfl, HZ.out.1, HZ.out.2.1, HZ.out.2.2⟩
/-- who is off is told nothing -/
theorem tell_off {p : Pr} {c : Nat} (h : (p.L c).on = false) : tellP p c = p := by
  unfold tellP
  rw [if_pos (by unfold quietB; rw [h]; rfl)]
set_option maxHeartbeats 4000000 in
theorem ptell_off (g : Nat) (p : Pr) (v : PrV) (w : World) (P : Nat → Prop) (c : Nat) (hc : c < 2) (hoff : (p.L c).on = false) (hC : CAt 47 w g (prC p v)) (hp : PIn P w p v) :
    Calls Tryz.prog 32 #[.pointer (some ⟨g, 0, none⟩), .pointer (some ⟨g, 66 + c * 14, none⟩)] w (Turns w g P (tellP p c)) := by
  rw [tell_off hoff]
  have c0 := (CAt.lk hC hc).facts.1
  rw [hoff] at c0
  have HZ := hide (show _ ∧ _ from ⟨hC, hp⟩)
  clear hC hp
  go_enter Tryz.func32, Tryz.ntmps32
  go_wp2_with fail
  go_region
  all_goals
    go_wp2
    go_end0
    exact ⟨v, rfl, HZ.out.1.over (Below.refl _ _).drew, HZ.out.2.ofNew (Below.refl _ _).drew 0, Alt.of (Below.refl _ _).drew⟩
end Go.Proofs.YtjghbciepinofaaGreat.Pv

set_option maxRecDepth 100000
namespace Go.Proofs.YtjghbciepinofaaGreat.Pv
open Go.RowKit
def oneP : Pr := (delegP newP 0 0 500).1
def twoP : Pr := paidP (tickP oneP 3) 3
theorem one_e : (delegP newP 0 0 500).2 = 0 := by decide +kernel
theorem one_good : goodP oneP = true := by decide +kernel
theorem two_good : goodP twoP = true := by decide +kernel
theorem one_goodS : goodS (tickP oneP 3).s = true := by decide +kernel
theorem two_set : twoP.set.length = 1 := by decide +kernel
theorem two_paid : paidW 3 (tickP oneP 3).s.W = [] := by decide +kernel
theorem two_h : twoP.h = 1 := by decide +kernel
theorem one_end : endP oneP 3 = (twoP, [], 0) := by
  unfold endP
  rw [if_pos ⟨one_good, by decide, by decide⟩, queue_none (p := tickP oneP 3) rfl, show paidP (tickP oneP 3) 3 = twoP from rfl, tell_off (p := twoP) (c := 0) rfl, tell_off (p := twoP) (c := 1) rfl, two_paid]
theorem pend_one (v : PrV) (P : Nat → Prop) (w : World) (hp : PIn P w oneP v) : Calls Tryz.prog 9 #[.agg (prC oneP v), .int .i64 3] w (AnsE P w (twoP, [], 0)) := by
  rw [← one_end]
  refine pend_of oneP v P w 3 hp twoP twoP twoP (fun _ _ _ g v wx P' hC hp hg => pqueue_none g (tickP oneP 3) v wx P' rfl hC hp hg) (fun _ => by rw [queue_none (p := tickP oneP 3) rfl]; exact one_goodS) ?_ (by rw [queue_none (p := tickP oneP 3) rfl]; rfl) (by rw [tell_off (p := twoP) (c := 0) rfl]) (by rw [tell_off (p := twoP) (c := 1) rfl])
  intro _ _ _ c hc g v wx P' hC hp hg
  rw [ite_self] at hC hp
  rw [ite_self]
  have h := ptell_off g twoP v wx P' c hc rfl hC hp
  rwa [tell_off (p := twoP) (c := c) rfl] at h
attribute [local go_sem ↓] loadS_eq loadP_eq storeP_eq storeS_eq
set_option maxHeartbeats 8000000 in
theorem kprovides_any (w : World) : Calls Tryz.prog 8 #[] w fun e w' => e = .returned (.bool true) ∧ Below w.heap.size w w' := by
  have HD := hide (fun (wx : World) => pdeleg_any newP nilPV (fun _ => True) wx 0 0 500 (pin_new _ wx))
  have hd1 : delegP newP 0 0 500 = (oneP, 0) := by
    have := one_e
    show ((delegP newP 0 0 500).1, (delegP newP 0 0 500).2) = _
    rw [this]
    rfl
  rw [hd1] at HD
  have HE := hide (fun (v : PrV) (P : Nat → Prop) (wx : World) (hp : PIn P wx oneP v) => pend_one v P wx hp)
  have HG := hide (fun (v : PrV) (P : Nat → Prop) (wx : World) (hp : PIn P wx twoP v) => pgood_any twoP v P wx hp)
  rw [two_good] at HG
  have H2 := hide (show _ ∧ _ from ⟨two_h, two_set⟩)
  have Ho := hide (fun (P : Nat → Prop) (wx : World) (v : PrV) (hp : PIn P wx oneP v) => pr_one hp)
  have Ht := hide (fun (P : Nat → Prop) (wx : World) (v : PrV) (hp : PIn P wx twoP v) => pr_one hp)
  clear hd1
  generalize oneP = p1 at *
  generalize twoP = p2 at *
  go_enter Tryz.func8, Tryz.ntmps8
  go_upto_region 2 with (first
    | (go_at_call 26; refine (pnew_any _).mono ?_; rintro e w1 ⟨rfl, hb1⟩)
    | (go_at_call 25; refine (HD.out _).mono ?_; rintro e w2 ⟨v2, rfl, P2, hb2⟩; have s2 := pr_storeP (CAt.new 47 w2 Tryz.zeroCells47) Z97_size (prC_size p1 v2) (Ho.out _ _ _ P2)))
  have bS : Below w2.heap.size w2 ((w2.alloc (.cells Tryz.zeroCells47 47)).setCells w2.heap.size 0 (prC p1 v2).toList) := below_sets (Nat.le_refl _) _ _ _ ((Below.refl _ w2).alloc (Nat.le_refl _) _)
  have C3 : CAt 47 ((w2.alloc (.cells Tryz.zeroCells47 47)).setCells w2.heap.size 0 (prC p1 v2).toList) w2.heap.size (prC p1 v2) := (CAt.new 47 w2 Tryz.zeroCells47).setAll (by rw [Z97_size]; rfl)
  have B3 := (hb1.trans (hb2.mono hb1.size)).trans (bS.mono (Nat.le_trans hb1.size hb2.size))
  have P3 := (P2.mono (P' := fun b => b < w2.heap.size) (fun _ h _ => h)).over bS
  have hgw : w.heap.size ≤ w2.heap.size := Nat.le_trans hb1.size hb2.size
  clear s2 bS hb1 hb2 P2 HD
  generalize (w2.alloc (.cells Tryz.zeroCells47 47)).setCells w2.heap.size 0 (prC p1 v2).toList = w3 at *
  generalize w2.heap.size = g at *
  have l3 := pr_loadP C3 (prC_size _ _)
  have hgl := C3.lt
  have H3 := hide (show _ ∧ _ ∧ _ from ⟨C3, B3, P3⟩)
  clear C3 B3 P3
  go_upto_region 3 with (go_at_call 9; refine (HE.out v2 _ _ H3.out.2.2).mono ?_; rintro e w4 ⟨v4, u4, rfl, P4, U4, hb4⟩; clear l3; have s4 := pr_storeP (H3.out.1.over hb4) (prC_size _ _) (prC_size p2 v4) (Ht.out _ _ _ P4))
  have C5 : CAt 47 (w4.setCells g 0 (prC p2 v4).toList) g (prC p2 v4) := (H3.out.1.over hb4).setAll rfl
  have B5 := below_sets (b := g) (B := w.heap.size) (by omega) (prC p2 v4).toList 0 _ (H3.out.2.1.trans (hb4.mono H3.out.2.1.size))
  have P5 := P4.sets (g := g) (fun h => by
    rcases h with ⟨h, _⟩ | h
    · have h' : g < g := h
      omega
    · omega) 0 (prC p2 v4).toList
  obtain ⟨A4, n4, D4, e4, l4, -⟩ := U4
  have hn4 : n4 = 0 := by simpa [inC] using l4.symm
  subst e4 hn4
  obtain ⟨AS, CS, eS, -⟩ := P5.set.open (pwC_length _) (by decide)
  rw [H2.out.2] at eS
  have q65 : (w4.setCells g 0 (prC p2 v4).toList).cell? ⟨g, 65, none⟩ = some (.slice AS 1 CS) := by rw [← eS]; exact C5.cell 65
  have q0 : (w4.setCells g 0 (prC p2 v4).toList).cell? ⟨g, 0, none⟩ = some (.int .i64 1) := by rw [← H2.out.1]; exact C5.cell 0
  have l5 := pr_loadP C5 (prC_size _ _)
  have H5 := hide (show _ ∧ _ from ⟨B5, P5⟩)
  clear C5 B5 P5 s4 P4 hb4 H3 HE H2
  generalize w4.setCells g 0 (prC p2 v4).toList = w5 at *
  go_wp2_with (go_at_call 10; refine (HG.out v4 _ _ H5.out.2).mono ?_; rintro e w6 ⟨rfl, hb6⟩)
  go_ret
  exact ⟨rfl, H5.out.1.trans (hb6.mono H5.out.1.size)⟩
end Go.Proofs.YtjghbciepinofaaGreat.Pv

