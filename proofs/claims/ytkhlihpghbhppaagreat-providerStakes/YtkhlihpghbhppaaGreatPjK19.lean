/- Parts of the proof: PRST PRE PRN. -/
import Derived.Test.YtkhlihpghbhppaaGreatRows
import Derived.Test.YtkhlihpghbhppaaGreatPjK9
import Derived.Test.YtkhlihpghbhppaaGreatPjK14
import Derived.Test.YtkhlihpghbhppaaGreatPjK15
import Derived.Test.YtkhlihpghbhppaaGreatPjK23
import Derived.Test.YtkhlihpghbhppaaGreatPjK48
import Derived.Test.YtkhlihpghbhppaaGreatPjK53
set_option maxRecDepth 100000
namespace Go.Proofs.YtkhlihpghbhppaaGreat.Pv
open Go.RowKit
section
variable {P : Nat → Prop} {w : World} {s : St} {u : Value} (hu : Rep P w u 8 64 (wsL s.W))
include hu
theorem rt_slash (v : Nat) (h : Int) (hg : goodS s = true) (hv : v < 6) : Calls Tryz.prog 73 #[.agg (stC s u), .int .i64 (v : Int), .int .i64 h, .int .i64 50] w fun e w' => ∃ u' x, e = .returned (.tuple #[.agg (stC (slashS s v h 50) u'), x, .int .i64 0]) ∧ Rep (fun b => w.heap.size ≤ b) w' u' 8 64 (wsL (slashS s v h 50).W) ∧ Below w.heap.size w w' := by
  obtain ⟨A, C, b, o, rfl, W, -, -⟩ := hu.wsAt
  refine (rslash_yes s A b o C v h 50 w W hg hv (by decide)).mono ?_
  rintro e w' ⟨A', C', rfl, h1, hb⟩
  exact ⟨_, _, rfl, OwnW.rep h1 (good_len (kp_slash hg (v := v) hv h (f := 50) (by decide)).good), hb⟩
theorem rt_bury (v : Nat) (hg : goodS s = true) (hv : v < 6) (hd : (s.V v).dead = false) : Calls Tryz.prog 74 #[.agg (stC s u), .int .i64 (v : Int), .int .i64 2] w fun e w' => ∃ u', e = .returned (.tuple #[.agg (stC (setJ s v true true) u'), .int .i64 0]) ∧ Rep (fun b => w.heap.size ≤ b) w' u' 8 64 (wsL s.W) ∧ Below w.heap.size w w' := by
  obtain ⟨A, C, b, o, rfl, W, -, -⟩ := hu.wsAt
  refine (rjudge_own2 s A b o C v w W hg hv hd).mono ?_
  rintro e w' ⟨A', C', rfl, h1, hb⟩
  exact ⟨_, rfl, OwnW.rep h1 (good_len hg), hb⟩
end
end Go.Proofs.YtkhlihpghbhppaaGreat.Pv

set_option maxRecDepth 100000
namespace Go.Proofs.YtkhlihpghbhppaaGreat.Pv
open Go.RowKit
attribute [local go_sem ↓] loadS_eq loadP_eq storeP_eq storeS_eq
set_option maxHeartbeats 8000000 in
theorem revid_any (p : Pr) (v : PrV) (P : Nat → Prop) (w : World) (x h : Int) (hp : PIn P w p v) (hq88 : p.q.length * 88 ≤ 140737488351232) :
    Calls Tryz.prog 27 #[.agg (prC p v), .int .i64 x, .int .i64 h] w (AnsP P w (evidP p x h)) := by
  have hD : evidP p x h = if goodP p = true then if isV x = true then if 1 ≤ h ∧ h ≤ p.h then if (p.s.V x.toNat).dead = true then (p, 15) else ({ p with s := punS p.s x.toNat h }, 0) else (p, 2) else (p, 4) else (p, 2) := rfl
  generalize evidP p x h = D at *
  have HD := hide hD
  clear hD
  have hone := pr_one hp
  have HGD := hide (fun (wx : World) (hb : Below w.heap.size w wx) => goodp_any p v P wx (hp.over hb))
  have HN := hide (fun (wx : World) (hb : Below w.heap.size w wx) => hp.ofNew hb 2)
  have HP := hide hp
  have HQ88 := hide hq88
  clear hp hq88
  have HGS : Hid (goodP p = true → goodS p.s = true) := fun h => by
    unfold goodP at h
    simp only [Bool.and_eq_true] at h
    exact h.1.1.1.1.1.1.1
  generalize goodP p = G at *
  go_enter Tryz.func27, Tryz.ntmps27
  go_upto_region 1 with fail
  change Code.wp Tryz.prog _ _ _ ((w.alloc (.cells (prC p v) 47)).alloc (.cells Tryz.zeroCells47 47))
  have C0 : CAt 47 ((w.alloc (.cells (prC p v) 47)).alloc (.cells Tryz.zeroCells47 47)) w.heap.size (prC p v) := (CAt.new _ w _).alloc _
  have R0 : CAt 47 ((w.alloc (.cells (prC p v) 47)).alloc (.cells Tryz.zeroCells47 47)) (w.heap.size + 1) Tryz.zeroCells47 := CAt.new2 _ w _ _
  have B0 : Below w.heap.size w ((w.alloc (.cells (prC p v) 47)).alloc (.cells Tryz.zeroCells47 47)) := ((Below.refl _ w).alloc (Nat.le_refl _) _).alloc (by simp) _
  generalize (w.alloc (.cells (prC p v) 47)).alloc (.cells Tryz.zeroCells47 47) = w0 at *
  have l0 := pr_loadP C0 (prC_size _ _)
  have H0 := hide (show _ ∧ _ ∧ _ from ⟨C0, R0, B0⟩)
  clear C0 R0 B0
  have HV : Hid (∀ er, D = (p, er) → ∀ (f : Func) (act : Act) (wq : World), CAt 47 wq (w.heap.size + 1) Tryz.zeroCells47 → Below w.heap.size w wq → f.results = #[.cell 6 47, .tmp 7] → act.tmps.getD 6 undef = .pointer (some ⟨w.heap.size + 1, 0, none⟩) → act.tmps.getD 7 undef = .int .i64 er → act.defers = [] → bodyPost Tryz.prog f (AnsP P w D) Exit.ret act (wq.setCells (w.heap.size + 1) 0 (prC p v).toList)) := fun er he f act wq R B h1 h2 h3 h4 => prov_end2 h1 R Z97_size B p v er D he (HN.out _ B) act h2 h3 h4
  by_cases hG : G = true
  · subst hG
    have hgs := HGS.out rfl
    have HR := hide (HD.out.trans (if_pos rfl))
    clear HD HGS
    go_upto_region 3 with (go_at_call 14; refine (HGD.out _ H0.out.2.2).mono ?_; rintro e w1 ⟨rfl, hb1⟩; clear l0)
    have C1 := H0.out.1.over hb1
    have R1 := H0.out.2.1.over hb1
    have B1 := H0.out.2.2.trans (hb1.mono H0.out.2.2.size)
    have l1 := pr_loadP C1 (prC_size _ _)
    have s1 := pr_storeP R1 Z97_size (prC_size p v) hone
    obtain ⟨⟨a0, -⟩, -⟩ := pr_facts C1
    have H1 := hide (show _ ∧ _ ∧ _ from ⟨C1, R1, B1⟩)
    clear C1 R1 B1 hb1 H0 HGD
    by_cases hx : isV x = true
    · obtain ⟨y, rfl, hy⟩ := isV_of hx
      have y5 : (y : Int) ≤ 5 := by omega
      replace HR := hide (HR.out.trans (if_pos hx))
      have y0 : (0 : Int) ≤ (y : Int) := by omega
      have y6 : (y : Int) < 6 := by omega
      by_cases hh : 1 ≤ h ∧ h ≤ p.h
      · replace HR := hide (HR.out.trans (if_pos hh))
        obtain ⟨h1, h2⟩ := hh
        have c4 := (pr_val H1.out.1 hy).2.2
        rw [Int.toNat_natCast] at HR
        cases hdd : (p.s.V y).dead
        · rw [hdd] at c4
          replace HR := hide (HR.out.trans (if_neg (by simp [hdd])))
          have HCP := hide (copyp_any p v P w1 (HP.out.over H1.out.2.2) HQ88.out)
          clear s1
          go_upto_region 10 with (go_at_call 10; refine HCP.out.mono ?_; rintro e w4 ⟨v4, rfl, P4, hb4⟩; clear l1 a0 c4; have s4 := pr_storeP (CAt.new 47 w4 Tryz.zeroCells47) Z97_size (prC_size p v4) (pr_one P4.pin))
          have bS : Below w4.heap.size w4 ((w4.alloc (.cells Tryz.zeroCells47 47)).setCells w4.heap.size 0 (prC p v4).toList) := below_sets (Nat.le_refl _) _ _ _ ((Below.refl _ w4).alloc (Nat.le_refl _) _)
          have C5 : CAt 47 ((w4.alloc (.cells Tryz.zeroCells47 47)).setCells w4.heap.size 0 (prC p v4).toList) w4.heap.size (prC p v4) := (CAt.new 47 w4 Tryz.zeroCells47).setAll (by rw [Z97_size]; rfl)
          have R5 := (H1.out.2.1.over hb4).over bS
          have B5 := (H1.out.2.2.trans (hb4.mono H1.out.2.2.size)).trans (bS.mono (Nat.le_trans H1.out.2.2.size hb4.size))
          have N5 := (P4.pin.mono (P' := fun b => w1.heap.size + 2 ≤ b ∧ b < w4.heap.size) (fun b hlt hb => ⟨hb, hlt⟩)).over bS
          have hs4 := hb4.size
          have hr1 := H1.out.2.1.lt
          clear s4 hb4 bS P4 HCP H1 hone
          generalize (w4.alloc (.cells Tryz.zeroCells47 47)).setCells w4.heap.size 0 (prC p v4).toList = w5 at *
          generalize w4.heap.size = g at *
          have m5 := pr_loadS C5
          have k := kp_slash hgs (v := y) hy h (f := 50) (by decide)
          have hd1 : ((slashS p.s y h 50).V y).dead = false := (slash_dead _ _ _).trans hdd
          have HSL := hide (rt_slash N5.ws y h hgs hy)
          have HBU := hide (fun (wx : World) (u : Value) (hu : Rep (fun b => w5.heap.size ≤ b) wx u 8 64 (wsL (slashS p.s y h 50).W)) => rt_bury hu y k.good hy hd1)
          have HPS : Hid (setJ (slashS p.s y h 50) y true true = punS p.s y h ∧ (punS p.s y h).W = (slashS p.s y h 50).W) := ⟨rfl, rfl⟩
          have hg5 := C5.lt
          have H5 := hide (show _ ∧ _ ∧ _ ∧ _ from ⟨C5, R5, B5, N5⟩)
          clear C5 R5 B5 N5 k hd1
          generalize punS p.s y h = s7 at *
          generalize slashS p.s y h 50 = s6 at *
          go_upto_region 11 with (go_at_call 73; refine HSL.out.mono ?_; rintro e w6 ⟨u6, x6, rfl, U6, hb6⟩; clear m5; have sS6 := pr_storeS (H5.out.1.over hb6) (prC_size _ _) (stC_size s6 u6) (st_one s6 U6.one'))
          have C7 := (H5.out.1.over hb6).stake s6 u6
          have hs6 := hb6.size
          have U7 : Rep (fun b => w5.heap.size ≤ b) (w6.setCells g 2 (stC s6 u6).toList) u6 8 64 (wsL s6.W) := U6.sets (g := g) (by show ¬ _ ≤ g; omega) 2 _
          have R7 := (H5.out.2.1.over hb6).others (c := g) (o := 2) (by omega) (stC s6 u6).toList
          have B7 := below_sets (b := g) (B := w.heap.size) (by omega) (stC s6 u6).toList 2 _ (H5.out.2.2.1.trans (hb6.mono H5.out.2.2.1.size))
          have N7 := (H5.out.2.2.2.over hb6).sets (g := g) (fun h => by have := h.2; omega) 2 (stC s6 u6).toList
          clear sS6 hb6 U6 HSL H5
          generalize w6.setCells g 2 (stC s6 u6).toList = w7 at *
          have m7 := pr_loadS C7
          have HB7 := hide (HBU.out _ _ U7)
          have H7 := hide (show _ ∧ _ ∧ _ ∧ _ from ⟨C7, R7, B7, N7⟩)
          have hg7 := C7.lt
          clear C7 R7 B7 N7 U7 HBU
          rw [HPS.out.1] at HB7
          go_upto_region 12 with (go_at_call 74; refine HB7.out.mono ?_; rintro e w8 ⟨u8, rfl, U8, hb8⟩; clear m7; have sS8 := pr_storeS (H7.out.1.over hb8) (prC_size _ _) (stC_size s7 u8) (st_one s7 U8.one'))
          have C9 := (H7.out.1.over hb8).stake s7 u8
          have hs8 := hb8.size
          have U9 := U8.sets (g := g) (by show ¬ _ ≤ g; omega) 2 (stC s7 u8).toList
          have R9 := (H7.out.2.1.over hb8).others (c := g) (o := 2) (by omega) (stC s7 u8).toList
          have B9 := below_sets (b := g) (B := w.heap.size) (by omega) (stC s7 u8).toList 2 _ (H7.out.2.2.1.trans (hb8.mono H7.out.2.2.1.size))
          have N9 := (H7.out.2.2.2.over hb8).sets (g := g) (fun h => by have := h.2; omega) 2 (stC s7 u8).toList
          clear sS8 hb8 U8 HB7 H7
          generalize w8.setCells g 2 (stC s7 u8).toList = w9 at *
          have M9 : PIn (New P w 2) w9 { p with s := s7 } { v4 with ws := u8 } := by
            have := N9.mono (P' := New P w 2) (fun b _ hb => .inr (by have := hb.1; omega))
            exact ⟨by show Rep _ _ _ _ _ (wsL s7.W); rw [HPS.out.2]; exact U9.mono fun b _ hb => .inr (by have hb' : w7.heap.size ≤ b := hb; omega), this.set, this.lk, this.q⟩
          have l9 := pr_loadP C9 (prC_size _ _)
          have s9 := pr_storeP R9 Z97_size (prC_size { p with s := s7 } { v4 with ws := u8 }) (pr_one M9)
          have HZ := hide (show _ ∧ _ ∧ _ from ⟨R9, B9, M9⟩)
          clear C9 U9 R9 B9 N9 M9
          go_wp2
          exact prov_end2 Tryz.results27 HZ.out.1 Z97_size HZ.out.2.1 _ _ 0 D HR.out HZ.out.2.2 _ rfl rfl rfl
        · rw [hdd] at c4
          replace HR := hide (HR.out.trans (if_pos hdd))
          go_wp2
          exact HV.out 15 HR.out _ _ _ H1.out.2.1 H1.out.2.2 Tryz.results27 rfl rfl rfl
      · replace HR := hide (HR.out.trans (if_neg hh))
        have hcs : h < 1 ∨ (1 ≤ h ∧ p.h < h) := by omega
        rcases hcs with h1 | ⟨h1, h2⟩
        all_goals
          go_wp2
          exact HV.out 2 HR.out _ _ _ H1.out.2.1 H1.out.2.2 Tryz.results27 rfl rfl rfl
    · replace HR := hide (HR.out.trans (if_neg hx))
      have hcs : x < 0 ∨ (0 ≤ x ∧ 5 < x) := by
        have := mt isV_iff.2 hx
        omega
      rcases hcs with h1 | ⟨h1, h2⟩
      all_goals
        go_wp2
        exact HV.out 4 HR.out _ _ _ H1.out.2.1 H1.out.2.2 Tryz.results27 rfl rfl rfl
  · have hG : G = false := by simpa using hG
    subst hG
    have HR := hide (HD.out.trans (if_neg (by simp)))
    clear HD
    go_upto_region 2 with (go_at_call 14; refine (HGD.out _ H0.out.2.2).mono ?_; rintro e w1 ⟨rfl, hb1⟩; clear l0)
    have R1 := H0.out.2.1.over hb1
    have l1 := pr_loadP (H0.out.1.over hb1) (prC_size _ _)
    have s1 := pr_storeP R1 Z97_size (prC_size p v) hone
    have B1 := H0.out.2.2.trans (hb1.mono H0.out.2.2.size)
    have HZ := hide (show _ ∧ _ from ⟨R1, B1⟩)
    clear R1 B1 hb1 hone
    go_wp2
    exact HV.out 2 HR.out _ _ _ HZ.out.1 HZ.out.2 Tryz.results27 rfl rfl rfl
end Go.Proofs.YtkhlihpghbhppaaGreat.Pv

set_option maxRecDepth 100000
namespace Go.Proofs.YtkhlihpghbhppaaGreat.Pv
open Go.RowKit
set_option maxHeartbeats 4000000 in
theorem rpnew_any (w : World) : Calls Tryz.prog 18 #[] w fun e w' => e = .returned (.agg (prC newP nilPV)) ∧ Below w.heap.size w w' := by
  have R0 : CAt 47 (w.alloc (.cells Tryz.zeroCells47 47)) w.heap.size Tryz.zeroCells47 := CAt.new _ w _
  have HB0 : Hid (Below w.heap.size w (w.alloc (.cells Tryz.zeroCells47 47))) := (Below.refl _ w).alloc (Nat.le_refl _) _
  have hM := Mt.rmnew_any 0 0 (by unfold Mt.I64; omega)
  rw [show Mt.alw 0 = 1 from rfl, show wrap64 (0 + 10) = 10 by first | rfl | (unfold wrap64; omega) | (unfold wrap64; decide) | (simp [wrap64])] at hM
  go_enter Tryz.func18, Tryz.ntmps18
  go_upto_region 1 with fail
  generalize w.alloc (.cells Tryz.zeroCells47 47) = w0 at *
  apply wp_region_lit
  go_step
  go_step
  refine (rnews_any _).mono ?_
  rintro e w1 ⟨rfl, h1⟩
  have R1 := R0.over h1
  have HB1 := hide (HB0.out.trans (h1.mono HB0.out.size))
  clear h1 R0 HB0
  dsimp only
  go_step
  go_step
  go_step
  refine (hM _).mono ?_
  rintro e w2 ⟨rfl, h2⟩
  have R2 := R1.over h2
  have HB2 := hide (HB1.out.trans (h2.mono HB1.out.size))
  clear h2 R1 HB1 hM
  dsimp only
  go_step
  go_step
  go_step
  change Oper.upon Tryz.prog _ _ _ _ (Result.ok (Next.value (.agg (prC newP nilPV))) w2)
  go_simp
  apply_assumption
  refine wpList_store_mid rfl 47 _ _ rfl _ 0 (prC newP nilPV) rfl rfl (R2.there 0 _ (by rw [Z97_size, prC_size]; omega)) (by rw [infoPv]; rfl) (pr_one (pin_new (fun _ => True) w2)) ?_
  go_wp2
  have R3 := R2.setAll (ds := prC newP nilPV) (by rw [Z97_size]; rfl)
  exact bodyPost_ret (v := .agg (prC newP nilPV)) (results_prov1 Tryz.results18 _ _ _ _ rfl R3 rfl) rfl ⟨rfl, below_sets (Nat.le_refl _) _ _ _ HB2.out⟩
end Go.Proofs.YtkhlihpghbhppaaGreat.Pv

