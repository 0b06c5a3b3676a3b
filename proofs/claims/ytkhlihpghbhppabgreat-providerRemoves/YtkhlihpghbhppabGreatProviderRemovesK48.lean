/- Parts of the proof: PER PRK. -/
import Derived.Test.YtkhlihpghbhppabGreatRows
import Derived.Test.YtkhlihpghbhppabGreatProviderRemovesK3
import Derived.Test.YtkhlihpghbhppabGreatProviderRemovesK6
import Derived.Test.YtkhlihpghbhppabGreatProviderRemovesK47
import Derived.Test.YtkhlihpghbhppabGreatProviderRemovesK49
set_option maxRecDepth 100000
namespace Go.Proofs.YtkhlihpghbhppabGreat.Pv
open Go.RowKit
def AnsR (P : Nat → Prop) (w : World) (r : Pr) (e : Ending) (w' : World) : Prop := ∃ v', e = .returned (.agg (prC r v')) ∧ PIn (New P w 2) w' r v' ∧ Below w.heap.size w w'
theorem prov_end1 {f : Func} {t : Tmp} (hres : f.results = #[.cell t 47]) {P : Nat → Prop} {w wq : World} {zs : Array Value} (R : CAt 47 wq (w.heap.size + 1) zs) (hz : zs.size = 97) (H : Below w.heap.size w wq) (p' : Pr) (v' : PrV) (r : Pr) (hr : r = p') (hp : PIn (New P w 2) wq p' v') (act : Act)
    (h8 : act.tmps.getD t undef = .pointer (some ⟨w.heap.size + 1, 0, none⟩)) (hd : act.defers = []) :
    bodyPost Tryz.prog f (AnsR P w r) Exit.ret act (wq.setCells (w.heap.size + 1) 0 (prC p' v').toList) := by
  subst hr
  have R3 := R.setAll (ds := prC r v') (by rw [hz]; rfl)
  exact bodyPost_ret (v := .agg (prC r v')) (results_prov1 hres _ _ _ _ h8 R3 rfl) hd ⟨v', rfl, hp.sets (new_no (by omega)) _ _, below_sets (Nat.le_succ _) _ _ _ H⟩
/-- a link is taken off -/
theorem pr_gone (p : Pr) (v : PrV) (k : Nat) (hk : k < 2) : (((((prC p v).setIfInBounds (66 + k * 14) (.bool false)).setIfInBounds (66 + k * 14 + 1) (.bool true)).setIfInBounds (66 + k * 14 + 6 + 3) (.bool true)).setIfInBounds (66 + k * 14 + 4) (.bool false)).setIfInBounds (66 + k * 14 + 5) nilV = prC { p with L := updL p.L k (goneLk (p.L k)) } (v.upd k { v.l k with done := nilV }) := by
  obtain ⟨a, c, ha, h1, h2⟩ := pr_split2 p v k hk
  rw [h1, h2, ← Nat.add_zero (66 + k * 14)]
  rw [set_mid _ _ _ _ 0 _ ha (by simp [lkL]), Nat.add_zero, set_mid _ _ _ _ 1 _ ha (by simp [lkL]), Nat.add_assoc (66 + k * 14) 6 3, set_mid _ _ _ _ (6 + 3) _ ha (by simp [lkL]), set_mid _ _ _ _ 4 _ ha (by simp [lkL]), set_mid _ _ _ _ 5 _ ha (by simp [lkL])]
  rfl
attribute [local go_sem ↓] loadS_eq loadP_eq storeP_eq storeS_eq
set_option maxHeartbeats 8000000 in
theorem premove_any (p : Pr) (v : PrV) (P : Nat → Prop) (w : World) (c : Int) (hp : PIn P w p v) (hq88 : p.q.length * 88 ≤ 140737488351232) :
    Calls Tryz.prog 5 #[.agg (prC p v), .int .i64 c] w (AnsR P w (removeP p c)) := by
  have hD : removeP p c = if goodP p = true ∧ isOn p c = true then { p with s := { p.s with W := relW c.toNat 1099511627776 p.s.W }, L := updL p.L c.toNat (goneLk (p.L c.toNat)), q := p.q.filter fun a => decide (a.1 ≠ c) } else p := by unfold removeP; rfl
  generalize removeP p c = D at *
  have HD := hide hD
  clear hD
  have HQ88 := hide hq88
  clear hq88
  have hone := pr_one hp
  have HGD := hide (fun (wx : World) (hb : Below w.heap.size w wx) => pgood_any p v P wx (hp.over hb))
  have HN := hide (fun (wx : World) (hb : Below w.heap.size w wx) => hp.ofNew hb 2)
  have HP := hide hp
  clear hp
  generalize goodP p = G at *
  go_enter Tryz.func5, Tryz.ntmps5
  go_upto_region 1 with fail
  change Code.wp Tryz.prog _ _ _ ((w.alloc (.cells (prC p v) 47)).alloc (.cells Tryz.zeroCells47 47))
  have C0 : CAt 47 ((w.alloc (.cells (prC p v) 47)).alloc (.cells Tryz.zeroCells47 47)) w.heap.size (prC p v) := (CAt.new _ w _).alloc _
  have R0 : CAt 47 ((w.alloc (.cells (prC p v) 47)).alloc (.cells Tryz.zeroCells47 47)) (w.heap.size + 1) Tryz.zeroCells47 := CAt.new2 _ w _ _
  have B0 : Below w.heap.size w ((w.alloc (.cells (prC p v) 47)).alloc (.cells Tryz.zeroCells47 47)) := ((Below.refl _ w).alloc (Nat.le_refl _) _).alloc (by simp) _
  generalize (w.alloc (.cells (prC p v) 47)).alloc (.cells Tryz.zeroCells47 47) = w0 at *
  have l0 := pr_loadP C0 (prC_size _ _)
  have H0 := hide (show _ ∧ _ ∧ _ from ⟨C0, R0, B0⟩)
  clear C0 R0 B0
  by_cases hok : G = true ∧ isOn p c = true
  · obtain ⟨rfl, hon⟩ := hok
    replace HD := hide (HD.out.trans (if_pos ⟨rfl, hon⟩))
    have hcc : isC c = true := by unfold isOn at hon; simp at hon; exact hon.1
    obtain ⟨k, rfl, hk⟩ := isC_of hcc
    rw [Int.toNat_natCast] at HD
    clear hcc
    go_upto_region 3 with (first
      | (go_at_call 6; refine (HGD.out _ H0.out.2.2).mono ?_; rintro e w1 ⟨rfl, hb1⟩; have C1 := H0.out.1.over hb1; clear l0)
      | (go_at_call 12; refine (pison_any w.heap.size p v k _ C1).mono ?_; rintro e w' ⟨rfl, rfl⟩; simp only [hon]))
    have R1 := H0.out.2.1.over hb1
    have B1 := H0.out.2.2.trans (hb1.mono H0.out.2.2.size)
    clear hb1 H0 HGD
    have hkk : (k : Int) < 2 := by omega
    have hkz : (0 : Int) ≤ (k : Int) := by omega
    obtain ⟨c0, c1, -, -, c4, c5, -, -, -, c9⟩ := (C1.lk hk).facts
    have f0 := C1.free (66 + k * 14)
    have f1 := C1.free (66 + k * 14 + 1)
    have f4 := C1.free (66 + k * 14 + 4)
    have f5 := C1.free (66 + k * 14 + 5)
    have f9 := C1.free (66 + k * 14 + 6 + 3)
    have hz1 := C1.lt
    have HC1 := hide (show _ ∧ _ ∧ _ from ⟨C1, R1, B1⟩)
    clear C1 R1 B1 hone
    have HRL := hide (fun (wx : World) (hb : Below w.heap.size w wx) => st_rel (HP.out.ws.over hb) k 1099511627776 hk)
    have HWC := hide (fun (wx : World) (hb : Below w.heap.size w wx) => pwithout_any p.q v.q (fun b => P b ∧ b < w.heap.size) wx k ((HP.out.q.mono (P' := fun b => P b ∧ b < w.heap.size) fun _ hl hP => ⟨hP, hl⟩).keep fun b _ hlt => hb.block b hlt) HQ88.out)
    go_upto_region 7 with fail
    have C2 := ((((HC1.out.1.set (66 + k * 14) (.bool false)).set (66 + k * 14 + 1) (.bool true)).set (66 + k * 14 + 6 + 3) (.bool true)).set (66 + k * 14 + 4) (.bool false)).set (66 + k * 14 + 5) (.slice none 0 0)
    rw [show (Value.slice none 0 0) = nilV from rfl, pr_gone p v k hk] at C2
    have A2 : Alt w.heap.size w1 _ := (((((Alt.refl w.heap.size w1).set (66 + k * 14) (.bool false)).set (66 + k * 14 + 1) (.bool true)).set (66 + k * 14 + 6 + 3) (.bool true)).set (66 + k * 14 + 4) (.bool false)).set (66 + k * 14 + 5) nilV
    have R2 := A2.cat (b := w.heap.size + 1) (by omega) HC1.out.2.1
    have B2 := HC1.out.2.2.trans (A2.below (Nat.le_refl _) HC1.out.2.2.size)
    change Code.wp Tryz.prog _ _ _ (((((w1.setCell ⟨w.heap.size, 66 + k * 14, none⟩ (.bool false)).setCell ⟨w.heap.size, 66 + k * 14 + 1, none⟩ (.bool true)).setCell ⟨w.heap.size, 66 + k * 14 + 6 + 3, none⟩ (.bool true)).setCell ⟨w.heap.size, 66 + k * 14 + 4, none⟩ (.bool false)).setCell ⟨w.heap.size, 66 + k * 14 + 5, none⟩ nilV)
    clear A2 HC1 c0 c1 c4 c5 c9 f0 f1 f4 f5 f9
    generalize ((((w1.setCell ⟨w.heap.size, 66 + k * 14, none⟩ (.bool false)).setCell ⟨w.heap.size, 66 + k * 14 + 1, none⟩ (.bool true)).setCell ⟨w.heap.size, 66 + k * 14 + 6 + 3, none⟩ (.bool true)).setCell ⟨w.heap.size, 66 + k * 14 + 4, none⟩ (.bool false)).setCell ⟨w.heap.size, 66 + k * 14 + 5, none⟩ nilV = w2 at *
    have m2 := pr_loadS C2
    change (loadS (.pointer (some ⟨w.heap.size, 2, none⟩))).run Tryz.prog w2 = .ok (.agg (stC p.s v.ws)) w2 at m2
    have hz2 := R2.lt
    have H2 := hide (show _ ∧ _ ∧ _ from ⟨C2, R2, B2⟩)
    clear C2 R2 B2
    go_upto_region 8 with (go_at_call 13; refine (HRL.out _ H2.out.2.2).mono ?_; rintro e w3 ⟨u3, rfl, U3, hb3⟩; clear m2; have C3 := H2.out.1.over hb3; have sS3 := pr_storeS C3 (prC_size _ _) (stC_size { p.s with W := relW k 1099511627776 p.s.W } u3) (st_one _ U3.one'))
    have R3 := H2.out.2.1.over hb3
    have B3 := H2.out.2.2.trans (hb3.mono H2.out.2.2.size)
    have C4 := C3.stake { p.s with W := relW k 1099511627776 p.s.W } u3
    have R4 := R3.others (c := w.heap.size) (o := 2) (by omega) (stC { p.s with W := relW k 1099511627776 p.s.W } u3).toList
    have B4 := below_sets (b := w.heap.size) (Nat.le_refl _) (stC { p.s with W := relW k 1099511627776 p.s.W } u3).toList 2 _ B3
    have U4 := U3.sets (g := w.heap.size) (fun h => by omega) 2 (stC { p.s with W := relW k 1099511627776 p.s.W } u3).toList
    clear sS3 hb3 H2 C3 R3 B3 U3 HRL
    generalize w3.setCells w.heap.size 2 (stC { p.s with W := relW k 1099511627776 p.s.W } u3).toList = w4 at *
    have a96 : w4.cell? ⟨w.heap.size, 96, none⟩ = some v.q := C4.cell 96
    have hz4 := R4.lt
    have H4 := hide (show _ ∧ _ ∧ _ ∧ _ from ⟨C4, R4, B4, U4⟩)
    clear C4 R4 B4 U4
    obtain ⟨zq, hzl, hzr, hzi⟩ := HP.out.q
    obtain ⟨Aq, nq, Dq, eq⟩ := hzr.one'
    have HQE := hide eq
    rw [eq] at a96 HWC
    clear eq hzl hzr hzi
    go_upto_region 9 with (go_at_call 14; refine (HWC.out _ H4.out.2.2.1).mono ?_; rintro e w5 ⟨u5, rfl, U5, hb5⟩; clear a96; obtain ⟨A5, n5, D5, e5⟩ : ∃ A n C, u5 = .slice A n C := (by obtain ⟨_, _, h, _⟩ := id U5; exact h.one'); subst e5; have C5 := H4.out.1.over hb5; have z96 : w5.cell? ⟨w.heap.size, 96, none⟩ = some v.q := C5.cell 96; have f96 := C5.free 96; have hz5 := C5.lt)
    have C6 := C5.set 96 (.slice A5 n5 D5)
    rw [pr_q] at C6
    have R6 := (H4.out.2.1.over hb5).other (c := w.heap.size) (o := 96) (by omega) (.slice A5 n5 D5)
    have B5 := H4.out.2.2.1.trans (hb5.mono H4.out.2.2.1.size)
    have B6 := B5.setCell (p := ⟨w.heap.size, 96, none⟩) (Nat.le_refl _) (.slice A5 n5 D5)
    have A6 : Alt w.heap.size w5 (w5.setCell ⟨w.heap.size, 96, none⟩ (.slice A5 n5 D5)) := (Alt.refl _ _).set 96 _
    have N6 : PIn (New P w 2) (w5.setCell ⟨w.heap.size, 96, none⟩ (.slice A5 n5 D5)) { p with s := { p.s with W := relW k 1099511627776 p.s.W }, L := updL p.L k (goneLk (p.L k)), q := p.q.filter fun a => decide (a.1 ≠ k) } { ws := u3, set := v.set, l := (v.upd k { v.l k with done := nilV }).l, q := .slice A5 n5 D5 } := by
      have n6 := HN.out _ B6
      have hs2 : w.heap.size + 1 < w4.heap.size := hz4
      refine ⟨?_, n6.set, fun c hc => ?_, ?_⟩
      · have h4 := (H4.out.2.2.2.mono (P' := fun b => w2.heap.size ≤ b ∧ b < w4.heap.size) fun _ hl h => ⟨h, hl⟩).over hb5
        exact (A6.rep (fun h => by omega) h4).mono fun b _ hb => .inr (by omega)
      · have h := n6.lk c hc
        show LkIn _ _ (if c = k then goneLk (p.L k) else p.L c) (if c = k then { v.l k with done := nilV } else v.l c)
        by_cases hck : c = k
        · subst hck
          rw [if_pos rfl, if_pos rfl]
          exact ⟨h.told, Rep.nil _ _ _ _, h.said, h.due⟩
        · rw [if_neg hck, if_neg hck]
          exact h
      · obtain ⟨z, h1, h2, h3⟩ := U5
        have hno : ¬ New (fun b => P b ∧ b < w.heap.size) w4 0 w.heap.size := fun h => by
          rcases h with ⟨h, _⟩ | h
          · have := h.2; omega
          · omega
        have hm : ∀ b, b < (w5.setCell ⟨w.heap.size, 96, none⟩ (.slice A5 n5 D5)).heap.size → New (fun b => P b ∧ b < w.heap.size) w4 0 b → New P w 2 b := fun b _ h => by
          rcases h with ⟨h, _⟩ | h
          · exact .inl h
          · exact .inr (by omega)
        exact ⟨z, h1, (A6.rep hno h2).mono hm, fun i x y hx hy => ⟨(A6.rep hno (h3 i x y hx hy).1).mono hm, (A6.rep hno (h3 i x y hx hy).2).mono hm⟩⟩
    obtain ⟨p6, v6, hd6, K6, M6⟩ : ∃ p6 v6, D = p6 ∧ CAt 47 (w5.setCell ⟨w.heap.size, 96, none⟩ (.slice A5 n5 D5)) w.heap.size (prC p6 v6) ∧ PIn (New P w 2) (w5.setCell ⟨w.heap.size, 96, none⟩ (.slice A5 n5 D5)) p6 v6 := ⟨_, _, HD.out, C6, N6⟩
    have l6 := pr_loadP K6 (prC_size _ _)
    have s6 := pr_storeP R6 Z97_size (prC_size p6 v6) (pr_one M6)
    have HZ := hide (show _ ∧ _ ∧ _ ∧ _ from ⟨R6, B6, M6, hd6⟩)
    clear C6 K6 R6 B6 A6 N6 M6 B5 C5 U5 hb5 H4 HWC z96 f96 HD hd6
    generalize w5.setCell ⟨w.heap.size, 96, none⟩ (.slice A5 n5 D5) = w6 at *
    go_wp2
    exact prov_end1 Tryz.results5 HZ.out.1 Z97_size HZ.out.2.1 p6 v6 D HZ.out.2.2.2 HZ.out.2.2.1 _ rfl rfl
  · replace HD := hide (HD.out.trans (if_neg hok))
    have hcs : G = false ∨ (G = true ∧ isOn p c = false) := by
      cases G
      · exact .inl rfl
      · cases h : isOn p c
        · exact .inr ⟨rfl, rfl⟩
        · exact absurd ⟨rfl, h⟩ hok
    clear hok
    rcases hcs with rfl | ⟨rfl, h1⟩
    all_goals
      go_upto_region 2 with (first
        | (go_at_call 6; refine (HGD.out _ H0.out.2.2).mono ?_; rintro e w1 ⟨rfl, hb1⟩; have C1 := H0.out.1.over hb1; clear l0)
        | (go_at_call 12; refine (pison_any w.heap.size p v c _ C1).mono ?_; rintro e w' ⟨rfl, rfl⟩; simp only [h1]))
      have R1 := H0.out.2.1.over hb1
      have l1 := pr_loadP C1 (prC_size _ _)
      have s1 := pr_storeP R1 Z97_size (prC_size p v) hone
      have B1 := H0.out.2.2.trans (hb1.mono H0.out.2.2.size)
      have HZ := hide (show _ ∧ _ from ⟨R1, B1⟩)
      clear R1 B1 hb1 hone H0 HGD C1
      go_wp2
      exact prov_end1 Tryz.results5 HZ.out.1 Z97_size HZ.out.2 p v D HD.out (HN.out _ HZ.out.2) _ rfl rfl
end Go.Proofs.YtkhlihpghbhppabGreat.Pv

set_option maxRecDepth 100000
namespace Go.Proofs.YtkhlihpghbhppabGreat.Pv
open Go.RowKit
theorem relX_free (c : Nat) (hc : c < 2) (x : Wt) : ¬ (0 < (if c = 0 then (relX c 1099511627776 x).h0 else (relX c 1099511627776 x).h1) ∧ (if c = 0 then (relX c 1099511627776 x).h0 else (relX c 1099511627776 x).h1) ≤ 1099511627776) := by
  unfold relX
  rcases (show c = 0 ∨ c = 1 by omega) with rfl | rfl
  all_goals
    simp
    repeat' split
    all_goals (simp_all <;> omega)
theorem good_gone {h : Int} {x : Lk} (hx : goodLk h x = true) : goodLk h (goneLk x) = true := by
  unfold goodLk goneLk at *
  simp only [Bool.and_eq_true, Ln.goodL] at hx ⊢
  simp_all [riseB]
theorem good_remove {p : Pr} {c : Int} (hg : goodP p = true) (ho : isOn p c = true) : goodP (removeP p c) = true := by
  have hcc : isC c = true := by unfold isOn at ho; simp at ho; exact ho.1
  obtain ⟨k, rfl, hk⟩ := isC_of hcc
  have hD : removeP p k = { p with s := { p.s with W := relW k 1099511627776 p.s.W }, L := updL p.L k (goneLk (p.L k)), q := p.q.filter fun a => decide (a.1 ≠ (k : Int)) } := by
    unfold removeP
    rw [if_pos ⟨hg, ho⟩, Int.toNat_natCast]
  rw [hD]
  have h1 := hg
  unfold goodP at h1 ⊢
  simp only [Bool.and_eq_true, List.all_eq_true, decide_eq_true_eq] at h1 ⊢
  obtain ⟨⟨⟨⟨⟨⟨⟨a1, a2⟩, a3⟩, a4⟩, a5⟩, a6⟩, b0, b1⟩, cq⟩ := h1
  have hl : ∀ i, i < 2 → goodLk p.h (updL p.L k (goneLk (p.L k)) i) = true := fun i hi => by
    have hi2 : goodLk p.h (p.L i) = true := by
      rcases (show i = 0 ∨ i = 1 by omega) with rfl | rfl
      · exact b0
      · exact b1
    unfold updL
    by_cases e : i = k
    · subst e; rw [if_pos rfl]; exact good_gone hi2
    · rw [if_neg e]; exact hi2
  refine ⟨⟨⟨⟨⟨⟨⟨(kp_rel a1 k 1099511627776).good, a2⟩, a3⟩, a4⟩, a5⟩, a6⟩, hl 0 (by omega), hl 1 (by omega)⟩, fun x hx => ?_⟩
  obtain ⟨hx1, hx2⟩ := List.mem_filter.1 hx
  have := cq x hx1
  have hne : x.1 ≠ (k : Int) := by simpa using hx2
  unfold goodQ at this ⊢
  simp only [Bool.and_eq_true, decide_eq_true_eq] at this ⊢
  refine ⟨⟨⟨this.1.1.1, ?_⟩, this.1.2⟩, this.2⟩
  unfold updL
  rw [if_neg (by omega)]
  exact this.1.1.2
attribute [local go_sem ↓] loadS_eq loadP_eq storeP_eq storeS_eq
set_option maxHeartbeats 8000000 in
theorem pbegin_gone (p : Pr) (v : PrV) (P : Nat → Prop) (w : World) (k : Nat) (hp : PIn P w p v) (hk : k < 2) (hg : goodP p = true) (hgo : (p.L k).gone = true) :
    Calls Tryz.prog 8 #[.agg (prC p v), .int .i64 (k : Int)] w (AnsP P w (p, 11)) := by
  have hone := pr_one hp
  have hgd := fun (wx : World) (hb : Below w.heap.size w wx) => pgood_any p v P wx (hp.over hb)
  rw [hg] at hgd
  have HGD := hide hgd
  have HN := hide (fun (wx : World) (hb : Below w.heap.size w wx) => hp.ofNew hb 2)
  have HP := hide hp
  have hcc : isC (k : Int) = true := by unfold isC; simp; omega
  have hkk : (k : Int) < 2 := by omega
  have hkz : (0 : Int) ≤ (k : Int) := by omega
  clear hp hgd
  go_enter Tryz.func8, Tryz.ntmps8
  go_upto_region 1 with fail
  change Code.wp Tryz.prog _ _ _ ((w.alloc (.cells (prC p v) 47)).alloc (.cells Tryz.zeroCells47 47))
  have C0 : CAt 47 ((w.alloc (.cells (prC p v) 47)).alloc (.cells Tryz.zeroCells47 47)) w.heap.size (prC p v) := (CAt.new _ w _).alloc _
  have R0 : CAt 47 ((w.alloc (.cells (prC p v) 47)).alloc (.cells Tryz.zeroCells47 47)) (w.heap.size + 1) Tryz.zeroCells47 := CAt.new2 _ w _ _
  have B0 : Below w.heap.size w ((w.alloc (.cells (prC p v) 47)).alloc (.cells Tryz.zeroCells47 47)) := ((Below.refl _ w).alloc (Nat.le_refl _) _).alloc (by simp) _
  generalize (w.alloc (.cells (prC p v) 47)).alloc (.cells Tryz.zeroCells47 47) = w0 at *
  have l0 := pr_loadP C0 (prC_size _ _)
  have H0 := hide (show _ ∧ _ ∧ _ from ⟨C0, R0, B0⟩)
  clear C0 R0 B0
  go_upto_region 3 with (go_at_call 6; refine (HGD.out _ H0.out.2.2).mono ?_; rintro e w1 ⟨rfl, hb1⟩; clear l0)
  have C1 := H0.out.1.over hb1
  have R1 := H0.out.2.1.over hb1
  have B1 := H0.out.2.2.trans (hb1.mono H0.out.2.2.size)
  have c1 := (C1.lk hk).facts.2.1
  rw [hgo] at c1
  have l1 := pr_loadP C1 (prC_size _ _)
  have s1 := pr_storeP R1 Z97_size (prC_size p v) hone
  have hz1 := R1.lt
  have HZ := hide (show _ ∧ _ from ⟨R1, B1⟩)
  have HCC := hide hcc
  clear C1 R1 B1 hb1 hone H0 HGD hcc
  go_wp2_with (go_at_call 22; refine (pcons_any _ _).mono ?_; rintro e w' ⟨rfl, rfl⟩; simp only [HCC.out])
  exact prov_end2 Tryz.results8 HZ.out.1 Z97_size HZ.out.2 p v 11 (p, 11) rfl (HN.out _ HZ.out.2) _ rfl rfl rfl
end Go.Proofs.YtkhlihpghbhppabGreat.Pv

