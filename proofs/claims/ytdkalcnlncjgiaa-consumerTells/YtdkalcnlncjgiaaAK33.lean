/- Parts of the proof: KRD. -/
import Derived.Test.YtdkalcnlncjgiaaRows
import Derived.Test.YtdkalcnlncjgiaaAK32
import Derived.Deep.RegionHeld3
set_option maxRecDepth 100000
namespace Go.Proofs.Ytdkalcnlncjgiaa.Kc
open Go.RowKit Pv
/-- all orders come to one frame, with a consumer's slices -/
def Joinu (F : CsV → Nat → Act) (R : CsV → Nat → World → Prop) (ex : Exit) (a : Act) (w : World) : Prop := ∃ u g, ex = Exit.normal ∧ a = F u g ∧ R u g w
theorem wp_joinu {P : Program} {c : Code} {Q : Exit → Act → World → Prop} {a : Act} {w : World} (R : CsV → Nat → World → Prop) (F : CsV → Nat → Act) (h1 : Code.wp P c (Joinu F R) a w) (h2 : ∀ u g w', R u g w' → Q Exit.normal (F u g) w') : Code.wp P c Q a w :=
  Code.wp_mono (fun e a' w' h => by obtain ⟨u, g, rfl, rfl, h⟩ := h; exact h2 u g w' h) h1
/-- a consumer in a block, its lists elsewhere -/
structure Sits (P : Nat → Prop) (w2 : World) (c : Cs) (u : CsV) (g : Nat) (w : World) : Prop where
  cat : CAt 33 w g (csC c u)
  cin : CIn (fun b => P b ∧ b ≠ g) w c u
  bel : Below w2.heap.size w2 w
  le : w2.heap.size ≤ g
theorem sits_new {P : Nat → Prop} {w2 wb : World} {c : Cs} {u : CsV} (h : CIn P wb c u) (hb : Below w2.heap.size w2 wb) : Sits P w2 c u wb.heap.size (laidW wb c u) :=
  ⟨laid_cat wb c u, ((h.mono (P' := fun b => P b ∧ b ≠ wb.heap.size) fun b hl hp => ⟨hp, by omega⟩).over (laid_below wb c u)), hb.trans ((laid_below wb c u).mono hb.size), hb.size⟩
theorem sits_old {P : Nat → Prop} {w2 wb : World} {c : Cs} {u : CsV} {g : Nat} (h : CIn (fun b => P b ∧ b ≠ g) wb c u) (hb : Below w2.heap.size w2 wb) (hg : w2.heap.size ≤ g) (hc : CAt 33 wb g Z22) : Sits P w2 c u g (wb.setCells g 0 (csC c u).toList) :=
  ⟨hc.setAll (by rw [Z22_size]; rfl), h.sets (fun e => e.2 rfl) _ _, below_sets hg _ _ _ hb, hg⟩
attribute [local go_sem ↓] loadC_eq storeC_eq
set_option maxHeartbeats 8000000 in
theorem rdown_any (c : Cs) (v : CsV) (x now : Int) (P : Nat → Prop) (w : World) (hp : CIn P w c v) (h80 : c.pd.length * 80 ≤ 140737488351232) (h16 : c.rp.length * 16 ≤ 168884986026393) :
    Calls Try.prog 13 #[.agg (csC c v), .int .i64 x, .int .i64 now] w (AnsC P w (downC c x now)) := by
  have hD : downC c x now = if isT now = true then (if refC c = 0 then (if powN x c.set = 0 then (c, 4) else if c.fl x.toNat = true then (c, 5) else if (sayC c 3 c.id x (powN x c.set) now).2 = 0 then ({ (sayC c 3 c.id x (powN x c.set) now).1 with fl := updF c.fl x.toNat true }, 0) else (c, (sayC c 3 c.id x (powN x c.set) now).2)) else (c, refC c)) else (c, 2) := rfl
  have HRC : Hid (refC c = if goodC c = true then (if c.on = true then 0 else 4) else 2) := rfl
  have HIT : Hid (isT now = (decide (0 ≤ now) && decide (now ≤ 1099511627776))) := rfl
  have HS2 := hide (fun h => say_er (c := c) (k := 3) (i := c.id) (x := x) (n := powN x c.set) (now := now) h)
  have HSF : Hid ((sayC c 3 c.id x (powN x c.set) now).1.fl = c.fl) := by unfold sayC; split <;> rfl
  have HB := hide (begC hp)
  have HGD := hide (fun (wx : World) (h : BegC P w wx c v) => rgoodc_any c v P wx h.I0)
  have HRW := hide (fun (wx : World) (h : BegC P w wx c v) => rrow_rep c.set v.set P wx h.I0.set)
  have HSY := hide (fun (Q : Nat → Prop) (wx : World) (h : CIn Q wx c v) (h0 : 0 ≤ now) (h1 : now ≤ 1099511627776) => rsaying_any c v 3 c.id x (powN x c.set) now Q wx h h0 h1 h80 h16)
  have HPI : Hid (goodC c = true → powN x c.set ≠ 0 → -1 < x ∧ x ≤ 5) := fun h1 h2 => by
    have := powN_in (good_parts h1).2.2.2.1 h2
    exact ⟨this.1, this.2.1⟩
  have HFP := hide (fun m (hm : m < 6) => first_pow hm c.set)
  have HIX := hide (fun m (hm : m < 6) (wx : World) => Df.ixAll (Df.firstP c.set) hm wx)
  have HD := hide hD
  clear hp hD h80 h16
  generalize downC c x now = D at *
  generalize hSS : sayC c 3 c.id x (powN x c.set) now = SS at *
  clear hSS
  obtain ⟨c2, er⟩ := SS
  dsimp only at HS2 HSF HSY HD
  generalize refC c = RC at *
  generalize goodC c = G at *
  go_enter Try.func13, Try.ntmps13
  go_upto_region 1 with fail
  change Code.wp Try.prog _ _ _ ((w.alloc (.cells (csC c v) 33)).alloc (.cells Z22 33))
  generalize (w.alloc (.cells (csC c v) 33)).alloc (.cells Z22 33) = w0 at *
  obtain ⟨l0, -⟩ := HB.out.facts
  have hcs : (D = (c, 2) ∧ (G = false ∨ (G = true ∧ (now < 0 ∨ (0 ≤ now ∧ 1099511627776 < now))))) ∨ (G = true ∧ 0 ≤ now ∧ now ≤ 1099511627776) := by
    by_cases hT : 0 ≤ now ∧ now ≤ 1099511627776
    · cases G
      · left
        refine ⟨?_, .inl rfl⟩
        have e1 : RC = 2 := by rw [HRC.out]; simp
        rw [HD.out, HIT.out, e1]
        simp
      · exact .inr ⟨rfl, hT⟩
    · left
      refine ⟨?_, ?_⟩
      · rw [HD.out, if_neg]
        rw [HIT.out]
        simp only [Bool.and_eq_true, decide_eq_true_eq]
        exact hT
      · cases G
        · exact .inl rfl
        · exact .inr ⟨rfl, by omega⟩
  rcases hcs with ⟨hr, hcs⟩ | ⟨rfl, hn0, hn1⟩
  · have HR := hide hr
    clear hr HD HRC HIT
    rcases hcs with rfl | ⟨rfl, h1 | ⟨h1, h2⟩⟩
    all_goals
      go_upto_region 2 with (go_at_call 23; refine (HGD.out _ HB.out).mono ?_; rintro e w1 ⟨rfl, hb1⟩; have HB1 := hide (HB.out.over hb1); clear hb1 l0; obtain ⟨l1, s1⟩ := HB1.out.facts)
      go_wp2
      exact HB1.out.asItWas Try.results13 _ _ HR.out _ rfl rfl rfl
  have hT : isT now = true := by rw [HIT.out]; simp [hn0, hn1]
  have HR := hide (HD.out.trans (if_pos hT))
  replace HPI := hide (HPI.out rfl)
  clear HD HIT hT
  go_upto_region 3 with (go_at_call 23; refine (HGD.out _ HB.out).mono ?_; rintro e w1 ⟨rfl, hb1⟩; have HB1 := hide (HB.out.over hb1); clear hb1 l0)
  have a0 := (cs_facts HB1.out.C0).1.1
  have a5 := (cs_facts HB1.out.C0).2.1.1
  cases hon : c.on
  · have e : RC = 4 := by rw [HRC.out, hon]; simp
    subst e
    replace HR := hide (HR.out.trans (if_neg (by decide)))
    clear HRC
    rw [hon] at a0
    obtain ⟨l1, s1⟩ := HB1.out.facts
    go_wp2
    exact HB1.out.asItWas Try.results13 _ _ HR.out _ rfl rfl rfl
  have e : RC = 0 := by rw [HRC.out, hon]; simp
  subst e
  replace HR := hide (HR.out.trans (if_pos rfl))
  clear HRC
  rw [hon] at a0
  have hxs : (x < 0 ∨ (0 ≤ x ∧ 5 < x)) ∨ ∃ y : Nat, x = (y : Int) ∧ y < 6 := by
    by_cases h0 : 0 ≤ x ∧ x ≤ 5
    · exact .inr ⟨x.toNat, by omega, by omega⟩
    · exact .inl (by omega)
  rcases hxs with hxs | ⟨y, rfl, hy6⟩
  · have hpw : powN x c.set = 0 := by
      rcases Int.decEq (powN x c.set) 0 with h | h
      · have := HPI.out h; omega
      · exact h
    replace HR := hide (HR.out.trans (if_pos hpw))
    clear hpw
    obtain ⟨l1, s1⟩ := HB1.out.facts
    rcases hxs with h1 | ⟨h1, h2⟩
    all_goals
      go_wp2
      exact HB1.out.asItWas Try.results13 _ _ HR.out _ rfl rfl rfl
  have hyI : (y : Int) < 6 := by omega
  have hy5 : (y : Int) ≤ 5 := by omega
  have hy0 : (0 : Int) ≤ (y : Int) := by omega
  have hix := HIX.out y hy6
  rw [HFP.out y hy6] at hix
  rw [Int.toNat_natCast] at HR
  generalize powN (y : Int) c.set = pw at *
  by_cases hpw : pw = 0
  · subst hpw
    replace HR := hide (HR.out.trans (if_pos rfl))
    go_upto_region 4 with (go_at_call 34; refine (HRW.out _ HB1.out).mono ?_; rintro e w2 ⟨rfl, hb2⟩; have HB2 := hide (HB1.out.over hb2); clear hb2 a5 a0)
    obtain ⟨l1, s1⟩ := HB2.out.facts
    go_wp2
    exact HB2.out.asItWas Try.results13 _ _ HR.out _ rfl rfl rfl
  replace HR := hide (HR.out.trans (if_neg hpw))
  have hpw' : (pw == 0) = false := by simpa using hpw
  go_upto_region 5 with (go_at_call 34; refine (HRW.out _ HB1.out).mono ?_; rintro e w2 ⟨rfl, hb2⟩; have HB2 := hide (HB1.out.over hb2); clear hb2 a5 a0)
  have aF : w2.cell? ⟨w.heap.size, 8 + y, none⟩ = some (.bool (c.fl y)) := (HB2.out.C0.cell _).trans (get_fl c v hy6)
  cases hfl : c.fl y
  rotate_left
  · rw [hfl] at aF
    replace HR := hide (HR.out.trans (if_pos (by rw [hfl])))
    obtain ⟨l1, s1⟩ := HB2.out.facts
    go_wp2
    exact HB2.out.asItWas Try.results13 _ _ HR.out _ rfl rfl rfl
  rw [hfl] at aF
  replace HR := hide (HR.out.trans (if_neg (by rw [hfl]; simp)))
  go_upto_region 7 with fail
  clear aF
  have HLF : Hid (∀ wx, Below w2.heap.size w2 wx → wx.cell? ⟨w.heap.size, 4, none⟩ = some (.int .i64 c.id) ∧ wx.cell? ⟨w.heap.size, 5, none⟩ = some v.set ∧ (loadC (.pointer (some ⟨w.heap.size, 0, none⟩))).run Try.prog wx = .ok (.agg (csC c v)) wx) := fun wx hb => ⟨(cs_facts (HB2.out.over hb).C0).1.2.2.2.2, (cs_facts (HB2.out.over hb).C0).2.1.1, (HB2.out.over hb).facts.1⟩
  have hz2 : w.heap.size + 2 ≤ w2.heap.size := HB2.out.R0.lt
  have HAL : Hid (Below w2.heap.size w2 (w2.drew.alloc (.cells Z22 33))) := (Below.refl _ w2).drew.alloc (Nat.le_refl _) _
  have HAC : Hid (CAt 33 (w2.drew.alloc (.cells Z22 33)) w2.heap.size Z22) := CAt.new 33 w2.drew Z22
  have HNW : Hid (∀ wx, Below w2.heap.size w2 wx → CIn (fun b => New P w 2 b ∧ b < w2.heap.size) wx c v) := fun wx hb => (HB2.out.N0.mono (P' := fun b => New P w 2 b ∧ b < w2.heap.size) fun b hl hp => ⟨hp, hl⟩).over hb
  have HOUT : Hid (∀ (g : Nat) (ws wx : World) (u : CsV), w2.heap.size ≤ ws.heap.size → CIn (New (fun b => New P w 2 b ∧ b < w2.heap.size) ws 3) wx c2 u → (w2.heap.size ≤ g ∧ (g < ws.heap.size ∨ wx.heap.size ≤ g)) → CIn (fun b => New P w 2 b ∧ b ≠ g) wx c2 u) := fun g ws wx u hs h hg => h.mono fun b hl hb => by
    rcases hb with ⟨hb, _⟩ | hb
    · exact ⟨hb.1, by omega⟩
    · exact ⟨.inr (by omega), by omega⟩
  have HAL' : Hid (Below w2.heap.size w2 (w2.alloc (.cells Z22 33))) := (Below.refl _ w2).alloc (Nat.le_refl _) _
  have HALd := hide HAL'.out.drew
  have HACd : Hid (CAt 33 (w2.alloc (.cells Z22 33)).drew w2.heap.size Z22) := CAt.new 33 w2 Z22
  clear HAL HAC
  unfold Z22 at HAL' HALd
  have HGO := hide (fun (u : CsV) (Q : Nat → Prop) (wx : World) (h : CIn Q wx c2 u) => laid_store h)
  apply wp_joinu (fun u g w5 => Sits (New P w 2) w2 c2 u g w5)
  · refine wp_region_noPanic ?_
    have hb := Below.refl w2.heap.size w2
    go_region_held3 (fun wx => wx.cell? ⟨w.heap.size, 4, none⟩ = some (.int .i64 c.id) ∧ wx.cell? ⟨w.heap.size, 5, none⟩ = some v.set ∧ (loadC (.pointer (some ⟨w.heap.size, 0, none⟩))).run Try.prog wx = .ok (.agg (csC c v)) wx) ((refine HLF.out _ ?_; first | with_reducible exact hb | with_reducible exact hb.drew | with_reducible exact hb.alloc hb.size _ | with_reducible exact (hb.alloc hb.size _).drew | with_reducible exact hb.drew.alloc hb.drew.size _ | with_reducible exact HST.out.bel)) (first
      | (go_at_call 34; refine (HRW.out _ (HB2.out.over (by with_reducible exact (Below.refl _ w2).drew))).mono ?_; rintro e wa ⟨rfl, hba⟩; have hb := (Below.refl w2.heap.size w2).drew.trans hba; have HBa := hide hb; clear hba; have HBA2 := hide (HBa.out.alloc HBa.out.size (.cells Z22 33)); unfold Z22 at HBA2; have hwa : w2.heap.size ≤ wa.heap.size := HBa.out.size)
      | (go_at_call 34; refine (HRW.out _ (HB2.out.over (by with_reducible exact HALd.out))).mono ?_; rintro e wa ⟨rfl, hba⟩; have HCa := hide (HACd.out.over hba); have hb := HALd.out.trans (hba.mono HALd.out.size); have HBa := hide hb; clear hba; have hwa : w2.heap.size ≤ wa.heap.size := HBa.out.size)
      | (go_at_call 25; have _m := HCa; refine (HSY.out _ _ (HNW.out _ (by with_reducible exact HBa.out)) hn0 hn1).mono ?_; rintro e wb ⟨vb, rfl, Ib, hbb⟩; dsimp only at Ib; dsimp only; have HIb := hide (HOUT.out w2.heap.size wa wb vb hwa Ib ⟨Nat.le_refl _, .inl HCa.out.lt⟩); have hb := HBa.out.trans (hbb.mono HBa.out.size); have HBb := hide hb; have HCb := hide (HCa.out.over hbb); have sC := cs_store HCb.out Z22_size (csC_size c2 vb) (cs_one HIb.out); have HST := hide (sits_old HIb.out HBb.out (Nat.le_refl _) HCb.out); clear Ib hbb)
      | (go_at_call 25; refine (HSY.out _ _ (HNW.out _ (by with_reducible exact HBa.out)) hn0 hn1).mono ?_; rintro e wb ⟨vb, rfl, Ib, hbb⟩; dsimp only at Ib; dsimp only; have HIb1 := hide (HOUT.out wb.heap.size wa wb vb hwa Ib ⟨by have := hbb.size; omega, .inr (Nat.le_refl _)⟩); have sA := HGO.out vb _ _ HIb1.out; unfold Z22 at sA; have hb := HBa.out.trans (hbb.mono HBa.out.size); have HBb := hide hb; have HST := hide (sits_new (HIb1.out.mono fun _ _ h => h.1) HBb.out); clear Ib hbb)
      | (go_at_call 25; refine (HSY.out _ _ (HNW.out _ (by with_reducible exact HBA2.out)) hn0 hn1).mono ?_; rintro e wb ⟨vb, rfl, Ib, hbb⟩; dsimp only at Ib; dsimp only; have hga : CAt 33 (wa.alloc (.cells Z22 33)) wa.heap.size Z22 := CAt.new _ wa _; have HIb2 := hide (HOUT.out wa.heap.size (wa.alloc (.cells Z22 33)) wb vb (Nat.le_trans hwa (by simp)) Ib ⟨hwa, .inl hga.lt⟩); have hb := HBA2.out.trans (hbb.mono HBA2.out.size); have HBb := hide hb; have HCb2 := hide (hga.over hbb); have sB := cs_store HCb2.out Z22_size (csC_size c2 vb) (cs_one HIb2.out); have HST := hide (sits_old HIb2.out HBb.out hwa HCb2.out); clear Ib hbb hga))
    all_goals first
      | (have _m := HIb1; obtain ⟨g, hg⟩ : ∃ g, g = wb.heap.size := ⟨_, rfl⟩; rw [← hg]; exact NoPanic.normal ⟨vb, g, rfl, rfl, by subst hg; exact HST.out⟩)
      | (have _m := HIb; obtain ⟨g, hg⟩ : ∃ g, g = w2.heap.size := ⟨_, rfl⟩; rw [← hg]; exact NoPanic.normal ⟨vb, g, rfl, rfl, by subst hg; exact HST.out⟩)
      | (have _m := HIb2; obtain ⟨g, hg⟩ : ∃ g, g = wa.heap.size := ⟨_, rfl⟩; rw [← hg]; exact NoPanic.normal ⟨vb, g, rfl, rfl, by subst hg; exact HST.out⟩)
  rintro u g3 w5 S5
  have C5 := S5.cat
  have R5 := HB2.out.R0.over S5.bel
  have B5 := HB2.out.B0.trans (S5.bel.mono HB2.out.B0.size)
  have HIO := hide S5.cin
  have N5 : CIn (New P w 2) w5 c2 u := S5.cin.mono fun _ _ h => h.1
  have hg3 := S5.le
  clear S5
  simp only [Exit.then]
  apply_assumption
  by_cases her : er = 0
  · subst her
    replace HR := hide (HR.out.trans (if_pos rfl))
    have fF := C5.free (8 + y)
    have aF : w5.cell? ⟨g3, 8 + y, none⟩ = some (.bool (c2.fl y)) := (C5.cell _).trans (get_fl c2 u hy6)
    have hlt5 := C5.lt
    have C6 := C5.set (8 + y) (.bool true)
    rw [set_fl c2 u hy6, HSF.out] at C6
    have R6 := R5.other (c := g3) (o := 8 + y) (by omega) (.bool true)
    have B6 := B5.setCell (p := ⟨g3, 8 + y, none⟩) (by show w.heap.size ≤ g3; omega) (.bool true)
    have N5' := HIO.out
    have N6' : CIn (fun b => New P w 2 b ∧ b ≠ g3) (w5.setCell ⟨g3, 8 + y, none⟩ (.bool true)) c2 u := N5'.keep fun b hb _ => Below.heap_setCell w5 ⟨g3, 8 + y, none⟩ _ b hb.2
    have N7 := N6'.mono (P' := New P w 2) fun b _ hb => hb.1
    have N6 : CIn (New P w 2) (w5.setCell ⟨g3, 8 + y, none⟩ (.bool true)) { c2 with fl := updF c.fl y true } u := ⟨N7.set, N7.pd, N7.rp, N7.said, N7.due⟩
    have l6 := cs_load C6 (csC_size _ _)
    have s6 := cs_store R6 Z22_size (csC_size { c2 with fl := updF c.fl y true } u) (cs_one N6)
    have HZ := hide (show _ ∧ _ ∧ _ from ⟨R6, B6, N6⟩)
    clear C6 R6 B6 N6 N6' N7 N5' C5 R5 B5 N5 HIO
    go_upto_region 10 with fail
    clear aF fF
    generalize w5.setCell ⟨g3, 8 + y, none⟩ (.bool true) = w6 at *
    go_wp2
    exact cs_end2 Try.results13 HZ.out.1 Z22_size HZ.out.2.1 _ _ 0 D HR.out HZ.out.2.2 _ rfl rfl rfl
  · replace HR := hide (HR.out.trans (if_neg her))
    have her' : (er == 0) = false := by simpa using her
    have e2 := HS2.out her
    subst e2
    have l6 := cs_load C5 (csC_size _ _)
    have s6 := cs_store R5 Z22_size (csC_size c2 u) (cs_one N5)
    have HZ := hide (show _ ∧ _ ∧ _ from ⟨R5, B5, N5⟩)
    clear C5 R5 B5 N5 HIO
    go_wp2
    exact cs_end2 Try.results13 HZ.out.1 Z22_size HZ.out.2.1 _ _ er D HR.out HZ.out.2.2 _ rfl rfl rfl
end Go.Proofs.Ytdkalcnlncjgiaa.Kc

