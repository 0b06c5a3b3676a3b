/- Parts of the proof: PTL PFN. -/
import Derived.Test.YtjghbciepinofaaGreatRows
import Derived.Test.YtjghbciepinofaaGreatOK17
import Derived.Test.YtjghbciepinofaaGreatOK27
import Derived.Test.YtjghbciepinofaaGreatOK30
import Derived.Test.YtjghbciepinofaaGreatOK31
import Derived.Test.YtjghbciepinofaaGreatOK32
import Derived.Test.YtjghbciepinofaaGreatOK33
import Derived.Test.YtjghbciepinofaaGreatOK50
import Derived.Test.YtjghbciepinofaaGreatOK51
import Derived.BigQuiet
import Derived.Deep.QuietTactic
import Derived.Deep.RegionHeld3
set_option maxRecDepth 100000
namespace Go.Proofs.YtjghbciepinofaaGreat.Pv
open Go.RowKit
attribute [local go_sem ↓] storeK_eq storeN_eq
set_option maxHeartbeats 8000000 in
theorem ptell_any (g : Nat) (p : Pr) (v : PrV) (P : Nat → Prop) (w : World) (c : Nat) (hc : c < 2) (hC : CAt 47 w g (prC p v)) (hp : PIn P w p v) (hg : ¬ P g) (ht0 : 0 ≤ p.t) (ht1 : p.t ≤ 1099511627776) :
    Calls Tryz.prog 32 #[.pointer (some ⟨g, 0, none⟩), .pointer (some ⟨g, 66 + c * 14, none⟩)] w (Turns w g P (tellP p c)) := by
  obtain ⟨o, ho⟩ : ∃ o, o = 66 + c * 14 := ⟨_, rfl⟩
  rw [← ho]
  have hD : tellP p c = if quietB p (p.L c) = true then p
    else if Cd.goodN 1 p.h 0 0 (Df.diffL (p.L c).told p.set) (p.L c).done = 0 then
      if Ln.sayE (p.L c).out (p.t + 40) = 0 then { p with L := updL p.L c { p.L c with out := Ln.sayL (p.L c).out (Cd.encS 1 p.h 0 0 (Df.diffL (p.L c).told p.set) (p.L c).done) (p.t + 40), told := p.set, fresh := false, done := [] } } else p
    else p := rfl
  have HQB : Hid (quietB p (p.L c) = (!(p.L c).on || (decide ((p.L c).told = p.set) && !(p.L c).fresh && decide ((p.L c).done.length = 0)))) := rfl
  generalize tellP p c = D at *
  have HD := hide hD
  have hL := hp.lk c hc
  have HEQ := hide (fun (wx : World) (hb : Below w.heap.size w wx) => equalP_any (p.L c).told p.set (v.l c).told v.set P P wx (hL.told.over hb) (hp.set.over hb))
  have HDF := hide (fun (wx : World) (hb : Below w.heap.size w wx) => st_diff (hL.told.over hb) (hp.set.over hb))
  obtain ⟨Ad, Cd0, ed, sd, -, -, -⟩ := hL.done.open (inC_length _) (by decide)
  have HF : Hid (∀ wx, Below w.heap.size w wx → wx.cell? ⟨g, o, none⟩ = some (.bool (p.L c).on) ∧ wx.cell? ⟨g, o + 3, none⟩ = some (v.l c).told ∧ wx.cell? ⟨g, o + 4, none⟩ = some (.bool (p.L c).fresh) ∧ wx.cell? ⟨g, o + 5, none⟩ = some (v.l c).done ∧ wx.cell? ⟨g, 65, none⟩ = some v.set ∧ wx.cell? ⟨g, 0, none⟩ = some (.int .i64 p.h) ∧ wx.cell? ⟨g, 1, none⟩ = some (.int .i64 p.t)) := fun wx hb => by
    have C := hC.over hb
    have hlk := (C.lk hc).facts
    rw [← ho] at hlk
    obtain ⟨f0, -, -, f3, f4, f5, -⟩ := hlk
    exact ⟨f0, f3, f4, f5, C.cell 65, C.cell 0, C.cell 1⟩
  have HO := hide ho
  have HP := hide hp
  have HC := hide hC
  have hgl := hC.lt
  clear hD hp hC hL ho
  have HQ : Hid (∀ wx, Below w.heap.size w wx → D = p → Turns w g P D (.returned (.tuple #[])) wx) := fun wx hb e => by
    rw [e]
    exact ⟨v, rfl, HC.out.over hb, HP.out.ofNew hb 0, Alt.of hb⟩
  obtain ⟨f0, f3, f4, f5, f65, f00, f01⟩ := HF.out w (Below.refl _ _)
  rw [ed] at f5
  go_enter Tryz.func32, Tryz.ntmps32
  cases hon : (p.L c).on
  · have hq : Hid (D = p) := HD.out.trans (if_pos (by rw [HQB.out, hon]; rfl))
    rw [hon] at f0
    go_upto_region 0 with fail
    go_quiet (fail)
    go_wp2
    go_end0
    exact HQ.out _ (below_drewN (Below.refl _ _) _) hq.out
  rw [hon] at f0
  have hqb : Hid (quietB p (p.L c) = (decide ((p.L c).told = p.set) && !(p.L c).fresh && decide ((p.L c).done.length = 0))) := by rw [Hid, HQB.out, hon]; rfl
  clear HQB
  generalize decide ((p.L c).told = p.set) = E at *
  have hcs : (E = true ∧ (p.L c).fresh = false ∧ (p.L c).done.length = 0) ∨ (E = false ∨ (E = true ∧ (p.L c).fresh = true) ∨ (E = true ∧ (p.L c).fresh = false ∧ (p.L c).done.length ≠ 0)) := by
    cases E <;> cases (p.L c).fresh <;> by_cases h : (p.L c).done.length = 0 <;> simp [h]
  rcases hcs with ⟨rfl, hfr, hdl⟩ | hcs
  · have hq : Hid (D = p) := HD.out.trans (if_pos (by rw [hqb.out, hfr]; simp [hdl]))
    rw [hdl] at f5 ed
    rw [hfr] at f4
    have HS0 : Hid (∀ wx, Below w.heap.size w wx → wx.cell? ⟨g, o, none⟩ = some (.bool true) ∧ wx.cell? ⟨g, o + 3, none⟩ = some (v.l c).told ∧ wx.cell? ⟨g, o + 4, none⟩ = some (.bool false) ∧ wx.cell? ⟨g, o + 5, none⟩ = some (.slice Ad 0 Cd0) ∧ wx.cell? ⟨g, 65, none⟩ = some v.set) := fun wx hb => by
      obtain ⟨f0, f3, f4, f5, f65, -⟩ := HF.out wx hb
      rw [hon] at f0; rw [hfr] at f4; rw [ed] at f5
      exact ⟨f0, f3, f4, f5, f65⟩
    clear f0 f3 f4 f5 f65 f00 f01
    go_upto_region 0 with fail
    apply wp_join (fun w' => Below w.heap.size w w')
    · refine wp_region_noPanic ?_
      have hb := Below.refl w.heap.size w
      go_region_held3 (fun wx => wx.cell? ⟨g, o, none⟩ = some (.bool true) ∧ wx.cell? ⟨g, o + 3, none⟩ = some (v.l c).told ∧ wx.cell? ⟨g, o + 4, none⟩ = some (.bool false) ∧ wx.cell? ⟨g, o + 5, none⟩ = some (.slice Ad 0 Cd0) ∧ wx.cell? ⟨g, 65, none⟩ = some v.set) ((refine HS0.out _ ?_; first | with_reducible exact hb | with_reducible exact hb.drew)) ((go_at_call 70; refine (HEQ.out _ (by exact (Below.refl _ w).drew)).mono ?_; rintro e w1 ⟨rfl, hb1⟩; have hb := (Below.refl w.heap.size w).drew.trans hb1; clear hb1; dsimp only))
      all_goals exact NoPanic.normal ⟨rfl, rfl, hb⟩
    intro w1 b1
    simp only [Exit.then]
    apply_assumption
    go_wp2
    go_end0
    exact HQ.out _ b1 hq.out
  have hnq : quietB p (p.L c) = false := by
    rw [hqb.out]
    rcases hcs with rfl | ⟨rfl, h⟩ | ⟨rfl, h, h'⟩
    · rfl
    · rw [h]; rfl
    · rw [h]; simp [h']
  replace HD := hide (HD.out.trans (if_neg (by rw [hnq]; simp)))
  clear hqb hnq
  rcases hcs with rfl | ⟨rfl, hfr⟩ | ⟨rfl, hfr, hdl⟩
  · have HS0 : Hid (∀ wx, Below w.heap.size w wx → wx.cell? ⟨g, o, none⟩ = some (.bool true) ∧ wx.cell? ⟨g, o + 3, none⟩ = some (v.l c).told ∧ wx.cell? ⟨g, o + 4, none⟩ = some (.bool (p.L c).fresh) ∧ wx.cell? ⟨g, o + 5, none⟩ = some (.slice Ad (p.L c).done.length Cd0) ∧ wx.cell? ⟨g, 65, none⟩ = some v.set) := fun wx hb => by
      obtain ⟨f0, f3, f4, f5, f65, -⟩ := HF.out wx hb
      rw [hon] at f0; rw [ed] at f5
      exact ⟨f0, f3, f4, f5, f65⟩
    clear f0 f3 f4 f5 f65 f00 f01
    go_upto_region 0 with fail
    apply wp_join (fun w' => Below w.heap.size w w')
    · refine wp_region_noPanic ?_
      refine wp_region_held_drew (S := fun wx => wx.cell? ⟨g, o, none⟩ = some (.bool true) ∧ wx.cell? ⟨g, o + 3, none⟩ = some (v.l c).told ∧ wx.cell? ⟨g, o + 4, none⟩ = some (.bool (p.L c).fresh) ∧ wx.cell? ⟨g, o + 5, none⟩ = some (.slice Ad (p.L c).done.length Cd0) ∧ wx.cell? ⟨g, 65, none⟩ = some v.set) (by kernel_rfl) (HS0.out _ (Below.refl _ _).drew) (fun hHeld => ?_)
      refine Od.anyH_sl (i := 0) (v := (.pointer (some ⟨g, o, none⟩))) (some 8) rfl rfl (by kernel_rfl) (by kernel_rfl) (by kernel_rfl) (fun _ _ _ h => h) (Or.inl ⟨by rfl, fun wx hSw => ?_⟩) hHeld ?_
      · try dsimp only at hSw
        go_simp
      simp only [Act.put, List.setIfInBounds_toArray, List.set_cons_zero, List.set_cons_succ]
      refine Od.anyH_sl (i := 1) (v := (.pointer (some ⟨g, o, none⟩))) (some 9) rfl rfl (by kernel_rfl) (by kernel_rfl) (by kernel_rfl) (fun _ _ _ h => h) (Or.inl ⟨by rfl, fun wx hSw => ?_⟩) hHeld ?_
      · try dsimp only at hSw
        go_simp
      simp only [Act.put, List.setIfInBounds_toArray, List.set_cons_zero, List.set_cons_succ]
      refine Od.anyH_sl (i := 2) (v := (.pointer (some ⟨g, o, none⟩))) (some 10) rfl rfl (by kernel_rfl) (by kernel_rfl) (by kernel_rfl) (fun _ _ _ h => h) (Or.inl ⟨by rfl, fun wx hSw => ?_⟩) hHeld ?_
      · try dsimp only at hSw
        go_simp
      simp only [Act.put, List.setIfInBounds_toArray, List.set_cons_zero, List.set_cons_succ]
      refine Od.anyH_sl (i := 3) (v := (.bool true)) (some 11) rfl rfl (by kernel_rfl) (by kernel_rfl) (by kernel_rfl) (fun _ _ _ h => h) (Or.inl ⟨by rfl, fun wx hSw => ?_⟩) hHeld ?_
      · try dsimp only at hSw
        go_simp
      simp only [Act.put, List.setIfInBounds_toArray, List.set_cons_zero, List.set_cons_succ]
      refine Od.anyH_sl (i := 4) (v := (.bool false)) (some 12) rfl rfl (by kernel_rfl) (by kernel_rfl) (by kernel_rfl) (fun _ _ _ h => h) (Or.inl ⟨by rfl, fun wx hSw => ?_⟩) hHeld ?_
      · try dsimp only at hSw
        go_simp
      simp only [Act.put, List.setIfInBounds_toArray, List.set_cons_zero, List.set_cons_succ]
      refine Od.anyH_sl (i := 5) (v := (.bool false)) (some 13) rfl rfl (by kernel_rfl) (by kernel_rfl) (by kernel_rfl) (fun _ _ _ h => h) (Or.inl ⟨by rfl, fun wx hSw => ?_⟩) hHeld ?_
      · try dsimp only at hSw
        go_simp
      simp only [Act.put, List.setIfInBounds_toArray, List.set_cons_zero, List.set_cons_succ]
      refine Od.anyH_sl (i := 6) (v := (.pointer (some ⟨g, o, none⟩))) (some 14) rfl rfl (by kernel_rfl) (by kernel_rfl) (by kernel_rfl) (fun _ _ _ h => h) (Or.inl ⟨by rfl, fun wx hSw => ?_⟩) hHeld ?_
      · try dsimp only at hSw
        go_simp
      simp only [Act.put, List.setIfInBounds_toArray, List.set_cons_zero, List.set_cons_succ]
      refine Od.anyH_sl (i := 7) (v := (.pointer (some ⟨g, o, none⟩))) (some 15) rfl rfl (by kernel_rfl) (by kernel_rfl) (by kernel_rfl) (fun _ _ _ h => h) (Or.inl ⟨by rfl, fun wx hSw => ?_⟩) hHeld ?_
      · try dsimp only at hSw
        go_simp
      simp only [Act.put, List.setIfInBounds_toArray, List.set_cons_zero, List.set_cons_succ]
      refine Od.anyH_sl (i := 8) (v := (.pointer (some ⟨g, o + 3, none⟩))) (some 16) rfl rfl (by kernel_rfl) (by kernel_rfl) (by kernel_rfl) (fun _ _ _ h => h) (Or.inl ⟨by rfl, fun wx hSw => ?_⟩) hHeld ?_
      · try dsimp only at hSw
        go_simp
      simp only [Act.put, List.setIfInBounds_toArray, List.set_cons_zero, List.set_cons_succ]
      refine Od.anyH_sl (i := 9) (v := (v.l c).told) (some 17) rfl rfl (by kernel_rfl) (by kernel_rfl) (by kernel_rfl) (fun _ _ _ h => h) (Or.inl ⟨by rfl, fun wx hSw => ?_⟩) hHeld ?_
      · try dsimp only at hSw
        go_simp
      simp only [Act.put, List.setIfInBounds_toArray, List.set_cons_zero, List.set_cons_succ]
      refine Od.anyH_sl (i := 10) (v := (.pointer (some ⟨g, 0, none⟩))) (some 18) rfl rfl (by kernel_rfl) (by kernel_rfl) (by kernel_rfl) (fun _ _ _ h => h) (Or.inl ⟨by rfl, fun wx hSw => ?_⟩) hHeld ?_
      · try dsimp only at hSw
        go_simp
      simp only [Act.put, List.setIfInBounds_toArray, List.set_cons_zero, List.set_cons_succ]
      refine Od.anyH_sl (i := 11) (v := (.pointer (some ⟨g, 0, none⟩))) (some 19) rfl rfl (by kernel_rfl) (by kernel_rfl) (by kernel_rfl) (fun _ _ _ h => h) (Or.inl ⟨by rfl, fun wx hSw => ?_⟩) hHeld ?_
      · try dsimp only at hSw
        go_simp
      simp only [Act.put, List.setIfInBounds_toArray, List.set_cons_zero, List.set_cons_succ]
      refine Od.anyH_sl (i := 12) (v := (.pointer (some ⟨g, 65, none⟩))) (some 20) rfl rfl (by kernel_rfl) (by kernel_rfl) (by kernel_rfl) (fun _ _ _ h => h) (Or.inl ⟨by rfl, fun wx hSw => ?_⟩) hHeld ?_
      · try dsimp only at hSw
        go_simp
      simp only [Act.put, List.setIfInBounds_toArray, List.set_cons_zero, List.set_cons_succ]
      refine Od.anyH_sl (i := 13) (v := v.set) (some 21) rfl rfl (by kernel_rfl) (by kernel_rfl) (by kernel_rfl) (fun _ _ _ h => h) (Or.inl ⟨by rfl, fun wx hSw => ?_⟩) hHeld ?_
      · try dsimp only at hSw
        go_simp
      simp only [Act.put, List.setIfInBounds_toArray, List.set_cons_zero, List.set_cons_succ]
      refine wpAnyH_ready (rs := [14]) (by kernel_rfl) (by simp) ?_
      refine AllReadyH.cons rfl (fun K hK => ?_) AllReadyH.nil
      go_simp
      go_at_call 70
      refine (HEQ.out _ (by exact (Below.refl _ w).drew)).mono ?_
      rintro e w1 ⟨rfl, hb1⟩
      have b1 := (Below.refl w.heap.size w).drew.trans hb1
      clear hb1
      dsimp only
      refine hK.out _ _ (HS0.out w1 b1) (fun hHeld => ?_)
      clear hK K
      try simp only [Act.put, List.setIfInBounds_toArray, List.set_cons_zero, List.set_cons_succ]
      refine Od.anyH_sl (i := 15) (v := (.bool false)) (some 23) rfl rfl (by kernel_rfl) (by kernel_rfl) (by kernel_rfl) (fun _ _ _ h => h) (Or.inl ⟨by rfl, fun wx hSw => ?_⟩) hHeld ?_
      · try dsimp only at hSw
        go_simp
      simp only [Act.put, List.setIfInBounds_toArray, List.set_cons_zero, List.set_cons_succ]
      refine Od.anyH_sl (i := 16) (v := undef) (some 24) rfl rfl (by kernel_rfl) (by kernel_rfl) (by kernel_rfl) (fun _ _ _ h => h) (Or.inr ⟨by rfl, rfl⟩) hHeld ?_
      simp only [Act.put, List.setIfInBounds_toArray, List.set_cons_zero, List.set_cons_succ]
      refine Od.anyH_sl (i := 17) (v := undef) (some 25) rfl rfl (by kernel_rfl) (by kernel_rfl) (by kernel_rfl) (fun _ _ _ h => h) (Or.inr ⟨by rfl, rfl⟩) hHeld ?_
      simp only [Act.put, List.setIfInBounds_toArray, List.set_cons_zero, List.set_cons_succ]
      refine Od.anyH_sl (i := 18) (v := undef) (some 26) rfl rfl (by kernel_rfl) (by kernel_rfl) (by kernel_rfl) (fun _ _ _ h => h) (Or.inr ⟨by rfl, rfl⟩) hHeld ?_
      simp only [Act.put, List.setIfInBounds_toArray, List.set_cons_zero, List.set_cons_succ]
      refine Od.anyH_sl (i := 19) (v := undef) (some 27) rfl rfl (by kernel_rfl) (by kernel_rfl) (by kernel_rfl) (fun _ _ _ h => h) (Or.inr ⟨by rfl, rfl⟩) hHeld ?_
      simp only [Act.put, List.setIfInBounds_toArray, List.set_cons_zero, List.set_cons_succ]
      refine Od.anyH_sl (i := 20) (v := undef) (some 28) rfl rfl (by kernel_rfl) (by kernel_rfl) (by kernel_rfl) (fun _ _ _ h => h) (Or.inr ⟨by rfl, rfl⟩) hHeld ?_
      simp only [Act.put, List.setIfInBounds_toArray, List.set_cons_zero, List.set_cons_succ]
      refine Od.anyH_sl (i := 21) (v := (.bool false)) (some 29) rfl rfl (by kernel_rfl) (by kernel_rfl) (by kernel_rfl) (fun _ _ _ h => h) (Or.inl ⟨by rfl, fun wx hSw => ?_⟩) hHeld ?_
      · try dsimp only at hSw
        go_simp
      simp only [Act.put, List.setIfInBounds_toArray, List.set_cons_zero, List.set_cons_succ]
      refine Od.anyH_sl (i := 22) (v := (.bool false)) (some 30) rfl rfl (by kernel_rfl) (by kernel_rfl) (by kernel_rfl) (fun _ _ _ h => h) (Or.inl ⟨by rfl, fun wx hSw => ?_⟩) hHeld ?_
      · try dsimp only at hSw
        go_simp
      simp only [Act.put, List.setIfInBounds_toArray, List.set_cons_zero, List.set_cons_succ]
      refine Od.anyH_sl (i := 23) (v := undef) (some 31) rfl rfl (by kernel_rfl) (by kernel_rfl) (by kernel_rfl) (fun _ _ _ h => h) (Or.inr ⟨by rfl, rfl⟩) hHeld ?_
      simp only [Act.put, List.setIfInBounds_toArray, List.set_cons_zero, List.set_cons_succ]
      refine Od.anyH_sl (i := 24) (v := undef) (some 32) rfl rfl (by kernel_rfl) (by kernel_rfl) (by kernel_rfl) (fun _ _ _ h => h) (Or.inr ⟨by rfl, rfl⟩) hHeld ?_
      simp only [Act.put, List.setIfInBounds_toArray, List.set_cons_zero, List.set_cons_succ]
      refine Od.anyH_sl (i := 25) (v := undef) (some 33) rfl rfl (by kernel_rfl) (by kernel_rfl) (by kernel_rfl) (fun _ _ _ h => h) (Or.inr ⟨by rfl, rfl⟩) hHeld ?_
      simp only [Act.put, List.setIfInBounds_toArray, List.set_cons_zero, List.set_cons_succ]
      refine Od.anyH_sl (i := 26) (v := undef) (some 34) rfl rfl (by kernel_rfl) (by kernel_rfl) (by kernel_rfl) (fun _ _ _ h => h) (Or.inr ⟨by rfl, rfl⟩) hHeld ?_
      simp only [Act.put, List.setIfInBounds_toArray, List.set_cons_zero, List.set_cons_succ]
      refine Od.anyH_sl (i := 27) (v := undef) (some 35) rfl rfl (by kernel_rfl) (by kernel_rfl) (by kernel_rfl) (fun _ _ _ h => h) (Or.inr ⟨by rfl, rfl⟩) hHeld ?_
      simp only [Act.put, List.setIfInBounds_toArray, List.set_cons_zero, List.set_cons_succ]
      refine Od.anyH_sl (i := 28) (v := undef) (some 36) rfl rfl (by kernel_rfl) (by kernel_rfl) (by kernel_rfl) (fun _ _ _ h => h) (Or.inr ⟨by rfl, rfl⟩) hHeld ?_
      simp only [Act.put, List.setIfInBounds_toArray, List.set_cons_zero, List.set_cons_succ]
      refine Od.anyH_sl (i := 29) (v := (.bool false)) (some 37) rfl rfl (by kernel_rfl) (by kernel_rfl) (by kernel_rfl) (fun _ _ _ h => h) (Or.inl ⟨by rfl, fun wx hSw => ?_⟩) hHeld ?_
      · try dsimp only at hSw
        go_simp
      simp only [Act.put, List.setIfInBounds_toArray, List.set_cons_zero, List.set_cons_succ]
      refine Od.anyH_sl (i := 30) (v := (.bool false)) (some 38) rfl rfl (by kernel_rfl) (by kernel_rfl) (by kernel_rfl) (fun _ _ _ h => h) (Or.inl ⟨by rfl, fun wx hSw => ?_⟩) hHeld ?_
      · try dsimp only at hSw
        go_simp
      simp only [Act.put, List.setIfInBounds_toArray, List.set_cons_zero, List.set_cons_succ]
      refine wpAnyH_done (by kernel_rfl) ?_ _
      exact NoPanic.normal ⟨rfl, rfl, b1⟩
    intro w1 b1
    clear HS0
    simp only [Exit.then]
    apply_assumption
    have HF1 : Hid (∀ wx, Below w1.heap.size w1 wx → wx.cell? ⟨g, 0, none⟩ = some (.int .i64 p.h) ∧ wx.cell? ⟨g, o + 3, none⟩ = some (v.l c).told ∧ wx.cell? ⟨g, 65, none⟩ = some v.set ∧ wx.cell? ⟨g, o + 5, none⟩ = some (.slice Ad (p.L c).done.length Cd0)) := fun wx hb => by
      obtain ⟨-, f3, -, f5, f65, f00, -⟩ := HF.out wx (b1.trans (hb.mono b1.size))
      rw [ed] at f5
      exact ⟨f00, f3, f65, f5⟩
    have HDF1 := hide (fun (wx : World) (hb : Below w1.heap.size w1 wx) => HDF.out wx (b1.trans (hb.mono b1.size)))
    have HB1 := hide b1
    clear b1
    generalize Df.diffL (p.L c).told p.set = dl at *
    have HAL' : Hid (Below w1.heap.size w1 (w1.alloc (.cells Z6 49))) := (Below.refl _ w1).alloc (Nat.le_refl _) _
    have HALd := hide HAL'.out.drew
    have HACd : Hid (CAt 49 (w1.alloc (.cells Z6 49)).drew w1.heap.size Z6) := CAt.new 49 w1 Z6
    have HSZ : Hid (w1.heap.size + 1 ≤ (w1.alloc (.cells Z6 49)).drew.heap.size) := HACd.out.lt
    unfold Z6 at HAL' HALd
    go_upto_region 1 with fail
    apply wp_joinv (fun Au nu Cu g4 w5 => Tds w1 #[.int .i64 1, .int .i64 p.h, .int .i64 0, .int .i64 0, .slice Au nu Cu, .slice Ad (p.L c).done.length Cd0] dl (.slice Au nu Cu) g4 w5)
    · refine wp_region_noPanic ?_
      have hb := Below.refl w1.heap.size w1
      go_region_held3 (fun wx => wx.cell? ⟨g, 0, none⟩ = some (.int .i64 p.h) ∧ wx.cell? ⟨g, o + 3, none⟩ = some (v.l c).told ∧ wx.cell? ⟨g, 65, none⟩ = some v.set ∧ wx.cell? ⟨g, o + 5, none⟩ = some (.slice Ad (p.L c).done.length Cd0)) ((refine HF1.out _ ?_; first | with_reducible exact hb | with_reducible exact hb.drew | with_reducible exact hb.alloc hb.size _ | with_reducible exact (hb.alloc hb.size _).drew | with_reducible exact hb.drew.alloc hb.drew.size _ | with_reducible exact HST.out.bel)) (first
        | (go_at_call 71; refine (HDF1.out _ (by with_reducible exact (Below.refl _ w1).drew)).mono ?_; rintro e wb ⟨u, rfl, U, hbb⟩; obtain ⟨Au, nu, Cu, rfl⟩ := U.one'; have hb := (Below.refl w1.heap.size w1).drew.trans hbb; obtain ⟨wS, sA, hST⟩ := tds_new2 (w1 := w1) (cs := #[.int .i64 1, .int .i64 p.h, .int .i64 0, .int .i64 0, .slice Au nu Cu, .slice Ad (p.L c).done.length Cd0]) rfl (pk_one 1 p.h U.one' Ad (p.L c).done.length Cd0) U (Nat.le_refl _) hb; unfold Z6 at sA; have HST := hide hST; clear hST; have HN1 : True := trivial; clear U hbb; dsimp only)
        | (go_at_call 71; refine (HDF1.out _ (by with_reducible exact HALd.out)).mono ?_; rintro e wb ⟨u, rfl, U, hbb⟩; obtain ⟨Au, nu, Cu, rfl⟩ := U.one'; have hb := HALd.out.trans (hbb.mono HALd.out.size); have HCb := hide (HACd.out.over hbb); obtain ⟨wS, sC, hST⟩ := tds_old2 (w1 := w1) (cs := #[.int .i64 1, .int .i64 p.h, .int .i64 0, .int .i64 0, .slice Au nu Cu, .slice Ad (p.L c).done.length Cd0]) rfl (pk_one 1 p.h U.one' Ad (p.L c).done.length Cd0) U HSZ.out hb HCb.out; have HST := hide hST; clear hST; clear U hbb; dsimp only))
      all_goals first
        | (have _m := HN1; obtain ⟨gn, hg'⟩ : ∃ gn, gn = wb.heap.size := ⟨_, rfl⟩; rw [← hg']; exact NoPanic.normal ⟨Au, nu, Cu, gn, rfl, rfl, by subst hg'; exact HST.out⟩)
        | (obtain ⟨gn, hg'⟩ : ∃ gn, gn = w1.heap.size := ⟨_, rfl⟩; rw [← hg']; exact NoPanic.normal ⟨Au, nu, Cu, gn, rfl, rfl, by subst hg'; exact HST.out⟩)
    rintro Au nu Cu g4 w5 S5
    simp only [Exit.then]
    apply_assumption
    have B5 := HB1.out.trans (S5.bel.mono HB1.out.size)
    have r2 := (((HP.out.lk c hc).done.over B5)).mono (P' := fun _ => True) fun _ _ _ => trivial
    rw [ed] at r2
    refine ptell_t2 g p D v P w w5 c o g4 dl _ _ hc HC.out HP.out hg ht0 ht1 HO B5 S5.cat (S5.rep.mono fun _ _ _ => trivial) r2 HD _ _ _ _ _ _ _ _ _ _ _ _ _ _ _ _ _ _ _ _ _ _ _ _ _ _ _ _ _ _ _ _ _ _ _ _ _ _ _ _ _ _ _ _ _ _ _ _ _
  · have HS0 : Hid (∀ wx, Below w.heap.size w wx → wx.cell? ⟨g, o, none⟩ = some (.bool true) ∧ wx.cell? ⟨g, o + 3, none⟩ = some (v.l c).told ∧ wx.cell? ⟨g, o + 4, none⟩ = some (.bool true) ∧ wx.cell? ⟨g, o + 5, none⟩ = some (.slice Ad (p.L c).done.length Cd0) ∧ wx.cell? ⟨g, 65, none⟩ = some v.set) := fun wx hb => by
      obtain ⟨f0, f3, f4, f5, f65, -⟩ := HF.out wx hb
      rw [hon] at f0; rw [ed] at f5; rw [hfr] at f4
      exact ⟨f0, f3, f4, f5, f65⟩
    clear f0 f3 f4 f5 f65 f00 f01
    go_upto_region 0 with fail
    apply wp_join (fun w' => Below w.heap.size w w')
    · refine wp_region_noPanic ?_
      refine wp_region_held_drew (S := fun wx => wx.cell? ⟨g, o, none⟩ = some (.bool true) ∧ wx.cell? ⟨g, o + 3, none⟩ = some (v.l c).told ∧ wx.cell? ⟨g, o + 4, none⟩ = some (.bool true) ∧ wx.cell? ⟨g, o + 5, none⟩ = some (.slice Ad (p.L c).done.length Cd0) ∧ wx.cell? ⟨g, 65, none⟩ = some v.set) (by kernel_rfl) (HS0.out _ (Below.refl _ _).drew) (fun hHeld => ?_)
      refine Od.anyH_sl (i := 0) (v := (.pointer (some ⟨g, o, none⟩))) (some 8) rfl rfl (by kernel_rfl) (by kernel_rfl) (by kernel_rfl) (fun _ _ _ h => h) (Or.inl ⟨by rfl, fun wx hSw => ?_⟩) hHeld ?_
      · try dsimp only at hSw
        go_simp
      simp only [Act.put, List.setIfInBounds_toArray, List.set_cons_zero, List.set_cons_succ]
      refine Od.anyH_sl (i := 1) (v := (.pointer (some ⟨g, o, none⟩))) (some 9) rfl rfl (by kernel_rfl) (by kernel_rfl) (by kernel_rfl) (fun _ _ _ h => h) (Or.inl ⟨by rfl, fun wx hSw => ?_⟩) hHeld ?_
      · try dsimp only at hSw
        go_simp
      simp only [Act.put, List.setIfInBounds_toArray, List.set_cons_zero, List.set_cons_succ]
      refine Od.anyH_sl (i := 2) (v := (.pointer (some ⟨g, o, none⟩))) (some 10) rfl rfl (by kernel_rfl) (by kernel_rfl) (by kernel_rfl) (fun _ _ _ h => h) (Or.inl ⟨by rfl, fun wx hSw => ?_⟩) hHeld ?_
      · try dsimp only at hSw
        go_simp
      simp only [Act.put, List.setIfInBounds_toArray, List.set_cons_zero, List.set_cons_succ]
      refine Od.anyH_sl (i := 3) (v := (.bool true)) (some 11) rfl rfl (by kernel_rfl) (by kernel_rfl) (by kernel_rfl) (fun _ _ _ h => h) (Or.inl ⟨by rfl, fun wx hSw => ?_⟩) hHeld ?_
      · try dsimp only at hSw
        go_simp
      simp only [Act.put, List.setIfInBounds_toArray, List.set_cons_zero, List.set_cons_succ]
      refine Od.anyH_sl (i := 4) (v := (.bool false)) (some 12) rfl rfl (by kernel_rfl) (by kernel_rfl) (by kernel_rfl) (fun _ _ _ h => h) (Or.inl ⟨by rfl, fun wx hSw => ?_⟩) hHeld ?_
      · try dsimp only at hSw
        go_simp
      simp only [Act.put, List.setIfInBounds_toArray, List.set_cons_zero, List.set_cons_succ]
      refine Od.anyH_sl (i := 5) (v := (.bool false)) (some 13) rfl rfl (by kernel_rfl) (by kernel_rfl) (by kernel_rfl) (fun _ _ _ h => h) (Or.inl ⟨by rfl, fun wx hSw => ?_⟩) hHeld ?_
      · try dsimp only at hSw
        go_simp
      simp only [Act.put, List.setIfInBounds_toArray, List.set_cons_zero, List.set_cons_succ]
      refine Od.anyH_sl (i := 6) (v := (.pointer (some ⟨g, o, none⟩))) (some 14) rfl rfl (by kernel_rfl) (by kernel_rfl) (by kernel_rfl) (fun _ _ _ h => h) (Or.inl ⟨by rfl, fun wx hSw => ?_⟩) hHeld ?_
      · try dsimp only at hSw
        go_simp
      simp only [Act.put, List.setIfInBounds_toArray, List.set_cons_zero, List.set_cons_succ]
      refine Od.anyH_sl (i := 7) (v := (.pointer (some ⟨g, o, none⟩))) (some 15) rfl rfl (by kernel_rfl) (by kernel_rfl) (by kernel_rfl) (fun _ _ _ h => h) (Or.inl ⟨by rfl, fun wx hSw => ?_⟩) hHeld ?_
      · try dsimp only at hSw
        go_simp
      simp only [Act.put, List.setIfInBounds_toArray, List.set_cons_zero, List.set_cons_succ]
      refine Od.anyH_sl (i := 8) (v := (.pointer (some ⟨g, o + 3, none⟩))) (some 16) rfl rfl (by kernel_rfl) (by kernel_rfl) (by kernel_rfl) (fun _ _ _ h => h) (Or.inl ⟨by rfl, fun wx hSw => ?_⟩) hHeld ?_
      · try dsimp only at hSw
        go_simp
      simp only [Act.put, List.setIfInBounds_toArray, List.set_cons_zero, List.set_cons_succ]
      refine Od.anyH_sl (i := 9) (v := (v.l c).told) (some 17) rfl rfl (by kernel_rfl) (by kernel_rfl) (by kernel_rfl) (fun _ _ _ h => h) (Or.inl ⟨by rfl, fun wx hSw => ?_⟩) hHeld ?_
      · try dsimp only at hSw
        go_simp
      simp only [Act.put, List.setIfInBounds_toArray, List.set_cons_zero, List.set_cons_succ]
      refine Od.anyH_sl (i := 10) (v := (.pointer (some ⟨g, 0, none⟩))) (some 18) rfl rfl (by kernel_rfl) (by kernel_rfl) (by kernel_rfl) (fun _ _ _ h => h) (Or.inl ⟨by rfl, fun wx hSw => ?_⟩) hHeld ?_
      · try dsimp only at hSw
        go_simp
      simp only [Act.put, List.setIfInBounds_toArray, List.set_cons_zero, List.set_cons_succ]
      refine Od.anyH_sl (i := 11) (v := (.pointer (some ⟨g, 0, none⟩))) (some 19) rfl rfl (by kernel_rfl) (by kernel_rfl) (by kernel_rfl) (fun _ _ _ h => h) (Or.inl ⟨by rfl, fun wx hSw => ?_⟩) hHeld ?_
      · try dsimp only at hSw
        go_simp
      simp only [Act.put, List.setIfInBounds_toArray, List.set_cons_zero, List.set_cons_succ]
      refine Od.anyH_sl (i := 12) (v := (.pointer (some ⟨g, 65, none⟩))) (some 20) rfl rfl (by kernel_rfl) (by kernel_rfl) (by kernel_rfl) (fun _ _ _ h => h) (Or.inl ⟨by rfl, fun wx hSw => ?_⟩) hHeld ?_
      · try dsimp only at hSw
        go_simp
      simp only [Act.put, List.setIfInBounds_toArray, List.set_cons_zero, List.set_cons_succ]
      refine Od.anyH_sl (i := 13) (v := v.set) (some 21) rfl rfl (by kernel_rfl) (by kernel_rfl) (by kernel_rfl) (fun _ _ _ h => h) (Or.inl ⟨by rfl, fun wx hSw => ?_⟩) hHeld ?_
      · try dsimp only at hSw
        go_simp
      simp only [Act.put, List.setIfInBounds_toArray, List.set_cons_zero, List.set_cons_succ]
      refine wpAnyH_ready (rs := [14]) (by kernel_rfl) (by simp) ?_
      refine AllReadyH.cons rfl (fun K hK => ?_) AllReadyH.nil
      go_simp
      go_at_call 70
      refine (HEQ.out _ (by exact (Below.refl _ w).drew)).mono ?_
      rintro e w1 ⟨rfl, hb1⟩
      have b1 := (Below.refl w.heap.size w).drew.trans hb1
      clear hb1
      dsimp only
      refine hK.out _ _ (HS0.out w1 b1) (fun hHeld => ?_)
      clear hK K
      try simp only [Act.put, List.setIfInBounds_toArray, List.set_cons_zero, List.set_cons_succ]
      refine Od.anyH_sl (i := 15) (v := (.bool true)) (some 23) rfl rfl (by kernel_rfl) (by kernel_rfl) (by kernel_rfl) (fun _ _ _ h => h) (Or.inl ⟨by rfl, fun wx hSw => ?_⟩) hHeld ?_
      · try dsimp only at hSw
        go_simp
      simp only [Act.put, List.setIfInBounds_toArray, List.set_cons_zero, List.set_cons_succ]
      refine Od.anyH_sl (i := 16) (v := (.pointer (some ⟨g, o, none⟩))) (some 24) rfl rfl (by kernel_rfl) (by kernel_rfl) (by kernel_rfl) (fun _ _ _ h => h) (Or.inl ⟨by rfl, fun wx hSw => ?_⟩) hHeld ?_
      · try dsimp only at hSw
        go_simp
      simp only [Act.put, List.setIfInBounds_toArray, List.set_cons_zero, List.set_cons_succ]
      refine Od.anyH_sl (i := 17) (v := (.pointer (some ⟨g, o, none⟩))) (some 25) rfl rfl (by kernel_rfl) (by kernel_rfl) (by kernel_rfl) (fun _ _ _ h => h) (Or.inl ⟨by rfl, fun wx hSw => ?_⟩) hHeld ?_
      · try dsimp only at hSw
        go_simp
      simp only [Act.put, List.setIfInBounds_toArray, List.set_cons_zero, List.set_cons_succ]
      refine Od.anyH_sl (i := 18) (v := (.pointer (some ⟨g, o + 4, none⟩))) (some 26) rfl rfl (by kernel_rfl) (by kernel_rfl) (by kernel_rfl) (fun _ _ _ h => h) (Or.inl ⟨by rfl, fun wx hSw => ?_⟩) hHeld ?_
      · try dsimp only at hSw
        go_simp
      simp only [Act.put, List.setIfInBounds_toArray, List.set_cons_zero, List.set_cons_succ]
      refine Od.anyH_sl (i := 19) (v := (.bool true)) (some 27) rfl rfl (by kernel_rfl) (by kernel_rfl) (by kernel_rfl) (fun _ _ _ h => h) (Or.inl ⟨by rfl, fun wx hSw => ?_⟩) hHeld ?_
      · try dsimp only at hSw
        go_simp
      simp only [Act.put, List.setIfInBounds_toArray, List.set_cons_zero, List.set_cons_succ]
      refine Od.anyH_sl (i := 20) (v := (.bool false)) (some 28) rfl rfl (by kernel_rfl) (by kernel_rfl) (by kernel_rfl) (fun _ _ _ h => h) (Or.inl ⟨by rfl, fun wx hSw => ?_⟩) hHeld ?_
      · try dsimp only at hSw
        go_simp
      simp only [Act.put, List.setIfInBounds_toArray, List.set_cons_zero, List.set_cons_succ]
      refine Od.anyH_sl (i := 21) (v := (.bool false)) (some 29) rfl rfl (by kernel_rfl) (by kernel_rfl) (by kernel_rfl) (fun _ _ _ h => h) (Or.inl ⟨by rfl, fun wx hSw => ?_⟩) hHeld ?_
      · try dsimp only at hSw
        go_simp
      simp only [Act.put, List.setIfInBounds_toArray, List.set_cons_zero, List.set_cons_succ]
      refine Od.anyH_sl (i := 22) (v := (.bool false)) (some 30) rfl rfl (by kernel_rfl) (by kernel_rfl) (by kernel_rfl) (fun _ _ _ h => h) (Or.inl ⟨by rfl, fun wx hSw => ?_⟩) hHeld ?_
      · try dsimp only at hSw
        go_simp
      simp only [Act.put, List.setIfInBounds_toArray, List.set_cons_zero, List.set_cons_succ]
      refine Od.anyH_sl (i := 23) (v := undef) (some 31) rfl rfl (by kernel_rfl) (by kernel_rfl) (by kernel_rfl) (fun _ _ _ h => h) (Or.inr ⟨by rfl, rfl⟩) hHeld ?_
      simp only [Act.put, List.setIfInBounds_toArray, List.set_cons_zero, List.set_cons_succ]
      refine Od.anyH_sl (i := 24) (v := undef) (some 32) rfl rfl (by kernel_rfl) (by kernel_rfl) (by kernel_rfl) (fun _ _ _ h => h) (Or.inr ⟨by rfl, rfl⟩) hHeld ?_
      simp only [Act.put, List.setIfInBounds_toArray, List.set_cons_zero, List.set_cons_succ]
      refine Od.anyH_sl (i := 25) (v := undef) (some 33) rfl rfl (by kernel_rfl) (by kernel_rfl) (by kernel_rfl) (fun _ _ _ h => h) (Or.inr ⟨by rfl, rfl⟩) hHeld ?_
      simp only [Act.put, List.setIfInBounds_toArray, List.set_cons_zero, List.set_cons_succ]
      refine Od.anyH_sl (i := 26) (v := undef) (some 34) rfl rfl (by kernel_rfl) (by kernel_rfl) (by kernel_rfl) (fun _ _ _ h => h) (Or.inr ⟨by rfl, rfl⟩) hHeld ?_
      simp only [Act.put, List.setIfInBounds_toArray, List.set_cons_zero, List.set_cons_succ]
      refine Od.anyH_sl (i := 27) (v := undef) (some 35) rfl rfl (by kernel_rfl) (by kernel_rfl) (by kernel_rfl) (fun _ _ _ h => h) (Or.inr ⟨by rfl, rfl⟩) hHeld ?_
      simp only [Act.put, List.setIfInBounds_toArray, List.set_cons_zero, List.set_cons_succ]
      refine Od.anyH_sl (i := 28) (v := undef) (some 36) rfl rfl (by kernel_rfl) (by kernel_rfl) (by kernel_rfl) (fun _ _ _ h => h) (Or.inr ⟨by rfl, rfl⟩) hHeld ?_
      simp only [Act.put, List.setIfInBounds_toArray, List.set_cons_zero, List.set_cons_succ]
      refine Od.anyH_sl (i := 29) (v := (.bool false)) (some 37) rfl rfl (by kernel_rfl) (by kernel_rfl) (by kernel_rfl) (fun _ _ _ h => h) (Or.inl ⟨by rfl, fun wx hSw => ?_⟩) hHeld ?_
      · try dsimp only at hSw
        go_simp
      simp only [Act.put, List.setIfInBounds_toArray, List.set_cons_zero, List.set_cons_succ]
      refine Od.anyH_sl (i := 30) (v := (.bool false)) (some 38) rfl rfl (by kernel_rfl) (by kernel_rfl) (by kernel_rfl) (fun _ _ _ h => h) (Or.inl ⟨by rfl, fun wx hSw => ?_⟩) hHeld ?_
      · try dsimp only at hSw
        go_simp
      simp only [Act.put, List.setIfInBounds_toArray, List.set_cons_zero, List.set_cons_succ]
      refine wpAnyH_done (by kernel_rfl) ?_ _
      exact NoPanic.normal ⟨rfl, rfl, b1⟩
    intro w1 b1
    clear HS0
    simp only [Exit.then]
    apply_assumption
    have HF1 : Hid (∀ wx, Below w1.heap.size w1 wx → wx.cell? ⟨g, 0, none⟩ = some (.int .i64 p.h) ∧ wx.cell? ⟨g, o + 3, none⟩ = some (v.l c).told ∧ wx.cell? ⟨g, 65, none⟩ = some v.set ∧ wx.cell? ⟨g, o + 5, none⟩ = some (.slice Ad (p.L c).done.length Cd0)) := fun wx hb => by
      obtain ⟨-, f3, -, f5, f65, f00, -⟩ := HF.out wx (b1.trans (hb.mono b1.size))
      rw [ed] at f5
      exact ⟨f00, f3, f65, f5⟩
    have HDF1 := hide (fun (wx : World) (hb : Below w1.heap.size w1 wx) => HDF.out wx (b1.trans (hb.mono b1.size)))
    have HB1 := hide b1
    clear b1
    generalize Df.diffL (p.L c).told p.set = dl at *
    have HAL' : Hid (Below w1.heap.size w1 (w1.alloc (.cells Z6 49))) := (Below.refl _ w1).alloc (Nat.le_refl _) _
    have HALd := hide HAL'.out.drew
    have HACd : Hid (CAt 49 (w1.alloc (.cells Z6 49)).drew w1.heap.size Z6) := CAt.new 49 w1 Z6
    have HSZ : Hid (w1.heap.size + 1 ≤ (w1.alloc (.cells Z6 49)).drew.heap.size) := HACd.out.lt
    unfold Z6 at HAL' HALd
    go_upto_region 1 with fail
    apply wp_joinv (fun Au nu Cu g4 w5 => Tds w1 #[.int .i64 1, .int .i64 p.h, .int .i64 0, .int .i64 0, .slice Au nu Cu, .slice Ad (p.L c).done.length Cd0] dl (.slice Au nu Cu) g4 w5)
    · refine wp_region_noPanic ?_
      have hb := Below.refl w1.heap.size w1
      go_region_held3 (fun wx => wx.cell? ⟨g, 0, none⟩ = some (.int .i64 p.h) ∧ wx.cell? ⟨g, o + 3, none⟩ = some (v.l c).told ∧ wx.cell? ⟨g, 65, none⟩ = some v.set ∧ wx.cell? ⟨g, o + 5, none⟩ = some (.slice Ad (p.L c).done.length Cd0)) ((refine HF1.out _ ?_; first | with_reducible exact hb | with_reducible exact hb.drew | with_reducible exact hb.alloc hb.size _ | with_reducible exact (hb.alloc hb.size _).drew | with_reducible exact hb.drew.alloc hb.drew.size _ | with_reducible exact HST.out.bel)) (first
        | (go_at_call 71; refine (HDF1.out _ (by with_reducible exact (Below.refl _ w1).drew)).mono ?_; rintro e wb ⟨u, rfl, U, hbb⟩; obtain ⟨Au, nu, Cu, rfl⟩ := U.one'; have hb := (Below.refl w1.heap.size w1).drew.trans hbb; obtain ⟨wS, sA, hST⟩ := tds_new2 (w1 := w1) (cs := #[.int .i64 1, .int .i64 p.h, .int .i64 0, .int .i64 0, .slice Au nu Cu, .slice Ad (p.L c).done.length Cd0]) rfl (pk_one 1 p.h U.one' Ad (p.L c).done.length Cd0) U (Nat.le_refl _) hb; unfold Z6 at sA; have HST := hide hST; clear hST; have HN1 : True := trivial; clear U hbb; dsimp only)
        | (go_at_call 71; refine (HDF1.out _ (by with_reducible exact HALd.out)).mono ?_; rintro e wb ⟨u, rfl, U, hbb⟩; obtain ⟨Au, nu, Cu, rfl⟩ := U.one'; have hb := HALd.out.trans (hbb.mono HALd.out.size); have HCb := hide (HACd.out.over hbb); obtain ⟨wS, sC, hST⟩ := tds_old2 (w1 := w1) (cs := #[.int .i64 1, .int .i64 p.h, .int .i64 0, .int .i64 0, .slice Au nu Cu, .slice Ad (p.L c).done.length Cd0]) rfl (pk_one 1 p.h U.one' Ad (p.L c).done.length Cd0) U HSZ.out hb HCb.out; have HST := hide hST; clear hST; clear U hbb; dsimp only))
      all_goals first
        | (have _m := HN1; obtain ⟨gn, hg'⟩ : ∃ gn, gn = wb.heap.size := ⟨_, rfl⟩; rw [← hg']; exact NoPanic.normal ⟨Au, nu, Cu, gn, rfl, rfl, by subst hg'; exact HST.out⟩)
        | (obtain ⟨gn, hg'⟩ : ∃ gn, gn = w1.heap.size := ⟨_, rfl⟩; rw [← hg']; exact NoPanic.normal ⟨Au, nu, Cu, gn, rfl, rfl, by subst hg'; exact HST.out⟩)
    rintro Au nu Cu g4 w5 S5
    simp only [Exit.then]
    apply_assumption
    have B5 := HB1.out.trans (S5.bel.mono HB1.out.size)
    have r2 := (((HP.out.lk c hc).done.over B5)).mono (P' := fun _ => True) fun _ _ _ => trivial
    rw [ed] at r2
    refine ptell_t2 g p D v P w w5 c o g4 dl _ _ hc HC.out HP.out hg ht0 ht1 HO B5 S5.cat (S5.rep.mono fun _ _ _ => trivial) r2 HD _ _ _ _ _ _ _ _ _ _ _ _ _ _ _ _ _ _ _ _ _ _ _ _ _ _ _ _ _ _ _ _ _ _ _ _ _ _ _ _ _ _ _ _ _ _ _ _ _
  · have hdl2 : (((p.L c).done.length : Int) == 0) = false := by simpa using hdl
    have HS0 : Hid (∀ wx, Below w.heap.size w wx → wx.cell? ⟨g, o, none⟩ = some (.bool true) ∧ wx.cell? ⟨g, o + 3, none⟩ = some (v.l c).told ∧ wx.cell? ⟨g, o + 4, none⟩ = some (.bool false) ∧ wx.cell? ⟨g, o + 5, none⟩ = some (.slice Ad (p.L c).done.length Cd0) ∧ wx.cell? ⟨g, 65, none⟩ = some v.set) := fun wx hb => by
      obtain ⟨f0, f3, f4, f5, f65, -⟩ := HF.out wx hb
      rw [hon] at f0; rw [ed] at f5; rw [hfr] at f4
      exact ⟨f0, f3, f4, f5, f65⟩
    clear f0 f3 f4 f5 f65 f00 f01
    go_upto_region 0 with fail
    apply wp_join (fun w' => Below w.heap.size w w')
    · refine wp_region_noPanic ?_
      refine wp_region_held_drew (S := fun wx => wx.cell? ⟨g, o, none⟩ = some (.bool true) ∧ wx.cell? ⟨g, o + 3, none⟩ = some (v.l c).told ∧ wx.cell? ⟨g, o + 4, none⟩ = some (.bool false) ∧ wx.cell? ⟨g, o + 5, none⟩ = some (.slice Ad (p.L c).done.length Cd0) ∧ wx.cell? ⟨g, 65, none⟩ = some v.set) (by kernel_rfl) (HS0.out _ (Below.refl _ _).drew) (fun hHeld => ?_)
      refine Od.anyH_sl (i := 0) (v := (.pointer (some ⟨g, o, none⟩))) (some 8) rfl rfl (by kernel_rfl) (by kernel_rfl) (by kernel_rfl) (fun _ _ _ h => h) (Or.inl ⟨by rfl, fun wx hSw => ?_⟩) hHeld ?_
      · try dsimp only at hSw
        go_simp
      simp only [Act.put, List.setIfInBounds_toArray, List.set_cons_zero, List.set_cons_succ]
      refine Od.anyH_sl (i := 1) (v := (.pointer (some ⟨g, o, none⟩))) (some 9) rfl rfl (by kernel_rfl) (by kernel_rfl) (by kernel_rfl) (fun _ _ _ h => h) (Or.inl ⟨by rfl, fun wx hSw => ?_⟩) hHeld ?_
      · try dsimp only at hSw
        go_simp
      simp only [Act.put, List.setIfInBounds_toArray, List.set_cons_zero, List.set_cons_succ]
      refine Od.anyH_sl (i := 2) (v := (.pointer (some ⟨g, o, none⟩))) (some 10) rfl rfl (by kernel_rfl) (by kernel_rfl) (by kernel_rfl) (fun _ _ _ h => h) (Or.inl ⟨by rfl, fun wx hSw => ?_⟩) hHeld ?_
      · try dsimp only at hSw
        go_simp
      simp only [Act.put, List.setIfInBounds_toArray, List.set_cons_zero, List.set_cons_succ]
      refine Od.anyH_sl (i := 3) (v := (.bool true)) (some 11) rfl rfl (by kernel_rfl) (by kernel_rfl) (by kernel_rfl) (fun _ _ _ h => h) (Or.inl ⟨by rfl, fun wx hSw => ?_⟩) hHeld ?_
      · try dsimp only at hSw
        go_simp
      simp only [Act.put, List.setIfInBounds_toArray, List.set_cons_zero, List.set_cons_succ]
      refine Od.anyH_sl (i := 4) (v := (.bool false)) (some 12) rfl rfl (by kernel_rfl) (by kernel_rfl) (by kernel_rfl) (fun _ _ _ h => h) (Or.inl ⟨by rfl, fun wx hSw => ?_⟩) hHeld ?_
      · try dsimp only at hSw
        go_simp
      simp only [Act.put, List.setIfInBounds_toArray, List.set_cons_zero, List.set_cons_succ]
      refine Od.anyH_sl (i := 5) (v := (.bool false)) (some 13) rfl rfl (by kernel_rfl) (by kernel_rfl) (by kernel_rfl) (fun _ _ _ h => h) (Or.inl ⟨by rfl, fun wx hSw => ?_⟩) hHeld ?_
      · try dsimp only at hSw
        go_simp
      simp only [Act.put, List.setIfInBounds_toArray, List.set_cons_zero, List.set_cons_succ]
      refine Od.anyH_sl (i := 6) (v := (.pointer (some ⟨g, o, none⟩))) (some 14) rfl rfl (by kernel_rfl) (by kernel_rfl) (by kernel_rfl) (fun _ _ _ h => h) (Or.inl ⟨by rfl, fun wx hSw => ?_⟩) hHeld ?_
      · try dsimp only at hSw
        go_simp
      simp only [Act.put, List.setIfInBounds_toArray, List.set_cons_zero, List.set_cons_succ]
      refine Od.anyH_sl (i := 7) (v := (.pointer (some ⟨g, o, none⟩))) (some 15) rfl rfl (by kernel_rfl) (by kernel_rfl) (by kernel_rfl) (fun _ _ _ h => h) (Or.inl ⟨by rfl, fun wx hSw => ?_⟩) hHeld ?_
      · try dsimp only at hSw
        go_simp
      simp only [Act.put, List.setIfInBounds_toArray, List.set_cons_zero, List.set_cons_succ]
      refine Od.anyH_sl (i := 8) (v := (.pointer (some ⟨g, o + 3, none⟩))) (some 16) rfl rfl (by kernel_rfl) (by kernel_rfl) (by kernel_rfl) (fun _ _ _ h => h) (Or.inl ⟨by rfl, fun wx hSw => ?_⟩) hHeld ?_
      · try dsimp only at hSw
        go_simp
      simp only [Act.put, List.setIfInBounds_toArray, List.set_cons_zero, List.set_cons_succ]
      refine Od.anyH_sl (i := 9) (v := (v.l c).told) (some 17) rfl rfl (by kernel_rfl) (by kernel_rfl) (by kernel_rfl) (fun _ _ _ h => h) (Or.inl ⟨by rfl, fun wx hSw => ?_⟩) hHeld ?_
      · try dsimp only at hSw
        go_simp
      simp only [Act.put, List.setIfInBounds_toArray, List.set_cons_zero, List.set_cons_succ]
      refine Od.anyH_sl (i := 10) (v := (.pointer (some ⟨g, 0, none⟩))) (some 18) rfl rfl (by kernel_rfl) (by kernel_rfl) (by kernel_rfl) (fun _ _ _ h => h) (Or.inl ⟨by rfl, fun wx hSw => ?_⟩) hHeld ?_
      · try dsimp only at hSw
        go_simp
      simp only [Act.put, List.setIfInBounds_toArray, List.set_cons_zero, List.set_cons_succ]
      refine Od.anyH_sl (i := 11) (v := (.pointer (some ⟨g, 0, none⟩))) (some 19) rfl rfl (by kernel_rfl) (by kernel_rfl) (by kernel_rfl) (fun _ _ _ h => h) (Or.inl ⟨by rfl, fun wx hSw => ?_⟩) hHeld ?_
      · try dsimp only at hSw
        go_simp
      simp only [Act.put, List.setIfInBounds_toArray, List.set_cons_zero, List.set_cons_succ]
      refine Od.anyH_sl (i := 12) (v := (.pointer (some ⟨g, 65, none⟩))) (some 20) rfl rfl (by kernel_rfl) (by kernel_rfl) (by kernel_rfl) (fun _ _ _ h => h) (Or.inl ⟨by rfl, fun wx hSw => ?_⟩) hHeld ?_
      · try dsimp only at hSw
        go_simp
      simp only [Act.put, List.setIfInBounds_toArray, List.set_cons_zero, List.set_cons_succ]
      refine Od.anyH_sl (i := 13) (v := v.set) (some 21) rfl rfl (by kernel_rfl) (by kernel_rfl) (by kernel_rfl) (fun _ _ _ h => h) (Or.inl ⟨by rfl, fun wx hSw => ?_⟩) hHeld ?_
      · try dsimp only at hSw
        go_simp
      simp only [Act.put, List.setIfInBounds_toArray, List.set_cons_zero, List.set_cons_succ]
      refine wpAnyH_ready (rs := [14]) (by kernel_rfl) (by simp) ?_
      refine AllReadyH.cons rfl (fun K hK => ?_) AllReadyH.nil
      go_simp
      go_at_call 70
      refine (HEQ.out _ (by exact (Below.refl _ w).drew)).mono ?_
      rintro e w1 ⟨rfl, hb1⟩
      have b1 := (Below.refl w.heap.size w).drew.trans hb1
      clear hb1
      dsimp only
      refine hK.out _ _ (HS0.out w1 b1) (fun hHeld => ?_)
      clear hK K
      try simp only [Act.put, List.setIfInBounds_toArray, List.set_cons_zero, List.set_cons_succ]
      refine Od.anyH_sl (i := 15) (v := (.bool true)) (some 23) rfl rfl (by kernel_rfl) (by kernel_rfl) (by kernel_rfl) (fun _ _ _ h => h) (Or.inl ⟨by rfl, fun wx hSw => ?_⟩) hHeld ?_
      · try dsimp only at hSw
        go_simp
      simp only [Act.put, List.setIfInBounds_toArray, List.set_cons_zero, List.set_cons_succ]
      refine Od.anyH_sl (i := 16) (v := (.pointer (some ⟨g, o, none⟩))) (some 24) rfl rfl (by kernel_rfl) (by kernel_rfl) (by kernel_rfl) (fun _ _ _ h => h) (Or.inl ⟨by rfl, fun wx hSw => ?_⟩) hHeld ?_
      · try dsimp only at hSw
        go_simp
      simp only [Act.put, List.setIfInBounds_toArray, List.set_cons_zero, List.set_cons_succ]
      refine Od.anyH_sl (i := 17) (v := (.pointer (some ⟨g, o, none⟩))) (some 25) rfl rfl (by kernel_rfl) (by kernel_rfl) (by kernel_rfl) (fun _ _ _ h => h) (Or.inl ⟨by rfl, fun wx hSw => ?_⟩) hHeld ?_
      · try dsimp only at hSw
        go_simp
      simp only [Act.put, List.setIfInBounds_toArray, List.set_cons_zero, List.set_cons_succ]
      refine Od.anyH_sl (i := 18) (v := (.pointer (some ⟨g, o + 4, none⟩))) (some 26) rfl rfl (by kernel_rfl) (by kernel_rfl) (by kernel_rfl) (fun _ _ _ h => h) (Or.inl ⟨by rfl, fun wx hSw => ?_⟩) hHeld ?_
      · try dsimp only at hSw
        go_simp
      simp only [Act.put, List.setIfInBounds_toArray, List.set_cons_zero, List.set_cons_succ]
      refine Od.anyH_sl (i := 19) (v := (.bool false)) (some 27) rfl rfl (by kernel_rfl) (by kernel_rfl) (by kernel_rfl) (fun _ _ _ h => h) (Or.inl ⟨by rfl, fun wx hSw => ?_⟩) hHeld ?_
      · try dsimp only at hSw
        go_simp
      simp only [Act.put, List.setIfInBounds_toArray, List.set_cons_zero, List.set_cons_succ]
      refine Od.anyH_sl (i := 20) (v := (.bool true)) (some 28) rfl rfl (by kernel_rfl) (by kernel_rfl) (by kernel_rfl) (fun _ _ _ h => h) (Or.inl ⟨by rfl, fun wx hSw => ?_⟩) hHeld ?_
      · try dsimp only at hSw
        go_simp
      simp only [Act.put, List.setIfInBounds_toArray, List.set_cons_zero, List.set_cons_succ]
      refine Od.anyH_sl (i := 21) (v := (.bool true)) (some 29) rfl rfl (by kernel_rfl) (by kernel_rfl) (by kernel_rfl) (fun _ _ _ h => h) (Or.inl ⟨by rfl, fun wx hSw => ?_⟩) hHeld ?_
      · try dsimp only at hSw
        go_simp
      simp only [Act.put, List.setIfInBounds_toArray, List.set_cons_zero, List.set_cons_succ]
      refine Od.anyH_sl (i := 22) (v := (.bool true)) (some 30) rfl rfl (by kernel_rfl) (by kernel_rfl) (by kernel_rfl) (fun _ _ _ h => h) (Or.inl ⟨by rfl, fun wx hSw => ?_⟩) hHeld ?_
      · try dsimp only at hSw
        go_simp
      simp only [Act.put, List.setIfInBounds_toArray, List.set_cons_zero, List.set_cons_succ]
      refine Od.anyH_sl (i := 23) (v := (.pointer (some ⟨g, o, none⟩))) (some 31) rfl rfl (by kernel_rfl) (by kernel_rfl) (by kernel_rfl) (fun _ _ _ h => h) (Or.inl ⟨by rfl, fun wx hSw => ?_⟩) hHeld ?_
      · try dsimp only at hSw
        go_simp
      simp only [Act.put, List.setIfInBounds_toArray, List.set_cons_zero, List.set_cons_succ]
      refine Od.anyH_sl (i := 24) (v := (.pointer (some ⟨g, o, none⟩))) (some 32) rfl rfl (by kernel_rfl) (by kernel_rfl) (by kernel_rfl) (fun _ _ _ h => h) (Or.inl ⟨by rfl, fun wx hSw => ?_⟩) hHeld ?_
      · try dsimp only at hSw
        go_simp
      simp only [Act.put, List.setIfInBounds_toArray, List.set_cons_zero, List.set_cons_succ]
      refine Od.anyH_sl (i := 25) (v := (.pointer (some ⟨g, o + 5, none⟩))) (some 33) rfl rfl (by kernel_rfl) (by kernel_rfl) (by kernel_rfl) (fun _ _ _ h => h) (Or.inl ⟨by rfl, fun wx hSw => ?_⟩) hHeld ?_
      · try dsimp only at hSw
        go_simp
      simp only [Act.put, List.setIfInBounds_toArray, List.set_cons_zero, List.set_cons_succ]
      refine Od.anyH_sl (i := 26) (v := (.slice Ad (p.L c).done.length Cd0)) (some 34) rfl rfl (by kernel_rfl) (by kernel_rfl) (by kernel_rfl) (fun _ _ _ h => h) (Or.inl ⟨by rfl, fun wx hSw => ?_⟩) hHeld ?_
      · try dsimp only at hSw
        go_simp
      simp only [Act.put, List.setIfInBounds_toArray, List.set_cons_zero, List.set_cons_succ]
      refine Od.anyH_sl (i := 27) (v := (.int .i64 ((p.L c).done.length : Int))) (some 35) rfl rfl (by kernel_rfl) (by kernel_rfl) (by kernel_rfl) (fun _ _ _ h => h) (Or.inl ⟨by rfl, fun wx hSw => ?_⟩) hHeld ?_
      · try dsimp only at hSw
        go_simp
      simp only [Act.put, List.setIfInBounds_toArray, List.set_cons_zero, List.set_cons_succ]
      refine Od.anyH_sl (i := 28) (v := (.bool false)) (some 36) rfl rfl (by kernel_rfl) (by kernel_rfl) (by kernel_rfl) (fun _ _ _ h => h) (Or.inl ⟨by rfl, fun wx hSw => ?_⟩) hHeld ?_
      · try dsimp only at hSw
        go_simp
      simp only [Act.put, List.setIfInBounds_toArray, List.set_cons_zero, List.set_cons_succ]
      refine Od.anyH_sl (i := 29) (v := (.bool false)) (some 37) rfl rfl (by kernel_rfl) (by kernel_rfl) (by kernel_rfl) (fun _ _ _ h => h) (Or.inl ⟨by rfl, fun wx hSw => ?_⟩) hHeld ?_
      · try dsimp only at hSw
        go_simp
      simp only [Act.put, List.setIfInBounds_toArray, List.set_cons_zero, List.set_cons_succ]
      refine Od.anyH_sl (i := 30) (v := (.bool false)) (some 38) rfl rfl (by kernel_rfl) (by kernel_rfl) (by kernel_rfl) (fun _ _ _ h => h) (Or.inl ⟨by rfl, fun wx hSw => ?_⟩) hHeld ?_
      · try dsimp only at hSw
        go_simp
      simp only [Act.put, List.setIfInBounds_toArray, List.set_cons_zero, List.set_cons_succ]
      refine wpAnyH_done (by kernel_rfl) ?_ _
      exact NoPanic.normal ⟨rfl, rfl, b1⟩
    intro w1 b1
    clear HS0
    simp only [Exit.then]
    apply_assumption
    have HF1 : Hid (∀ wx, Below w1.heap.size w1 wx → wx.cell? ⟨g, 0, none⟩ = some (.int .i64 p.h) ∧ wx.cell? ⟨g, o + 3, none⟩ = some (v.l c).told ∧ wx.cell? ⟨g, 65, none⟩ = some v.set ∧ wx.cell? ⟨g, o + 5, none⟩ = some (.slice Ad (p.L c).done.length Cd0)) := fun wx hb => by
      obtain ⟨-, f3, -, f5, f65, f00, -⟩ := HF.out wx (b1.trans (hb.mono b1.size))
      rw [ed] at f5
      exact ⟨f00, f3, f65, f5⟩
    have HDF1 := hide (fun (wx : World) (hb : Below w1.heap.size w1 wx) => HDF.out wx (b1.trans (hb.mono b1.size)))
    have HB1 := hide b1
    clear b1
    generalize Df.diffL (p.L c).told p.set = dl at *
    have HAL' : Hid (Below w1.heap.size w1 (w1.alloc (.cells Z6 49))) := (Below.refl _ w1).alloc (Nat.le_refl _) _
    have HALd := hide HAL'.out.drew
    have HACd : Hid (CAt 49 (w1.alloc (.cells Z6 49)).drew w1.heap.size Z6) := CAt.new 49 w1 Z6
    have HSZ : Hid (w1.heap.size + 1 ≤ (w1.alloc (.cells Z6 49)).drew.heap.size) := HACd.out.lt
    unfold Z6 at HAL' HALd
    go_upto_region 1 with fail
    apply wp_joinv (fun Au nu Cu g4 w5 => Tds w1 #[.int .i64 1, .int .i64 p.h, .int .i64 0, .int .i64 0, .slice Au nu Cu, .slice Ad (p.L c).done.length Cd0] dl (.slice Au nu Cu) g4 w5)
    · refine wp_region_noPanic ?_
      have hb := Below.refl w1.heap.size w1
      go_region_held3 (fun wx => wx.cell? ⟨g, 0, none⟩ = some (.int .i64 p.h) ∧ wx.cell? ⟨g, o + 3, none⟩ = some (v.l c).told ∧ wx.cell? ⟨g, 65, none⟩ = some v.set ∧ wx.cell? ⟨g, o + 5, none⟩ = some (.slice Ad (p.L c).done.length Cd0)) ((refine HF1.out _ ?_; first | with_reducible exact hb | with_reducible exact hb.drew | with_reducible exact hb.alloc hb.size _ | with_reducible exact (hb.alloc hb.size _).drew | with_reducible exact hb.drew.alloc hb.drew.size _ | with_reducible exact HST.out.bel)) (first
        | (go_at_call 71; refine (HDF1.out _ (by with_reducible exact (Below.refl _ w1).drew)).mono ?_; rintro e wb ⟨u, rfl, U, hbb⟩; obtain ⟨Au, nu, Cu, rfl⟩ := U.one'; have hb := (Below.refl w1.heap.size w1).drew.trans hbb; obtain ⟨wS, sA, hST⟩ := tds_new2 (w1 := w1) (cs := #[.int .i64 1, .int .i64 p.h, .int .i64 0, .int .i64 0, .slice Au nu Cu, .slice Ad (p.L c).done.length Cd0]) rfl (pk_one 1 p.h U.one' Ad (p.L c).done.length Cd0) U (Nat.le_refl _) hb; unfold Z6 at sA; have HST := hide hST; clear hST; have HN1 : True := trivial; clear U hbb; dsimp only)
        | (go_at_call 71; refine (HDF1.out _ (by with_reducible exact HALd.out)).mono ?_; rintro e wb ⟨u, rfl, U, hbb⟩; obtain ⟨Au, nu, Cu, rfl⟩ := U.one'; have hb := HALd.out.trans (hbb.mono HALd.out.size); have HCb := hide (HACd.out.over hbb); obtain ⟨wS, sC, hST⟩ := tds_old2 (w1 := w1) (cs := #[.int .i64 1, .int .i64 p.h, .int .i64 0, .int .i64 0, .slice Au nu Cu, .slice Ad (p.L c).done.length Cd0]) rfl (pk_one 1 p.h U.one' Ad (p.L c).done.length Cd0) U HSZ.out hb HCb.out; have HST := hide hST; clear hST; clear U hbb; dsimp only))
      all_goals first
        | (have _m := HN1; obtain ⟨gn, hg'⟩ : ∃ gn, gn = wb.heap.size := ⟨_, rfl⟩; rw [← hg']; exact NoPanic.normal ⟨Au, nu, Cu, gn, rfl, rfl, by subst hg'; exact HST.out⟩)
        | (obtain ⟨gn, hg'⟩ : ∃ gn, gn = w1.heap.size := ⟨_, rfl⟩; rw [← hg']; exact NoPanic.normal ⟨Au, nu, Cu, gn, rfl, rfl, by subst hg'; exact HST.out⟩)
    rintro Au nu Cu g4 w5 S5
    simp only [Exit.then]
    apply_assumption
    have B5 := HB1.out.trans (S5.bel.mono HB1.out.size)
    have r2 := (((HP.out.lk c hc).done.over B5)).mono (P' := fun _ => True) fun _ _ _ => trivial
    rw [ed] at r2
    refine ptell_t2 g p D v P w w5 c o g4 dl _ _ hc HC.out HP.out hg ht0 ht1 HO B5 S5.cat (S5.rep.mono fun _ _ _ => trivial) r2 HD _ _ _ _ _ _ _ _ _ _ _ _ _ _ _ _ _ _ _ _ _ _ _ _ _ _ _ _ _ _ _ _ _ _ _ _ _ _ _ _ _ _ _ _ _ _ _ _ _
end Go.Proofs.YtjghbciepinofaaGreat.Pv

set_option maxRecDepth 100000
namespace Go.Proofs.YtjghbciepinofaaGreat.Pv
open Go.RowKit
/-- what dealing with a packet keeps -/
def InvQ (p : Pr) : Prop := goodS p.s = true ∧ ∀ c, c < 2 → riseB (-1) (p.L c).done = true
/-- a packet that may lie in a queue -/
def okPk (x : Pkt) : Prop := (x.k = 2 ∨ x.k = 3 ∨ x.k = 4) ∧ ((x.k = 3 ∨ x.k = 4) → 0 ≤ x.v ∧ x.v < 6)
theorem inv_done {p : Pr} (h : ∀ c, c < 2 → riseB (-1) (p.L c).done = true) (k : Nat) (v : Int) : ∀ c, c < 2 → riseB (-1) (updL p.L k { p.L k with done := doneL (p.L k).done v } c).done = true := fun c hc => by
  unfold updL
  by_cases e : c = k
  · rw [if_pos e]; exact done_rise _ _
  · rw [if_neg e]; exact h c hc
theorem inv_deal {p : Pr} (h : InvQ p) (c : Nat) {x : Pkt} (hx : okPk x) : InvQ (dealP p c x).1 := by
  obtain ⟨hg, hr⟩ := h
  obtain ⟨hk, hv⟩ := hx
  unfold dealP
  by_cases h2 : x.k = 2
  · rw [if_pos h2]
    exact ⟨(kp_rel hg c x.i).good, hr⟩
  · rw [if_neg h2]
    have hv' := hv (by omega)
    have h6 : x.v.toNat < 6 := by omega
    by_cases h4 : x.k = 4
    · rw [if_pos h4]
      by_cases hd : (p.s.V x.v.toNat).dead = true
      · rw [if_pos hd]; exact ⟨hg, hr⟩
      · rw [if_neg hd]
        exact ⟨setJ_good (slash_good hg h6 _ (by decide)) h6 (fun _ => rfl), hr⟩
    · rw [if_neg h4]
      by_cases hj : (p.s.V x.v.toNat).jail = true
      · rw [if_pos hj]; exact ⟨hg, inv_done hr c x.v⟩
      · rw [if_neg hj]
        by_cases hm : p.ml < 1
        · rw [if_pos hm]; exact ⟨hg, hr⟩
        · rw [if_neg hm]
          exact ⟨setJ_good hg h6 (fun _ => rfl), inv_done hr c x.v⟩
theorem pdeal_any (g : Nat) (p : Pr) (v : PrV) (P : Nat → Prop) (w : World) (c : Nat) (hc : c < 2) (x : Pkt) (y1 y2 : Value) (hC : CAt 47 w g (prC p v)) (hp : PIn P w p v) (hg : ¬ P g) (hi : InvQ p) (hx : okPk x) :
    Calls Tryz.prog 67 #[.pointer (some ⟨g, 0, none⟩), .agg #[.int .i64 (c : Int), .int .i64 x.k, .int .i64 x.i, .int .i64 x.v, .int .i64 x.n, y1, y2]] w (TurnsB w g P (dealP p c x)) := by
  rcases hx.1 with h | h | h
  · exact pdeal_matured g p v P w c hc x y1 y2 hC hp hg hi.1 h hx.2
  · exact pdeal_down g p v P w c hc x y1 y2 hC hp hg hi.1 h hx.2 fun hk wx v' P' hC' hp' hg' => pdown_any g p v' P' wx c hc x hC' hp' hg' hk (hi.2 c hc) hi.1 (hx.2 (.inl h)).1 (hx.2 (.inl h)).2
  · exact pdeal_double g p v P w c hc x y1 y2 hC hp hg hi.1 h hx.2
theorem good_kv {k i v n : Int} {S : List (Int × Int)} {D : List Int} (h : Cd.goodN k i v n S D = 0) : 1 ≤ k ∧ k ≤ 4 ∧ (Cd.accB k = true → Cd.isV v = true) := by
  unfold Cd.goodN at h
  by_cases h1 : k < 1 ∨ 4 < k
  · rw [if_pos h1] at h; omega
  rw [if_neg h1] at h
  by_cases h2 : i < 1 ∨ 1099511627776 < i
  · rw [if_pos h2] at h; omega
  rw [if_neg h2] at h
  by_cases h3 : Cd.accB k = true ∧ (Cd.isV v = false ∨ n < 1 ∨ 1125899906842624 < n)
  · rw [if_pos h3] at h; omega
  refine ⟨by omega, by omega, fun ha => ?_⟩
  cases hv : Cd.isV v
  · exact absurd ⟨ha, .inl hv⟩ h3
  · rfl
theorem okPk_of {L : Nat → Lk} {a : Int × Pkt} (h : goodQ L a = true) : (0 ≤ a.1 ∧ a.1 < 2) ∧ okPk a.2 := by
  unfold goodQ at h
  simp only [Bool.and_eq_true, decide_eq_true_eq] at h
  obtain ⟨⟨⟨⟨h0, h1⟩, -⟩, hk⟩, hn⟩ := h
  refine ⟨⟨h0, by omega⟩, ?_⟩
  obtain ⟨k1, k4, hv⟩ := good_kv hn
  refine ⟨by omega, fun h => ?_⟩
  have hv' := hv (by rcases h with h | h <;> rw [h] <;> rfl)
  unfold Cd.isV at hv'
  simp at hv'
  omega
theorem pqueue_any (g : Nat) (p : Pr) (v : PrV) (P : Nat → Prop) (w : World) (hC : CAt 47 w g (prC p v)) (hp : PIn P w p v) (hg : ¬ P g) (h0 : InvQ p) (hq88 : p.q.length * 88 ≤ 140737488355328) (hq : ∀ a ∈ p.q, (0 ≤ a.1 ∧ a.1 < 2) ∧ okPk a.2) :
    Calls Tryz.prog 30 #[.pointer (some ⟨g, 0, none⟩)] w (Turns w g P (queueP p)) :=
  pqueue_of InvQ g p v P w hC hp hg h0 hq88 (fun a ha => (hq a ha).1) (fun a ha p' v' P' wx y1 y2 hi hC' hp' hg' => by
    obtain ⟨⟨h0, h1⟩, hx⟩ := hq a ha
    have e : a.1 = (a.1.toNat : Int) := by omega
    rw [e]
    have := pdeal_any g p' v' P' wx a.1.toNat (by omega) a.2 y1 y2 hC' hp' hg' hi hx
    rw [Int.toNat_natCast]
    exact this) (fun a ha p' hi => inv_deal hi _ (hq a ha).2)
theorem inv_steps : ∀ (l : List (Int × Pkt)) (z : QS), (∀ a ∈ l, okPk a.2) → InvQ z.p → InvQ (l.foldl stepQ z).p
  | [], z, _, h => h
  | a :: l, z, ho, h => by
    rw [List.foldl_cons]
    refine inv_steps l _ (fun b hb => ho b (List.mem_cons_of_mem _ hb)) ?_
    unfold stepQ
    split
    · exact h
    · split
      · exact inv_deal h _ (ho a List.mem_cons_self)
      · exact h
theorem inv_tick {p : Pr} (hg : goodP p = true) (now : Int) : InvQ (tickP p now) := by
  unfold goodP at hg
  simp only [Bool.and_eq_true, goodLk] at hg
  obtain ⟨⟨⟨⟨⟨⟨⟨h, -⟩, -⟩, -⟩, -⟩, -⟩, ⟨⟨r0, -⟩, ⟨r1, -⟩⟩⟩, -⟩ := hg
  refine ⟨h, fun c hc => ?_⟩
  rcases (show c = 0 ∨ c = 1 by omega) with rfl | rfl
  · exact r0
  · exact r1
theorem ok_queue {p : Pr} (hg : goodP p = true) : ∀ a ∈ p.q, (0 ≤ a.1 ∧ a.1 < 2) ∧ okPk a.2 := fun a ha => by
  unfold goodP at hg
  simp only [Bool.and_eq_true] at hg
  exact okPk_of (List.all_eq_true.1 hg.2 a ha)
theorem inv_queue {p : Pr} (hg : goodP p = true) (now : Int) : InvQ (goQ (tickP p now)).p := inv_steps p.q _ (fun a ha => (ok_queue hg a ha).2) (inv_tick hg now)
theorem steps_t : ∀ (l : List (Int × Pkt)) (z : QS), (l.foldl stepQ z).p.t = z.p.t ∧ (l.foldl stepQ z).p.h = z.p.h
  | [], z => ⟨rfl, rfl⟩
  | a :: l, z => by
    rw [List.foldl_cons]
    have h := steps_t l (stepQ z a)
    have e : (stepQ z a).p.t = z.p.t ∧ (stepQ z a).p.h = z.p.h := by
      unfold stepQ
      split
      · exact ⟨rfl, rfl⟩
      · split
        · show (dealP z.p a.1.toNat a.2).1.t = z.p.t ∧ (dealP z.p a.1.toNat a.2).1.h = z.p.h
          unfold dealP
          repeat' split
          all_goals exact ⟨rfl, rfl⟩
        · exact ⟨rfl, rfl⟩
    exact ⟨h.1.trans e.1, h.2.trans e.2⟩
theorem tell_t (p : Pr) (c : Nat) : (tellP p c).t = p.t := by
  unfold tellP
  repeat' split
  all_goals rfl
/-- P7.8 -/
theorem pend_any (p : Pr) (v : PrV) (P : Nat → Prop) (w : World) (now : Int) (hp : PIn P w p v) (hq88 : p.q.length * 88 ≤ 140737488355328) :
    Calls Tryz.prog 9 #[.agg (prC p v), .int .i64 now] w (AnsE P w (endP p now)) := by
  have ht : (paidP (queueP (tickP p now)) now).t = now := (steps_t p.q ⟨tickP p now, fun _ => false, []⟩).1
  refine pend_of p v P w now hp _ _ _ (fun hg hi hn g v' wx P' hC' hp' hg' => ?_) (fun hg => (inv_queue hg now).1) (fun hg hi hn c hc g v' wx P' hC' hp' hg' => ?_) rfl rfl rfl
  · exact pqueue_any g (tickP p now) v' P' wx hC' hp' hg' (inv_tick hg now) hq88 (fun a ha => ok_queue hg a ha)
  · have hb : 0 ≤ now ∧ now ≤ 1099511627776 := by
      unfold isT at hi
      simpa using hi
    rcases (show c = 0 ∨ c = 1 by omega) with rfl | rfl
    · exact ptell_any g _ v' P' wx 0 (by omega) hC' hp' hg' (by rw [ht]; exact hb.1) (by rw [ht]; exact hb.2)
    · exact ptell_any g _ v' P' wx 1 (by omega) hC' hp' hg' (by rw [tell_t, ht]; exact hb.1) (by rw [tell_t, ht]; exact hb.2)
end Go.Proofs.YtjghbciepinofaaGreat.Pv

