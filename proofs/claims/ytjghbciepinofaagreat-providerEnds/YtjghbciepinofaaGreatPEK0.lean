/- Parts of the proof: PDN PTA. -/
import Derived.Test.YtjghbciepinofaaGreatRows
import Derived.Test.YtjghbciepinofaaGreatPEK31
import Derived.Test.YtjghbciepinofaaGreatPEK32
import Derived.Test.YtjghbciepinofaaGreatPEK48
import Derived.Test.YtjghbciepinofaaGreatPEK51
import Derived.Test.YtjghbciepinofaaGreatPEK52
import Derived.Test.YtjghbciepinofaaGreatPEK53
import Derived.Deep.RegionHeld3
import Derived.BigQuiet
import Derived.Deep.QuietTactic
set_option maxRecDepth 100000
namespace Go.Proofs.YtjghbciepinofaaGreat.Pv
open Go.RowKit
theorem lk_done {p : Pr} {v : PrV} (k : Nat) (hk : k < 2) (l : List Int) (U : Value) :
    (prC p v).setIfInBounds (66 + k * 14 + 5) U = prC { p with L := updL p.L k { p.L k with done := l } } (v.upd k ⟨(v.l k).told, U, (v.l k).said, (v.l k).due⟩) := by
  match k, hk with
  | 0, _ => rfl
  | 1, _ => rfl
theorem done_pin {P : Nat → Prop} {w : World} {p : Pr} {v : PrV} (h : PIn P w p v) (k : Nat) (l : List Int) (U : Value) (h1 : Rep P w U 1 8 (inC l)) :
    PIn P w { p with L := updL p.L k { p.L k with done := l } } (v.upd k ⟨(v.l k).told, U, (v.l k).said, (v.l k).due⟩) := by
  refine ⟨h.ws, h.set, fun c hc => ?_, h.q⟩
  show LkIn P w (if c = k then _ else p.L c) (if c = k then _ else v.l c)
  by_cases e : c = k
  · subst e
    rw [if_pos rfl, if_pos rfl]
    have := h.lk c hc
    exact ⟨this.told, h1, this.said, this.due⟩
  · rw [if_neg e, if_neg e]
    exact h.lk c hc
theorem PIn.put {P : Nat → Prop} {w : World} {p : Pr} {v : PrV} (h : PIn P w p v) {g : Nat} (hg : ¬ P g) (o : Nat) (x : Value) : PIn P (w.setCell ⟨g, o, none⟩ x) p v := h.keep fun b hb _ => Below.heap_setCell _ _ _ _ (show b ≠ g from fun e => hg (by rw [← e]; exact hb))
theorem Rep.put {P : Nat → Prop} {w : World} {v : Value} {sz bts : Nat} {cs : List Value} (h : Rep P w v sz bts cs) {g : Nat} (hg : ¬ P g) (o : Nat) (x : Value) : Rep P (w.setCell ⟨g, o, none⟩ x) v sz bts cs := h.keep fun b hb _ => Below.heap_setCell _ _ _ _ (show b ≠ g from fun e => hg (by rw [← e]; exact hb))
theorem Alt.put {g : Nat} {w w' : World} (h : Alt g w w') (o : Nat) (x : Value) : Alt g w (w'.setCell ⟨g, o, none⟩ x) := ⟨h.os, h.tape, h.output, (by simp [World.setCell]; exact h.size), fun k hk hn => (Below.heap_setCell _ _ _ _ hn).trans (h.block k hk hn)⟩
/-- the end of dealWithDown: who is down is noted -/
theorem done_turns {g : Nat} {p p' : Pr} {v' : PrV} {P : Nat → Prop} {w w3 w4 : World} {c : Nat} (hc : c < 2) {u : Value} {l : List Int} (hgl : g < w.heap.size) (hg : ¬ P g) (hC : CAt 47 w3 g (prC p' v')) (hp : PIn (New P w 0) w3 p' v') (hA : Alt g w w3) (hU : Rep (New (New P w 0) w3 0) w4 u 1 8 (inC l)) (hB : Below w3.heap.size w3 w4)
    (hr : p = { p' with L := updL p'.L c { p'.L c with done := l } }) (b : Bool) :
    TurnsB w g P (p, b) (.returned (.bool b)) (w4.setCell ⟨g, 66 + c * 14 + 5, none⟩ u) := by
  subst hr
  have hn : ¬ New P w 0 g := new_not hg hgl
  have U2 : Rep (New P w 0) w4 u 1 8 (inC l) := hU.mono fun b _ h => by
    rcases h with ⟨h, _⟩ | h
    · exact h
    · exact .inr (by have := hA.size; omega)
  have C4 := (hC.over hB).set (66 + c * 14 + 5) u
  rw [lk_done c hc l u] at C4
  exact ⟨_, rfl, C4, done_pin ((hp.over hB).put hn _ _) c l u (U2.put hn _ _), (hA.trans (Alt.of hB)).put _ _⟩
attribute [local go_sem ↓] loadS_eq loadP_eq storeP_eq storeS_eq
set_option maxHeartbeats 8000000 in
theorem pdown_jailed (g : Nat) (p : Pr) (v : PrV) (P : Nat → Prop) (w : World) (c : Nat) (hc : c < 2) (n : Nat) (hn6 : n < 6) (hC : CAt 47 w g (prC p v)) (hp : PIn P w p v) (hg : ¬ P g) (hr : riseB (-1) (p.L c).done = true) (hj : (p.s.V n).jail = true) :
    Calls Tryz.prog 111 #[.pointer (some ⟨g, 0, none⟩), .pointer (some ⟨g, 66 + c * 14, none⟩), .int .i64 (n : Int)] w (TurnsB w g P ({ p with L := updL p.L c { p.L c with done := doneL (p.L c).done n } }, true)) := by
  have HW := hide (pwithV_any (p.L c).done (v.l c).done (New P w 0) w n (((hp.ofNew (Below.refl _ w) 0).lk c hc).done) hr (by omega) (by omega))
  have d3 := (pr_val hC hn6).2.1
  rw [hj] at d3
  have q5 : w.cell? ⟨g, 66 + c * 14 + 5, none⟩ = some (v.l c).done := (hC.lk hc).facts.2.2.2.2.2.1
  have hgl := hC.lt
  have HE := hide (fun (u : Value) (w2 : World) (hU : Rep (New (New P w 0) w 0) w2 u 1 8 (inC (doneL (p.L c).done n))) (hB : Below w.heap.size w w2) => done_turns (p := { p with L := updL p.L c { p.L c with done := doneL (p.L c).done n } }) hc hgl hg hC (hp.ofNew (Below.refl _ w) 0) (Alt.of (Below.refl _ w)) hU hB rfl true)
  obtain ⟨Ad, nd, Cd0, ed⟩ := (hp.lk c hc).done.one'
  rw [ed] at q5 HW
  have hnn : (n : Int) < 6 := by omega
  have hnz : (0 : Int) ≤ (n : Int) := by omega
  have HC := hide hC
  clear hC hp hr hj
  generalize 66 + c * 14 = o at *
  generalize doneL (p.L c).done n = dl at *
  go_enter Tryz.func111, Tryz.ntmps111
  go_wp2_with (go_at_call 149; refine HW.out.mono ?_; rintro e w2 ⟨u, rfl, U2, hb2⟩; have q6 : w2.cell? ⟨g, o + 5, none⟩ = some (.slice Ad nd Cd0) := (hb2.cell (p := ⟨g, o + 5, none⟩) hgl).trans q5; have fz : w2.frozen? ⟨g, o + 5, none⟩ = false := (HC.out.over hb2).free _; obtain ⟨Au, nu, Cu, rfl⟩ := U2.one'; have HU := hide (show _ ∧ _ from ⟨U2, hb2⟩); clear U2 hb2)
  go_ret
  exact HE.out _ _ HU.out.1 HU.out.2
/-- all orders come to one frame, with a block -/
def Joing (F : Nat → Act) (R : Nat → World → Prop) (ex : Exit) (a : Act) (w : World) : Prop := ∃ g, ex = Exit.normal ∧ a = F g ∧ R g w
theorem wp_joing {P : Program} {c : Code} {Q : Exit → Act → World → Prop} {a : Act} {w : World} (R : Nat → World → Prop) (F : Nat → Act) (h1 : Code.wp P c (Joing F R) a w) (h2 : ∀ g w', R g w' → Q Exit.normal (F g) w') : Code.wp P c Q a w :=
  Code.wp_mono (fun e a' w' h => by obtain ⟨g, rfl, rfl, h⟩ := h; exact h2 g w' h) h1
set_option maxHeartbeats 8000000 in
theorem pdown_free (g : Nat) (p : Pr) (v : PrV) (P : Nat → Prop) (w : World) (c : Nat) (hc : c < 2) (n : Nat) (hn6 : n < 6) (hC : CAt 47 w g (prC p v)) (hp : PIn P w p v) (hg : ¬ P g) (hr : riseB (-1) (p.L c).done = true) (hgs : goodS p.s = true) (hj : (p.s.V n).jail = false) (ht0 : 0 ≤ (p.s.V n).tok) (ht1 : (p.s.V n).tok ≤ 1125899906842624) :
    Calls Tryz.prog 111 #[.pointer (some ⟨g, 0, none⟩), .pointer (some ⟨g, 66 + c * 14, none⟩), .int .i64 (n : Int)] w (TurnsB w g P (if p.ml < 1 then (p, false) else ({ p with ml := wrap64 (p.ml - powV (p.s.V n)), s := setJ p.s n true (p.s.V n).dead, L := updL p.L c { p.L c with done := doneL (p.L c).done n } }, true))) := by
  generalize hD : (if p.ml < 1 then (p, false) else (_, true) : Pr × Bool) = D
  have HD := hide hD
  clear hD
  have d3 := (pr_val hC hn6).2.1
  rw [hj] at d3
  have hgl := hC.lt
  have hnn : (n : Int) < 6 := by omega
  have hnz : (0 : Int) ≤ (n : Int) := by omega
  have HS3 : Hid (∀ wx, Below w.heap.size w wx → wx.cell? ⟨g, 94, none⟩ = some (.int .i64 p.ml) ∧ wx.cell? ⟨g, 94 + 1, none⟩ = some (.int .i64 p.mn) ∧ wx.cell? ⟨g, 9 + n * 5, none⟩ = some (.int .i64 (p.s.V n).tok)) := fun wx hb => ⟨(hC.over hb).cell 94, (hC.over hb).cell 95, (pr_val (hC.over hb) hn6).1⟩
  have HPW : Hid (powV (p.s.V n) = if (p.s.V n).tok / 100 < 1 then 1 else (p.s.V n).tok / 100) := rfl
  generalize powV (p.s.V n) = pw at *
  have HT := hide (fun (wx : World) => Mt.mtake_any p.ml p.mn pw wx)
  have HQ : Hid (∀ wx, Below w.heap.size w wx → TurnsB w g P (p, false) (.returned (.bool false)) wx) := fun wx hb => ⟨v, rfl, hC.over hb, hp.ofNew hb 0, Alt.of hb⟩
  generalize hA : (if p.ml < 1 then p.ml else wrap64 (p.ml - pw)) = ml' at *
  generalize hB : (if p.ml < 1 then false else true) = may at *
  generalize (p.s.V n).tok = tk at *
  have hq : IntKind.i64.wrap (tk.tdiv 100) = tk / 100 := by rw [Int.tdiv_eq_ediv_of_nonneg ht0]; exact wrapI (by omega) (by omega)
  go_enter Tryz.func111, Tryz.ntmps111
  go_upto_region 3 with fail
  have HAL : Hid (Below w.heap.size w (w.alloc (.cells #[.int .i64 0, .int .i64 0] 44))) := (Below.refl _ w).alloc (Nat.le_refl _) _
  have HALd := hide HAL.out.drew
  have hmax : (if tk / 100 < 1 then 1 else tk / 100) = pw := HPW.out.symm
  have HAC : Hid (CAt 44 (w.alloc (.cells #[.int .i64 0, .int .i64 0] 44)).drew w.heap.size #[.int .i64 0, .int .i64 0]) := CAt.new 44 w _
  apply wp_joing (fun gm w' => CAt 44 w' gm #[.int .i64 ml', .int .i64 p.mn] ∧ w.heap.size ≤ gm ∧ Below w.heap.size w w')
  · refine wp_region_noPanic ?_
    have hb := Below.refl w.heap.size w
    go_region_held3 (fun wx => wx.cell? ⟨g, 94, none⟩ = some (.int .i64 p.ml) ∧ wx.cell? ⟨g, 94 + 1, none⟩ = some (.int .i64 p.mn) ∧ wx.cell? ⟨g, 9 + n * 5, none⟩ = some (.int .i64 tk)) ((refine HS3.out _ ?_; first | with_reducible exact hb | with_reducible exact hb.drew | with_reducible exact hb.alloc hb.size _ | with_reducible exact (hb.alloc hb.size _).drew | with_reducible exact hb.drew.alloc hb.drew.size _ | exact (hb.setCell (Nat.le_refl _) _).setCell (Nat.le_refl _) _ | exact ((hb.alloc hb.size _).setCell hb.size _).setCell hb.size _)) (first
      | (go_at_call 147; refine (HT.out w.drew).mono ?_; rintro e wb ⟨rfl, hbb⟩; have hb := (Below.refl w.heap.size w).drew.trans hbb; have HN1 : True := trivial; clear hbb; dsimp only)
      | (go_at_call 147; refine (HT.out (w.alloc (.cells #[.int .i64 0, .int .i64 0] 44)).drew).mono ?_; rintro e wb ⟨rfl, hbb⟩; have hb := HALd.out.trans (hbb.mono HALd.out.size); have HCb := hide (HAC.out.over hbb); have z0 := HCb.out.cell 0; have z1 : wb.cell? ⟨w.heap.size, 0 + 1, none⟩ = _ := HCb.out.cell 1; have zf0 := HCb.out.free 0; have zf1 := HCb.out.free (0 + 1); clear hbb; dsimp only))
    all_goals first
      | (have _m := HN1; obtain ⟨gn, hg'⟩ : ∃ gn, gn = wb.heap.size := ⟨_, rfl⟩; rw [← hg']; exact NoPanic.normal ⟨gn, rfl, rfl, by subst hg'; exact ⟨CAt.new _ _ _, hb.size, hb.alloc hb.size _⟩⟩)
      | (obtain ⟨gn, hg'⟩ : ∃ gn, gn = w.heap.size := ⟨_, rfl⟩; rw [← hg']; exact NoPanic.normal ⟨gn, rfl, rfl, by subst hg'; exact ⟨(HCb.out.set 0 _).set 1 _, Nat.le_refl _, (hb.setCell (Nat.le_refl _) _).setCell (Nat.le_refl _) _⟩⟩)
  rintro gm w3 ⟨M3, hgm, B3⟩
  have HB3 := hide B3
  have HM3 := hide M3
  have m0 : w3.cell? ⟨gm, 0, none⟩ = some (.int .i64 ml') := M3.cell 0
  have m1 : w3.cell? ⟨gm, 0 + 1, none⟩ = some (.int .i64 p.mn) := M3.cell 1
  clear HAL HALd HAC hmax HT HS3 d3 B3 M3
  simp only [Exit.then]
  apply_assumption
  by_cases hml : p.ml < 1
  · rw [if_pos hml] at hB
    subst hB
    have HD' := hide (HD.out.symm.trans (if_pos hml))
    clear HD
    go_wp2
    go_ret
    rw [HD'.out]
    exact HQ.out _ HB3.out
  · rw [if_neg hml] at hA hB
    subst hB
    have HD' := hide (HD.out.symm.trans (if_neg hml))
    clear HD HQ
    have C3 := hC.over HB3.out
    have e94 : w3.cell? ⟨g, 94, none⟩ = some (.int .i64 p.ml) := C3.cell 94
    have e95 : w3.cell? ⟨g, 94 + 1, none⟩ = some (.int .i64 p.mn) := C3.cell 95
    have z94 := C3.free 94
    have z95 := C3.free (94 + 1)
    have hgl3 := C3.lt
    have hgmg : ¬ gm = g := by omega
    have HHP := hide hp
    have HHR := hide hr
    have HHG := hide hg
    have HHS := hide hgs
    have HHJ := hide hj
    have HC3 := hide C3
    have HAA := hide hA
    clear hC hp hr hgs hj C3 hA hg hml
    go_upto_region 7 with fail
    have C4 : CAt 47 ((w3.setCell ⟨g, 94, none⟩ (.int .i64 ml')).setCell ⟨g, 95, none⟩ (.int .i64 p.mn)) g (prC { p with ml := ml' } v) := (HC3.out.set 94 _).set 95 _
    have A4 : Alt g w ((w3.setCell ⟨g, 94, none⟩ (.int .i64 ml')).setCell ⟨g, 95, none⟩ (.int .i64 p.mn)) := ((Alt.of (g := g) HB3.out).put 94 _).put 95 _
    have P4 : PIn (New P w 0) ((w3.setCell ⟨g, 94, none⟩ (.int .i64 ml')).setCell ⟨g, 95, none⟩ (.int .i64 p.mn)) { p with ml := ml' } v := by
      have := ((HHP.out.ofNew HB3.out 0).put (new_not HHG.out hgl) 94 (.int .i64 ml')).put (new_not HHG.out hgl) 95 (.int .i64 p.mn)
      exact ⟨this.ws, this.set, this.lk, this.q⟩
    clear e94 e95 z94 z95 m0 m1 HM3 HC3 HB3
    generalize (w3.setCell ⟨g, 94, none⟩ (.int .i64 ml')).setCell ⟨g, 95, none⟩ (.int .i64 p.mn) = w4 at *
    have hj4 : jailS p.s (n : Int) = (setJ p.s n true (p.s.V n).dead, 0) := by
      unfold jailS
      rw [if_pos (refE_good HHS.out hn6), Int.toNat_natCast, if_neg (by rw [HHJ.out]; simp)]
    have hjl := st_jail P4.ws (n : Int)
    dsimp only at hjl
    rw [hj4] at hjl
    have HJL := hide hjl
    have m4 := pr_loadS C4
    have HSW : Hid ((setJ p.s n true (p.s.V n).dead).W = p.s.W) := rfl
    generalize hS1 : setJ p.s n true (p.s.V n).dead = s1 at *
    have HS1 := hide hS1
    have hgl4 := C4.lt
    have hone := st_one s1 P4.ws.one'
    have H4 := hide (show _ ∧ _ ∧ _ from ⟨C4, P4, A4⟩)
    clear C4 P4 A4 hjl hj4 hS1
    go_upto_region 8 with (go_at_call 148; refine HJL.out.mono ?_; rintro e w5 ⟨rfl, hb5⟩; clear m4; have sS5 := pr_storeS (H4.out.1.over hb5) (prC_size _ _) (stC_size s1 v.ws) hone)
    have C6 := (H4.out.1.over hb5).stake s1 v.ws
    have A6 := (H4.out.2.2.trans (Alt.of hb5)).sets (stC s1 v.ws).toList 2
    have P6 := (H4.out.2.1.over hb5).sets (g := g) (new_not HHG.out hgl) 2 (stC s1 v.ws).toList
    have P6' : PIn (New P w 0) (w5.setCells g 2 (stC s1 v.ws).toList) { p with ml := ml', s := s1 } v := ⟨by rw [show ({ p with ml := ml', s := s1 } : Pr).s.W = p.s.W from HSW.out]; exact P6.ws, P6.set, P6.lk, P6.q⟩
    clear sS5 hb5 HJL H4 P6
    generalize w5.setCells g 2 (stC s1 v.ws).toList = w6 at *
    have HW := hide (pwithV_any (p.L c).done (v.l c).done (New P w 0) w6 n ((P6'.lk c hc).done) HHR.out (by omega) (by omega))
    have q5 : w6.cell? ⟨g, 66 + c * 14 + 5, none⟩ = some (v.l c).done := (C6.lk hc).facts.2.2.2.2.2.1
    obtain ⟨Ad, nd, Cd0, ed⟩ := (P6'.lk c hc).done.one'
    rw [ed] at q5 HW
    have hgl6 := C6.lt
    have HE := hide (fun (u : Value) (w2 : World) (hU : Rep (New (New P w 0) w6 0) w2 u 1 8 (inC (doneL (p.L c).done n))) (hB : Below w6.heap.size w6 w2) => done_turns (p := { p with ml := ml', s := s1, L := updL p.L c { p.L c with done := doneL (p.L c).done n } }) hc hgl HHG.out C6 P6' A6 hU hB rfl true)
    have HC6 := hide C6
    have HDD : Hid (D = ({ p with ml := ml', s := s1, L := updL p.L c { p.L c with done := doneL (p.L c).done n } }, true)) := by rw [Hid, HD'.out, HAA.out]
    clear HD' HS1 HAA C6 P6' A6 ed
    generalize 66 + c * 14 = o at *
    generalize doneL (p.L c).done n = dl at *
    go_wp2_with (go_at_call 149; refine HW.out.mono ?_; rintro e w7 ⟨u, rfl, U2, hb2⟩; have q6 : w7.cell? ⟨g, o + 5, none⟩ = some (.slice Ad nd Cd0) := (hb2.cell (p := ⟨g, o + 5, none⟩) hgl6).trans q5; have fz : w7.frozen? ⟨g, o + 5, none⟩ = false := (HC6.out.over hb2).free _; obtain ⟨Au, nu, Cu, rfl⟩ := U2.one'; have HU := hide (show _ ∧ _ from ⟨U2, hb2⟩); clear U2 hb2)
    go_ret
    rw [HDD.out]
    exact HE.out _ _ HU.out.1 HU.out.2
theorem vTok {s : St} (hg : goodS s = true) {n : Nat} (hn : n < 6) : 0 ≤ (s.V n).tok ∧ (s.V n).tok ≤ 1125899906842624 := ((vOk_iff _).1 (((goodS_iff s).1 hg).2.2.2.2.2.1 n hn).1).1
theorem pdown_any (g : Nat) (p : Pr) (v : PrV) (P : Nat → Prop) (w : World) (c : Nat) (hc : c < 2) (x : Pkt) (hC : CAt 47 w g (prC p v)) (hp : PIn P w p v) (hg : ¬ P g) (hk : x.k = 3) (hr : riseB (-1) (p.L c).done = true) (hgs : goodS p.s = true) (h0 : 0 ≤ x.v) (h6 : x.v < 6) :
    Calls Tryz.prog 111 #[.pointer (some ⟨g, 0, none⟩), .pointer (some ⟨g, 66 + c * 14, none⟩), .int .i64 x.v] w (TurnsB w g P (dealP p c x)) := by
  obtain ⟨n, hn, hn6⟩ : ∃ n : Nat, x.v = (n : Int) ∧ n < 6 := ⟨x.v.toNat, by omega, by omega⟩
  unfold dealP
  rw [if_neg (by omega), if_neg (by omega), hn, Int.toNat_natCast]
  cases hj : (p.s.V n).jail
  · rw [if_neg (by simp)]
    exact pdown_free g p v P w c hc n hn6 hC hp hg hr hgs hj (vTok hgs hn6).1 (vTok hgs hn6).2
  · rw [if_pos rfl]
    exact pdown_jailed g p v P w c hc n hn6 hC hp hg hr hj
end Go.Proofs.YtjghbciepinofaaGreat.Pv

set_option maxRecDepth 100000
namespace Go.Proofs.YtjghbciepinofaaGreat.Pv
open Go.RowKit
/-- all orders come to one frame, with a slice and a block -/
def Joinv (F : Option Addr → Nat → Nat → Nat → Act) (R : Option Addr → Nat → Nat → Nat → World → Prop) (ex : Exit) (a : Act) (w : World) : Prop := ∃ A n C g, ex = Exit.normal ∧ a = F A n C g ∧ R A n C g w
theorem wp_joinv {P : Program} {c : Code} {Q : Exit → Act → World → Prop} {a : Act} {w : World} (R : Option Addr → Nat → Nat → Nat → World → Prop) (F : Option Addr → Nat → Nat → Nat → Act) (h1 : Code.wp P c (Joinv F R) a w) (h2 : ∀ A n C g w', R A n C g w' → Q Exit.normal (F A n C g) w') : Code.wp P c Q a w :=
  Code.wp_mono (fun e a' w' h => by obtain ⟨A, n, C, g, rfl, rfl, h⟩ := h; exact h2 A n C g w' h) h1
/-- a packet is stored; a line is stored -/
def storeK (a v : Value) : Sem Unit := Instr.storeAt 49 a v
theorem storeK_eq (a v : Value) : Instr.storeAt 49 a v = storeK a v := rfl
def storeN (a v : Value) : Sem Unit := Instr.storeAt 37 a v
theorem storeN_eq (a v : Value) : Instr.storeAt 37 a v = storeN a v := rfl
theorem infoPkS : (Tryz.prog.info? 49).map (·.size) = some 6 := by kernel_rfl
theorem infoLnS : (Tryz.prog.info? 37).map (·.size) = some 4 := by kernel_rfl
def Z6 : Array Value := #[.int .i64 0, .int .i64 0, .int .i64 0, .int .i64 0, .slice none 0 0, .slice none 0 0]
def Z4 : Array Value := #[.slice none 0 0, .slice none 0 0, .int .i64 0, .bool false]
theorem pk_store {w : World} {g : Nat} {zs cs : Array Value} (h : CAt 49 w g zs) (hz : zs.size = 6) (hs : cs.size = 6) (h1 : cs.all (·.oneCell') = true) : (storeK (.pointer (some ⟨g, 0, none⟩)) (.agg cs)).run Tryz.prog w = .ok () (w.setCells g 0 cs.toList) :=
  run_storeAt_mid (P := Tryz.prog) w g 0 49 cs (h.there 0 _ (by rw [hz, hs]; omega)) (by rw [infoPkS, hs]) h1
theorem ln_store {w : World} {g : Nat} {zs cs : Array Value} (h : CAt 37 w g zs) (hz : zs.size = 4) (hs : cs.size = 4) (h1 : cs.all (·.oneCell') = true) : (storeN (.pointer (some ⟨g, 0, none⟩)) (.agg cs)).run Tryz.prog w = .ok () (w.setCells g 0 cs.toList) :=
  run_storeAt_mid (P := Tryz.prog) w g 0 37 cs (h.there 0 _ (by rw [hz, hs]; omega)) (by rw [infoLnS, hs]) h1
/-- a packet in a block, its set elsewhere -/
structure Tds (w1 : World) (cs : Array Value) (dl : List (Int × Int)) (u : Value) (g4 : Nat) (w5 : World) : Prop where
  cat : CAt 49 w5 g4 cs
  rep : Rep (fun b => w1.heap.size ≤ b ∧ b ≠ g4) w5 u 2 16 (pwC dl)
  bel : Below w1.heap.size w1 w5
  le : w1.heap.size ≤ g4
theorem tds_new {w1 w0 wb : World} {cs : Array Value} {dl : List (Int × Int)} {u : Value} (hs : cs.size = 6) (U : Rep (fun b => w0.heap.size ≤ b) wb u 2 16 (pwC dl)) (h0 : w1.heap.size ≤ w0.heap.size) (hb : Below w1.heap.size w1 wb) : Tds w1 cs dl u wb.heap.size ((wb.alloc (.cells Z6 49)).setCells wb.heap.size 0 cs.toList) := by
  have bA : Below wb.heap.size wb (wb.alloc (.cells Z6 49)) := (Below.refl _ wb).alloc (Nat.le_refl _) _
  have U1 : Rep (fun b => w1.heap.size ≤ b ∧ b ≠ wb.heap.size) wb u 2 16 (pwC dl) := U.mono fun b hl h => ⟨Nat.le_trans h0 h, by omega⟩
  exact ⟨(CAt.new 49 wb Z6).setAll (by rw [hs]; rfl), (U1.over bA).sets (fun h => h.2 rfl) 0 _, below_sets hb.size _ _ _ (hb.alloc hb.size _), hb.size⟩
theorem tds_old {w1 ws wb : World} {cs : Array Value} {dl : List (Int × Int)} {u : Value} (hs : cs.size = 6) (U : Rep (fun b => ws.heap.size ≤ b) wb u 2 16 (pwC dl)) (h0 : w1.heap.size + 1 ≤ ws.heap.size) (hb : Below w1.heap.size w1 wb) (hc : CAt 49 wb w1.heap.size Z6) : Tds w1 cs dl u w1.heap.size (wb.setCells w1.heap.size 0 cs.toList) := by
  have U1 : Rep (fun b => w1.heap.size ≤ b ∧ b ≠ w1.heap.size) wb u 2 16 (pwC dl) := U.mono fun b hl h => by have h' : ws.heap.size ≤ b := h; exact ⟨by omega, by omega⟩
  exact ⟨hc.setAll (by rw [hs]; rfl), U1.sets (fun h => h.2 rfl) 0 _, below_sets (Nat.le_refl _) _ _ _ hb, Nat.le_refl _⟩
theorem pk_one (a b : Int) {u : Value} (h : ∃ A n C, u = .slice A n C) (A : Option Addr) (n C : Nat) : (#[.int .i64 a, .int .i64 b, .int .i64 0, .int .i64 0, u, .slice A n C] : Array Value).all (·.oneCell') = true := by
  obtain ⟨A', n', C', rfl⟩ := h
  first | (simp [Value.oneCell']; done) | (rw [Array.all_eq_true_iff_forall_mem]; intro x hx; simp at hx; rcases hx with rfl | rfl | rfl | rfl | rfl | rfl <;> rfl)
theorem tds_new2 {w1 w0 wb : World} {cs : Array Value} {dl : List (Int × Int)} {u : Value} (hs : cs.size = 6) (h1 : cs.all (·.oneCell') = true) (U : Rep (fun b => w0.heap.size ≤ b) wb u 2 16 (pwC dl)) (h0 : w1.heap.size ≤ w0.heap.size) (hb : Below w1.heap.size w1 wb) : ∃ wS, (storeK (.pointer (some ⟨wb.heap.size, 0, none⟩)) (.agg cs)).run Tryz.prog (wb.alloc (.cells Z6 49)) = .ok () wS ∧ Tds w1 cs dl u wb.heap.size wS :=
  ⟨_, pk_store (CAt.new 49 wb Z6) rfl hs h1, tds_new hs U h0 hb⟩
theorem tds_old2 {w1 ws wb : World} {cs : Array Value} {dl : List (Int × Int)} {u : Value} (hs : cs.size = 6) (h1 : cs.all (·.oneCell') = true) (U : Rep (fun b => ws.heap.size ≤ b) wb u 2 16 (pwC dl)) (h0 : w1.heap.size + 1 ≤ ws.heap.size) (hb : Below w1.heap.size w1 wb) (hc : CAt 49 wb w1.heap.size Z6) : ∃ wS, (storeK (.pointer (some ⟨w1.heap.size, 0, none⟩)) (.agg cs)).run Tryz.prog wb = .ok () wS ∧ Tds w1 cs dl u w1.heap.size wS :=
  ⟨_, pk_store hc rfl hs h1, tds_old hs U h0 hb hc⟩
theorem pr_split2 (p : Pr) (v : PrV) (k : Nat) (hk : k < 2) : ∃ a c : List Value, a.length = 66 + k * 14 ∧ prC p v = (a ++ (lkL (p.L k) (v.l k) ++ c)).toArray ∧ ∀ y x, prC { p with L := updL p.L k y } (v.upd k x) = (a ++ (lkL y x ++ c)).toArray := by
  have h0 : ([.int .i64 p.h, .int .i64 p.t] ++ ((stC p.s v.ws).toList ++ [v.set]) : List Value).length = 66 := by simp [stC_size]
  match k, hk with
  | 0, _ =>
    refine ⟨[.int .i64 p.h, .int .i64 p.t] ++ ((stC p.s v.ws).toList ++ [v.set]), lkL (p.L 1) (v.l 1) ++ [.int .i64 p.ml, .int .i64 p.mn, v.q], h0, ?_, fun y x => ?_⟩
    · simp [prC]
    · simp [prC, PrV.upd, updL]
  | 1, _ =>
    refine ⟨[.int .i64 p.h, .int .i64 p.t] ++ ((stC p.s v.ws).toList ++ [v.set]) ++ lkL (p.L 0) (v.l 0), [.int .i64 p.ml, .int .i64 p.mn, v.q], ?_, ?_, fun y x => ?_⟩
    · rw [List.length_append, h0]; rfl
    · simp [prC]
    · simp [prC, PrV.upd, updL]
theorem lk_told {p : Pr} {v : PrV} (k : Nat) (hk : k < 2) (x : Ln.Line) (l : List (Int × Int)) (T S U : Value) :
    (((((((prC p v).setIfInBounds (66 + k * 14 + 6) S).setIfInBounds (66 + k * 14 + 7) U).setIfInBounds (66 + k * 14 + 8) (.int .i64 x.g)).setIfInBounds (66 + k * 14 + 9) (.bool x.cl)).setIfInBounds (66 + k * 14 + 3) T).setIfInBounds (66 + k * 14 + 4) (.bool false)).setIfInBounds (66 + k * 14 + 5) (.slice none 0 0)
      = prC { p with L := updL p.L k { p.L k with out := x, told := l, fresh := false, done := [] } } (v.upd k ⟨T, .slice none 0 0, S, U⟩) := by
  obtain ⟨a, c, ha, h1, h2⟩ := pr_split2 p v k hk
  rw [h1, h2, set_mid _ _ _ _ _ _ ha (by show 6 < 14; omega), set_mid _ _ _ _ _ _ ha (by simp [lkL]), set_mid _ _ _ _ _ _ ha (by simp [lkL]), set_mid _ _ _ _ _ _ ha (by simp [lkL]), set_mid _ _ _ _ _ _ ha (by simp [lkL]), set_mid _ _ _ _ _ _ ha (by simp [lkL]), set_mid _ _ _ _ _ _ ha (by simp [lkL])]
  rfl
theorem told_in {P : Nat → Prop} {w : World} {p : Pr} {v : PrV} (h : PIn P w p v) (k : Nat) (x : Ln.Line) (T S U : Value) (h1 : Rep P w T 2 16 (pwC p.set)) (h2 : RepC P w S 1 16 (txC x.S)) (h3 : RepC P w U 1 8 (inC x.D)) :
    PIn P w { p with L := updL p.L k { p.L k with out := x, told := p.set, fresh := false, done := [] } } (v.upd k ⟨T, .slice none 0 0, S, U⟩) := by
  refine ⟨h.ws, h.set, fun c hc => ?_, h.q⟩
  show LkIn P w (if c = k then _ else p.L c) (if c = k then _ else v.l c)
  by_cases e : c = k
  · rw [if_pos e, if_pos e]
    exact ⟨h1, Rep.nil _ _ _ _, h2, h3⟩
  · rw [if_neg e, if_neg e]
    exact h.lk c hc
noncomputable def tell2C : Code := subC [1, 1] (Tryz.f32.body.getD .skip)
noncomputable def tell5C : Code := subC [1, 1, 1, 1, 1] (Tryz.f32.body.getD .skip)
end Go.Proofs.YtjghbciepinofaaGreat.Pv

