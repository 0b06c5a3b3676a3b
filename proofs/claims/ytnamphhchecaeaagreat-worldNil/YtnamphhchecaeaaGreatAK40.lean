/- Parts of the proof: PVSM. -/
import Derived.Test.YtnamphhchecaeaaGreatRows
import Derived.Test.YtnamphhchecaeaaGreatAK39
set_option maxRecDepth 100000
namespace Go.Proofs.YtnamphhchecaeaaGreat.Pv
open Go.RowKit
/-- what a walk reads of a provider in a block -/
theorem pr_facts {w : World} {b : Nat} {p : Pr} {v : PrV} (h : CAt 56 w b (prC p v)) : (w.cell? ⟨b, 0, none⟩ = some (.int .i64 p.h) ∧ w.cell? ⟨b, 1, none⟩ = some (.int .i64 p.t) ∧ w.cell? ⟨b, 65, none⟩ = some v.set ∧ w.cell? ⟨b, 94, none⟩ = some (.int .i64 p.ml) ∧ w.cell? ⟨b, 95, none⟩ = some (.int .i64 p.mn) ∧ w.cell? ⟨b, 96, none⟩ = some v.q) ∧ (loadS (.pointer (some ⟨b, 2, none⟩))).run Tryz.prog w = .ok (.agg (stC p.s v.ws)) w :=
  ⟨⟨h.cell 0, h.cell 1, h.cell 65, h.cell 94, h.cell 95, h.cell 96⟩, pr_loadS h⟩
/-- what a walk reads of a link in a block -/
theorem lk_facts {w : World} {b : Nat} {x : Lk} {v : LkV} (h : CAt 50 w b (lkL x v).toArray) : w.cell? ⟨b, 0, none⟩ = some (.bool x.on) ∧ w.cell? ⟨b, 1, none⟩ = some (.bool x.gone) ∧ w.cell? ⟨b, 2, none⟩ = some (.int .i64 x.base) ∧ w.cell? ⟨b, 3, none⟩ = some v.told ∧ w.cell? ⟨b, 4, none⟩ = some (.bool x.fresh) ∧ w.cell? ⟨b, 5, none⟩ = some v.done ∧ (w.cell? ⟨b, 6, none⟩ = some v.said ∧ w.cell? ⟨b, 7, none⟩ = some v.due ∧ w.cell? ⟨b, 8, none⟩ = some (.int .i64 x.out.g) ∧ w.cell? ⟨b, 9, none⟩ = some (.bool x.out.cl)) ∧ (w.cell? ⟨b, 10, none⟩ = some (.int .i64 x.h0) ∧ w.cell? ⟨b, 11, none⟩ = some (.int .i64 x.h1) ∧ w.cell? ⟨b, 12, none⟩ = some (.int .i64 x.h2) ∧ w.cell? ⟨b, 13, none⟩ = some (.int .i64 x.h3)) :=
  ⟨h.cell 0, h.cell 1, h.cell 2, h.cell 3, h.cell 4, h.cell 5, ⟨h.cell 6, h.cell 7, h.cell 8, h.cell 9⟩, ⟨h.cell 10, h.cell 11, h.cell 12, h.cell 13⟩⟩
attribute [local go_sem ↓] loadS_eq
set_option maxHeartbeats 8000000 in
set_option maxRecDepth 1000000 in
theorem samep_any (p : Pr) (v v' : PrV) (P P' : Nat → Prop) (w : World) (hp : PIn P w p v) (hp' : PIn P' w p v') :
    Calls Tryz.prog 6 #[.agg (prC p v), .agg (prC p v')] w fun e w' => e = .returned (.bool true) ∧ Below w.heap.size w w' := by
  obtain ⟨vw, vs, vl, vq⟩ := v
  obtain ⟨vw', vs', vl', vq'⟩ := v'
  obtain ⟨z, hzl, hzr, hzi⟩ := id hp.q
  obtain ⟨z', hzl', hzr', hzi'⟩ := id hp'.q
  obtain ⟨Aq, Cq, eq, sq, -, cq, -⟩ := hzr.open (quL_length _ _ hzl) (by decide)
  obtain ⟨Aq', Cq', eq', sq', -, cq', -⟩ := hzr'.open (quL_length _ _ hzl') (by decide)
  dsimp only at eq eq'
  subst eq eq'
  have HZ := hide (show _ ∧ _ ∧ _ ∧ _ ∧ _ ∧ _ from ⟨hzl, hzl', hzi, hzi', cq, cq'⟩)
  clear hzl hzl' hzi hzi' cq cq' hzr hzr'
  have HP := hide hp
  have HP' := hide hp'
  clear hp hp'
  generalize hv : (⟨vw, vs, vl, .slice Aq p.q.length Cq⟩ : PrV) = v at *
  generalize hv' : (⟨vw', vs', vl', .slice Aq' p.q.length Cq'⟩ : PrV) = v' at *
  have hvq : v.q = .slice Aq p.q.length Cq := by rw [← hv]
  have hvq' : v'.q = .slice Aq' p.q.length Cq' := by rw [← hv']
  clear hv hv'
  obtain ⟨cs, hcs⟩ : ∃ cs, prC p v = cs := ⟨_, rfl⟩
  obtain ⟨cs', hcs'⟩ : ∃ cs, prC p v' = cs := ⟨_, rfl⟩
  rw [hcs, hcs']
  have HCS := hide (show _ ∧ _ from ⟨hcs, hcs'⟩)
  clear hcs hcs'
  go_enter Tryz.func6, Tryz.ntmps6
  go_upto_region 1 with fail
  have C1 : CAt 56 ((w.alloc (.cells cs 56)).alloc (.cells cs' 56)) w.heap.size (prC p v) := by rw [HCS.out.1]; exact (CAt.new _ w cs).alloc _
  have D1 : CAt 56 ((w.alloc (.cells cs 56)).alloc (.cells cs' 56)) (w.heap.size + 1) (prC p v') := by rw [HCS.out.2]; exact CAt.new2 56 w _ cs'
  have B1 : Below w.heap.size w ((w.alloc (.cells cs 56)).alloc (.cells cs' 56)) := ((Below.refl _ w).alloc (Nat.le_refl _) _).alloc (by simp) _
  generalize (w.alloc (.cells cs 56)).alloc (.cells cs' 56) = w1 at *
  have HX := hide (show _ ∧ _ ∧ _ from ⟨C1, D1, B1⟩)
  obtain ⟨⟨a0, a1, a2, a3, a4, a5⟩, a6⟩ := pr_facts C1
  obtain ⟨⟨b0, b1, b2, b3, b4, b5⟩, b6⟩ := pr_facts D1
  rw [hvq] at a5
  rw [hvq'] at b5
  clear C1 D1 B1
  go_upto_region 3 with (first
    | (go_at_call 11; refine (sames_rep p.s v.ws v'.ws (HP.out.ws.over HX.out.2.2) (HP'.out.ws.over HX.out.2.2)).mono ?_; rintro e w2 ⟨rfl, hb2⟩; have HY := hide (show _ ∧ _ ∧ _ from ⟨HX.out.1.over hb2, HX.out.2.1.over hb2, HX.out.2.2.trans (hb2.mono HX.out.2.2.size)⟩); clear a0 a1 a2 a3 a4 a5 a6 b0 b1 b2 b3 b4 b5 b6 hb2; obtain ⟨⟨a0, a1, a2, a3, a4, a5⟩, a6⟩ := pr_facts HY.out.1; obtain ⟨⟨b0, b1, b2, b3, b4, b5⟩, b6⟩ := pr_facts HY.out.2.1; rw [hvq] at a5; rw [hvq'] at b5)
    | (go_at_call 12; refine (samepw_rep p.set v.set v'.set (HP.out.set.over HY.out.2.2) (HP'.out.set.over HY.out.2.2)).mono ?_; rintro e w3 ⟨rfl, hb3⟩; have HZ3 := hide (show _ ∧ _ ∧ _ from ⟨HY.out.1.over hb3, HY.out.2.1.over hb3, HY.out.2.2.trans (hb3.mono HY.out.2.2.size)⟩); clear a0 a1 a2 a3 a4 a5 a6 b0 b1 b2 b3 b4 b5 b6 hb3; obtain ⟨⟨a0, a1, a2, a3, a4, a5⟩, a6⟩ := pr_facts HZ3.out.1; obtain ⟨⟨b0, b1, b2, b3, b4, b5⟩, b6⟩ := pr_facts HZ3.out.2.1; rw [hvq] at a5; rw [hvq'] at b5))
  clear a0 a1 a2 a3 a4 a5 a6 b0 b1 b2 b3 b4 b5 b6 HX HY
  have hq63 : p.q.length ≤ 1800000000000 := by omega
  go_upto_region 4 with fail
  go_loopw [53] (fun i wl => ∃ (k : Nat), k ≤ 2 ∧ i = .int .i64 (k : Int) ∧ Hid (Below w3.heap.size w3 wl)) (fun i _ => (2 - intOf i).toNat)
  case atStart => exact ⟨0, by omega, rfl, Below.refl _ _⟩
  case round =>
    obtain ⟨k, hk, rfl, HB⟩ := hrel
    by_cases hk2 : k < 2
    · have hkk : (k : Int) < 2 := by omega
      go_upto_region 6 with fail
      have hBw : Below w.heap.size w wr := HZ3.out.2.2.trans (HB.out.mono HZ3.out.2.2.size)
      have hl1 := (HP.out.lk k hk2).keep (w' := wr) fun b _ hlt => hBw.block b hlt
      have hl2 := (HP'.out.lk k hk2).keep (w' := wr) fun b _ hlt => hBw.block b hlt
      refine sp6_wp w.heap.size (w.heap.size + 1) k hk2 p v v' wr (HZ3.out.1.over HB.out) (HZ3.out.2.1.over HB.out) _ _ _ _ _ _ _ _ _ _ _ _ _ _ _ _ _ _ _ _ _ _ _ _ _ _ _ _ _ _ _ _ _ _ _ _ _ _ _ _ _ _ _ _ _ _ _ _ _ _ _ _ _ _ _ _ _ _ _ _ _ _ _ _ _ _ _ _ _ _ _ _ _ _ _ _ _ _ _ _ _ _ _ _ _ _ _ _ _ _ _ _ _ _ _ _ _ _ _ _ _ _ _ _ _ _ _ _ _ _ _ _ _ _ _ _ _ _ _ _ _ _ _ _ _ _ _ _ _ _ _ _ _ _ _ _ _ _ _ _ _ _ _ _ _ _ _ _ _ _ _ _ _ _ _ _ ⟨lk_one hl1, lk_one hl2⟩ ?_
      intro x6 x7 t56 t57 t58 t59 t60 t61 t62 t63 w5 hb5 h6 h7
      have HL := hide (show _ ∧ _ from ⟨hl1, hl2⟩)
      have E5 := hide (show _ ∧ _ ∧ _ ∧ _ from ⟨h6, h7, hb5, HB.out.trans (hb5.mono HB.out.size)⟩)
      clear hl1 hl2 h6 h7 hb5 hBw HB
      obtain ⟨c0, c1, c2, c3, c4, c5, ⟨c6, c7, c8, c9⟩, ⟨ca, cb, cc, cd⟩⟩ := lk_facts E5.out.1; obtain ⟨d0, d1, d2, d3, d4, d5, ⟨d6, d7, d8, d9⟩, ⟨da, db, dc, dd⟩⟩ := lk_facts E5.out.2.1
      generalize p.L k = x at *
      generalize v.l k = u at *
      generalize v'.l k = u' at *
      simp only [Exit.then]
      apply_assumption
      go_upto_region 9 with (first
        | (go_at_call 12; refine (samepw_rep x.told u.told u'.told (HL.out.1.told.over E5.out.2.2.1) (HL.out.2.told.over E5.out.2.2.1)).mono ?_; rintro e w6 ⟨rfl, hb6⟩; have E6 := hide (show _ ∧ _ ∧ _ ∧ _ from ⟨E5.out.1.over hb6, E5.out.2.1.over hb6, E5.out.2.2.1.trans (hb6.mono E5.out.2.2.1.size), E5.out.2.2.2.trans (hb6.mono E5.out.2.2.2.size)⟩); clear c0 c1 c2 c3 c4 c5 c6 c7 c8 c9 ca cb cc cd d0 d1 d2 d3 d4 d5 d6 d7 d8 d9 da db dc dd; clear hb6; obtain ⟨c0, c1, c2, c3, c4, c5, ⟨c6, c7, c8, c9⟩, ⟨ca, cb, cc, cd⟩⟩ := lk_facts E6.out.1; obtain ⟨d0, d1, d2, d3, d4, d5, ⟨d6, d7, d8, d9⟩, ⟨da, db, dc, dd⟩⟩ := lk_facts E6.out.2.1)
        | (go_at_call 13; refine (samenm_rep x.done u.done u'.done (HL.out.1.done.over E6.out.2.2.1) (HL.out.2.done.over E6.out.2.2.1)).mono ?_; rintro e w7 ⟨rfl, hb7⟩; have E7 := hide (show _ ∧ _ ∧ _ ∧ _ from ⟨E6.out.1.over hb7, E6.out.2.1.over hb7, E6.out.2.2.1.trans (hb7.mono E6.out.2.2.1.size), E6.out.2.2.2.trans (hb7.mono E6.out.2.2.2.size)⟩); clear c0 c1 c2 c3 c4 c5 c6 c7 c8 c9 ca cb cc cd d0 d1 d2 d3 d4 d5 d6 d7 d8 d9 da db dc dd; clear hb7; obtain ⟨c0, c1, c2, c3, c4, c5, ⟨c6, c7, c8, c9⟩, ⟨ca, cb, cc, cd⟩⟩ := lk_facts E7.out.1; obtain ⟨d0, d1, d2, d3, d4, d5, ⟨d6, d7, d8, d9⟩, ⟨da, db, dc, dd⟩⟩ := lk_facts E7.out.2.1)
        | (go_at_call 14; refine (samel_rep x.out u.said u.due u'.said u'.due (HL.out.1.said.over E7.out.2.2.1) (HL.out.1.due.over E7.out.2.2.1) (HL.out.2.said.over E7.out.2.2.1) (HL.out.2.due.over E7.out.2.2.1)).mono ?_; rintro e w8 ⟨rfl, hb8⟩; have E8 := hide (E7.out.2.2.2.trans (hb8.mono E7.out.2.2.2.size)); clear c0 c1 c2 c3 c4 c5 c6 c7 c8 c9 ca cb cc cd d0 d1 d2 d3 d4 d5 d6 d7 d8 d9 da db dc dd; clear hb8))
      clear HL E5 E6 E7
      go_wp2
      first | exact ⟨⟨k + 1, by omega, by go_num, E8⟩, by simp [intOf]; omega⟩ | ((repeat apply Exists.intro); exact ⟨⟨k + 1, by omega, by go_num, E8⟩, rfl⟩)
    · obtain rfl : k = 2 := by omega
      rename World => w9
      have HX := hide (show _ ∧ _ ∧ _ from ⟨HZ3.out.1.over HB.out, HZ3.out.2.1.over HB.out, HZ3.out.2.2.trans (HB.out.mono HZ3.out.2.2.size)⟩)
      clear HB HZ3
      obtain ⟨⟨a0, a1, a2, a3, a4, a5⟩, a6⟩ := pr_facts HX.out.1
      rw [hvq] at a5
      clear a0 a1 a2 a3 a4 a6
      go_upto_region 11 with fail
      clear a5
      go_loopw [125] (fun i wl => ∃ (k : Nat), k ≤ p.q.length ∧ i = .int .i64 (k : Int) ∧ Hid (Below w9.heap.size w9 wl)) (fun i _ => p.q.length - (intOf i).toNat)
      case atStart => exact ⟨0, Nat.zero_le _, rfl, Below.refl _ _⟩
      case round =>
        obtain ⟨k, hk, rfl, HB⟩ := hrel
        by_cases hlt : k < p.q.length
        · have hkI : (k : Int) < (p.q.length : Int) := by omega
          go_upto_region 13 with fail
          obtain ⟨x, hx⟩ : ∃ x, p.q[k]? = some x := ⟨_, List.getElem?_eq_getElem hlt⟩
          obtain ⟨y, hy⟩ : ∃ y, z[k]? = some y := ⟨_, List.getElem?_eq_getElem (by rw [HZ.out.1]; exact hlt)⟩
          obtain ⟨y', hy'⟩ : ∃ y, z'[k]? = some y := ⟨_, List.getElem?_eq_getElem (by rw [HZ.out.2.1]; exact hlt)⟩
          have hin := HZ.out.2.2.1 k x y hx hy
          have hin' := HZ.out.2.2.2.1 k x y' hx hy'
          obtain ⟨bq, oq, rfl, -, hbl, hcell⟩ := HZ.out.2.2.2.2.1 (by omega)
          obtain ⟨bq', oq', rfl, -, hbl', hcell'⟩ := HZ.out.2.2.2.2.2 (by omega)
          have hBw : ∀ wx, Below wr.heap.size wr wx → Below w.heap.size w wx := fun wx h => HX.out.2.2.trans ((HB.out.trans (h.mono HB.out.size)).mono HX.out.2.2.size)
          have hc : ∀ wx, Below wr.heap.size wr wx → ∀ j, j < 7 → ∀ u, (akL x y)[j]? = some u → wx.cell? ⟨bq, oq + k * 7 + j, none⟩ = some u := fun wx h j hj u hu => by
            rw [(hBw wx h).cell (p := ⟨bq, oq + k * 7 + j, none⟩) hbl, Nat.add_assoc]
            exact hcell _ _ ((quL_get p.q z k x y j hx hy hj).trans hu)
          have hc' : ∀ wx, Below wr.heap.size wr wx → ∀ j, j < 7 → ∀ u, (akL x y')[j]? = some u → wx.cell? ⟨bq', oq' + k * 7 + j, none⟩ = some u := fun wx h j hj u hu => by
            rw [(hBw wx h).cell (p := ⟨bq', oq' + k * 7 + j, none⟩) hbl', Nat.add_assoc]
            exact hcell' _ _ ((quL_get p.q z' k x y' j hx hy' hj).trans hu)
          refine sp13_wp w.heap.size (w.heap.size + 1) k p.q.length bq oq bq' oq' Cq Cq' hlt x y.1 y.2 y'.1 y'.2 wr (fun wx h => ⟨?_, ?_, ⟨hc wx h 0 (by omega) _ rfl, hc wx h 1 (by omega) _ rfl, hc wx h 2 (by omega) _ rfl, hc wx h 3 (by omega) _ rfl, hc wx h 4 (by omega) _ rfl, hc wx h 5 (by omega) _ rfl, hc wx h 6 (by omega) _ rfl⟩, ⟨hc' wx h 0 (by omega) _ rfl, hc' wx h 1 (by omega) _ rfl, hc' wx h 2 (by omega) _ rfl, hc' wx h 3 (by omega) _ rfl, hc' wx h 4 (by omega) _ rfl, hc' wx h 5 (by omega) _ rfl, hc' wx h 6 (by omega) _ rfl⟩⟩)
            (fun wx h => (samek_rep x.2.k x.2.i x.2.v x.2.n x.2.S x.2.D y.1 y.2 y'.1 y'.2 (hin.1.over (hBw wx h)) (hin.2.over (hBw wx h)) (hin'.1.over (hBw wx h)) (hin'.2.over (hBw wx h))).mono fun _ _ hh => ⟨hh.1, h.trans (hh.2.mono h.size)⟩) _ _ _ _ _ _ _ _ _ _ _ _ _ _ _ _ _ _ _ _ _ _ _ _ _ _ _ _ _ _ _ _ _ _ _ _ _ _ _ _ _ _ _ _ _ _ _ _ _ _ _ _ _ _ _ _ _ _ _ _ _ _ _ _ _ _ _ _ _ _ _ _ _ _ _ _ _ _ _ _ _ _ _ _ _ _ _ _ _ _ _ _ _ _ _ _ _ _ _ _ _ _ _ _ _ _ _ _ _ _ _ _ _ _ _ _ _ _ _ _ _ _ _ _ _ _ _ _ _ _ _ _ _ _ _ _ _ _ _ _ _ _ _ _ _ _ _ _ _ _ _ _ _ _ _ _ ?_
          · rw [← hvq]; exact (pr_facts ((HX.out.1.over HB.out).over h)).1.2.2.2.2.2
          · rw [← hvq']; exact (pr_facts ((HX.out.2.1.over HB.out).over h)).1.2.2.2.2.2
          intro t128 t129 t130 t131 t132 t133 t134 t135 t136 t137 t138 t139 t140 t141 t142 t143 t144 t145 t146 t147 t148 t149 t150 t151 t152 t153 t154 t155 w6 hb6
          have HB6 := hide (HB.out.trans (hb6.mono HB.out.size))
          clear hc hc' hBw hcell hcell' hin hin' hb6 HB hx hy hy' HZ HX HP HP' HCS hvq hvq' hbl hbl'
          go_wp2
          first | exact ⟨⟨k + 1, by omega, by go_num, HB6⟩, by simp [intOf]; omega⟩ | ((repeat apply Exists.intro); exact ⟨⟨k + 1, by omega, by go_num, HB6⟩, rfl⟩)
        · obtain rfl : k = p.q.length := by omega
          have HBz := hide (HX.out.2.2.trans (HB.out.mono HX.out.2.2.size))
          clear HZ HX HP HP' HCS hvq hvq' HB
          go_wp2
          go_ret
          exact ⟨rfl, HBz.out⟩
end Go.Proofs.YtnamphhchecaeaaGreat.Pv

