/- Parts of the proof: PVSM RD1 SQP SRP. -/
import Derived.Test.YtjghbciepinofaaGreatRows
import Derived.Test.YtjghbciepinofaaGreatPEK32
import Derived.Test.YtjghbciepinofaaGreatPEK35
import Derived.Test.YtjghbciepinofaaGreatPEK38
import Derived.Test.YtjghbciepinofaaGreatPEK42
set_option maxRecDepth 100000
namespace Go.Proofs.YtjghbciepinofaaGreat.Pv
open Go.RowKit
theorem samel_c {P P' : Nat → Prop} {w : World} (x : Ln.Line) (v1 v2 v1' v2' : Value) (h1 : RepC P w v1 1 16 (txC x.S)) (h2 : RepC P w v2 1 8 (inC x.D)) (h1' : RepC P' w v1' 1 16 (txC x.S)) (h2' : RepC P' w v2' 1 8 (inC x.D)) :
    Calls Tryz.prog 56 #[.agg #[v1, v2, .int .i64 x.g, .bool x.cl], .agg #[v1', v2', .int .i64 x.g, .bool x.cl]] w fun e w' => e = .returned (.bool true) ∧ Below w.heap.size w w' := by
  obtain ⟨A1, C1, A2, C2, sb, so, db, dO, rfl, rfl, L, -, -⟩ := RepC.line h1 h2
  obtain ⟨B1, D1, B2, D2, sb', so', db', dO', rfl, rfl, L', -, -⟩ := RepC.line h1' h2'
  exact Ln.same_any x A1 A2 B1 B2 C1 C2 sb so db dO D1 D2 sb' so' db' dO' w L L'
/-- what a walk reads of a provider in a block -/
theorem pr_facts {w : World} {b : Nat} {p : Pr} {v : PrV} (h : CAt 47 w b (prC p v)) : (w.cell? ⟨b, 0, none⟩ = some (.int .i64 p.h) ∧ w.cell? ⟨b, 1, none⟩ = some (.int .i64 p.t) ∧ w.cell? ⟨b, 65, none⟩ = some v.set ∧ w.cell? ⟨b, 94, none⟩ = some (.int .i64 p.ml) ∧ w.cell? ⟨b, 95, none⟩ = some (.int .i64 p.mn) ∧ w.cell? ⟨b, 96, none⟩ = some v.q) ∧ (loadS (.pointer (some ⟨b, 2, none⟩))).run Tryz.prog w = .ok (.agg (stC p.s v.ws)) w :=
  ⟨⟨h.cell 0, h.cell 1, h.cell 65, h.cell 94, h.cell 95, h.cell 96⟩, pr_loadS h⟩
/-- what a walk reads of a link in a block -/
theorem lk_facts {w : World} {b : Nat} {x : Lk} {v : LkV} (h : CAt 41 w b (lkL x v).toArray) : w.cell? ⟨b, 0, none⟩ = some (.bool x.on) ∧ w.cell? ⟨b, 1, none⟩ = some (.bool x.gone) ∧ w.cell? ⟨b, 2, none⟩ = some (.int .i64 x.base) ∧ w.cell? ⟨b, 3, none⟩ = some v.told ∧ w.cell? ⟨b, 4, none⟩ = some (.bool x.fresh) ∧ w.cell? ⟨b, 5, none⟩ = some v.done ∧ (w.cell? ⟨b, 6, none⟩ = some v.said ∧ w.cell? ⟨b, 7, none⟩ = some v.due ∧ w.cell? ⟨b, 8, none⟩ = some (.int .i64 x.out.g) ∧ w.cell? ⟨b, 9, none⟩ = some (.bool x.out.cl)) ∧ (w.cell? ⟨b, 10, none⟩ = some (.int .i64 x.h0) ∧ w.cell? ⟨b, 11, none⟩ = some (.int .i64 x.h1) ∧ w.cell? ⟨b, 12, none⟩ = some (.int .i64 x.h2) ∧ w.cell? ⟨b, 13, none⟩ = some (.int .i64 x.h3)) :=
  ⟨h.cell 0, h.cell 1, h.cell 2, h.cell 3, h.cell 4, h.cell 5, ⟨h.cell 6, h.cell 7, h.cell 8, h.cell 9⟩, ⟨h.cell 10, h.cell 11, h.cell 12, h.cell 13⟩⟩
attribute [local go_sem ↓] loadS_eq
set_option maxHeartbeats 8000000 in
set_option maxRecDepth 1000000 in
theorem samep_any (p : Pr) (v v' : PrV) (P P' : Nat → Prop) (w : World) (hp : PIn P w p v) (hp' : PIn P' w p v') :
    Calls Tryz.prog 19 #[.agg (prC p v), .agg (prC p v')] w fun e w' => e = .returned (.bool true) ∧ Below w.heap.size w w' := by
  obtain ⟨vw, vs, vl, vq⟩ := v
  obtain ⟨vw', vs', vl', vq'⟩ := v'
  obtain ⟨z, hzl, hzr, hzi⟩ := id hp.q
  obtain ⟨z', hzl', hzr', hzi'⟩ := id hp'.q
  obtain ⟨Aq, Cq, eq, sq, -, cq, -⟩ := hzr.open (quL_length _ _ hzl) (by decide)
  obtain ⟨Aq', Cq', eq', sq', -, cq', -⟩ := hzr'.open (quL_length _ _ hzl') (by decide)
  dsimp only at eq eq'
  subst eq eq'
  have HZ := hide (show _ ∧ _ ∧ _ ∧ _ ∧ _ ∧ _ from ⟨hzl, hzl', hzi, hzi', cq, cq'⟩)
  clear hzl hzl' hzi hzi' cq cq' hzr hzr'
  have HP := hide hp
  have HP' := hide hp'
  clear hp hp'
  generalize hv : (⟨vw, vs, vl, .slice Aq p.q.length Cq⟩ : PrV) = v at *
  generalize hv' : (⟨vw', vs', vl', .slice Aq' p.q.length Cq'⟩ : PrV) = v' at *
  have hvq : v.q = .slice Aq p.q.length Cq := by rw [← hv]
  have hvq' : v'.q = .slice Aq' p.q.length Cq' := by rw [← hv']
  clear hv hv'
  obtain ⟨cs, hcs⟩ : ∃ cs, prC p v = cs := ⟨_, rfl⟩
  obtain ⟨cs', hcs'⟩ : ∃ cs, prC p v' = cs := ⟨_, rfl⟩
  rw [hcs, hcs']
  have HCS := hide (show _ ∧ _ from ⟨hcs, hcs'⟩)
  clear hcs hcs'
  go_enter Tryz.func19, Tryz.ntmps19
  go_upto_region 1 with fail
  have C1 : CAt 47 ((w.alloc (.cells cs 47)).alloc (.cells cs' 47)) w.heap.size (prC p v) := by rw [HCS.out.1]; exact (CAt.new _ w cs).alloc _
  have D1 : CAt 47 ((w.alloc (.cells cs 47)).alloc (.cells cs' 47)) (w.heap.size + 1) (prC p v') := by rw [HCS.out.2]; exact CAt.new2 47 w _ cs'
  have B1 : Below w.heap.size w ((w.alloc (.cells cs 47)).alloc (.cells cs' 47)) := ((Below.refl _ w).alloc (Nat.le_refl _) _).alloc (by simp) _
  generalize (w.alloc (.cells cs 47)).alloc (.cells cs' 47) = w1 at *
  have HX := hide (show _ ∧ _ ∧ _ from ⟨C1, D1, B1⟩)
  obtain ⟨⟨a0, a1, a2, a3, a4, a5⟩, a6⟩ := pr_facts C1
  obtain ⟨⟨b0, b1, b2, b3, b4, b5⟩, b6⟩ := pr_facts D1
  rw [hvq] at a5
  rw [hvq'] at b5
  clear C1 D1 B1
  go_upto_region 3 with (first
    | (go_at_call 54; refine (sames_rep p.s v.ws v'.ws (HP.out.ws.over HX.out.2.2) (HP'.out.ws.over HX.out.2.2)).mono ?_; rintro e w2 ⟨rfl, hb2⟩; have HY := hide (show _ ∧ _ ∧ _ from ⟨HX.out.1.over hb2, HX.out.2.1.over hb2, HX.out.2.2.trans (hb2.mono HX.out.2.2.size)⟩); clear a0 a1 a2 a3 a4 a5 a6 b0 b1 b2 b3 b4 b5 b6 hb2; obtain ⟨⟨a0, a1, a2, a3, a4, a5⟩, a6⟩ := pr_facts HY.out.1; obtain ⟨⟨b0, b1, b2, b3, b4, b5⟩, b6⟩ := pr_facts HY.out.2.1; rw [hvq] at a5; rw [hvq'] at b5)
    | (go_at_call 55; refine (samepw_rep p.set v.set v'.set (HP.out.set.over HY.out.2.2) (HP'.out.set.over HY.out.2.2)).mono ?_; rintro e w3 ⟨rfl, hb3⟩; have HZ3 := hide (show _ ∧ _ ∧ _ from ⟨HY.out.1.over hb3, HY.out.2.1.over hb3, HY.out.2.2.trans (hb3.mono HY.out.2.2.size)⟩); clear a0 a1 a2 a3 a4 a5 a6 b0 b1 b2 b3 b4 b5 b6 hb3; obtain ⟨⟨a0, a1, a2, a3, a4, a5⟩, a6⟩ := pr_facts HZ3.out.1; obtain ⟨⟨b0, b1, b2, b3, b4, b5⟩, b6⟩ := pr_facts HZ3.out.2.1; rw [hvq] at a5; rw [hvq'] at b5))
  clear a0 a1 a2 a3 a4 a5 a6 b0 b1 b2 b3 b4 b5 b6 HX HY
  have hq63 : p.q.length ≤ 1800000000000 := by omega
  go_upto_region 4 with fail
  go_loopw [53] (fun i wl => ∃ (k : Nat), k ≤ 2 ∧ i = .int .i64 (k : Int) ∧ Hid (Below w3.heap.size w3 wl)) (fun i _ => (2 - intOf i).toNat)
  case atStart => exact ⟨0, by omega, rfl, Below.refl _ _⟩
  case round =>
    obtain ⟨k, hk, rfl, HB⟩ := hrel
    by_cases hk2 : k < 2
    · have hkk : (k : Int) < 2 := by omega
      go_upto_region 6 with fail
      have hBw : Below w.heap.size w wr := HZ3.out.2.2.trans (HB.out.mono HZ3.out.2.2.size)
      have hl1 := (HP.out.lk k hk2).keep (w' := wr) fun b _ hlt => hBw.block b hlt
      have hl2 := (HP'.out.lk k hk2).keep (w' := wr) fun b _ hlt => hBw.block b hlt
      refine sp6_wp w.heap.size (w.heap.size + 1) k hk2 p v v' wr (HZ3.out.1.over HB.out) (HZ3.out.2.1.over HB.out) _ _ _ _ _ _ _ _ _ _ _ _ _ _ _ _ _ _ _ _ _ _ _ _ _ _ _ _ _ _ _ _ _ _ _ _ _ _ _ _ _ _ _ _ _ _ _ _ _ _ _ _ _ _ _ _ _ _ _ _ _ _ _ _ _ _ _ _ _ _ _ _ _ _ _ _ _ _ _ _ _ _ _ _ _ _ _ _ _ _ _ _ _ _ _ _ _ _ _ _ _ _ _ _ _ _ _ _ _ _ _ _ _ _ _ _ _ _ _ _ _ _ _ _ _ _ _ _ _ _ _ _ _ _ _ _ _ _ _ _ _ _ _ _ _ _ _ _ _ _ _ _ _ _ _ _ ⟨lk_one hl1, lk_one hl2⟩ ?_
      intro x6 x7 t56 t57 t58 t59 t60 t61 t62 t63 w5 hb5 h6 h7
      have HL := hide (show _ ∧ _ from ⟨hl1, hl2⟩)
      have E5 := hide (show _ ∧ _ ∧ _ ∧ _ from ⟨h6, h7, hb5, HB.out.trans (hb5.mono HB.out.size)⟩)
      clear hl1 hl2 h6 h7 hb5 hBw HB
      obtain ⟨c0, c1, c2, c3, c4, c5, ⟨c6, c7, c8, c9⟩, ⟨ca, cb, cc, cd⟩⟩ := lk_facts E5.out.1; obtain ⟨d0, d1, d2, d3, d4, d5, ⟨d6, d7, d8, d9⟩, ⟨da, db, dc, dd⟩⟩ := lk_facts E5.out.2.1
      generalize p.L k = x at *
      generalize v.l k = u at *
      generalize v'.l k = u' at *
      simp only [Exit.then]
      apply_assumption
      go_upto_region 9 with (first
        | (go_at_call 55; refine (samepw_rep x.told u.told u'.told (HL.out.1.told.over E5.out.2.2.1) (HL.out.2.told.over E5.out.2.2.1)).mono ?_; rintro e w6 ⟨rfl, hb6⟩; have E6 := hide (show _ ∧ _ ∧ _ ∧ _ from ⟨E5.out.1.over hb6, E5.out.2.1.over hb6, E5.out.2.2.1.trans (hb6.mono E5.out.2.2.1.size), E5.out.2.2.2.trans (hb6.mono E5.out.2.2.2.size)⟩); clear c0 c1 c2 c3 c4 c5 c6 c7 c8 c9 ca cb cc cd d0 d1 d2 d3 d4 d5 d6 d7 d8 d9 da db dc dd; clear hb6; obtain ⟨c0, c1, c2, c3, c4, c5, ⟨c6, c7, c8, c9⟩, ⟨ca, cb, cc, cd⟩⟩ := lk_facts E6.out.1; obtain ⟨d0, d1, d2, d3, d4, d5, ⟨d6, d7, d8, d9⟩, ⟨da, db, dc, dd⟩⟩ := lk_facts E6.out.2.1)
        | (go_at_call 18; refine (samenm_rep x.done u.done u'.done (HL.out.1.done.over E6.out.2.2.1) (HL.out.2.done.over E6.out.2.2.1)).mono ?_; rintro e w7 ⟨rfl, hb7⟩; have E7 := hide (show _ ∧ _ ∧ _ ∧ _ from ⟨E6.out.1.over hb7, E6.out.2.1.over hb7, E6.out.2.2.1.trans (hb7.mono E6.out.2.2.1.size), E6.out.2.2.2.trans (hb7.mono E6.out.2.2.2.size)⟩); clear c0 c1 c2 c3 c4 c5 c6 c7 c8 c9 ca cb cc cd d0 d1 d2 d3 d4 d5 d6 d7 d8 d9 da db dc dd; clear hb7; obtain ⟨c0, c1, c2, c3, c4, c5, ⟨c6, c7, c8, c9⟩, ⟨ca, cb, cc, cd⟩⟩ := lk_facts E7.out.1; obtain ⟨d0, d1, d2, d3, d4, d5, ⟨d6, d7, d8, d9⟩, ⟨da, db, dc, dd⟩⟩ := lk_facts E7.out.2.1)
        | (go_at_call 56; refine (samel_c x.out u.said u.due u'.said u'.due (HL.out.1.said.over E7.out.2.2.1) (HL.out.1.due.over E7.out.2.2.1) (HL.out.2.said.over E7.out.2.2.1) (HL.out.2.due.over E7.out.2.2.1)).mono ?_; rintro e w8 ⟨rfl, hb8⟩; have E8 := hide (E7.out.2.2.2.trans (hb8.mono E7.out.2.2.2.size)); clear c0 c1 c2 c3 c4 c5 c6 c7 c8 c9 ca cb cc cd d0 d1 d2 d3 d4 d5 d6 d7 d8 d9 da db dc dd; clear hb8))
      clear HL E5 E6 E7
      go_wp2
      first | exact ⟨⟨k + 1, by omega, by go_num, E8⟩, by simp [intOf]; omega⟩ | ((repeat apply Exists.intro); exact ⟨⟨k + 1, by omega, by go_num, E8⟩, rfl⟩)
    · obtain rfl : k = 2 := by omega
      rename World => w9
      have HX := hide (show _ ∧ _ ∧ _ from ⟨HZ3.out.1.over HB.out, HZ3.out.2.1.over HB.out, HZ3.out.2.2.trans (HB.out.mono HZ3.out.2.2.size)⟩)
      clear HB HZ3
      obtain ⟨⟨a0, a1, a2, a3, a4, a5⟩, a6⟩ := pr_facts HX.out.1
      rw [hvq] at a5
      clear a0 a1 a2 a3 a4 a6
      go_upto_region 11 with fail
      clear a5
      go_loopw [125] (fun i wl => ∃ (k : Nat), k ≤ p.q.length ∧ i = .int .i64 (k : Int) ∧ Hid (Below w9.heap.size w9 wl)) (fun i _ => p.q.length - (intOf i).toNat)
      case atStart => exact ⟨0, Nat.zero_le _, rfl, Below.refl _ _⟩
      case round =>
        obtain ⟨k, hk, rfl, HB⟩ := hrel
        by_cases hlt : k < p.q.length
        · have hkI : (k : Int) < (p.q.length : Int) := by omega
          go_upto_region 13 with fail
          obtain ⟨x, hx⟩ : ∃ x, p.q[k]? = some x := ⟨_, List.getElem?_eq_getElem hlt⟩
          obtain ⟨y, hy⟩ : ∃ y, z[k]? = some y := ⟨_, List.getElem?_eq_getElem (by rw [HZ.out.1]; exact hlt)⟩
          obtain ⟨y', hy'⟩ : ∃ y, z'[k]? = some y := ⟨_, List.getElem?_eq_getElem (by rw [HZ.out.2.1]; exact hlt)⟩
          have hin := HZ.out.2.2.1 k x y hx hy
          have hin' := HZ.out.2.2.2.1 k x y' hx hy'
          obtain ⟨bq, oq, rfl, -, hbl, hcell⟩ := HZ.out.2.2.2.2.1 (by omega)
          obtain ⟨bq', oq', rfl, -, hbl', hcell'⟩ := HZ.out.2.2.2.2.2 (by omega)
          have hBw : ∀ wx, Below wr.heap.size wr wx → Below w.heap.size w wx := fun wx h => HX.out.2.2.trans ((HB.out.trans (h.mono HB.out.size)).mono HX.out.2.2.size)
          have hc : ∀ wx, Below wr.heap.size wr wx → ∀ j, j < 7 → ∀ u, (akL x y)[j]? = some u → wx.cell? ⟨bq, oq + k * 7 + j, none⟩ = some u := fun wx h j hj u hu => by
            rw [(hBw wx h).cell (p := ⟨bq, oq + k * 7 + j, none⟩) hbl, Nat.add_assoc]
            exact hcell _ _ ((quL_get p.q z k x y j hx hy hj).trans hu)
          have hc' : ∀ wx, Below wr.heap.size wr wx → ∀ j, j < 7 → ∀ u, (akL x y')[j]? = some u → wx.cell? ⟨bq', oq' + k * 7 + j, none⟩ = some u := fun wx h j hj u hu => by
            rw [(hBw wx h).cell (p := ⟨bq', oq' + k * 7 + j, none⟩) hbl', Nat.add_assoc]
            exact hcell' _ _ ((quL_get p.q z' k x y' j hx hy' hj).trans hu)
          refine sp13_wp w.heap.size (w.heap.size + 1) k p.q.length bq oq bq' oq' Cq Cq' hlt x y.1 y.2 y'.1 y'.2 wr (fun wx h => ⟨?_, ?_, ⟨hc wx h 0 (by omega) _ rfl, hc wx h 1 (by omega) _ rfl, hc wx h 2 (by omega) _ rfl, hc wx h 3 (by omega) _ rfl, hc wx h 4 (by omega) _ rfl, hc wx h 5 (by omega) _ rfl, hc wx h 6 (by omega) _ rfl⟩, ⟨hc' wx h 0 (by omega) _ rfl, hc' wx h 1 (by omega) _ rfl, hc' wx h 2 (by omega) _ rfl, hc' wx h 3 (by omega) _ rfl, hc' wx h 4 (by omega) _ rfl, hc' wx h 5 (by omega) _ rfl, hc' wx h 6 (by omega) _ rfl⟩⟩)
            (fun wx h => (samek_rep x.2.k x.2.i x.2.v x.2.n x.2.S x.2.D y.1 y.2 y'.1 y'.2 (hin.1.over (hBw wx h)) (hin.2.over (hBw wx h)) (hin'.1.over (hBw wx h)) (hin'.2.over (hBw wx h))).mono fun _ _ hh => ⟨hh.1, h.trans (hh.2.mono h.size)⟩) _ _ _ _ _ _ _ _ _ _ _ _ _ _ _ _ _ _ _ _ _ _ _ _ _ _ _ _ _ _ _ _ _ _ _ _ _ _ _ _ _ _ _ _ _ _ _ _ _ _ _ _ _ _ _ _ _ _ _ _ _ _ _ _ _ _ _ _ _ _ _ _ _ _ _ _ _ _ _ _ _ _ _ _ _ _ _ _ _ _ _ _ _ _ _ _ _ _ _ _ _ _ _ _ _ _ _ _ _ _ _ _ _ _ _ _ _ _ _ _ _ _ _ _ _ _ _ _ _ _ _ _ _ _ _ _ _ _ _ _ _ _ _ _ _ _ _ _ _ _ _ _ _ _ _ _ ?_
          · rw [← hvq]; exact (pr_facts ((HX.out.1.over HB.out).over h)).1.2.2.2.2.2
          · rw [← hvq']; exact (pr_facts ((HX.out.2.1.over HB.out).over h)).1.2.2.2.2.2
          intro t128 t129 t130 t131 t132 t133 t134 t135 t136 t137 t138 t139 t140 t141 t142 t143 t144 t145 t146 t147 t148 t149 t150 t151 t152 t153 t154 t155 w6 hb6
          have HB6 := hide (HB.out.trans (hb6.mono HB.out.size))
          clear hc hc' hBw hcell hcell' hin hin' hb6 HB hx hy hy' HZ HX HP HP' HCS hvq hvq' hbl hbl'
          go_wp2
          first | exact ⟨⟨k + 1, by omega, by go_num, HB6⟩, by simp [intOf]; omega⟩ | ((repeat apply Exists.intro); exact ⟨⟨k + 1, by omega, by go_num, HB6⟩, rfl⟩)
        · obtain rfl : k = p.q.length := by omega
          have HBz := hide (HX.out.2.2.trans (HB.out.mono HX.out.2.2.size))
          clear HZ HX HP HP' HCS hvq hvq' HB
          go_wp2
          go_ret
          exact ⟨rfl, HBz.out⟩
end Go.Proofs.YtjghbciepinofaaGreat.Pv

set_option maxRecDepth 100000
namespace Go.Proofs.YtjghbciepinofaaGreat
open Go.RowKit
theorem rinA_any (d : Int) (w : World) : Calls Tryz.prog 138 #[.int .i64 d] w fun e w' => e = .returned (.bool (inA d)) ∧ w = w' := rin_any d w
/-- a validator's five cells lie in a block -/
def VAt (w : World) (y : Nat) (x : Vd) : Prop := w.heap[y]? = some (.cells #[.int .i64 x.tok, .int .i64 x.sh, .int .i64 x.lost, .bool x.jail, .bool x.dead] 26)
theorem VAt.later {w w' : World} {y B : Nat} {x : Vd} (h : VAt w y x) (hb : Below B w w') (hB : y < B) : VAt w' y x := (hb.block y hB).trans h
theorem VAt.lt {w : World} {y : Nat} {x : Vd} (h : VAt w y x) : y < w.heap.size := (Array.getElem?_eq_some_iff.1 h).1
theorem VAt.cells {w : World} {y : Nat} {x : Vd} (h : VAt w y x) : w.cell? ⟨y, 0, none⟩ = some (.int .i64 x.tok) ∧ w.cell? ⟨y, 1, none⟩ = some (.int .i64 x.sh) ∧ w.cell? ⟨y, 2, none⟩ = some (.int .i64 x.lost) ∧ w.cell? ⟨y, 3, none⟩ = some (.bool x.jail) ∧ w.cell? ⟨y, 4, none⟩ = some (.bool x.dead) := by
  unfold VAt at h
  simp [World.cell?, h]
theorem row_get (r : Nat → Int) (k : Nat) (hk : k < 6) : (rowC r)[k]? = some (.int .i64 (r k)) := by
  rcases (show k = 0 ∨ k = 1 ∨ k = 2 ∨ k = 3 ∨ k = 4 ∨ k = 5 by omega) with rfl | rfl | rfl | rfl | rfl | rfl <;> rfl
theorem row_cell (w : World) (r : Nat → Int) (e : TypeId) (k : Nat) (hk : k < 6) : (w.alloc (.cells #[.int .i64 (r 0), .int .i64 (r 1), .int .i64 (r 2), .int .i64 (r 3), .int .i64 (r 4), .int .i64 (r 5)] e)).cell? ⟨w.heap.size, k, none⟩ = some (.int .i64 (r k)) := by
  rw [World.cell?_alloc_at _ _ _ _ rfl]
  exact row_get r k hk
theorem pshOk_no {S : Nat → Nat → Int} {v j : Nat} (hj : j < 4) (hin : inA (S j v) = false) : pshOk S v 4 = false := by
  rcases (show j = 0 ∨ j = 1 ∨ j = 2 ∨ j = 3 by omega) with rfl | rfl | rfl | rfl <;> simp [pshOk, hin]
set_option maxHeartbeats 4000000 in
theorem rgoods_any (s : St) (ao : Option Addr) (sb so c : Nat) (w : World) (hW : WsAt w ao sb so s.W) :
    Calls Tryz.prog 91 #[.agg (stC s (.slice ao s.W.length c))] w fun e w' => e = .returned (.bool (goodS s)) ∧ Below w.heap.size w w' := by
  have S0 := SAt.new w (stC s (.slice ao s.W.length c))
  have HB0 : Hid (Below w.heap.size w (w.alloc (.cells (stC s (.slice ao s.W.length c)) 32))) := (Below.refl _ w).alloc (Nat.le_refl _) _
  have HW := hide hW
  have hlen := hW.len
  have hadr := hW.adr
  have hGB := rgood_any s.b.f0 s.b.f1 s.b.f2 s.b.f3 s.b.bo s.b.wa s.b.bu
  have HG : Hid (goodS s = (goodB s.b.f0 s.b.f1 s.b.f2 s.b.f3 s.b.bo s.b.wa s.b.bu && decide (1 ≤ s.next) && decide (s.next ≤ 1125899906842624) && decide (s.W.length ≤ 60) && wOk s.next 0 s.W && pvs s 6 && bal s)) := rfl
  generalize goodB s.b.f0 s.b.f1 s.b.f2 s.b.f3 s.b.bo s.b.wa s.b.bu = t1 at *
  clear hW
  go_enter Tryz.func91, Tryz.ntmps91
  go_upto_region 1 with fail
  generalize w.alloc (.cells (stC s (.slice ao s.W.length c)) 32) = w0 at *
  obtain ⟨x0, x1, x2, x3, x4, x5, x6, x7, x8⟩ := st_cells S0
  go_upto_region 4 with (go_at_call 137; refine (hGB _).mono ?_; rintro e w1 ⟨rfl, h1⟩; have S1 := S0.later h1 S0.lt; have HB1 : Hid (Below w.heap.size w w1) := HB0.out.trans (h1.mono HB0.out.size); obtain ⟨y0, y1, y2, y3, y4, y5, y6, y7, y8⟩ := st_cells S1; clear x0 x1 x2 x3 x4 x5 x6 x7 x8 y0 y1 y2 y3 y4 y5 y6 h1 S0 HB0)
  all_goals first
    | (go_ret; refine ⟨?_, HB1.out⟩; rw [HG.out]; congr 1; congr 1; first | (simp_all; done) | (simp_all; omega) | (simp_all; intros; omega))
    | skip
  have hl60 : s.W.length ≤ 60 := by omega
  have hg2 : goodS s = (wOk s.next 0 s.W && pvs s 6 && bal s) := by rw [HG.out]; simp_all
  have HG2 := hide hg2
  have hbl : w.heap.size < w1.heap.size := S1.lt
  have hn1 : 1 ≤ s.next ∧ s.next ≤ 1125899906842624 := by omega
  clear hg2 HG hGB y7 y8
  generalize decide (s.next < 1) = b1
  generalize decide (1125899906842624 < s.next) = b2
  generalize decide (60 < (s.W.length : Int)) = b3
  apply wp_region_lit
  iterate 3 go_step
  refine wpList_load_mid rfl 27 _ rfl _ 7 rfl _ _ (st_vals S1) Tryz.underlying27 rfl (by rw [infoVs]; rfl) ?_
  go_wp2_with fail
  go_loopw [3, 4, 36] (fun s3 s4 i wl => ∃ k : Nat, k ≤ 6 ∧ i = .int .i64 (k : Int) ∧ s3 = .int .i64 (ptok s.V k) ∧ s4 = .int .i64 (plost s.V k) ∧ Hid (pvs s k = true ∧ Below w1.heap.size w1 wl)) (fun _ _ i _ => (6 - intOf i).toNat)
  case atStart => exact ⟨0, by omega, rfl, rfl, rfl, rfl, Below.refl _ _⟩
  case round =>
    obtain ⟨k, hk, rfl, rfl, rfl, HO⟩ := hrel
    rename World => w2
    have hsz2 : w1.heap.size ≤ w2.heap.size := HO.out.2.size
    by_cases hk6 : k < 6
    · have S2 := S1.later HO.out.2 hbl
      have hix := fun w => ixV w s.V k hk6
      clear S1
      go_upto_region 8 with fail
      have V3 : VAt (w2.alloc (.cells #[.int .i64 (s.V k).tok, .int .i64 (s.V k).sh, .int .i64 (s.V k).lost, .bool (s.V k).jail, .bool (s.V k).dead] 26)) w2.heap.size (s.V k) := heap_alloc_new _ _
      have S3 := S2.alloc (.cells #[.int .i64 (s.V k).tok, .int .i64 (s.V k).sh, .int .i64 (s.V k).lost, .bool (s.V k).jail, .bool (s.V k).dead] 26)
      have HB3 := hide (HB1.out.trans ((HO.out.2.alloc hsz2 (.cells #[.int .i64 (s.V k).tok, .int .i64 (s.V k).sh, .int .i64 (s.V k).lost, .bool (s.V k).jail, .bool (s.V k).dead] 26)).mono (Nat.le_of_lt hbl)))
      have HP := hide HO.out.1
      have HC3 := hide (HO.out.2.alloc hsz2 (.cells #[.int .i64 (s.V k).tok, .int .i64 (s.V k).sh, .int .i64 (s.V k).lost, .bool (s.V k).jail, .bool (s.V k).dead] 26))
      generalize w2.alloc (.cells #[.int .i64 (s.V k).tok, .int .i64 (s.V k).sh, .int .i64 (s.V k).lost, .bool (s.V k).jail, .bool (s.V k).dead] 26) = w3 at *
      have hbl2 : w.heap.size < w2.heap.size := by omega
      clear S2 HO hix
      have hV3 := V3.lt
      have hS3 := S3.lt
      apply wp_region_lit
      iterate 3 go_step
      refine wpList_load_mid rfl 29 _ rfl _ 37 rfl _ _ (st_shares S3) Tryz.underlying29 rfl (by rw [infoSh]; rfl) ?_
      go_wp2_with fail
      go_loopw [7, 42] (fun s7 i wl => ∃ j : Nat, j ≤ 4 ∧ i = .int .i64 (j : Int) ∧ s7 = .int .i64 (psh s.S k j) ∧ Hid (pshOk s.S k j = true ∧ Below w3.heap.size w3 wl)) (fun _ i _ => (4 - intOf i).toNat)
      case atStart => exact ⟨0, by omega, rfl, rfl, rfl, Below.refl _ _⟩
      case round =>
        obtain ⟨j, hj, rfl, rfl, HI⟩ := hrel
        rename World => w4
        have hsz4 : w3.heap.size ≤ w4.heap.size := HI.out.2.size
        have HB4 := hide (HB3.out.trans (HI.out.2.mono (Nat.le_of_lt (Nat.lt_of_lt_of_le (Nat.lt_of_lt_of_le hbl hsz2) (Nat.le_of_lt hV3)))))
        have hsz5 : w.heap.size ≤ w4.heap.size := HB4.out.size
        by_cases hj4 : j < 4
        · have hixS := fun w => ixS w s.S j hj4
          have hrc := row_cell w4 (s.S j) 28 k hk6
          have hkk : (k : Int) < 6 := by omega
          have hpb := psh_bound (S := s.S) (v := k) j HI.out.1
          have i1 := rinA_any (s.S j k)
          by_cases hin : inA (s.S j k) = true
          · rw [hin] at i1
            have HR2 : Hid (pshOk s.S k (j + 1) = true) := by show (pshOk s.S k j && inA (s.S j k)) = true; rw [HI.out.1, hin]; rfl
            rw [inA_iff] at hin
            have HPs : Hid (psh s.S k (j + 1) = psh s.S k j + s.S j k) := rfl
            clear S3 V3
            go_wp2_with (go_at_call 138; refine (i1 _).mono ?_; rintro e w5 ⟨rfl, rfl⟩)
            go_roundw
            case rel => exact ⟨j + 1, by omega, by go_num, by rw [HPs.out], HR2.out, HI.out.2.alloc hsz4 _⟩
            case measure => simp [intOf]; omega
          · simp only [Bool.not_eq_true] at hin
            rw [hin] at i1
            have hvs : vsOk s k = false := by unfold vsOk shOk; rw [pshOk_no hj4 hin]; simp
            have HF := hide (show goodS s = false by rw [HG2.out, pvs_no hk6 hvs]; simp)
            clear hin hvs S3 V3
            go_wp2_with (go_at_call 138; refine (i1 _).mono ?_; rintro e w5 ⟨rfl, rfl⟩)
            go_ret
            exact ⟨by rw [HF.out]; rfl, HB4.out.alloc hsz5 _⟩
        · obtain rfl : j = 4 := by omega
          obtain ⟨c0, c1, c2, c3, c4⟩ := (V3.later HI.out.2 hV3).cells
          have hpb := psh_bound (S := s.S) (v := k) 4 HI.out.1
          have hpt := ptok_bound (V := s.V) k (fun i hi => (vOk_amounts (by have h := pvs_at HP.out hi; unfold vsOk at h; rw [Bool.and_eq_true] at h; exact h.1)).1)
          have hpl := plost_bound (V := s.V) k (fun i hi => (vOk_amounts (by have h := pvs_at HP.out hi; unfold vsOk at h; rw [Bool.and_eq_true] at h; exact h.1)).2.2)
          have hv0 : vsOk s k = (inA (s.V k).tok && inA (s.V k).sh && inA (s.V k).lost && !(decide (0 < (s.V k).tok) && decide ((s.V k).sh = 0)) && ((s.V k).jail || !(s.V k).dead) && decide (psh s.S k 4 = (s.V k).sh)) := by unfold vsOk vOk; rw [shOk_dec HI.out.1]
          have HV := hide hv0
          have HP1 : Hid (ptok s.V (k + 1) = ptok s.V k + (s.V k).tok) := rfl
          have HP2 : Hid (plost s.V (k + 1) = plost s.V k + (s.V k).lost) := rfl
          have HPk : Hid (pvs s (k + 1) = vsOk s k) := by show (pvs s k && vsOk s k) = vsOk s k; rw [HP.out, Bool.true_and]
          have HNo : Hid (vsOk s k = false → goodS s = false) := fun h => by rw [HG2.out, pvs_no hk6 h]; simp
          have HBr := hide (HC3.out.trans (HI.out.2.mono (by omega)))
          clear hv0 S3 V3 HI HP HG2
          generalize psh s.S k 4 = ps at *
          generalize (s.V k).tok = xt at *
          generalize (s.V k).sh = xs at *
          generalize (s.V k).lost = xl at *
          generalize (s.V k).jail = xj at *
          generalize (s.V k).dead = xd at *
          have i1 := rinA_any xt
          have i2 := rinA_any xs
          have i3 := rinA_any xl
          by_cases g1 : inA xt = true
          · by_cases g2 : inA xs = true
            · by_cases g3 : inA xl = true
              · have hvv : vsOk s k = (!(decide (0 < xt) && decide (xs = 0)) && (xj || !xd) && decide (ps = xs)) := by rw [HV.out, g1, g2, g3]; simp
                have HV2 := hide hvv
                rw [g1] at i1
                rw [g2] at i2
                rw [g3] at i3
                rw [inA_iff] at g1 g2 g3
                clear hvv HV
                go_wp2_with (first
                  | (go_at_call 138; have _m := m2; refine (i3 _).mono ?_; rintro e w7 ⟨rfl, rfl⟩)
                  | (go_at_call 138; have _m := m1; refine (i2 _).mono ?_; rintro e w6 ⟨rfl, rfl⟩; have m2 : True := trivial)
                  | (go_at_call 138; refine (i1 _).mono ?_; rintro e w5 ⟨rfl, rfl⟩; have m1 : True := trivial))
                all_goals first
                  | (go_ret
                     have hv : vsOk s k = false := by rw [HV2.out]; first | (simp_all; done) | (simp_all; omega)
                     exact ⟨by rw [HNo.out hv]; rfl, HB4.out⟩)
                  | (have hv : pvs s (k + 1) = true := by rw [HPk.out, HV2.out]; first | (simp_all; done) | (simp_all; omega)
                     have hp1 := HP1.out
                     have hp2 := HP2.out
                     refine ⟨⟨k + 1, by omega, by go_num, ?_, ?_, hv, HBr.out⟩, by simp [intOf]; omega⟩
                     · congr 1; omega
                     · congr 1; omega)
              · simp only [Bool.not_eq_true] at g3
                rw [g3] at i3
                rw [g1] at i1
                rw [g2] at i2
                have HF := hide (HNo.out (by rw [HV.out, g3]; simp))
                clear HNo HV g3
                go_wp2_with (first
                  | (go_at_call 138; have _m := m2; refine (i3 _).mono ?_; rintro e w7 ⟨rfl, rfl⟩)
                  | (go_at_call 138; have _m := m1; refine (i2 _).mono ?_; rintro e w6 ⟨rfl, rfl⟩; have m2 : True := trivial)
                  | (go_at_call 138; refine (i1 _).mono ?_; rintro e w5 ⟨rfl, rfl⟩; have m1 : True := trivial))
                go_ret
                exact ⟨by rw [HF.out]; rfl, HB4.out⟩
            · simp only [Bool.not_eq_true] at g2
              rw [g2] at i2
              rw [g1] at i1
              have HF := hide (HNo.out (by rw [HV.out, g2]; simp))
              clear HNo HV g2
              go_wp2_with (first
                | (go_at_call 138; have _m := m1; refine (i2 _).mono ?_; rintro e w6 ⟨rfl, rfl⟩)
                | (go_at_call 138; refine (i1 _).mono ?_; rintro e w5 ⟨rfl, rfl⟩; have m1 : True := trivial))
              go_ret
              exact ⟨by rw [HF.out]; rfl, HB4.out⟩
          · simp only [Bool.not_eq_true] at g1
            rw [g1] at i1
            have HF := hide (HNo.out (by rw [HV.out, g1]; simp))
            clear HNo HV g1
            go_wp2_with (go_at_call 138; refine (i1 _).mono ?_; rintro e w5 ⟨rfl, rfl⟩)
            go_ret
            exact ⟨by rw [HF.out]; rfl, HB4.out⟩
    · obtain rfl : k = 6 := by omega
      have HB5 := hide (HB1.out.trans (HO.out.2.mono (Nat.le_of_lt hbl)))
      have S5 := S1.later HO.out.2 hbl
      have HG3 : Hid (goodS s = (wOk s.next 0 s.W && bal s)) := by have := HO.out.1; rw [HG2.out, this]; simp [Hid]
      obtain ⟨_, _, _, _, _, _, _, x7, x8⟩ := st_cells S5
      have HS5 := hide S5
      have hbl5 := S5.lt
      clear S1 S5 x8 HG2
      go_wp2_with fail
      clear x7
      go_loopw [10, 11, 108] (fun s10 s11 i wl => ∃ (k : Nat) (last : Int), k ≤ s.W.length ∧ i = .int .i64 (k : Int) ∧ s10 = .int .i64 (amts (s.W.take k)) ∧ s11 = .int .i64 last ∧ Hid (wOk s.next 0 s.W = wOk s.next last (s.W.drop k) ∧ (∀ x ∈ s.W.take k, inA x.amt = true) ∧ Below w2.heap.size w2 wl)) (fun _ _ i _ => s.W.length - (intOf i).toNat)
      case atStart => exact ⟨0, 0, by omega, rfl, rfl, rfl, rfl, by simp, Below.refl _ _⟩
      case round =>
        obtain ⟨k, last, hk, rfl, rfl, rfl, HR⟩ := hrel
        have hsz6 : w2.heap.size ≤ wr.heap.size := HR.out.2.2.size
        have HB6 := hide (HB5.out.trans (HR.out.2.2.mono (Nat.le_of_lt hbl5)))
        have hsz7 : w.heap.size ≤ wr.heap.size := HB6.out.size
        have hlt7 : w.heap.size < wr.heap.size := Nat.lt_of_lt_of_le hbl5 hsz6
        obtain ⟨_, _, _, _, y4, y5, y6, _, y8⟩ := st_cells (HS5.out.later HR.out.2.2 hbl5)
        have hab := amts_bound HR.out.2.1
        by_cases hlt : k < s.W.length
        · obtain ⟨x, hx, hd⟩ := drop_at hlt
          obtain ⟨c0, c1, c2, c3, c4, c5, c6, c7⟩ := (HW.out.over HB6.out).cell k x hx
          have HE : Hid (wOk s.next 0 s.W = (wOk1 last s.next x && wOk s.next x.num (s.W.drop (k + 1)))) := by have := HR.out.1; rw [hd] at this; exact this
          have HM := hide (amts_take hx)
          rw [List.length_take, Nat.min_eq_left hk] at hab
          have HT : Hid (inA x.amt = true → ∀ y ∈ s.W.take (k + 1), inA y.amt = true) := fun h y hy => by
            have ex : s.W[k] = x := by simpa [List.getElem?_eq_getElem hlt] using hx
            rw [List.take_succ_eq_append_getElem hlt, List.mem_append, List.mem_singleton, ex] at hy
            rcases hy with hy | rfl
            · exact HR.out.2.1 y hy
            · exact h
          have HBq := hide HR.out.2.2
          obtain rfl := hadr (by omega)
          have j3 := rinA_any x.amt
          have HO1 : Hid (wOk1 last s.next x = (decide (last < x.num) && decide (x.num < s.next) && isD x.d && isV x.v && inA x.amt && decide (0 ≤ x.hei) && decide (0 ≤ x.due))) := rfl
          have HD1 : Hid (isD x.d = decide (0 ≤ x.d ∧ x.d < 4)) := rfl
          have HD2 : Hid (isV x.v = decide (0 ≤ x.v ∧ x.v < 6)) := rfl
          clear hadr hd hx HR y4 y5 y6
          by_cases g3 : inA x.amt = true
          · rw [g3] at j3
            have HT2 := hide (HT.out g3)
            have ho := HO1.out
            rw [g3] at ho
            have HO2 := hide ho
            rw [inA_iff] at g3
            clear ho HO1 HT
            go_wp2_with (go_at_call 138; refine (j3 _).mono ?_; rintro e w7 ⟨rfl, rfl⟩)
            all_goals first
              | (go_ret
                 have hf : goodS s = false := by rw [HG3.out, HE.out, HO2.out, HD1.out, HD2.out]; first | (simp_all; done) | (simp_all; omega) | (simp_all; intros; omega)
                 exact ⟨by rw [hf]; rfl, HB6.out.alloc hsz7 _⟩)
              | (have hf : wOk s.next 0 s.W = wOk s.next x.num (s.W.drop (k + 1)) := by rw [HE.out, HO2.out, HD1.out, HD2.out]; first | (simp_all; done) | (simp_all; omega)
                 have hm := HM.out
                 have hs : amts (s.W.take k) + x.amt = amts (s.W.take (k + 1)) := by omega
                 refine ⟨?_, by simp [intOf]; omega⟩
                 (repeat apply Exists.intro)
                 exact ⟨⟨k + 1, x.num, by omega, by go_num, by rw [hs], rfl, hf, HT2.out, HBq.out.alloc hsz6 _⟩, rfl⟩)
          · simp only [Bool.not_eq_true] at g3
            rw [g3] at j3
            have hf : goodS s = false := by rw [HG3.out, HE.out, HO1.out, g3]; simp
            have HF := hide hf
            clear hf HE HO1 g3 HT HG3
            go_wp2_with (go_at_call 138; refine (j3 _).mono ?_; rintro e w7 ⟨rfl, rfl⟩)
            all_goals (go_ret; exact ⟨by rw [HF.out]; rfl, HB6.out.alloc hsz7 _⟩)
        · have hf : goodS s = bal s := by rw [HG3.out, HR.out.1, List.drop_eq_nil_of_le (by omega)]; simp [wOk]
          have HF : Hid (goodS s = (decide (ptok s.V 6 = s.b.bo) && decide (amts (s.W.take k) = s.b.wa) && decide (plost s.V 6 = s.b.bu))) := by rw [hf, List.take_of_length_le (by omega)]; exact rfl
          clear hf y8
          generalize ptok s.V 6 = pt at *
          generalize plost s.V 6 = pl at *
          generalize amts (s.W.take k) = pa at *
          go_wp2_with fail
          all_goals (go_ret; refine ⟨?_, HB6.out⟩; rw [HF.out]; congr 1; congr 1; first | (simp_all; done) | (simp_all; rfl))
end Go.Proofs.YtjghbciepinofaaGreat

set_option maxRecDepth 100000
namespace Go.Proofs.YtjghbciepinofaaGreat
open Go.RowKit
set_option maxHeartbeats 4000000 in
theorem insort_P (g cap : Nat) (l : List Pw) (w : World) (h : RowAt w g l) (hn : l.length ≤ 12) :
    Calls Tryz.prog 126 #[.slice (some ⟨g, 0, none⟩) l.length cap, .int .i64 0, .int .i64 (l.length : Int), .func (.func 38) #[] #[]] w fun e w' => e = .returned (.tuple #[]) ∧ RowAt w' g (isort ltP l) ∧ ButB g w w' := by
  have HR0 := hide h
  clear h
  go_enter Tryz.func126, Tryz.ntmps126
  go_wp2
  go_loopw [8] (fun i wl => ∃ m : Nat, i = .int .i64 ((m : Int) + 1) ∧ (m + 1 ≤ l.length ∨ m = 0) ∧ Hid (RowAt wl g (sortTo ltP l m) ∧ ButB g w wl)) (fun i _ => l.length - (intOf i).toNat)
  case atStart => exact ⟨0, rfl, .inr rfl, HR0.out, ButB.refl _ _⟩
  case round =>
    obtain ⟨m, rfl, hm, HR⟩ := hrel
    by_cases hlt : m + 1 < l.length
    · rename World => wo
      have hlt' : (m : Int) + 1 < (l.length : Int) := by omega
      go_wp2_with fail
      go_loopw [9] (fun j wl => ∃ (p : Nat) (l' : List Pw), j = .int .i64 (p : Int) ∧ p ≤ m + 1 ∧ l'.length = l.length ∧ Hid (insG ltP (m + 1) (sortTo ltP l m) = insG ltP p l' ∧ RowAt wl g l' ∧ ButB g w wl)) (fun j _ => (intOf j).toNat)
      case atStart => exact ⟨m + 1, sortTo ltP l m, by go_num, Nat.le_refl _, sortTo_length _ _ _, rfl, HR.out⟩
      case round =>
        obtain ⟨p, l', rfl, hp, hl', HI⟩ := hrel
        have hsz : w.heap.size ≤ wr.heap.size := HI.out.2.2.size
        cases p with
        | zero =>
          have hg0 : decide ((0 : Int) < 0) = false := by decide
          go_upto_region 4 with fail
          go_quiet (fail)
          go_wp2
          go_roundw
          case rel => exact ⟨m + 1, by go_num, .inl (by omega), (by rw [sortTo, HI.out.1]; exact HI.out.2.1), (show ButB g w (wr.drewN nq) from HI.out.2.2.drewN nq)⟩
          case measure => simp [intOf]; omega
        | succ p =>
          have hp1 : p + 1 < l'.length := by omega
          obtain ⟨c0, c1⟩ := HI.out.2.1.cell (i := p + 1) hp1
          obtain ⟨d0, d1⟩ := HI.out.2.1.cell (i := p) (by omega)
          have hC := byPower_any (l'.getD (p + 1) pz) (l'.getD p pz)
          have hgl := HI.out.2.1.lt
          have HI1 : Hid (insG ltP (m + 1) (sortTo ltP l m) = if ltP (l'.getD (p + 1) pz) (l'.getD p pz) = true then insG ltP p (swapAt l' p) else l') := HI.out.1
          have hlt2 : Hid (ltP (l'.getD (p + 1) pz) (l'.getD p pz) = decide (cmpP (l'.getD (p + 1) pz) (l'.getD p pz) < 0)) := rfl
          have HRow := hide HI.out.2
          clear HI
          generalize cmpP (l'.getD (p + 1) pz) (l'.getD p pz) = r at *
          generalize hA : l'.getD (p + 1) pz = A at *
          generalize hB : l'.getD p pz = B at *
          have HA := hide hA
          have HB := hide hB
          clear hA hB
          have hw1 : IntKind.i64.wrap (((p + 1 : Nat) : Int) - 1) = (p : Int) := by rw [show ((p + 1 : Nat) : Int) - 1 = (p : Int) by omega]; exact wrapI (by omega) (by omega)
          generalize hq : p + 1 = q at *
          have HQ := hide hq
          clear hq
          have hq0 : (0 : Int) ≤ (q : Int) := by omega
          have hq1 : (q : Int) < (l.length : Int) := by omega
          have hp0 : (0 : Int) ≤ (p : Int) := by omega
          have hp2 : (p : Int) < (l.length : Int) := by have := HQ.out; omega
          have hg0 : decide (0 < q) = true := by have := HQ.out; simp; omega
          go_upto_region 4 with fail
          go_region_held3 (fun wx => wx.cell? ⟨g, q * 2, none⟩ = some (.int .i64 A.1) ∧ wx.cell? ⟨g, q * 2 + 1, none⟩ = some (.int .i64 A.2) ∧ wx.cell? ⟨g, p * 2, none⟩ = some (.int .i64 B.1) ∧ wx.cell? ⟨g, p * 2 + 1, none⟩ = some (.int .i64 B.2)) (first | go_keep | (refine ⟨?_, ?_, ?_, ?_⟩ <;> (rw [hbC.cell hgl]; simp [*])))
            (first | (go_at_call 38; refine (hC _).mono ?_; rintro e w1 ⟨rfl, hbC⟩))
          rename_i hh
          obtain ⟨c0', c1', d0', d1'⟩ := hh
          have hR1 := HRow.out.1.later (w' := w1) (show Below wr.heap.size wr w1 from ((Below.refl _ wr).drew.trans hbC))
          have hB1 : ButB g w w1 := HRow.out.2.trans (ButB.of_below (show Below wr.heap.size wr w1 from ((Below.refl _ wr).drew.trans hbC)))
          have HR1 := hide hR1
          have HB1 := hide hB1
          have f0 := hR1.free (q * 2)
          have f1 := hR1.free (q * 2 + 1)
          have f2 := hR1.free (p * 2)
          have f3 := hR1.free (p * 2 + 1)
          clear hR1 hB1 hbC c0 c1 d0 d1 HRow hC
          by_cases hr : r < 0
          · have hd : decide (r < 0) = true := by simpa using hr
            rw [hd]
            have hqp := HQ.out
            have n1 : ¬ p = q := by omega
            have n2 : ¬ q = p := by omega
            have n3 : ¬ p * 2 = q * 2 + 1 := by omega
            have n4 : ¬ q * 2 = p * 2 + 1 := by omega
            have n5 : ¬ p * 2 + 1 = q * 2 := by omega
            have n6 : ¬ q * 2 + 1 = p * 2 := by omega
            have n7 : ¬ p * 2 = q * 2 := by omega
            have n8 : ¬ q * 2 = p * 2 := by omega
            clear hqp
            go_upto_region 6 with fail
            go_region
            have hsw : (l'.set q B).set p A = swapAt l' p := by rw [swapAt, HQ.out, HA.out, HB.out]
            have HR2 : Hid (RowAt (((((w1.setCell ⟨g, q * 2, none⟩ (.int .i64 B.1)).setCell ⟨g, q * 2 + 1, none⟩ (.int .i64 B.2)).setCell ⟨g, p * 2, none⟩ (.int .i64 A.1)).setCell ⟨g, p * 2 + 1, none⟩ (.int .i64 A.2)).drew) g (swapAt l' p)) := by
              rw [← hsw]
              exact (HR1.out.put hp1 B).put (by simp; omega) A
            have HB2 : Hid (ButB g w (((((w1.setCell ⟨g, q * 2, none⟩ (.int .i64 B.1)).setCell ⟨g, q * 2 + 1, none⟩ (.int .i64 B.2)).setCell ⟨g, p * 2, none⟩ (.int .i64 A.1)).setCell ⟨g, p * 2 + 1, none⟩ (.int .i64 A.2)).drew)) := ((((HB1.out.set _ _).set _ _).set _ _).set _ _).drew
            have HE : Hid (insG ltP (m + 1) (sortTo ltP l m) = insG ltP p (swapAt l' p)) := by rw [HI1.out, hlt2.out, hd]; exact if_pos rfl
            clear hsw
            generalize ((((w1.setCell ⟨g, q * 2, none⟩ (.int .i64 B.1)).setCell ⟨g, q * 2 + 1, none⟩ (.int .i64 B.2)).setCell ⟨g, p * 2, none⟩ (.int .i64 A.1)).setCell ⟨g, p * 2 + 1, none⟩ (.int .i64 A.2)).drew = w2 at *
            go_wp2
            go_roundw
            case rel => exact ⟨p, swapAt l' p, rfl, by have := HQ.out; omega, (by rw [swap_length]; exact hl'), HE.out, HR2.out, HB2.out⟩
            case measure => have := HQ.out; simp [intOf]; omega
          · have hd : decide (r < 0) = false := by simpa using hr
            rw [hd]
            have HE : Hid (insG ltP (m + 1) (sortTo ltP l m) = l') := by rw [HI1.out, hlt2.out, hd]; exact if_neg (by simp)
            go_wp2
            go_roundw
            case rel => exact ⟨m + 1, by go_num, .inl (by omega), (by rw [sortTo, HE.out]; exact HR1.out), HB1.out⟩
            case measure => simp [intOf]; omega
    · have hE : isort ltP l = sortTo ltP l m := by
        unfold isort
        rcases hm with h | rfl
        · rw [show l.length - 1 = m by omega]
        · rcases (show l.length = 0 ∨ l.length = 1 by omega) with h | h <;> rw [h]
      have HE := hide hE
      clear hE
      go_wp2
      go_end0
      exact ⟨rfl, by rw [HE.out]; exact HR.out.1, HR.out.2⟩
end Go.Proofs.YtjghbciepinofaaGreat

set_option maxRecDepth 100000
namespace Go.Proofs.YtjghbciepinofaaGreat
open Go.RowKit
set_option maxHeartbeats 4000000 in
theorem pdq_P (g cap : Nat) (lim : Int) (l : List Pw) (w : World) (h : RowAt w g l) (hn : l.length ≤ 12) :
    Calls Tryz.prog 86 #[.slice (some ⟨g, 0, none⟩) l.length cap, .int .i64 0, .int .i64 (l.length : Int), .int .i64 lim, .func (.func 38) #[] #[]] w fun e w' => e = .returned (.tuple #[]) ∧ RowAt w' g (isort ltP l) ∧ ButB g w w' := by
  have hI := insort_P g cap l w h hn
  have hn' : (l.length : Int) ≤ 12 := by omega
  clear h
  go_enter Tryz.func86, Tryz.ntmps86
  go_wp2_with fail
  go_loopw [1, 2] (fun a b wl => a = .int .i64 0 ∧ b = .int .i64 (l.length : Int) ∧ Hid (wl = w)) (fun _ _ _ => 0)
  case atStart => exact ⟨rfl, rfl, rfl⟩
  case round =>
    obtain ⟨rfl, rfl, HW⟩ := hrel
    have e := HW.out
    subst e
    clear HW
    go_wp2_with (go_at_call 126; refine hI.mono ?_; rintro e w1 ⟨rfl, h1⟩; have H1 := hide h1; clear h1)
    exact bodyPost_ret (v := .tuple #[]) (by simp [results, Tryz.results86]) rfl ⟨rfl, H1.out⟩
theorem bitslen_P (n : Nat) (hn : n ≤ 12) (w : World) : Calls Tryz.prog 87 #[.int .u64 (n : Int)] w fun e w' => (∃ k, e = .returned (.int .i64 k)) ∧ w = w' := by
  have hL := Ra.len64 n (by omega)
  go_enter Tryz.func87, Tryz.ntmps87
  go_wp2_with (go_at_call 135; refine (hL _).mono ?_; rintro e w1 ⟨rfl, rfl⟩)
  go_ret
  exact ⟨⟨_, rfl⟩, rfl⟩
set_option maxHeartbeats 1000000 in
theorem sortf_P (g cap : Nat) (l : List Pw) (w : World) (h : RowAt w g l) (hn : l.length ≤ 12) :
    Calls Tryz.prog 37 #[.slice (some ⟨g, 0, none⟩) l.length cap, .func (.func 38) #[] #[]] w fun e w' => e = .returned (.tuple #[]) ∧ RowAt w' g (isort ltP l) ∧ ButB g w w' := by
  have hP := fun lim => pdq_P g cap lim l w h hn
  have hL := bitslen_P l.length hn w
  clear h
  go_enter Tryz.func37, Tryz.ntmps37
  go_wp2_with (first
    | (go_at_call 87; refine hL.mono ?_; rintro e w1 ⟨⟨k, rfl⟩, rfl⟩)
    | (go_at_call 86; refine (hP _).mono ?_; rintro e w2 ⟨rfl, h1⟩; have H1 := hide h1; clear h1))
  go_end0
  exact ⟨rfl, H1.out⟩
end Go.Proofs.YtjghbciepinofaaGreat

