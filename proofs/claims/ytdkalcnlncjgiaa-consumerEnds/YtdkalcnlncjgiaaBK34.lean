/- Parts of the proof: KRS. -/
import Derived.Test.YtdkalcnlncjgiaaRows
import Derived.Test.YtdkalcnlncjgiaaBK4
import Derived.Test.YtdkalcnlncjgiaaBK33
import Derived.BigQuiet
import Derived.Deep.QuietTactic
import Derived.Deep.RegionWith
import Derived.Deep.RegionHeld3
import Derived.ChangeKeysEq
set_option maxRecDepth 100000
namespace Go.Proofs.Ytdkalcnlncjgiaa.Kc
open Go.RowKit Pv
def neqF (a b : Value) : Sem Value := binOp .neq 25 a b
theorem neqF_eq (a b : Value) : binOp .neq 25 a b = neqF a b := rfl
theorem eqF (w : World) (a0 a1 a2 a3 a4 a5 : Bool) : (Op.equalIn Op.maxDepth 25 (.agg #[.bool a0, .bool a1, .bool a2, .bool a3, .bool a4, .bool a5]) (.agg #[.bool a0, .bool a1, .bool a2, .bool a3, .bool a4, .bool a5])).run Try.prog w = .ok true w := by
  have hi : (Try.prog.info? 4).isSome = true := by kernel_rfl
  obtain ⟨i, hi⟩ := Option.isSome_iff_exists.1 hi
  have hc : Try.prog.cellsOf 4 = 1 := by kernel_rfl
  rw [show Op.maxDepth = 9999 + 1 from rfl, run_equalIn_array w 9999 _ _ Try.underlying25 hi, hc, show List.range 6 = [0, 1, 2, 3, 4, 5] from rfl]
  simp only [Op.eqItems]
  go_simp
theorem neqF_run (w : World) (a0 a1 a2 a3 a4 a5 : Bool) : (neqF (.agg #[.bool a0, .bool a1, .bool a2, .bool a3, .bool a4, .bool a5]) (.agg #[.bool a0, .bool a1, .bool a2, .bool a3, .bool a4, .bool a5])).run Try.prog w = .ok (.bool false) w := by
  have h := fun w => eqF w a0 a1 a2 a3 a4 a5
  unfold neqF binOp
  simp [Op.equal, h]
theorem fl_facts {w : World} {g : Nat} {c : Cs} {v : CsV} (h : CAt 33 w g (csC c v)) : (w.cell? ⟨g, 8, none⟩ = some (.bool (c.fl 0)) ∧ w.cell? ⟨g, 9, none⟩ = some (.bool (c.fl 1)) ∧ w.cell? ⟨g, 10, none⟩ = some (.bool (c.fl 2)) ∧ w.cell? ⟨g, 11, none⟩ = some (.bool (c.fl 3)) ∧ w.cell? ⟨g, 12, none⟩ = some (.bool (c.fl 4)) ∧ w.cell? ⟨g, 13, none⟩ = some (.bool (c.fl 5))) ∧ (w.cell? ⟨g, 18, none⟩ = some (.int .i64 c.h0) ∧ w.cell? ⟨g, 19, none⟩ = some (.int .i64 c.h1) ∧ w.cell? ⟨g, 20, none⟩ = some (.int .i64 c.h2) ∧ w.cell? ⟨g, 21, none⟩ = some (.int .i64 c.h3)) :=
  ⟨⟨h.cell 8, h.cell 9, h.cell 10, h.cell 11, h.cell 12, h.cell 13⟩, ⟨h.cell 18, h.cell 19, h.cell 20, h.cell 21⟩⟩
attribute [local go_sem ↓] neqF_eq
set_option maxHeartbeats 8000000 in
theorem samec_any (c : Cs) (v v' : CsV) (P P' : Nat → Prop) (w : World) (hp : CIn P w c v) (hp' : CIn P' w c v') :
    Calls Try.prog 8 #[.agg (csC c v), .agg (csC c v')] w fun e w' => e = .returned (.bool true) ∧ Below w.heap.size w w' := by
  obtain ⟨vs, vp, vr, v1, v2⟩ := v
  obtain ⟨vs', vp', vr', v1', v2'⟩ := v'
  obtain ⟨z, hzl, hzr, hzi⟩ := id hp.pd
  obtain ⟨z', hzl', hzr', hzi'⟩ := id hp'.pd
  obtain ⟨Aq, Cq, eq, sq, -, cq, -⟩ := hzr.open (pdL_length _ _ hzl) (by decide)
  obtain ⟨Aq', Cq', eq', sq', -, cq', -⟩ := hzr'.open (pdL_length _ _ hzl') (by decide)
  obtain ⟨Ar, Cr, er, sr, -, cr, -⟩ := hp.rp.open (pwC_length _) (by decide)
  obtain ⟨Ar', Cr', er', sr', -, cr', -⟩ := hp'.rp.open (pwC_length _) (by decide)
  dsimp only at eq eq' er er'
  subst eq eq' er er'
  have HZ := hide (show _ ∧ _ ∧ _ ∧ _ ∧ _ ∧ _ from ⟨hzl, hzl', hzi, hzi', cq, cq'⟩)
  have HRR := hide (show _ ∧ _ from ⟨cr, cr'⟩)
  clear hzl hzl' hzi hzi' cq cq' hzr hzr' cr cr'
  have HSP := hide (fun (wx : World) (hb : Below w.heap.size w wx) => samepw_rep c.set vs vs' (hp.set.over hb) (hp'.set.over hb))
  have HSL := hide (fun (wx : World) (hb : Below w.heap.size w wx) => rlsame_rep c.out v1 v2 v1' v2' (hp.said.over hb) (hp.due.over hb) (hp'.said.over hb) (hp'.due.over hb))
  clear hp hp'
  obtain ⟨cs, hcs⟩ : ∃ cs, csC c ⟨vs, .slice Aq c.pd.length Cq, .slice Ar c.rp.length Cr, v1, v2⟩ = cs := ⟨_, rfl⟩
  obtain ⟨cs', hcs'⟩ : ∃ cs, csC c ⟨vs', .slice Aq' c.pd.length Cq', .slice Ar' c.rp.length Cr', v1', v2'⟩ = cs := ⟨_, rfl⟩
  rw [hcs, hcs']
  have HCS := hide (show _ ∧ _ from ⟨hcs, hcs'⟩)
  clear hcs hcs'
  go_enter Try.func8, Try.ntmps8
  go_upto_region 1 with fail
  have C1 : CAt 33 ((w.alloc (.cells cs 33)).alloc (.cells cs' 33)) w.heap.size (csC c ⟨vs, .slice Aq c.pd.length Cq, .slice Ar c.rp.length Cr, v1, v2⟩) := by rw [HCS.out.1]; exact (CAt.new _ w cs).alloc _
  have D1 : CAt 33 ((w.alloc (.cells cs 33)).alloc (.cells cs' 33)) (w.heap.size + 1) (csC c ⟨vs', .slice Aq' c.pd.length Cq', .slice Ar' c.rp.length Cr', v1', v2'⟩) := by rw [HCS.out.2]; exact CAt.new2 33 w _ cs'
  have B1 : Below w.heap.size w ((w.alloc (.cells cs 33)).alloc (.cells cs' 33)) := ((Below.refl _ w).alloc (Nat.le_refl _) _).alloc (by simp) _
  generalize (w.alloc (.cells cs 33)).alloc (.cells cs' 33) = w1 at *
  have HX := hide (show _ ∧ _ ∧ _ from ⟨C1, D1, B1⟩)
  obtain ⟨⟨a0, a1, a2, a3, a4⟩, ⟨a5, a6, a7⟩, ⟨a14, a15, a16, a17⟩⟩ := cs_facts C1
  obtain ⟨⟨b0, b1, b2, b3, b4⟩, ⟨b5, b6, b7⟩, ⟨b14, b15, b16, b17⟩⟩ := cs_facts D1
  obtain ⟨⟨a8, a9, a10, a11, a12, a13⟩, ⟨a18, a19, a20, a21⟩⟩ := fl_facts C1
  obtain ⟨⟨b8, b9, b10, b11, b12, b13⟩, ⟨b18, b19, b20, b21⟩⟩ := fl_facts D1
  have hF := fun wx => neqF_run wx (c.fl 0) (c.fl 1) (c.fl 2) (c.fl 3) (c.fl 4) (c.fl 5)
  clear C1 D1 B1 HCS
  have hq63 : c.pd.length ≤ 3600000000000 := by omega
  have hr63 : c.rp.length ≤ 18000000000000 := by omega
  clear sq sq' sr sr'
  go_upto_region 3 with (first
    | (go_at_call 26; refine (HSP.out _ HX.out.2.2).mono ?_; rintro e w2 ⟨rfl, hb2⟩; have HY := hide (show _ ∧ _ ∧ _ from ⟨HX.out.1.over hb2, HX.out.2.1.over hb2, HX.out.2.2.trans (hb2.mono HX.out.2.2.size)⟩); clear a0 a1 a2 a3 a4 a5 a6 a7 a14 a15 a16 a17 b0 b1 b2 b3 b4 b5 b6 b7 b14 b15 b16 b17 a8 a9 a10 a11 a12 a13 a18 a19 a20 a21 b8 b9 b10 b11 b12 b13 b18 b19 b20 b21 hb2; obtain ⟨-, ⟨-, a6, a7⟩, ⟨a14, a15, a16, a17⟩⟩ := cs_facts HY.out.1; obtain ⟨-, ⟨-, b6, b7⟩, ⟨b14, b15, b16, b17⟩⟩ := cs_facts HY.out.2.1)
    | (go_at_call 27; refine (HSL.out _ HY.out.2.2).mono ?_; rintro e w3 ⟨rfl, hb3⟩; have HW := hide (show _ ∧ _ ∧ _ from ⟨HY.out.1.over hb3, HY.out.2.1.over hb3, HY.out.2.2.trans (hb3.mono HY.out.2.2.size)⟩); clear a6 a7 a14 a15 a16 a17 b6 b7 b14 b15 b16 b17 hb3; obtain ⟨-, ⟨-, a6, a7⟩, -⟩ := cs_facts HW.out.1; obtain ⟨-, ⟨-, b6, b7⟩, -⟩ := cs_facts HW.out.2.1))
  go_upto_region 4 with fail
  clear a6 a7 b6 b7 HX HY HSP HSL hF
  go_loopw [91] (fun i wl => ∃ (k : Nat), k ≤ c.pd.length ∧ i = .int .i64 (k : Int) ∧ Hid (Below w3.heap.size w3 wl)) (fun i _ => c.pd.length - (intOf i).toNat)
  case atStart => exact ⟨0, Nat.zero_le _, rfl, Below.refl _ _⟩
  case round =>
    obtain ⟨k, hk, rfl, HB⟩ := hrel
    by_cases hlt : k < c.pd.length
    · have hkI : (k : Int) < (c.pd.length : Int) := by omega
      have hkL : (k : Int) < 4611686018427387904 := by omega
      obtain ⟨x, hx⟩ : ∃ x, c.pd[k]? = some x := ⟨_, List.getElem?_eq_getElem hlt⟩
      obtain ⟨y, hy⟩ : ∃ y, z[k]? = some y := ⟨_, List.getElem?_eq_getElem (by rw [HZ.out.1]; exact hlt)⟩
      obtain ⟨y', hy'⟩ : ∃ y, z'[k]? = some y := ⟨_, List.getElem?_eq_getElem (by rw [HZ.out.2.1]; exact hlt)⟩
      have hin := HZ.out.2.2.1 k x y hx hy
      have hin' := HZ.out.2.2.2.1 k x y' hx hy'
      obtain ⟨bq, oq, rfl, -, hbl, hcell⟩ := HZ.out.2.2.2.2.1 (by omega)
      obtain ⟨bq', oq', rfl, -, hbl', hcell'⟩ := HZ.out.2.2.2.2.2 (by omega)
      have hBw : ∀ wx, Below wr.heap.size wr wx → Below w.heap.size w wx := fun wx h => HW.out.2.2.trans ((HB.out.trans (h.mono HB.out.size)).mono HW.out.2.2.size)
      have hr := Below.refl wr.heap.size wr
      have hc : ∀ j, j < 6 → ∀ u, (pkL x y)[j]? = some u → wr.cell? ⟨bq, oq + k * 6 + j, none⟩ = some u := fun j hj u hu => by
        rw [(hBw wr hr).cell (p := ⟨bq, oq + k * 6 + j, none⟩) hbl, Nat.add_assoc]
        exact hcell _ _ ((pdL_get c.pd z k x y j hx hy hj).trans hu)
      have hc' : ∀ j, j < 6 → ∀ u, (pkL x y')[j]? = some u → wr.cell? ⟨bq', oq' + k * 6 + j, none⟩ = some u := fun j hj u hu => by
        rw [(hBw wr hr).cell (p := ⟨bq', oq' + k * 6 + j, none⟩) hbl', Nat.add_assoc]
        exact hcell' _ _ ((pdL_get c.pd z' k x y' j hx hy' hj).trans hu)
      have c0 := hc 0 (by omega) _ rfl
      have c1 := hc 1 (by omega) _ rfl
      have c2 := hc 2 (by omega) _ rfl
      have c3 := hc 3 (by omega) _ rfl
      have c4 := hc 4 (by omega) _ rfl
      have c5 := hc 5 (by omega) _ rfl
      have d0 := hc' 0 (by omega) _ rfl
      have d1 := hc' 1 (by omega) _ rfl
      have d2 := hc' 2 (by omega) _ rfl
      have d3 := hc' 3 (by omega) _ rfl
      have d4 := hc' 4 (by omega) _ rfl
      have d5 := hc' 5 (by omega) _ rfl
      rw [Nat.add_zero] at c0 d0
      have a6 := (cs_facts (HW.out.1.over HB.out)).2.1.2.1
      have b6 := (cs_facts (HW.out.2.1.over HB.out)).2.1.2.1
      dsimp only at a6 b6
      have HSK := hide (fun (wx : World) (h : Below wr.heap.size wr wx) => (samek_rep x.k x.i x.v x.n x.S x.D y.1 y.2 y'.1 y'.2 (hin.1.over (hBw wx h)) (hin.2.over (hBw wx h)) (hin'.1.over (hBw wx h)) (hin'.2.over (hBw wx h))))
      have HBr := hide (Below.refl wr.heap.size wr).drew
      clear hc hc' hBw hcell hcell' hin hin' hx hy hy' hbl hbl' hr
      obtain ⟨y1, y2⟩ := y
      obtain ⟨y1', y2'⟩ := y'
      obtain ⟨xk, xi, xv, xn, xS, xD⟩ := x
      dsimp only at c0 c1 c2 c3 c4 c5 d0 d1 d2 d3 d4 d5 HSK
      go_upto_region 6 with fail
      apply wp_join (fun w5 => Below wr.heap.size wr w5)
      · refine wp_region_noPanic ?_
        go_region_with (go_at_call 28; refine (HSK.out _ (by exact HBr.out)).mono ?_; rintro e w5 ⟨rfl, hb5⟩; have HB5 := hide (HBr.out.trans hb5); clear hb5)
        all_goals exact NoPanic.normal ⟨rfl, rfl, HB5.out⟩
      intro w5 hb5
      have HB5 := hide (HB.out.trans (hb5.mono HB.out.size))
      clear c0 c1 c2 c3 c4 c5 d0 d1 d2 d3 d4 d5 a6 b6 hb5 HB HSK HBr HZ HW HRR hkL
      simp only [Exit.then]
      apply_assumption
      go_simp
      go_wp2
      first | exact ⟨⟨k + 1, by omega, by go_num, HB5⟩, by simp [intOf]; omega⟩ | ((repeat apply Exists.intro); exact ⟨⟨k + 1, by omega, by go_num, HB5⟩, rfl⟩)
    · obtain rfl : k = c.pd.length := by omega
      have HW4 := hide (show _ ∧ _ ∧ _ from ⟨HW.out.1.over HB.out, HW.out.2.1.over HB.out, HW.out.2.2.trans (HB.out.mono HW.out.2.2.size)⟩)
      clear HW HB HZ
      have a7 := (cs_facts HW4.out.1).2.1.2.2
      go_upto_region 10 with fail
      clear a7
      generalize wr = w4 at *
      go_loopw [110] (fun i wl => ∃ (k : Nat), k ≤ c.rp.length ∧ i = .int .i64 (k : Int) ∧ Hid (Below w4.heap.size w4 wl)) (fun i _ => c.rp.length - (intOf i).toNat)
      case atStart => exact ⟨0, Nat.zero_le _, rfl, Below.refl _ _⟩
      case round =>
        obtain ⟨k, hk, rfl, HB⟩ := hrel
        by_cases hlt : k < c.rp.length
        · have hkI : (k : Int) < (c.rp.length : Int) := by omega
          have hkL : (k : Int) < 4611686018427387904 := by omega
          obtain ⟨bq, oq, rfl, -, hbl, hcell⟩ := HRR.out.1 (by omega)
          obtain ⟨bq', oq', rfl, -, hbl', hcell'⟩ := HRR.out.2 (by omega)
          have hBw : Below w.heap.size w wr := HW4.out.2.2.trans (HB.out.mono HW4.out.2.2.size)
          obtain ⟨x, hx⟩ : ∃ x, c.rp.getD k (0, 0) = x := ⟨_, rfl⟩
          obtain ⟨p0, p1⟩ := pwC_get c.rp k hlt
          rw [hx] at p0 p1
          have c0 : wr.cell? ⟨bq, oq + k * 2, none⟩ = some (.int .i64 x.1) := (hBw.cell (p := ⟨bq, oq + k * 2, none⟩) hbl).trans (hcell _ _ p0)
          have c1 : wr.cell? ⟨bq, oq + k * 2 + 1, none⟩ = some (.int .i64 x.2) := (hBw.cell (p := ⟨bq, oq + k * 2 + 1, none⟩) hbl).trans (hcell _ _ p1)
          have d0 : wr.cell? ⟨bq', oq' + k * 2, none⟩ = some (.int .i64 x.1) := (hBw.cell (p := ⟨bq', oq' + k * 2, none⟩) hbl').trans (hcell' _ _ p0)
          have d1 : wr.cell? ⟨bq', oq' + k * 2 + 1, none⟩ = some (.int .i64 x.2) := (hBw.cell (p := ⟨bq', oq' + k * 2 + 1, none⟩) hbl').trans (hcell' _ _ p1)
          have a7 := (cs_facts (HW4.out.1.over HB.out)).2.1.2.2
          have b7 := (cs_facts (HW4.out.2.1.over HB.out)).2.1.2.2
          dsimp only at a7 b7
          obtain ⟨x1, x2⟩ := x
          dsimp only at c0 c1 d0 d1
          clear hBw hcell hcell' p0 p1 hx hbl hbl'
          go_upto_region 12 with fail
          go_quiet (fail)
          go_wp2
          exact ⟨⟨k + 1, by omega, by go_num, ⟨HB.out.os, HB.out.tape, HB.out.output, HB.out.size, HB.out.block⟩⟩, by simp [intOf]; omega⟩
        · obtain rfl : k = c.rp.length := by omega
          have HBz := hide (HW4.out.2.2.trans (HB.out.mono HW4.out.2.2.size))
          clear HW4 HB HRR
          go_wp2
          go_ret
          exact ⟨rfl, HBz.out⟩
end Go.Proofs.Ytdkalcnlncjgiaa.Kc

