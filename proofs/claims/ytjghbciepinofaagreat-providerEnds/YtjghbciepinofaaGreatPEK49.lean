/- Parts of the proof: PGB PGC PST PDA. -/
import Derived.Test.YtjghbciepinofaaGreatRows
import Derived.Test.YtjghbciepinofaaGreatPEK24
import Derived.Test.YtjghbciepinofaaGreatPEK36
import Derived.Test.YtjghbciepinofaaGreatPEK39
import Derived.Test.YtjghbciepinofaaGreatPEK44
import Derived.Test.YtjghbciepinofaaGreatPEK46
import Derived.Test.YtjghbciepinofaaGreatPEK50
import Derived.Deep.MidRow
set_option maxRecDepth 100000
namespace Go.Proofs.YtjghbciepinofaaGreat.Pv
open Go.RowKit
/-- a link's cells at a place -/
def LkAt (w : World) (g o : Nat) (x : Lk) (u : LkV) : Prop := ∀ j, j < 14 → w.cell? ⟨g, o + j, none⟩ = (lkL x u)[j]?
theorem CAt.lk {w : World} {g : Nat} {p : Pr} {v : PrV} (h : CAt 47 w g (prC p v)) {k : Nat} (hk : k < 2) : LkAt w g (66 + k * 14) (p.L k) (v.l k) := fun j hj => (h.cell _).trans (pr_link k hk j hj)
theorem LkAt.over {w w' : World} {g o : Nat} {x : Lk} {u : LkV} (h : LkAt w g o x u) (hb : Below w.heap.size w w') : LkAt w' g o x u := fun j hj => by
  have hlt : g < w.heap.size := World.block_lt_of_cell? w ⟨g, o + 0, none⟩ (h 0 (by omega))
  rw [hb.cell (p := ⟨g, o + j, none⟩) hlt]
  exact h j hj
theorem LkAt.facts {w : World} {g o : Nat} {x : Lk} {u : LkV} (h : LkAt w g o x u) : w.cell? ⟨g, o, none⟩ = some (.bool x.on) ∧ w.cell? ⟨g, o + 1, none⟩ = some (.bool x.gone) ∧ w.cell? ⟨g, o + 2, none⟩ = some (.int .i64 x.base) ∧ w.cell? ⟨g, o + 3, none⟩ = some u.told ∧ w.cell? ⟨g, o + 4, none⟩ = some (.bool x.fresh) ∧ w.cell? ⟨g, o + 5, none⟩ = some u.done ∧ (w.cell? ⟨g, o + 6, none⟩ = some u.said ∧ w.cell? ⟨g, o + 6 + 1, none⟩ = some u.due ∧ w.cell? ⟨g, o + 6 + 2, none⟩ = some (.int .i64 x.out.g) ∧ w.cell? ⟨g, o + 6 + 3, none⟩ = some (.bool x.out.cl)) :=
  ⟨h 0 (by omega), h 1 (by omega), h 2 (by omega), h 3 (by omega), h 4 (by omega), h 5 (by omega), h 6 (by omega), h 7 (by omega), h 8 (by omega), h 9 (by omega)⟩
set_option maxHeartbeats 4000000 in
theorem plink_any (g o : Nat) (x : Lk) (u : LkV) (h : Int) (P : Nat → Prop) (w : World) (hc : LkAt w g o x u) (hl : LkIn P w x u) :
    Calls Tryz.prog 35 #[.pointer (some ⟨g, o, none⟩), .int .i64 h] w fun e w' => e = .returned (.bool (goodLk h x)) ∧ Below w.heap.size w w' := by
  have hG : goodLk h x = (riseB (-1) x.done && (!(x.on && x.gone) && decide (0 ≤ x.base) && decide (x.base ≤ h) && setB (-1) x.told && Ln.goodL x.out)) := rfl
  generalize goodLk h x = G at *
  obtain ⟨A1, C1, A2, C2, sb, so, db, dO, es, eu, hL, -, -⟩ := RepC.line hl.said hl.due
  have hln := fun (wx : World) (hb : Below w.heap.size w wx) => Ln.good_any x.out A1 A2 C1 C2 sb so db dO wx (hL.later hb)
  rw [← es, ← eu] at hln
  have HLN := hide hln
  have HST := hide (fun (wx : World) (hb : Below w.heap.size w wx) => pset_rep x.told u.told P wx (hl.told.over hb))
  have HRI := hide (fun (wx : World) (hb : Below w.heap.size w wx) => prises_rep x.done u.done P wx (hl.done.over hb))
  have HC := hide hc
  obtain ⟨c0, c1, c2, c3, c4, c5, c6, c7, c8, c9⟩ := hc.facts
  clear hln es eu hL hl hc
  have HG := hide hG
  clear hG
  generalize setB (-1) x.told = gt at *
  generalize riseB (-1) x.done = gr at *
  generalize Ln.goodL x.out = gl at *
  by_cases h1 : (x.on && x.gone) = false ∧ 0 ≤ x.base ∧ x.base ≤ h
  · obtain ⟨q1, q2, q3⟩ := h1
    have e : G = (gr && (gt && gl)) := by rw [HG.out, q1]; simp [q2, q3]
    subst e
    clear HG
    have hcs : x.on = false ∨ (x.on = true ∧ x.gone = false) := by cases h : x.on <;> simp_all
    clear q1
    generalize x.on = xo at *
    generalize x.gone = xg at *
    generalize x.base = xb at *
    rcases hcs with rfl | ⟨rfl, rfl⟩
    all_goals
      cases gt
      · go_enter Tryz.func35, Tryz.ntmps35
        go_wp2_with (go_at_call 34; refine (HST.out _ (Below.refl _ _)).mono ?_; rintro e w6 ⟨rfl, hb6⟩)
        go_ret
        exact ⟨by cases gr <;> rfl, hb6⟩
      · cases gr
        · go_enter Tryz.func35, Tryz.ntmps35
          go_wp2_with (first
            | (go_at_call 34; refine (HST.out _ (Below.refl _ _)).mono ?_; rintro e w6 ⟨rfl, hb6⟩; clear c0 c1 c2 c3 c4 c5 c6 c7 c8 c9; obtain ⟨c0, c1, c2, c3, c4, c5, c6, c7, c8, c9⟩ := (HC.out.over hb6).facts; have HB6 := hide hb6; clear hb6)
            | (go_at_call 80; refine (HRI.out _ HB6.out).mono ?_; rintro e w7 ⟨rfl, rfl⟩))
          go_ret
          exact ⟨rfl, HB6.out⟩
        · go_enter Tryz.func35, Tryz.ntmps35
          go_wp2_with (first
            | (go_at_call 34; refine (HST.out _ (Below.refl _ _)).mono ?_; rintro e w6 ⟨rfl, hb6⟩; clear c0 c1 c2 c3 c4 c5 c6 c7 c8 c9; obtain ⟨c0, c1, c2, c3, c4, c5, c6, c7, c8, c9⟩ := (HC.out.over hb6).facts; have HB6 := hide hb6; clear hb6)
            | (go_at_call 80; refine (HRI.out _ HB6.out).mono ?_; rintro e w7 ⟨rfl, rfl⟩)
            | (go_at_call 81; refine (HLN.out _ HB6.out).mono ?_; rintro e w8 ⟨rfl, hb8⟩; have HB8 := hide (HB6.out.trans (hb8.mono HB6.out.size)); clear hb8))
          go_ret
          exact ⟨rfl, HB8.out⟩
  · have e : G = false := by
      rw [HG.out]
      have : (!(x.on && x.gone) && decide (0 ≤ x.base) && decide (x.base ≤ h)) = false := by
        rw [Bool.eq_false_iff]
        intro hh
        simp only [Bool.and_eq_true, Bool.not_eq_true', decide_eq_true_eq] at hh
        exact h1 ⟨hh.1.1, hh.1.2, hh.2⟩
      simp only [this, Bool.false_and, Bool.and_false]
    subst e
    clear HG
    generalize x.on = xo at *
    generalize x.gone = xg at *
    generalize x.base = xb at *
    have hcs : (xo = true ∧ xg = true) ∨ ((xo = false ∨ (xo = true ∧ xg = false)) ∧ (¬ 0 ≤ xb ∨ (0 ≤ xb ∧ ¬ xb ≤ h))) := by
      cases xo <;> cases xg <;> simp_all <;> omega
    clear h1
    rcases hcs with ⟨rfl, rfl⟩ | ⟨rfl | ⟨rfl, rfl⟩, q2 | ⟨q2, q3⟩⟩
    all_goals
      go_enter Tryz.func35, Tryz.ntmps35
      go_wp2
      go_ret
      exact ⟨rfl, Below.refl _ _⟩
attribute [local go_sem ↓] loadS_eq
set_option maxHeartbeats 8000000 in
set_option maxRecDepth 1000000 in
theorem pgood_any (p : Pr) (v : PrV) (P : Nat → Prop) (w : World) (hp : PIn P w p v) :
    Calls Tryz.prog 10 #[.agg (prC p v)] w fun e w' => e = .returned (.bool (goodP p)) ∧ Below w.heap.size w w' := by
  have HG := hide (goodP_gg p)
  generalize goodP p = G at *
  obtain ⟨Aw, Cw, bw, ow, ews, Ws, -, -⟩ := hp.ws.wsAt
  have hgs := fun (wx : World) (hb : Below w.heap.size w wx) => sgood_any p.s Aw bw ow Cw wx (Ws.over hb)
  rw [← ews] at hgs
  have HGS := hide hgs
  have HP := hide hp
  clear hp hgs ews Ws
  obtain ⟨cs, hcs⟩ : ∃ cs, prC p v = cs := ⟨_, rfl⟩
  rw [hcs]
  have HCS := hide hcs
  clear hcs
  go_enter Tryz.func10, Tryz.ntmps10
  go_upto_region 1 with fail
  have C1 : CAt 47 (w.alloc (.cells cs 47)) w.heap.size (prC p v) := by rw [HCS.out]; exact CAt.new _ w cs
  have B1 : Below w.heap.size w (w.alloc (.cells cs 47)) := (Below.refl _ w).alloc (Nat.le_refl _) _
  generalize w.alloc (.cells cs 47) = w1 at *
  have HX := hide (show _ ∧ _ from ⟨C1, B1⟩)
  obtain ⟨⟨a0, a1, a2, a3, a4, a5⟩, a6⟩ := pr_facts C1
  clear C1 B1 HCS
  have hTI : Hid (isT p.t = (decide (0 ≤ p.t) && decide (p.t ≤ 1099511627776))) := rfl
  by_cases h1 : goodS p.s = true ∧ 0 ≤ p.h ∧ p.h ≤ 1099511627775 ∧ (0 ≤ p.t ∧ p.t ≤ 1099511627776) ∧ setB (-1) p.set = true
  · obtain ⟨q1, q2, q3, ⟨q4, q5⟩, q6⟩ := h1
    have HONE := hide (show (goodS p.s && decide (0 ≤ p.h) && decide (p.h ≤ 1099511627775) && decide (0 ≤ p.t) && decide (p.t ≤ 1099511627776) && setB (-1) p.set) = true by simp [q1, q2, q3, q4, q5, q6])
    have HST := hide (fun wx hb => pset_rep p.set v.set P wx (HP.out.set.over hb))
    have qt : isT p.t = true := by rw [hTI.out]; simp [q4, q5]
    rw [q1] at HGS
    rw [q6] at HST
    clear q1 q6
    go_upto_region 3 with (first
      | (go_at_call 33; refine (HGS.out _ HX.out.2).mono ?_; rintro e w2 ⟨rfl, hb2⟩; have HY := hide (show _ ∧ _ from ⟨HX.out.1.over hb2, HX.out.2.trans (hb2.mono HX.out.2.size)⟩); clear a0 a1 a2 a3 a4 a5 a6 hb2; obtain ⟨⟨a0, a1, a2, a3, a4, a5⟩, a6⟩ := pr_facts HY.out.1)
      | (go_at_call 27; refine (ptime_any _ _).mono ?_; rintro e w' ⟨rfl, rfl⟩)
      | (go_at_call 34; refine (HST.out _ HY.out.2).mono ?_; rintro e w3 ⟨rfl, hb3⟩; have HZ := hide (show _ ∧ _ from ⟨HY.out.1.over hb3, HY.out.2.trans (hb3.mono HY.out.2.size)⟩); clear a0 a1 a2 a3 a4 a5 a6 hb3))
    clear HGS HST HX HY
    go_upto_region 4 with fail
    go_loopw [32] (fun i wl => ∃ (k : Nat), k ≤ 2 ∧ i = .int .i64 (k : Int) ∧ Hid (Below w3.heap.size w3 wl) ∧ Hid (∀ c, c < k → goodLk p.h (p.L c) = true)) (fun i _ => (2 - intOf i).toNat)
    case atStart => exact ⟨0, by omega, rfl, Below.refl _ _, fun c hc => absurd hc (by omega)⟩
    case round =>
      obtain ⟨k, hk, rfl, HB, HA⟩ := hrel
      by_cases hk2 : k < 2
      · have hkk : (k : Int) < 2 := by omega
        have hk0 : (0 : Int) ≤ (k : Int) := by omega
        have hBw : Below w.heap.size w wr := HZ.out.2.trans (HB.out.mono HZ.out.2.size)
        have C5 := HZ.out.1.over HB.out
        have a0 := (pr_facts C5).1.1
        have hln := fun (wx : World) (hb : Below wr.heap.size wr wx) => plink_any w.heap.size (66 + k * 14) (p.L k) (v.l k) p.h P wx ((C5.over hb).lk hk2) ((HP.out.lk k hk2).keep fun b _ hlt => (hBw.trans (hb.mono hBw.size)).block b hlt)
        have HLN := hide hln
        have HGk := hide (fun h => HG.out.lks k hk2 h)
        have HBw := hide hBw
        have hb0 := HB.out.size
        clear hln C5 hBw
        go_upto_region 6 with fail
        generalize hgl : goodLk p.h (p.L k) = gl at *
        have HGL := hide hgl
        clear hgl
        cases gl
        · have e := HGk.out rfl
          subst e
          clear HG HGk HP HZ HA HONE
          go_region_with (go_at_call 35; refine (HLN.out _ (by exact (Below.refl _ _).drew)).mono ?_; rintro e w5 ⟨rfl, hb5⟩)
          all_goals
            go_wp2
            go_ret
            exact ⟨rfl, HBw.out.trans ((Below.refl _ _).drew.trans (hb5.mono HBw.out.size))⟩
        · go_region_with (go_at_call 35; refine (HLN.out _ (by exact (Below.refl _ _).drew)).mono ?_; rintro e w5 ⟨rfl, hb5⟩)
          all_goals
            have HF := hide (HB.out.trans ((Below.refl _ _).drew.trans (hb5.mono HB.out.size)))
            have HAk : Hid (∀ c, c < k + 1 → goodLk p.h (p.L c) = true) := fun c hc => by
              by_cases e : c = k
              · subst e; exact HGL.out
              · exact HA.out c (by omega)
            clear HA HLN HBw HB hb5
            go_wp2
            first | exact ⟨⟨k + 1, by omega, by go_num, HF, HAk⟩, by simp [intOf]; omega⟩ | ((repeat apply Exists.intro); exact ⟨⟨k + 1, by omega, by go_num, HF, HAk⟩, rfl⟩)
      · obtain rfl : k = 2 := by omega
        rename World => w9
        have HY := hide (show _ ∧ _ from ⟨HZ.out.1.over HB.out, HZ.out.2.trans (HB.out.mono HZ.out.2.size)⟩)
        obtain ⟨z, hzl, hzr, hzi⟩ := HP.out.q
        obtain ⟨Aq, Cq, eq, sq, -, cq, -⟩ := hzr.open (quL_length _ _ hzl) (by decide)
        have a5 := (pr_facts HY.out.1).1.2.2.2.2.2
        rw [eq] at a5
        have HQ := hide (show _ ∧ _ ∧ _ from ⟨hzl, hzi, cq⟩)
        have hq63 : p.q.length ≤ 1800000000000 := by omega
        clear hzl hzi cq hzr eq sq HB HZ
        go_upto_region 10 with fail
        clear a5
        go_loopw [46] (fun i wl => ∃ (k : Nat), k ≤ p.q.length ∧ i = .int .i64 (k : Int) ∧ Hid (Below w9.heap.size w9 wl) ∧ Hid (∀ (i : Nat) (x : Int × Pkt), i < k → p.q[i]? = some x → goodQ p.L x = true)) (fun i _ => p.q.length - (intOf i).toNat)
        case atStart => exact ⟨0, Nat.zero_le _, rfl, Below.refl _ _, fun i x hi => absurd hi (by omega)⟩
        case round =>
          obtain ⟨k, hk, rfl, HB, HN⟩ := hrel
          by_cases hlt : k < p.q.length
          · have hkI : (k : Int) < (p.q.length : Int) := by omega
            obtain ⟨x, hx⟩ : ∃ x, p.q[k]? = some x := ⟨_, List.getElem?_eq_getElem hlt⟩
            obtain ⟨y, hy⟩ : ∃ y, z[k]? = some y := ⟨_, List.getElem?_eq_getElem (by rw [HQ.out.1]; exact hlt)⟩
            have hin := HQ.out.2.1 k x y hx hy
            obtain ⟨y1, y2⟩ := y
            obtain ⟨⟨B1, n1, D1, ey1, -⟩, ⟨B2, n2, D2, ey2, -⟩⟩ := id hin
            dsimp only at ey1 ey2
            subst ey1 ey2
            have hBw : Below w.heap.size w wr := HY.out.2.trans (HB.out.mono HY.out.2.size)
            obtain ⟨bq, oq, rfl, -, hbl, hcell⟩ := HQ.out.2.2 (by omega)
            have hc : ∀ j, j < 7 → ∀ u, (akL x (.slice B1 n1 D1, .slice B2 n2 D2))[j]? = some u → wr.cell? ⟨bq, oq + k * 7 + j, none⟩ = some u := fun j hj u hu => by
              rw [hBw.cell (p := ⟨bq, oq + k * 7 + j, none⟩) hbl, Nat.add_assoc]
              exact hcell _ _ ((quL_get p.q z k x _ j hx hy hj).trans hu)
            have e0 := hc 0 (by omega) _ rfl
            have e1 := hc 1 (by omega) _ rfl
            have e2 := hc 2 (by omega) _ rfl
            have e3 := hc 3 (by omega) _ rfl
            have e4 := hc 4 (by omega) _ rfl
            have e5 := hc 5 (by omega) _ rfl
            have e6 := hc 6 (by omega) _ rfl
            rw [Nat.add_zero] at e0
            have HGq := hide (fun h => HG.out.qus k x hx h)
            have HXK := hide hx
            obtain ⟨S1, T1, S2, T2, sb, so, db, dO, es, eu, hL⟩ := Rep.lies (hin.1.over hBw) (hin.2.over hBw)
            have hgp := fun (wx : World) (hb : Below wr.heap.size wr wx) => Cd.good_any x.2.k x.2.i x.2.v x.2.n x.2.S x.2.D S1 S2 T1 T2 sb so db dO wx hL.hls hL.hld hL.hsa hL.hda (hL.later hb).PS (hL.later hb).PD
            rw [← es, ← eu] at hgp
            have HGP := hide hgp
            have C5 := HY.out.1.over HB.out
            have HON := hide (fun (wx : World) (hb : Below wr.heap.size wr wx) => pison_any w.heap.size p v x.1 wx (C5.over hb))
            have hglt : w.heap.size < wr.heap.size := C5.lt
            clear hc hcell hin hx hy es eu hL hgp C5
            have hgq : goodQ p.L x = (decide (0 ≤ x.1) && decide (x.1 ≤ 1) && (p.L x.1.toNat).on && decide (x.2.k ≠ 1) && decide (Cd.goodN x.2.k x.2.i x.2.v x.2.n x.2.S x.2.D = 0)) := rfl
            have hio : isOn p x.1 = (decide (0 ≤ x.1) && decide (x.1 ≤ 1) && (p.L x.1.toNat).on) := by
              show (isC x.1 && _) = _
              unfold isC
              rw [show (decide (x.1 < 2) : Bool) = decide (x.1 ≤ 1) by simp only [decide_eq_decide]; omega]
            rw [← hio] at hgq
            generalize isOn p x.1 = io at *
            generalize Cd.goodN x.2.k x.2.i x.2.v x.2.n x.2.S x.2.D = gn at *
            have HBn := hide (show Below wr.heap.size wr (wr.alloc (.cells #[.int .i64 x.1, .int .i64 x.2.k, .int .i64 x.2.i, .int .i64 x.2.v, .int .i64 x.2.n, .slice B1 n1 D1, .slice B2 n2 D2] 79)) from (Below.refl _ wr).alloc (Nat.le_refl _) _)
            have HBw := hide (hBw.trans (HBn.out.mono hBw.size))
            have HBk := hide (HB.out.trans (HBn.out.mono HB.out.size))
            have HE := HBw
            have HF := HBk
            have HV := hide hgq
            clear hgq hio hBw
            by_cases hq : io = true ∧ x.2.k ≠ 1 ∧ gn = 0
            · obtain ⟨rfl, q1, rfl⟩ := hq
              have hgood : goodQ p.L x = true := by rw [HV.out]; simp [q1]
              have HN2 : Hid (∀ (i : Nat) (y : Int × Pkt), i < k + 1 → p.q[i]? = some y → goodQ p.L y = true) := fun i y hi hy => by
                by_cases e : i = k
                · subst e; rw [HXK.out] at hy; cases hy; exact hgood
                · exact HN.out i y (by omega) hy
              have hk1 : (x.2.k == 1) = false := by simpa using q1
              clear hgood HN HV HGq HG HQ HP HXK HA
              go_upto_region 14 with (first
                | (go_at_call 23; refine (HON.out _ (by exact HBn.out)).mono ?_; rintro e w6 ⟨rfl, rfl⟩)
                | (go_at_call 21; refine (HGP.out _ (by exact HBn.out)).mono ?_; rintro e w7 ⟨rfl, hb7⟩; have HE := hide (HBw.out.trans (hb7.mono HBw.out.size)); have HF := hide (HBk.out.trans (hb7.mono HBk.out.size))))
              clear HE HBw HBk HBn HGP HON
              go_wp2
              go_roundw
              case rel => (repeat apply Exists.intro); exact ⟨⟨k + 1, by omega, by go_num, HF, HN2⟩, rfl⟩
              case measure => simp [intOf]; omega
            · have e : G = false := HGq.out (by
                rw [HV.out, Bool.eq_false_iff]
                intro h
                simp only [Bool.and_eq_true, decide_eq_true_eq] at h
                exact hq ⟨h.1.1, h.1.2, h.2⟩)
              subst e
              have hcs : io = false ∨ (io = true ∧ (x.2.k == 1) = true) ∨ (io = true ∧ (x.2.k == 1) = false ∧ (gn != 0) = true) := by
                cases io
                · exact .inl rfl
                · by_cases q1 : x.2.k = 1
                  · exact .inr (.inl ⟨rfl, by simpa using q1⟩)
                  · exact .inr (.inr ⟨rfl, by simpa using q1, by simp; intro q2; exact hq ⟨rfl, q1, q2⟩⟩)
              clear hq HV HGq HG HQ HP HXK HA HN
              rcases hcs with rfl | ⟨rfl, q1⟩ | ⟨rfl, q1, q2⟩
              all_goals
                go_wp2_with (first
                  | (go_at_call 23; refine (HON.out _ (by exact HBn.out)).mono ?_; rintro e w6 ⟨rfl, rfl⟩)
                  | (go_at_call 21; refine (HGP.out _ (by exact HBn.out)).mono ?_; rintro e w7 ⟨rfl, hb7⟩; have HE := hide (HBw.out.trans (hb7.mono HBw.out.size)); have HF := hide (HBk.out.trans (hb7.mono HBk.out.size))))
                go_ret
                exact ⟨rfl, HE.out⟩
          · obtain rfl : k = p.q.length := by omega
            have e : G = true := HG.out.all HONE.out HA.out (fun i x hx => HN.out i x (List.getElem?_eq_some_iff.1 hx).1 hx)
            subst e
            have HBz := hide (HY.out.2.trans (HB.out.mono HY.out.2.size))
            clear HG HQ HP HY HA HN HB HONE
            go_wp2
            go_ret
            exact ⟨rfl, HBz.out⟩
  · have e := HG.out.one (by
      rw [Bool.eq_false_iff]
      intro h
      simp only [Bool.and_eq_true, decide_eq_true_eq] at h
      exact h1 ⟨h.1.1.1.1.1, h.1.1.1.1.2, h.1.1.1.2, ⟨h.1.1.2, h.1.2⟩, h.2⟩)
    subst e
    have HST := hide (fun wx hb => pset_rep p.set v.set P wx (HP.out.set.over hb))
    generalize goodS p.s = gs at *
    generalize setB (-1) p.set = gt at *
    have hcs : gs = false ∨ (gs = true ∧ ¬ 0 ≤ p.h) ∨ (gs = true ∧ 0 ≤ p.h ∧ ¬ p.h ≤ 1099511627775) ∨ (gs = true ∧ 0 ≤ p.h ∧ p.h ≤ 1099511627775 ∧ isT p.t = false) ∨ (gs = true ∧ 0 ≤ p.h ∧ p.h ≤ 1099511627775 ∧ isT p.t = true ∧ gt = false) := by
      rw [hTI.out]
      cases gs
      · exact .inl rfl
      · by_cases q2 : 0 ≤ p.h <;> by_cases q3 : p.h ≤ 1099511627775 <;> by_cases q4 : 0 ≤ p.t <;> by_cases q5 : p.t ≤ 1099511627776 <;> cases gt <;> simp_all
    clear h1 HG hTI
    rcases hcs with rfl | ⟨rfl, h2⟩ | ⟨rfl, h2, h3⟩ | ⟨rfl, h2, h3, h4⟩ | ⟨rfl, h2, h3, h4, rfl⟩
    all_goals
      go_wp2_with (first
        | (go_at_call 33; refine (HGS.out _ HX.out.2).mono ?_; rintro e w2 ⟨rfl, hb2⟩; have HY := hide (show _ ∧ _ from ⟨HX.out.1.over hb2, HX.out.2.trans (hb2.mono HX.out.2.size)⟩); clear a0 a1 a2 a3 a4 a5 a6 hb2; obtain ⟨⟨a0, a1, a2, a3, a4, a5⟩, a6⟩ := pr_facts HY.out.1; have HE := hide HY.out.2)
        | (go_at_call 27; refine (ptime_any _ _).mono ?_; rintro e w' ⟨rfl, rfl⟩)
        | (go_at_call 34; refine (HST.out _ HY.out.2).mono ?_; rintro e w3 ⟨rfl, hb3⟩; have HE := hide (HY.out.2.trans (hb3.mono HY.out.2.size))))
      go_ret
      exact ⟨rfl, HE.out⟩
end Go.Proofs.YtjghbciepinofaaGreat.Pv

set_option maxRecDepth 100000
namespace Go.Proofs.YtjghbciepinofaaGreat.Pv
open Go.RowKit
theorem good_len {s : St} (hg : goodS s = true) : s.W.length * 64 ≤ 140737488351232 := by
  have := ((goodS_iff _).1 hg).2.2.2.1
  omega
/-- a provider is loaded, stored; a stake is stored -/
def loadP (v : Value) : Sem Value := Instr.loadAt 47 v
theorem loadP_eq (v : Value) : Instr.loadAt 47 v = loadP v := rfl
def storeP (a v : Value) : Sem Unit := Instr.storeAt 47 a v
theorem storeP_eq (a v : Value) : Instr.storeAt 47 a v = storeP a v := rfl
def storeS (a v : Value) : Sem Unit := Instr.storeAt 32 a v
theorem storeS_eq (a v : Value) : Instr.storeAt 32 a v = storeS a v := rfl
theorem pr_loadP {w : World} {g : Nat} {cs : Array Value} (h : CAt 47 w g cs) (hs : cs.size = 97) : (loadP (.pointer (some ⟨g, 0, none⟩))).run Tryz.prog w = .ok (.agg cs) w := by
  have := run_loadAt_mid (P := Tryz.prog) w g 0 47 cs.toList _ h.range Tryz.underlying47 rfl (by rw [infoPv]; simp [hs])
  change (Instr.loadAt 47 _).run Tryz.prog w = _
  simpa using this
theorem pr_storeP {w : World} {g : Nat} {zs cs : Array Value} (h : CAt 47 w g zs) (hz : zs.size = 97) (hs : cs.size = 97) (h1 : cs.all (·.oneCell') = true) : (storeP (.pointer (some ⟨g, 0, none⟩)) (.agg cs)).run Tryz.prog w = .ok () (w.setCells g 0 cs.toList) :=
  run_storeAt_mid (P := Tryz.prog) w g 0 47 cs (h.there 0 _ (by rw [hz, hs]; omega)) (by rw [infoPv, hs]) h1
theorem pr_storeS {w : World} {g : Nat} {cs ds : Array Value} (h : CAt 47 w g cs) (hc : cs.size = 97) (hs : ds.size = 63) (h1 : ds.all (·.oneCell') = true) : (storeS (.pointer (some ⟨g, 2, none⟩)) (.agg ds)).run Tryz.prog w = .ok () (w.setCells g 2 ds.toList) :=
  run_storeAt_mid (P := Tryz.prog) w g 2 32 ds (h.there 2 _ (by rw [hc, hs]; omega)) (by rw [infoS, hs]) h1
theorem st_storeS {w : World} {g : Nat} {cs ds : Array Value} (h : CAt 32 w g cs) (hc : cs.size = 63) (hs : ds.size = 63) (h1 : ds.all (·.oneCell') = true) : (storeS (.pointer (some ⟨g, 0, none⟩)) (.agg ds)).run Tryz.prog w = .ok () (w.setCells g 0 ds.toList) :=
  run_storeAt_mid (P := Tryz.prog) w g 0 32 ds (h.there 0 _ (by rw [hc, hs]; omega)) (by rw [infoS, hs]) h1
theorem st_loadS {w : World} {g : Nat} {cs : Array Value} (h : CAt 32 w g cs) (hc : cs.size = 63) : (loadS (.pointer (some ⟨g, 0, none⟩))).run Tryz.prog w = .ok (.agg cs) w := SAt.loadS h hc
/-- a stake stored into a provider -/
theorem CAt.stake {w : World} {g : Nat} {p : Pr} {v : PrV} (h : CAt 47 w g (prC p v)) (s : St) (u : Value) : CAt 47 (w.setCells g 2 (stC s u).toList) g (prC { p with s := s } { v with ws := u }) := by
  have := CAt.sets (stC s u).toList 2 w _ h
  rwa [show spl (prC p v) 2 (stC s u).toList = prC { p with s := s } { v with ws := u } from spl_mid [.int .i64 p.h, .int .i64 p.t] (stC p.s v.ws).toList _ (stC s u).toList rfl] at this
/-- a validator's cells in a provider -/
theorem pr_val {w : World} {g : Nat} {p : Pr} {v : PrV} (h : CAt 47 w g (prC p v)) {y : Nat} (hy : y < 6) : w.cell? ⟨g, 9 + y * 5, none⟩ = some (.int .i64 (p.s.V y).tok) ∧ w.cell? ⟨g, 9 + y * 5 + 3, none⟩ = some (.bool (p.s.V y).jail) ∧ w.cell? ⟨g, 9 + y * 5 + 4, none⟩ = some (.bool (p.s.V y).dead) := by
  rcases (show y = 0 ∨ y = 1 ∨ y = 2 ∨ y = 3 ∨ y = 4 ∨ y = 5 by omega) with rfl | rfl | rfl | rfl | rfl | rfl <;> exact ⟨h.cell _, h.cell _, h.cell _⟩
theorem Alt.pin {g : Nat} {w w' : World} (h : Alt g w w') {P : Nat → Prop} (hP : ¬ P g) {p : Pr} {v : PrV} (hp : PIn P w p v) : PIn P w' p v := hp.keep fun b hb hlt => h.block b hlt (fun e => hP (e ▸ hb))
/-- what a provider's function answers -/
def AnsP (P : Nat → Prop) (w : World) (r : Pr × Int) (e : Ending) (w' : World) : Prop := ∃ v', e = .returned (.tuple #[.agg (prC r.1 v'), .int .i64 r.2]) ∧ PIn (New P w 2) w' r.1 v' ∧ Below w.heap.size w w'
theorem results_prov2 {fn : Func} {p q : Tmp} (h : fn.results = #[.cell p 47, .tmp q]) (tmps : Array Value) (w : World) (g : Nat) (cs : Array Value) (v : Value)
    (hp : tmps.getD p undef = .pointer (some ⟨g, 0, none⟩)) (hq : tmps.getD q undef = v) (hg : CAt 47 w g cs) (hsz : cs.size = 97) :
    (results fn tmps).run Tryz.prog w = .ok (.tuple #[.agg cs, v]) w := by
  have hp' : tmps[p]?.getD undef = .pointer (some ⟨g, 0, none⟩) := by simpa using hp
  have hq' : tmps[q]?.getD undef = v := by simpa using hq
  simp [results, h, hp', hq', asAddr, run_loadVar_row w g 47 47 cs (0, 0) _ hg Tryz.underlying47 rfl (by rw [infoPv, hsz])]
theorem PIn.sets {P : Nat → Prop} {w : World} {p : Pr} {v : PrV} (h : PIn P w p v) {g : Nat} (hg : ¬ P g) (o : Nat) (vs : List Value) : PIn P (w.setCells g o vs) p v := h.keep fun b hb _ => heap_sets (show b ≠ g from fun e => hg (by rw [← e]; exact hb)) vs o w
theorem PIn.ofNew {P : Nat → Prop} {w w' : World} {p : Pr} {v : PrV} (h : PIn P w p v) (hb : Below w.heap.size w w') (k : Nat) : PIn (New P w k) w' p v := (h.mono (P' := fun b => New P w k b ∧ b < w.heap.size) fun _ hl hp => ⟨.inl ⟨hp, hl⟩, hl⟩).over hb |>.mono fun _ _ h => h.1
/-- a provider and an error are answered: stored into the result's block ahead -/
theorem prov_end2 {f : Func} {t q : Tmp} (hres : f.results = #[.cell t 47, .tmp q]) {P : Nat → Prop} {w wq : World} {zs : Array Value} (R : CAt 47 wq (w.heap.size + 1) zs) (hz : zs.size = 97) (H : Below w.heap.size w wq) (p' : Pr) (v' : PrV) (er : Int) (r : Pr × Int) (hr : r = (p', er)) (hp : PIn (New P w 2) wq p' v') (act : Act)
    (h8 : act.tmps.getD t undef = .pointer (some ⟨w.heap.size + 1, 0, none⟩)) (h9 : act.tmps.getD q undef = .int .i64 er) (hd : act.defers = []) :
    bodyPost Tryz.prog f (AnsP P w r) Exit.ret act (wq.setCells (w.heap.size + 1) 0 (prC p' v').toList) := by
  subst hr
  have R3 := R.setAll (ds := prC p' v') (by rw [hz]; rfl)
  exact bodyPost_ret (v := .tuple #[.agg (prC p' v'), .int .i64 er]) (results_prov2 hres _ _ _ _ _ h8 h9 R3 rfl) hd ⟨v', rfl, hp.sets (new_no (by omega)) _ _, below_sets (Nat.le_succ _) _ _ _ H⟩
end Go.Proofs.YtjghbciepinofaaGreat.Pv

set_option maxRecDepth 100000
namespace Go.Proofs.YtjghbciepinofaaGreat.Pv
open Go.RowKit
theorem pwL_eq : ∀ l : List (Int × Int), pwL l = pwC l
  | [] => rfl
  | x :: r => by show _ :: _ :: pwL r = _; rw [pwL_eq r]; rfl
theorem Rep.pows {w : World} {B : Nat} {v : Value} {l : List (Int × Int)} (h : Pows w B v l) (hl : l.length ≤ 8796093021952) : Rep (fun b => B ≤ b) w v 2 16 (pwC l) := by
  have h' : w.ownsRow B 74 2 v l.length (pwL l) := h
  rw [pwL_eq] at h'
  exact Rep.own h' (by omega)
theorem Rep.prow {w : World} {B : Nat} {v : Value} {l : List (Int × Int)} (h : PRow w B v l) (hl : l.length ≤ 8796093021952) : Rep (fun b => B ≤ b) w v 2 16 (pwC l) := by
  rcases h with ⟨rfl, rfl⟩ | ⟨g, cap, rfl, hB, ⟨cur, h1, h2⟩, h3, h4⟩
  · exact Rep.nil _ _ _ _
  · refine ⟨_, l.length, cap, rfl, pwC_length l, by omega, ⟨fun h => (by cases h), h3⟩, fun _ => ⟨g, 0, rfl, hB, (Array.getElem?_eq_some_iff.1 h1).1, fun j u hu => ?_⟩⟩
    have hj : j < l.length * 2 := by have := (List.getElem?_eq_some_iff.1 hu).1; rwa [pwC_length] at this
    have hi : j / 2 < l.length := by omega
    obtain ⟨a1, a2⟩ := pwC_get l (j / 2) hi
    have ex : l[j / 2]? = some (l.getD (j / 2) (0, 0)) := by simp [List.getD, hi]
    obtain ⟨b1, b2⟩ := h2 (j / 2) _ ex
    rw [Nat.zero_add]
    simp only [World.cell?, h1]
    rcases (show j = j / 2 * 2 ∨ j = j / 2 * 2 + 1 by omega) with e | e
    · rw [← e] at a1 b1; rw [a1] at hu; cases hu; simpa using b1
    · rw [← e] at a2 b2; rw [a2] at hu; cases hu; simpa using b2
/-- a list of powers, as Diff, Apply and All want it -/
theorem Rep.pin {P : Nat → Prop} {w : World} {v : Value} {l : List (Int × Int)} (h : Rep P w v 2 16 (pwC l)) : ∃ ao c b off, v = .slice ao l.length c ∧ Df.PIn w l ao b off := by
  obtain ⟨A, C, e, hs, -, hc, -⟩ := h.open (pwC_length _) (by decide)
  rcases Nat.eq_zero_or_pos l.length with h0 | h0
  · exact ⟨A, C, 0, 0, e, by omega, fun h => by omega, fun i hi => by omega⟩
  · obtain ⟨b, off, e2, -, -, hcell⟩ := hc h0
    exact ⟨A, C, b, off, e, by omega, fun _ => e2, fun i hi => ⟨by rw [hcell _ _ (pwC_get l i hi).1], by rw [Nat.add_assoc, hcell _ _ (pwC_get l i hi).2]⟩⟩
theorem OwnW.rep {B : Nat} {w : World} {A : Option Addr} {C : Nat} {W : List Wt} (h : OwnW B w A C W) (hl : W.length * 64 ≤ 140737488351232) : Rep (fun b => B ≤ b) w (.slice A W.length C) 8 64 (wsL W) := Rep.own h hl
theorem OwnN.rep {B : Nat} {w : World} {A : Option Addr} {C : Nat} {l : List Int} (h : OwnN B w A C l) (hl : l.length * 8 ≤ 140737488351232) : Rep (fun b => B ≤ b) w (.slice A l.length C) 1 8 (inC l) := Rep.own h hl
section
variable {P : Nat → Prop} {w : World} {s : St} {u : Value} (hu : Rep P w u 8 64 (wsL s.W))
include hu
theorem st_jail (v : Int) : Calls Tryz.prog 148 #[.agg (stC s u), .int .i64 v] w fun e w' => e = .returned (.tuple #[.agg (stC (jailS s v).1 u), .int .i64 (jailS s v).2]) ∧ Below w.heap.size w w' := by
  obtain ⟨A, C, b, o, rfl, W, -, -⟩ := hu.wsAt
  exact sjail_any s A b o C v w W
theorem st_bury (v : Int) : Calls Tryz.prog 151 #[.agg (stC s u), .int .i64 v] w fun e w' => e = .returned (.tuple #[.agg (stC (buryS s v).1 u), .int .i64 (buryS s v).2]) ∧ Below w.heap.size w w' := by
  obtain ⟨A, C, b, o, rfl, W, -, -⟩ := hu.wsAt
  exact sbury_any s A b o C v w W
theorem st_slash (v : Nat) (h : Int) (hg : goodS s = true) (hv : v < 6) : Calls Tryz.prog 150 #[.agg (stC s u), .int .i64 (v : Int), .int .i64 h, .int .i64 50] w fun e w' => ∃ u' x, e = .returned (.tuple #[.agg (stC (slashS s v h 50) u'), x, .int .i64 0]) ∧ Rep (fun b => w.heap.size ≤ b) w' u' 8 64 (wsL (slashS s v h 50).W) ∧ Below w.heap.size w w' := by
  obtain ⟨A, C, b, o, rfl, W, -, -⟩ := hu.wsAt
  refine (sslash_yes s A b o C v h 50 w W hg hv (by decide)).mono ?_
  rintro e w' ⟨A', C', rfl, h1, hb⟩
  exact ⟨_, _, rfl, OwnW.rep h1 (good_len (kp_slash hg (v := v) hv h (f := 50) (by decide)).good), hb⟩
theorem st_pay (t : Int) (hg : goodS s = true) : Calls Tryz.prog 31 #[.agg (stC s u), .int .i64 t] w fun e w' => ∃ u' x, e = .returned (.tuple #[.agg (stC (payS s t) u'), x, .int .i64 0]) ∧ Rep (fun b => w.heap.size ≤ b) w' u' 8 64 (wsL (payS s t).W) ∧ Rep (fun b => w.heap.size ≤ b) w' x 1 8 (inC (paidW t s.W)) ∧ Below w.heap.size w w' := by
  obtain ⟨A, C, b, o, rfl, W, -, -⟩ := hu.wsAt
  refine (spay_yes s A b o C t w W hg).mono ?_
  rintro e w' ⟨A', C', A2, C2, rfl, h1, h2, hb⟩
  have h60 := ((goodS_iff _).1 hg).2.2.2.1
  have hpl : (paidW t s.W).length ≤ s.W.length := by
    unfold paidW paidL
    rw [List.length_map]
    exact List.length_filter_le _ _
  exact ⟨_, _, rfl, OwnW.rep h1 (good_len (kp_pay hg t).good), OwnN.rep h2 (by omega), hb⟩
theorem st_rel (c : Nat) (h : Int) (hc : c < 2) : Calls Tryz.prog 110 #[.agg (stC s u), .int .i64 (c : Int), .int .i64 h] w fun e w' => ∃ u', e = .returned (.agg (stC { s with W := relW c h s.W } u')) ∧ Rep (fun b => w.heap.size ≤ b) w' u' 8 64 (wsL (relW c h s.W)) ∧ Below w.heap.size w w' := by
  obtain ⟨A, C, b, o, rfl, W, -, -⟩ := hu.wsAt
  have hl : (relW c h s.W).length = s.W.length := List.length_map _
  match c, hc with
  | 0, _ =>
    refine (srelease_0 s A b o C h w W W.len).mono ?_
    rintro e w' ⟨A', C', rfl, h1, hb⟩
    have := OwnW.rep h1 (by rw [hl]; exact W.len)
    rw [hl] at this
    exact ⟨_, rfl, this, hb⟩
  | 1, _ =>
    refine (srelease_1 s A b o C h w W W.len).mono ?_
    rintro e w' ⟨A', C', rfl, h1, hb⟩
    have := OwnW.rep h1 (by rw [hl]; exact W.len)
    rw [hl] at this
    exact ⟨_, rfl, this, hb⟩
end
theorem setS_len (V : Nat → Vd) : (setS V).length ≤ 4 := by
  unfold setS
  rw [isort_length, List.length_take]
  omega
theorem st_set (s : St) (u : Value) (w : World) (hg : goodS s = true) : Calls Tryz.prog 13 #[.agg (stC s u)] w fun e w' => ∃ v, e = .returned v ∧ Rep (fun b => w.heap.size ≤ b) w' v 2 16 (pwC (setS s.V)) ∧ Below w.heap.size w w' := by
  refine (sset_any s u w fun k hk => (vOk_amounts (good_vals hg k hk).1).1).mono ?_
  rintro e w' ⟨v, rfl, h1, hb⟩
  exact ⟨v, rfl, Rep.prow h1 (by have := setS_len s.V; omega), hb⟩
theorem st_all {P : Nat → Prop} {w : World} {v : Value} {l : List (Int × Int)} (h : Rep P w v 2 16 (pwC l)) : Calls Tryz.prog 29 #[v] w fun e w' => e = .returned (.int .i64 (Df.allN l)) ∧ Below w.heap.size w w' := by
  obtain ⟨ao, c, b, off, rfl, hp⟩ := h.pin
  exact Df.all_any l ao c b off w hp
theorem st_diff {P Q : Nat → Prop} {w : World} {v v' : Value} {l l' : List (Int × Int)} (h : Rep P w v 2 16 (pwC l)) (h' : Rep Q w v' 2 16 (pwC l')) : Calls Tryz.prog 71 #[v, v'] w fun e w' => ∃ u, e = .returned u ∧ Rep (fun b => w.heap.size ≤ b) w' u 2 16 (pwC (Df.diffL l l')) ∧ Below w.heap.size w w' := by
  obtain ⟨ao, c, b, off, rfl, hp⟩ := h.pin
  obtain ⟨ao', c', b', off', rfl, hp'⟩ := h'.pin
  refine (Df.diff_any l l' ao ao' c c' b off b' off' w hp hp').mono ?_
  rintro e w' ⟨u, rfl, h1, hb⟩
  exact ⟨u, rfl, Rep.pows h1 (Nat.le_trans (Df.those_len _ _ 6) (by decide)), hb⟩
end Go.Proofs.YtjghbciepinofaaGreat.Pv

set_option maxRecDepth 100000
namespace Go.Proofs.YtjghbciepinofaaGreat.Pv
open Go.RowKit
theorem Rep.one' {P : Nat → Prop} {w : World} {v : Value} {sz bts : Nat} {cs : List Value} (h : Rep P w v sz bts cs) : ∃ A n C, v = .slice A n C := by
  obtain ⟨A, n, C, e, _⟩ := h
  exact ⟨A, n, C, e⟩
theorem st_one {v : Value} (s : St) (h : ∃ A n C, v = .slice A n C) : (stC s v).all (·.oneCell') = true := by
  obtain ⟨A, n, C, rfl⟩ := h
  exact stC_one _ _ _ _
attribute [local go_sem ↓] loadS_eq loadP_eq storeP_eq storeS_eq
set_option maxHeartbeats 8000000 in
theorem pdeleg_any (p : Pr) (v : PrV) (P : Nat → Prop) (w : World) (d x n : Int) (hp : PIn P w p v) :
    Calls Tryz.prog 25 #[.agg (prC p v), .int .i64 d, .int .i64 x, .int .i64 n] w (AnsP P w (delegP p d x n)) := by
  have hD : delegP p d x n = if goodP p = true then ({ p with s := (delegS p.s d x n).1 }, (delegS p.s d x n).2) else (p, 2) := rfl
  generalize delegP p d x n = D at *
  have HD := hide hD
  clear hD
  have hone := pr_one hp
  have HGD := hide (fun (wx : World) (hb : Below w.heap.size w wx) => pgood_any p v P wx (hp.over hb))
  have HN := hide (fun (wx : World) (hb : Below w.heap.size w wx) => hp.ofNew hb 2)
  have HP := hide hp
  clear hp
  generalize goodP p = G at *
  go_enter Tryz.func25, Tryz.ntmps25
  go_upto_region 1 with fail
  change Code.wp Tryz.prog _ _ _ ((w.alloc (.cells (prC p v) 47)).alloc (.cells Tryz.zeroCells47 47))
  have C0 : CAt 47 ((w.alloc (.cells (prC p v) 47)).alloc (.cells Tryz.zeroCells47 47)) w.heap.size (prC p v) := (CAt.new _ w _).alloc _
  have R0 : CAt 47 ((w.alloc (.cells (prC p v) 47)).alloc (.cells Tryz.zeroCells47 47)) (w.heap.size + 1) Tryz.zeroCells47 := CAt.new2 _ w _ _
  have B0 : Below w.heap.size w ((w.alloc (.cells (prC p v) 47)).alloc (.cells Tryz.zeroCells47 47)) := ((Below.refl _ w).alloc (Nat.le_refl _) _).alloc (by simp) _
  generalize (w.alloc (.cells (prC p v) 47)).alloc (.cells Tryz.zeroCells47 47) = w0 at *
  have l0 := pr_loadP C0 (prC_size _ _)
  have H0 := hide (show _ ∧ _ ∧ _ from ⟨C0, R0, B0⟩)
  clear C0 R0 B0
  cases G
  · have HR := hide (HD.out.trans (if_neg (by simp)))
    clear HD
    go_upto_region 2 with (go_at_call 10; refine (HGD.out _ H0.out.2.2).mono ?_; rintro e w1 ⟨rfl, hb1⟩; clear l0)
    have R1 := H0.out.2.1.over hb1
    have l1 := pr_loadP (H0.out.1.over hb1) (prC_size _ _)
    have s1 := pr_storeP R1 Z97_size (prC_size p v) hone
    have B1 := H0.out.2.2.trans (hb1.mono H0.out.2.2.size)
    have HZ := hide (show _ ∧ _ from ⟨R1, B1⟩)
    clear R1 B1 hb1 hone
    go_wp2
    exact prov_end2 Tryz.results25 HZ.out.1 Z97_size HZ.out.2 p v 2 D HR.out (HN.out _ HZ.out.2) _ rfl rfl rfl
  · have HR := hide (HD.out.trans (if_pos rfl))
    clear HD
    obtain ⟨Aw, Cw, bw, ow, ews, Ws, -, -⟩ := HP.out.ws.wsAt
    have hdl := fun (wx : World) (hb : Below w.heap.size w wx) => deleg_any p.s Aw bw ow Cw d x n wx (Ws.over hb)
    rw [← ews] at hdl
    have HDL := hide hdl
    have hsl : ∃ A n C, v.ws = .slice A n C := HP.out.ws.one'
    clear hdl ews Ws
    go_upto_region 3 with (go_at_call 10; refine (HGD.out _ H0.out.2.2).mono ?_; rintro e w1 ⟨rfl, hb1⟩; clear l0)
    have C1 := H0.out.1.over hb1
    have R1 := H0.out.2.1.over hb1
    have B1 := H0.out.2.2.trans (hb1.mono H0.out.2.2.size)
    have m1 := pr_loadS C1
    have H1 := hide (show _ ∧ _ ∧ _ from ⟨C1, R1, B1⟩)
    clear C1 R1 B1 hb1 H0
    have hW : (delegS p.s d x n).1.W = p.s.W := by
      unfold delegS
      repeat' split
      all_goals rfl
    have HW := hide hW
    have HSM : Hid ((delegS p.s d x n).2 ≠ 0 → (delegS p.s d x n).1 = p.s) := fun h => by
      unfold delegS at h ⊢
      repeat' split
      all_goals first | rfl | (simp_all; done)
    clear hW
    generalize delegS p.s d x n = r at *
    obtain ⟨s', er⟩ := r
    dsimp only at HR HDL HW HSM
    have one2 := st_one s' hsl
    go_upto_region 4 with (go_at_call 64; refine (HDL.out _ H1.out.2.2).mono ?_; rintro e w2 ⟨rfl, hb2⟩; clear m1; have sS2 := st_storeS (CAt.new 32 w2 Z63) rfl (stC_size s' v.ws) one2; unfold Z63 at sS2)
    change Code.wp Tryz.prog _ _ _ ((w2.alloc (.cells Z63 32)).setCells w2.heap.size 0 (stC s' v.ws).toList)
    have hb3 : Below w2.heap.size w2 ((w2.alloc (.cells Z63 32)).setCells w2.heap.size 0 (stC s' v.ws).toList) := below_sets (Nat.le_refl _) _ _ _ ((Below.refl _ w2).alloc (Nat.le_refl _) _)
    have T3 : CAt 32 ((w2.alloc (.cells Z63 32)).setCells w2.heap.size 0 (stC s' v.ws).toList) w2.heap.size (stC s' v.ws) := (CAt.new 32 w2 Z63).setAll rfl
    have C3 := (H1.out.1.over hb2).over hb3
    have R3 := (H1.out.2.1.over hb2).over hb3
    have B3 := (H1.out.2.2.trans (hb2.mono H1.out.2.2.size)).trans (hb3.mono (Nat.le_trans H1.out.2.2.size hb2.size))
    have hne : w.heap.size < w2.heap.size := (H1.out.1.over hb2).lt
    clear sS2 hb2 hb3 HDL
    generalize (w2.alloc (.cells Z63 32)).setCells w2.heap.size 0 (stC s' v.ws).toList = w3 at *
    by_cases he : er = 0
    · subst he
      have mS := st_loadS T3 (stC_size _ _)
      have sS := pr_storeS C3 (prC_size _ _) (stC_size s' v.ws) one2
      have C4 := C3.stake s' v.ws
      have R4 := R3.others (c := w.heap.size) (o := 2) (by omega) (stC s' v.ws).toList
      have B4 := below_sets (b := w.heap.size) (Nat.le_refl _) (stC s' v.ws).toList 2 _ B3
      have N4 : PIn (New P w 2) (w3.setCells w.heap.size 2 (stC s' v.ws).toList) { p with s := s' } { v with ws := v.ws } := by
        have := (HN.out _ B3).sets (g := w.heap.size) (new_no (j := 0) (by omega)) 2 (stC s' v.ws).toList
        exact ⟨by rw [show (wsL s'.W) = wsL p.s.W by rw [HW.out]]; exact this.ws, this.set, this.lk, this.q⟩
      have l4 := pr_loadP C4 (prC_size _ _)
      have s4 := pr_storeP R4 Z97_size (prC_size { p with s := s' } { v with ws := v.ws }) (pr_one N4)
      have HZ := hide (show _ ∧ _ ∧ _ from ⟨R4, B4, N4⟩)
      clear C3 R3 B3 C4 R4 B4 N4 T3 hone
      go_upto_region 7 with fail
      generalize w3.setCells w.heap.size 2 (stC s' v.ws).toList = w4 at *
      clear mS sS
      go_wp2
      exact prov_end2 Tryz.results25 HZ.out.1 Z97_size HZ.out.2.1 _ _ 0 D HR.out HZ.out.2.2 _ rfl rfl rfl
    · have l3 := pr_loadP C3 (prC_size _ _)
      have s3 := pr_storeP R3 Z97_size (prC_size p v) hone
      have heb : (er != 0) = true := by simpa using he
      have HZ := hide (show _ ∧ _ from ⟨R3, B3⟩)
      have hsame : s' = p.s := HSM.out he
      subst hsame
      clear C3 R3 B3 T3 hone
      go_wp2
      exact prov_end2 Tryz.results25 HZ.out.1 Z97_size HZ.out.2 p v er D HR.out (HN.out _ HZ.out.2) _ rfl rfl rfl
end Go.Proofs.YtjghbciepinofaaGreat.Pv

