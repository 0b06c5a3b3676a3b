/- Parts of the proof: KRG. -/
import Derived.Test.YtdkalcnlncjgiaaRows
import Derived.Test.YtdkalcnlncjgiaaBK4
import Derived.Test.YtdkalcnlncjgiaaBK52
set_option maxRecDepth 100000
namespace Go.Proofs.Ytdkalcnlncjgiaa.Kc
open Go.RowKit Pv
set_option maxHeartbeats 8000000 in
theorem rgoodc_any (c : Cs) (v : CsV) (P : Nat → Prop) (w : World) (hp : CIn P w c v) :
    Calls Try.prog 23 #[.agg (csC c v)] w fun e w' => e = .returned (.bool (goodC c)) ∧ Below w.heap.size w w' := by
  have HG := hide (goodC_eq c)
  generalize goodC c = G at *
  have HN : Hid (goodN1 c = (!(c.on && c.gone) && decide (0 ≤ c.h) && decide (c.h < 1099511627776) && isT c.t && isT c.id)) := rfl
  generalize goodN1 c = N1 at *
  have HLN := hide (fun (wx : World) (hb : Below w.heap.size w wx) => rlgood_rep c.out v.said v.due P wx (hp.said.over hb) (hp.due.over hb))
  have HST := hide (fun (wx : World) (hb : Below w.heap.size w wx) => isset_rep c.set v.set P wx (hp.set.over hb))
  obtain ⟨z, hzl, hzr, hzi⟩ := id hp.pd
  obtain ⟨Aq, Cq, eq, sq, -, cq, -⟩ := hzr.open (pdL_length _ _ hzl) (by decide)
  obtain ⟨Ar, Cr, er, sr, -, cr, -⟩ := hp.rp.open (pwC_length _) (by decide)
  have HZ := hide (show _ ∧ _ ∧ _ from ⟨hzl, hzi, cq⟩)
  have HCR := hide cr
  have hq63 : c.pd.length ≤ 3600000000000 := by omega
  have hr63 : c.rp.length ≤ 18000000000000 := by omega
  have HVP := hide (show _ ∧ _ from ⟨eq, er⟩)
  clear hp hzl hzr hzi cq cr sq sr eq er
  obtain ⟨cs, hcs⟩ : ∃ cs, csC c v = cs := ⟨_, rfl⟩
  rw [hcs]
  have HCS := hide hcs
  clear hcs
  go_enter Try.func23, Try.ntmps23
  go_upto_region 1 with fail
  have C1 : CAt 33 (w.alloc (.cells cs 33)) w.heap.size (csC c v) := by rw [HCS.out]; exact CAt.new _ w cs
  have B1 : Below w.heap.size w (w.alloc (.cells cs 33)) := (Below.refl _ w).alloc (Nat.le_refl _) _
  generalize w.alloc (.cells cs 33) = w1 at *
  have a6 := (cs_facts C1).2.1.2.1
  rw [HVP.out.1] at a6
  have HX := hide (show _ ∧ _ from ⟨C1, B1⟩)
  clear C1 B1 HCS
  generalize setB (-1) c.set = gs at *
  generalize Ln.goodL c.out = gl at *
  obtain ⟨gp, hgp⟩ : ∃ gp, c.pd.all goodK = gp := ⟨_, rfl⟩
  obtain ⟨gr, hgr⟩ : ∃ gr, c.rp.all goodR = gr := ⟨_, rfl⟩
  rw [hgp, hgr] at HG
  have HGP := hide hgp
  have HGR := hide hgr
  clear hgp hgr
  go_upto_region 2 with fail
  clear a6
  go_loopw [10] (fun i wl => ∃ (k : Nat), k ≤ c.pd.length ∧ i = .int .i64 (k : Int) ∧ Hid (gp = (c.pd.drop k).all goodK) ∧ Hid (Below w1.heap.size w1 wl)) (fun i _ => c.pd.length - (intOf i).toNat)
  case atStart => exact ⟨0, Nat.zero_le _, rfl, HGP.out.symm, Below.refl _ _⟩
  case round =>
    obtain ⟨k, hk, rfl, HR, HB⟩ := hrel
    by_cases hlt : k < c.pd.length
    · have hkI : (k : Int) < (c.pd.length : Int) := by omega
      obtain ⟨x, hx, hd⟩ := drop_at' hlt
      obtain ⟨b, off, rfl, -, hbl, hcell⟩ := HZ.out.2.2 (by omega)
      have hky : k < z.length := by rw [HZ.out.1]; exact hlt
      have hy : z[k]? = some z[k] := List.getElem?_eq_getElem hky
      obtain ⟨r1, r2⟩ := HZ.out.2.1 k x _ hx hy
      have hBw : Below w.heap.size w wr := HX.out.2.trans (HB.out.mono HX.out.2.size)
      have cl : ∀ j, j < 6 → ∀ u, (pkL x z[k])[j]? = some u → wr.cell? ⟨b, off + k * 6 + j, none⟩ = some u := fun j hj u hu => by
        rw [Nat.add_assoc]
        exact (hBw.cell (p := ⟨b, off + (k * 6 + j), none⟩) hbl).trans (hcell _ _ ((pdL_get c.pd z k x _ j hx hy hj).trans hu))
      have c0 := cl 0 (by omega) _ rfl
      have c1 := cl 1 (by omega) _ rfl
      have c2 := cl 2 (by omega) _ rfl
      have c3 := cl 3 (by omega) _ rfl
      have c4 := cl 4 (by omega) _ rfl
      have c5 := cl 5 (by omega) _ rfl
      rw [Nat.add_zero] at c0
      have HE : Hid (gp = (goodK x && (c.pd.drop (k + 1)).all goodK)) := by have := HR.out; rw [hd, List.all_cons] at this; exact this
      have HO : Hid (goodK x = (decide (x.k = 1) && decide (Cd.goodN x.k x.i x.v x.n x.S x.D = 0))) := rfl
      generalize z[k] = y at *
      obtain ⟨y1, y2⟩ := y
      dsimp only at c0 c1 c2 c3 c4 c5 r1 r2
      obtain ⟨A1, C1, A2, C2, sb, so, db, dO, rfl, rfl, hL⟩ := Rep.lies r1 r2
      have bA : Below wr.heap.size wr (wr.alloc (.cells #[.int .i64 x.k, .int .i64 x.i, .int .i64 x.v, .int .i64 x.n, .slice A1 x.S.length C1, .slice A2 x.D.length C2] 46)) := (Below.refl _ wr).alloc (Nat.le_refl _) _
      have HBA := hide (HB.out.trans (bA.mono HB.out.size))
      have HGD := hide (Cd.gp_any x.k x.i x.v x.n x.S x.D A1 A2 C1 C2 sb so db dO _ ((hL.later hBw).later bA))
      clear HR hd hx hy r1 r2 cl hcell hL hky bA hBw HB hbl
      obtain ⟨xk, xi, xv, xn, xS, xD⟩ := x
      dsimp only at *
      generalize Cd.goodN xk xi xv xn xS xD = gn at *
      by_cases h1 : xk = 1
      · subst h1
        by_cases h2 : gn = 0
        · subst h2
          have e : gp = (c.pd.drop (k + 1)).all goodK := by rw [HE.out, HO.out]; simp
          have HE2 := hide e
          clear e HE HG HZ HCR HX HN HST HLN HVP HO
          go_wp2_with (go_at_call 37; refine HGD.out.mono ?_; rintro e w2 ⟨rfl, hb2⟩; have HB2 := hide (HBA.out.trans (hb2.mono HBA.out.size)); clear hb2)
          first | exact ⟨⟨k + 1, by omega, by go_num, HE2, HB2⟩, by simp [intOf]; omega⟩ | ((repeat apply Exists.intro); exact ⟨⟨k + 1, by omega, by go_num, HE2, HB2⟩, rfl⟩)
        · have e : gp = false := by rw [HE.out, HO.out]; simp [h2]
          have e2 : G = false := by rw [HG.out, e]; simp
          subst e2
          have h2' : (gn != 0) = true := by simpa using h2
          clear HE HG HGP e
          go_wp2_with (go_at_call 37; refine HGD.out.mono ?_; rintro e w2 ⟨rfl, hb2⟩; have HB2 := hide (HBA.out.trans (hb2.mono HBA.out.size)); clear hb2)
          go_ret
          exact ⟨rfl, HX.out.2.trans (HB2.out.mono HX.out.2.size)⟩
      · have e : gp = false := by rw [HE.out, HO.out]; simp [h1]
        have e2 : G = false := by rw [HG.out, e]; simp
        subst e2
        have h1' : (xk != 1) = true := by simpa using h1
        clear HE HG HGP e
        go_wp2
        go_ret
        exact ⟨rfl, HX.out.2.trans (HBA.out.mono HX.out.2.size)⟩
    · obtain rfl : k = c.pd.length := by omega
      have e : gp = true := by have := HR.out; rw [List.drop_length] at this; exact this
      have HX2 := hide (show _ ∧ _ from ⟨HX.out.1.over HB.out, HX.out.2.trans (HB.out.mono HX.out.2.size)⟩)
      rw [e] at HG
      clear HX HB HR HZ HGP
      generalize wr = w2 at *
      have a7 := (cs_facts HX2.out.1).2.1.2.2
      rw [HVP.out.2] at a7
      go_upto_region 8 with fail
      clear a7
      go_loopw [26] (fun i wl => ∃ (k : Nat), k ≤ c.rp.length ∧ i = .int .i64 (k : Int) ∧ Hid (gr = (c.rp.drop k).all goodR) ∧ Hid (Below w2.heap.size w2 wl)) (fun i _ => c.rp.length - (intOf i).toNat)
      case atStart => exact ⟨0, Nat.zero_le _, rfl, HGR.out.symm, Below.refl _ _⟩
      case round =>
        obtain ⟨k, hk, rfl, HR, HB⟩ := hrel
        by_cases hlt : k < c.rp.length
        · have hkI : (k : Int) < (c.rp.length : Int) := by omega
          obtain ⟨x, hx, hd⟩ := drop_at' hlt
          obtain ⟨b, off, rfl, -, hbl, hcell⟩ := HCR.out (by omega)
          have gx : c.rp.getD k (0, 0) = x := by simp [List.getD, hx]
          obtain ⟨p0, p1⟩ := pwC_get c.rp k hlt
          rw [gx] at p0 p1
          have hBw : Below w.heap.size w wr := HX2.out.2.trans (HB.out.mono HX2.out.2.size)
          have c0 : wr.cell? ⟨b, off + k * 2, none⟩ = some (.int .i64 x.1) := (hBw.cell (p := ⟨b, off + k * 2, none⟩) hbl).trans (hcell _ _ p0)
          have c1 : wr.cell? ⟨b, off + k * 2 + 1, none⟩ = some (.int .i64 x.2) := (hBw.cell (p := ⟨b, off + k * 2 + 1, none⟩) hbl).trans (hcell _ _ p1)
          have HE : Hid (gr = (goodR x && (c.rp.drop (k + 1)).all goodR)) := by have := HR.out; rw [hd, List.all_cons] at this; exact this
          have HO : Hid (goodR x = (decide (1 ≤ x.1) && decide (x.1 ≤ 1099511627776) && decide (0 ≤ x.2))) := rfl
          have HBA := hide (HB.out.alloc HB.out.size (.cells #[.int .i64 x.1, .int .i64 x.2] 53))
          clear HR hd hx gx p0 p1 hcell hBw HB hbl
          obtain ⟨x1, x2⟩ := x
          dsimp only at c0 c1
          by_cases h1 : 1 ≤ x1 ∧ x1 ≤ 1099511627776 ∧ 0 ≤ x2
          · obtain ⟨h1, h2, h3⟩ := h1
            have e : gr = (c.rp.drop (k + 1)).all goodR := by rw [HE.out, HO.out]; simp [h1, h2, h3]
            have HE2 := hide e
            clear e HE HG HCR HX2 HN HST HLN HVP HO
            go_wp2
            first | exact ⟨⟨k + 1, by omega, by go_num, HE2, HBA⟩, by simp [intOf]; omega⟩ | ((repeat apply Exists.intro); exact ⟨⟨k + 1, by omega, by go_num, HE2, HBA⟩, rfl⟩)
          · have e : gr = false := by
              rw [HE.out, HO.out]
              have : (decide (1 ≤ x1) && decide (x1 ≤ 1099511627776) && decide (0 ≤ x2)) = false := by
                rw [Bool.eq_false_iff]; intro h; simp only [Bool.and_eq_true, decide_eq_true_eq] at h; exact h1 ⟨h.1.1, h.1.2, h.2⟩
              dsimp only
              rw [this, Bool.false_and]
            have e2 : G = false := by rw [HG.out, e]; simp
            subst e2
            clear HE HG HGR e
            have hcs : ¬ 1 ≤ x1 ∨ (1 ≤ x1 ∧ ¬ x1 ≤ 1099511627776) ∨ (1 ≤ x1 ∧ x1 ≤ 1099511627776 ∧ ¬ 0 ≤ x2) := by omega
            clear h1
            rcases hcs with h1 | ⟨h1, h2⟩ | ⟨h1, h2, h3⟩
            all_goals
              go_wp2
              go_ret
              exact ⟨rfl, HX2.out.2.trans (HBA.out.mono HX2.out.2.size)⟩
        · obtain rfl : k = c.rp.length := by omega
          have e : gr = true := by have := HR.out; rw [List.drop_length] at this; exact this
          have HX3 := hide (show _ ∧ _ from ⟨HX2.out.1.over HB.out, HX2.out.2.trans (HB.out.mono HX2.out.2.size)⟩)
          rw [e] at HG
          clear HX2 HB HR HCR HGR HVP
          obtain ⟨⟨a0, a1, a2, a3, a4⟩, ⟨a5, a6, a7⟩, ⟨a14, a15, a16, a17⟩⟩ := cs_facts HX3.out.1
          have HTT : Hid (∀ n, isT n = (decide (0 ≤ n) && decide (n ≤ 1099511627776))) := fun _ => rfl
          generalize c.on = con at *
          generalize c.gone = cgo at *
          generalize c.h = ch at *
          generalize c.t = ct at *
          generalize c.id = cid at *
          have hcs : (N1 = false ∧ ((con = true ∧ cgo = true) ∨ ((con = false ∨ (con = true ∧ cgo = false)) ∧ (¬ 0 ≤ ch ∨ (0 ≤ ch ∧ (¬ ch < 1099511627776 ∨ (ch < 1099511627776 ∧ (¬ 0 ≤ ct ∨ (0 ≤ ct ∧ (¬ ct ≤ 1099511627776 ∨ (ct ≤ 1099511627776 ∧ (¬ 0 ≤ cid ∨ (0 ≤ cid ∧ ¬ cid ≤ 1099511627776))))))))))))) ∨ (N1 = true ∧ (con = false ∨ (con = true ∧ cgo = false)) ∧ 0 ≤ ch ∧ ch < 1099511627776 ∧ 0 ≤ ct ∧ ct ≤ 1099511627776 ∧ 0 ≤ cid ∧ cid ≤ 1099511627776) := by
            rw [HN.out, HTT.out, HTT.out]
            by_cases q : (con = false ∨ (con = true ∧ cgo = false)) ∧ 0 ≤ ch ∧ ch < 1099511627776 ∧ 0 ≤ ct ∧ ct ≤ 1099511627776 ∧ 0 ≤ cid ∧ cid ≤ 1099511627776
            · right
              obtain ⟨q0, q1, q2, q3, q4, q5, q6⟩ := q
              refine ⟨?_, q0, q1, q2, q3, q4, q5, q6⟩
              have : (con && cgo) = false := by rcases q0 with rfl | ⟨rfl, rfl⟩ <;> simp
              simp [this, q1, q2, q3, q4, q5, q6]
            · left
              refine ⟨?_, ?_⟩
              · rw [Bool.eq_false_iff]
                intro h
                simp only [Bool.and_eq_true, decide_eq_true_eq, Bool.not_eq_true'] at h
                refine q ⟨?_, h.1.1.1.2, h.1.1.2, h.1.2.1, h.1.2.2, h.2.1, h.2.2⟩
                have := h.1.1.1.1
                cases con <;> cases cgo <;> simp_all
              · by_cases q0 : con = true ∧ cgo = true
                · exact .inl q0
                · have q0' : con = false ∨ (con = true ∧ cgo = false) := by cases con <;> cases cgo <;> simp_all
                  refine .inr ⟨q0', ?_⟩
                  have : ¬ (0 ≤ ch ∧ ch < 1099511627776 ∧ 0 ≤ ct ∧ ct ≤ 1099511627776 ∧ 0 ≤ cid ∧ cid ≤ 1099511627776) := fun h => q ⟨q0', h⟩
                  omega
          clear HN HTT
          rcases hcs with ⟨rfl, hcs⟩ | ⟨rfl, hon, q1, q2, q3, q4, q5, q6⟩
          · have e2 : G = false := by rw [HG.out, Bool.false_and]
            subst e2
            rcases hcs with ⟨rfl, rfl⟩ | ⟨rfl | ⟨rfl, rfl⟩, q1 | ⟨q1, q2 | ⟨q2, q3 | ⟨q3, q4 | ⟨q4, q5 | ⟨q5, q6⟩⟩⟩⟩⟩⟩
            all_goals
              go_wp2
              go_ret
              exact ⟨rfl, HX3.out.2⟩
          · rcases hon with rfl | ⟨rfl, rfl⟩
            all_goals
              cases gl
              · go_wp2_with (go_at_call 38; refine (HLN.out _ HX3.out.2).mono ?_; rintro e w5 ⟨rfl, hb5⟩)
                go_ret
                exact ⟨by rw [HG.out]; simp, HX3.out.2.trans (hb5.mono HX3.out.2.size)⟩
              · go_wp2_with (first
                  | (go_at_call 38; refine (HLN.out _ HX3.out.2).mono ?_; rintro e w5 ⟨rfl, hb5⟩; have HX5 := hide (show _ ∧ _ from ⟨HX3.out.1.over hb5, HX3.out.2.trans (hb5.mono HX3.out.2.size)⟩); clear a0 a1 a2 a3 a4 a5 a6 a7 a14 a15 a16 a17 hb5; obtain ⟨-, ⟨a5, -, -⟩, -⟩ := cs_facts HX5.out.1)
                  | (go_at_call 39; refine (HST.out _ HX5.out.2).mono ?_; rintro e w6 ⟨rfl, hb6⟩))
                go_ret
                exact ⟨by rw [HG.out]; simp, HX5.out.2.trans (hb6.mono HX5.out.2.size)⟩
end Go.Proofs.Ytdkalcnlncjgiaa.Kc

