/- LinePlays: a round that carries by Expire. -/
import Derived.Test.YtpocbkgkgpflaaaLPA
set_option maxRecDepth 100000
namespace Go.Proofs.Ytpocbkgkgpflaaa.Ln
open Go.RowKit
set_option maxRecDepth 1000000 in
set_option maxHeartbeats 8000000 in
theorem sw_exp (w : World) (b3 b6 b7 : Nat) (c : Cy) (x : Line) (sa da : Option Addr) (cs cd sb so db dO : Nat) (cm : List ByteArray) (A : Option Addr) (C : Nat) (w4 : World) (HP : Hid (PlR w b3 x sa da cs cd sb so db dO cm A C w4)) (HR : Hid (Rd b3 b6 b7 c (.slice sa x.S.length cs) (.slice da x.D.length cd) x.g x.cl w4)) (HQ : Hid (goodL x = true ∧ cm = x.S.take x.g.toNat)) (v0 v1 v2 v5 v8 v9 v10 v11 v12 v13 v14 v15 v16 v17 v18 v19 v20 v21 v22 v23 v24 v25 v26 v27 v28 v30 v31 v32 v33 v34 v35 v36 v37 v38 v39 v40 v41 v42 v43 v44 v45 v46 v47 v48 v49 v50 v51 v52 v53 v54 v55 v56 v57 v58 v59 v60 v61 v62 v63 v64 v65 v66 v67 v68 v69 v70 v71 v72 v73 v74 v75 v76 v77 v78 v79 v80 v81 v82 v83 v84 v85 v86 v87 v88 v89 v90 v91 v92 v93 v94 v95 v96 v97 v98 v99 v100 v101 v102 v103 v104 v105 v106 v107 v108 v109 v110 v111 v112 v113 v114 v115 v116 v117 v118 v119 v120 v121 v122 v123 v124 v125 v126 v127 v128 v129 v130 v131 v132 v133 v134 v135 v136 v137 v138 v139 v140 v141 : Value) {Q : Exit → Act → World → Prop}
    (hQ : ∀ (y : Line) (ya yb : Option Addr) (yc yd ye yf yg yh : Nat) (cn : List ByteArray) (A' : Option Addr) (C' nn : Nat) (er : Int) (t30 t31 t32 t33 t34 t35 t36 t37 t38 t39 t40 t41 t42 t43 t44 t45 t46 t47 t48 t49 t50 t51 t52 t53 t54 t55 t56 t57 t58 t59 t60 t61 t62 t63 t64 t65 t66 t67 t68 t69 t70 t71 t72 t73 t74 t75 t76 t77 t78 t79 t80 t81 t82 t83 t84 t85 t86 t87 t88 t89 t90 t91 t92 t93 t94 t95 : Value) (wc : World), nn = cn.length → PlR w b3 y ya yb yc yd ye yf yg yh cn A' C' wc → Rd b3 b6 b7 c (.slice sa x.S.length cs) (.slice da x.D.length cd) x.g x.cl wc → Nx x y er → cn = y.S.take y.g.toNat → Q .normal ⟨List.toArray (v0 :: v1 :: v2 :: (.pointer (some ⟨b3, 0, none⟩)) :: (.slice A' nn C') :: v5 :: (.pointer (some ⟨b6, 0, none⟩)) :: (.pointer (some ⟨b7, 0, none⟩)) :: (.int .i64 er) :: v9 :: v10 :: v11 :: v12 :: v13 :: v14 :: v15 :: v16 :: v17 :: v18 :: v19 :: v20 :: v21 :: v22 :: v23 :: v24 :: v25 :: v26 :: v27 :: v28 :: (.int .i64 2) :: t30 :: t31 :: t32 :: t33 :: t34 :: t35 :: t36 :: t37 :: t38 :: t39 :: t40 :: t41 :: t42 :: t43 :: t44 :: t45 :: t46 :: t47 :: t48 :: t49 :: t50 :: t51 :: t52 :: t53 :: t54 :: t55 :: t56 :: t57 :: t58 :: t59 :: t60 :: t61 :: t62 :: t63 :: t64 :: t65 :: t66 :: t67 :: t68 :: t69 :: t70 :: t71 :: t72 :: t73 :: t74 :: t75 :: t76 :: t77 :: t78 :: t79 :: t80 :: t81 :: t82 :: t83 :: t84 :: t85 :: t86 :: t87 :: t88 :: t89 :: t90 :: t91 :: t92 :: t93 :: t94 :: t95 :: v96 :: v97 :: v98 :: v99 :: v100 :: v101 :: v102 :: v103 :: v104 :: v105 :: v106 :: v107 :: v108 :: v109 :: v110 :: v111 :: v112 :: v113 :: v114 :: v115 :: v116 :: v117 :: v118 :: v119 :: v120 :: v121 :: v122 :: v123 :: v124 :: v125 :: v126 :: v127 :: v128 :: v129 :: v130 :: v131 :: v132 :: v133 :: v134 :: v135 :: v136 :: v137 :: v138 :: v139 :: v140 :: v141 :: []), []⟩ wc) :
    Code.wp Try.prog swC Q ⟨List.toArray (v0 :: v1 :: v2 :: (.pointer (some ⟨b3, 0, none⟩)) :: (.slice A cm.length C) :: v5 :: (.pointer (some ⟨b6, 0, none⟩)) :: (.pointer (some ⟨b7, 0, none⟩)) :: v8 :: v9 :: v10 :: v11 :: v12 :: v13 :: v14 :: v15 :: v16 :: v17 :: v18 :: v19 :: v20 :: v21 :: v22 :: v23 :: v24 :: v25 :: v26 :: v27 :: v28 :: (.int .i64 2) :: v30 :: v31 :: v32 :: v33 :: v34 :: v35 :: v36 :: v37 :: v38 :: v39 :: v40 :: v41 :: v42 :: v43 :: v44 :: v45 :: v46 :: v47 :: v48 :: v49 :: v50 :: v51 :: v52 :: v53 :: v54 :: v55 :: v56 :: v57 :: v58 :: v59 :: v60 :: v61 :: v62 :: v63 :: v64 :: v65 :: v66 :: v67 :: v68 :: v69 :: v70 :: v71 :: v72 :: v73 :: v74 :: v75 :: v76 :: v77 :: v78 :: v79 :: v80 :: v81 :: v82 :: v83 :: v84 :: v85 :: v86 :: v87 :: v88 :: v89 :: v90 :: v91 :: v92 :: v93 :: v94 :: v95 :: v96 :: v97 :: v98 :: v99 :: v100 :: v101 :: v102 :: v103 :: v104 :: v105 :: v106 :: v107 :: v108 :: v109 :: v110 :: v111 :: v112 :: v113 :: v114 :: v115 :: v116 :: v117 :: v118 :: v119 :: v120 :: v121 :: v122 :: v123 :: v124 :: v125 :: v126 :: v127 :: v128 :: v129 :: v130 :: v131 :: v132 :: v133 :: v134 :: v135 :: v136 :: v137 :: v138 :: v139 :: v140 :: v141 :: []), []⟩ w4 := by
  have HK := hide hQ
  clear hQ
  have h36 := HR.out.h36
  have h67 := HR.out.h67
  obtain ⟨k0, k1, k2, k3, k4⟩ := HR.out.C6.facts
  obtain ⟨⟨c0, c1, c2, c3⟩, ⟨e0, e1, e2, e3⟩⟩ := HP.out.F.facts
  obtain ⟨⟨d0, d1, d2, d3⟩, -⟩ := HR.out.F7.facts
  conv => arg 2; whnf
  have N := nx_exp HQ.out.1 c.k c.time x.g
  have HEXP := hide (fun w (L : LAt w x sa da cs cd sb so db dO) => exp_any x sa da cs cd sb so db dO c.k c.time x.g w L)
  generalize expL x c.k c.time x.g = y at *
  generalize expE x c.k c.time x.g = er at *
  have HN := hide N
  clear N
  go_upto_region 13 with (go_at_call 17; refine (HEXP.out _ HP.out.L).mono ?_; rintro e w5 ⟨v, rfl, ⟨ya, yb, yc, yd, ye, yf, yg, yh, rfl, LY, y1, y2⟩, hb5⟩; have HY := hide (show _ ∧ _ ∧ _ ∧ _ from ⟨LY, y1, y2, hb5⟩); clear c0 c1 c2 c3 e0 e1 e2 e3 LY y1 y2 hb5; obtain ⟨⟨c0, c1, c2, c3⟩, ⟨e0, e1, e2, e3⟩⟩ := (HP.out.F.later HY.out.2.2.2 HP.out.F.lt).facts)
  have P6 := HP.out.put HY.out.2.2.2 HY.out.1 HY.out.2.1 HY.out.2.2.1
  have R6 := (HR.out.over HY.out.2.2.2).put (.slice ya y.S.length yc) (.slice yb y.D.length yd) (.int .i64 y.g) (.bool y.cl)
  have LX : LAt (set4 w5 b3 (.slice ya y.S.length yc) (.slice yb y.D.length yd) (.int .i64 y.g) (.bool y.cl)) x sa da cs cd sb so db dO := (HP.out.L.later HY.out.2.2.2).set (fun h => set4_other _ _ _ _ (HP.out.nS h).1) (fun h => set4_other _ _ _ _ (HP.out.nD h).1)
  clear c0 c1 c2 c3 e0 e1 e2 e3 k0 k1 k2 k3 k4 d0 d1 d2 d3
  unfold set4 at P6 R6 LX
  generalize (((w5.setCell ⟨b3, 0, none⟩ (.slice ya y.S.length yc)).setCell ⟨b3, 1, none⟩ (.slice yb y.D.length yd)).setCell ⟨b3, 2, none⟩ (.int .i64 y.g)).setCell ⟨b3, 3, none⟩ (.bool y.cl) = w6 at *
  obtain ⟨k0, k1, k2, k3, k4⟩ := R6.C6.facts
  obtain ⟨⟨d0, d1, d2, d3⟩, -⟩ := R6.F7.facts
  have HP6 := hide P6
  have HR6 := hide R6
  have HLX := hide LX
  clear P6 R6 HP HR HY LX
  have HCM : Hid (cm = y.S.take y.g.toNat) := by show cm = _; rw [HN.out.2.1, HN.out.2.2.1]; exact HQ.out.2
  by_cases he : er = 0
  · subst he
    obtain ⟨n1, n2, n3, n4⟩ := HN.out.2.2.2 rfl
    obtain ⟨hl1, hl2, -, -⟩ := goodL_len HQ.out.1
    obtain ⟨j, hj⟩ : ∃ j : Nat, c.k - 1 = (j : Int) := ⟨(c.k - 1).toNat, by omega⟩
    rw [hj, Int.toNat_natCast] at n4
    have hjD : j < x.D.length := by omega
    have hjJ : (j : Int) < (x.D.length : Int) := by omega
    have ek : c.k = (j : Int) + 1 := by omega
    have eda := HLX.out.hda (by omega)
    subst eda
    have cy := HLX.out.PD j hjD
    rw [ek] at k1 n1
    generalize x.D.getD j 0 = due at *
    generalize x.g = gx at *
    have hq1 : decide ((j : Int) + 1 ≤ gx) = false := by simp; omega
    have hq2 : decide (c.time < due) = false := by simp; omega
    have hwj : IntKind.i64.wrap (j : Int) = (j : Int) := wrapI (by omega) (by omega)
    clear hj ek n1 n2 n3 n4 hl1 hl2
    go_quiet (fail)
    go_wp2
    exact HK.out y ya yb yc yd ye yf yg yh cm A C _ 0 _ _ _ _ _ _ _ _ _ _ _ _ _ _ _ _ _ _ _ _ _ _ _ _ _ _ _ _ _ _ _ _ _ _ _ _ _ _ _ _ _ _ _ _ _ _ _ _ _ _ _ _ _ _ _ _ _ _ _ _ _ _ _ _ _ _ _ rfl (HP6.out.over (below_drewN (Below.refl _ _) _)) (HR6.out.over (below_drewN (Below.refl _ _) _)) HN.out.1 HCM.out
  · have he' : (er == 0) = false := by simpa using he
    clear he
    go_quiet (fail)
    go_wp2
    exact HK.out y ya yb yc yd ye yf yg yh cm A C _ er _ _ _ _ _ _ _ _ _ _ _ _ _ _ _ _ _ _ _ _ _ _ _ _ _ _ _ _ _ _ _ _ _ _ _ _ _ _ _ _ _ _ _ _ _ _ _ _ _ _ _ _ _ _ _ _ _ _ _ _ _ _ _ _ _ _ _ rfl (HP6.out.over (below_drewN (Below.refl _ _) _)) (HR6.out.over (below_drewN (Below.refl _ _) _)) HN.out.1 HCM.out
end Go.Proofs.Ytpocbkgkgpflaaa.Ln
