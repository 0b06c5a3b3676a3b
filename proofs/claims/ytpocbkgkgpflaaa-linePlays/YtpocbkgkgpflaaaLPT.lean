/- LinePlays: the tail of a round. -/
import Derived.Test.YtpocbkgkgpflaaaLPA
set_option maxRecDepth 100000
namespace Go.Proofs.Ytpocbkgkgpflaaa.Ln
open Go.RowKit
set_option maxRecDepth 1000000 in
set_option maxHeartbeats 8000000 in
theorem tail_wp (w : World) (b3 b6 b7 : Nat) (c : Cy) (x : Line) (sa da : Option Addr) (cs cd : Nat) (y : Line) (ya yb : Option Addr) (yc yd ye yf yg yh : Nat) (cn : List ByteArray) (A' : Option Addr) (C' : Nat) (er : Int) (wa : World) (HP2 : Hid (PlR w b3 y ya yb yc yd ye yf yg yh cn A' C' wa)) (HR2 : Hid (Rd b3 b6 b7 c (.slice sa x.S.length cs) (.slice da x.D.length cd) x.g x.cl wa)) (HN : Hid (Nx x y er ∧ cn = y.S.take y.g.toNat)) (v0 v1 v2 v5 v9 v10 v11 v12 v13 v14 v15 v16 v17 v18 v19 v20 v21 v22 v23 v24 v25 v26 v27 v28 v29 v30 v31 v32 v33 v34 v35 v36 v37 v38 v39 v40 v41 v42 v43 v44 v45 v46 v47 v48 v49 v50 v51 v52 v53 v54 v55 v56 v57 v58 v59 v60 v61 v62 v63 v64 v65 v66 v67 v68 v69 v70 v71 v72 v73 v74 v75 v76 v77 v78 v79 v80 v81 v82 v83 v84 v85 v86 v87 v88 v89 v90 v91 v92 v93 v94 v95 v96 v97 v98 v99 v100 v101 v102 v103 v104 v105 v106 v107 v108 v109 v110 v111 v112 v113 v114 v115 v116 v117 v118 v119 v120 v121 v122 v123 v124 v125 v126 v127 v128 v129 v130 v131 v132 v133 v134 v135 v136 v137 v138 v139 v140 v141 : Value) {Q : Exit → Act → World → Prop}
    (hQ : ∀ (t2 t9 t96 t97 t98 t99 t100 t101 t102 t103 t104 t105 t106 t107 t108 t109 t110 t111 t112 t113 t114 t115 t116 t117 t118 t119 t120 t121 t122 t123 t124 t125 t126 t127 t128 t129 t130 t131 t132 t133 t134 t135 t136 t137 t138 t139 t140 t141 : Value) (wz : World), PlR w b3 y ya yb yc yd ye yf yg yh cn A' C' wz → Q .normal ⟨List.toArray (v0 :: v1 :: t2 :: (.pointer (some ⟨b3, 0, none⟩)) :: (.slice A' cn.length C') :: v5 :: (.pointer (some ⟨b6, 0, none⟩)) :: (.pointer (some ⟨b7, 0, none⟩)) :: (.int .i64 er) :: t9 :: v10 :: v11 :: v12 :: v13 :: v14 :: v15 :: v16 :: v17 :: v18 :: v19 :: v20 :: v21 :: v22 :: v23 :: v24 :: v25 :: v26 :: v27 :: v28 :: v29 :: v30 :: v31 :: v32 :: v33 :: v34 :: v35 :: v36 :: v37 :: v38 :: v39 :: v40 :: v41 :: v42 :: v43 :: v44 :: v45 :: v46 :: v47 :: v48 :: v49 :: v50 :: v51 :: v52 :: v53 :: v54 :: v55 :: v56 :: v57 :: v58 :: v59 :: v60 :: v61 :: v62 :: v63 :: v64 :: v65 :: v66 :: v67 :: v68 :: v69 :: v70 :: v71 :: v72 :: v73 :: v74 :: v75 :: v76 :: v77 :: v78 :: v79 :: v80 :: v81 :: v82 :: v83 :: v84 :: v85 :: v86 :: v87 :: v88 :: v89 :: v90 :: v91 :: v92 :: v93 :: v94 :: v95 :: t96 :: t97 :: t98 :: t99 :: t100 :: t101 :: t102 :: t103 :: t104 :: t105 :: t106 :: t107 :: t108 :: t109 :: t110 :: t111 :: t112 :: t113 :: t114 :: t115 :: t116 :: t117 :: t118 :: t119 :: t120 :: t121 :: t122 :: t123 :: t124 :: t125 :: t126 :: t127 :: t128 :: t129 :: t130 :: t131 :: t132 :: t133 :: t134 :: t135 :: t136 :: t137 :: t138 :: t139 :: t140 :: t141 :: []), []⟩ wz) :
    Code.wp Try.prog tlC Q ⟨List.toArray (v0 :: v1 :: v2 :: (.pointer (some ⟨b3, 0, none⟩)) :: (.slice A' cn.length C') :: v5 :: (.pointer (some ⟨b6, 0, none⟩)) :: (.pointer (some ⟨b7, 0, none⟩)) :: (.int .i64 er) :: v9 :: v10 :: v11 :: v12 :: v13 :: v14 :: v15 :: v16 :: v17 :: v18 :: v19 :: v20 :: v21 :: v22 :: v23 :: v24 :: v25 :: v26 :: v27 :: v28 :: v29 :: v30 :: v31 :: v32 :: v33 :: v34 :: v35 :: v36 :: v37 :: v38 :: v39 :: v40 :: v41 :: v42 :: v43 :: v44 :: v45 :: v46 :: v47 :: v48 :: v49 :: v50 :: v51 :: v52 :: v53 :: v54 :: v55 :: v56 :: v57 :: v58 :: v59 :: v60 :: v61 :: v62 :: v63 :: v64 :: v65 :: v66 :: v67 :: v68 :: v69 :: v70 :: v71 :: v72 :: v73 :: v74 :: v75 :: v76 :: v77 :: v78 :: v79 :: v80 :: v81 :: v82 :: v83 :: v84 :: v85 :: v86 :: v87 :: v88 :: v89 :: v90 :: v91 :: v92 :: v93 :: v94 :: v95 :: v96 :: v97 :: v98 :: v99 :: v100 :: v101 :: v102 :: v103 :: v104 :: v105 :: v106 :: v107 :: v108 :: v109 :: v110 :: v111 :: v112 :: v113 :: v114 :: v115 :: v116 :: v117 :: v118 :: v119 :: v120 :: v121 :: v122 :: v123 :: v124 :: v125 :: v126 :: v127 :: v128 :: v129 :: v130 :: v131 :: v132 :: v133 :: v134 :: v135 :: v136 :: v137 :: v138 :: v139 :: v140 :: v141 :: []), []⟩ wa := by
  have HK := hide hQ
  clear hQ
  conv => arg 2; whnf
  obtain ⟨⟨c0, c1, c2, c3⟩, -⟩ := HP2.out.F.facts
  have hyl := goodL_len HN.out.1.good
  have hgot := HN.out.1.got
  have hlen : ((cn.length : Int) != y.g) = false := by
    have : cn.length = y.g.toNat := by rw [HN.out.2, List.length_take]; omega
    simp; omega
  have hcn : cn.length ≤ y.S.length := by rw [HN.out.2, List.length_take]; omega
  have hc4 : cn.length ≤ 400 := by omega
  have HGD := hide (good_any y ya yb yc yd ye yf yg yh wa HP2.out.L)
  rw [HN.out.1.good] at HGD
  have HSH := hide HN.out.1.shut
  have HCN := hide HN.out.2
  clear hyl
  obtain ⟨xcl, hxcl⟩ : ∃ b, x.cl = b := ⟨_, rfl⟩
  obtain ⟨ycl, hycl⟩ : ∃ b, y.cl = b := ⟨_, rfl⟩
  rw [hxcl, hycl] at HSH
  have HXC := hide (And.intro hxcl hycl)
  clear hxcl hycl
  have hsh : xcl = false ∨ (xcl = true ∧ ycl = true ∧ (er == 0) = false) := by
    cases xcl
    · exact .inl rfl
    · exact .inr ⟨rfl, (HSH.out rfl).1, by simpa using (HSH.out rfl).2⟩
  clear HN HSH
  generalize x.g = gx at *
  go_upto_region 21 with fail
  go_cut [125] from 96 to 141 (fun tv wq => tv = .bool false ∧ Hid (Below wa.heap.size wa wq))
  case first =>
    rcases hsh with rfl | ⟨rfl, rfl, her⟩
    all_goals go_wp2_with (go_at_call 12; refine HGD.out.mono ?_; rintro e w5 ⟨rfl, hb5⟩; have HB5 := hide hb5; have HP5 := hide (HP2.out.over hb5); have HR5 := hide (HR2.out.over hb5); clear hb5 c0 c1 c2 c3; obtain ⟨⟨c0, c1, c2, c3⟩, -⟩ := HP5.out.F.facts; obtain ⟨⟨d0, d1, d2, d3⟩, -⟩ := HR5.out.F7.facts; rw [HXC.out.1] at d3; rw [HXC.out.2] at c3)
    all_goals go_meet
    all_goals exact ⟨by rw [decide_eq_false (by omega)], HB5.out⟩
  case rest =>
    obtain ⟨rfl, HB5⟩ := hcut
    clear c0 c1 c2 c3 HGD HR2 hgot hsh HXC hlen
    go_upto_region 24 with fail
    go_loopw [128] (fun jv wl => ∃ j : Nat, j ≤ cn.length ∧ jv = .int .i64 (j : Int) ∧ Hid (Below wa.heap.size wa wl)) (fun jv _ => cn.length - (intOf jv).toNat)
    case atStart => exact ⟨0, Nat.zero_le _, rfl, HB5.out⟩
    case round =>
      obtain ⟨j, hj, rfl, HRR⟩ := hrel
      have HPX := hide (HP2.out.over HRR.out)
      by_cases hlt : j < cn.length
      · obtain ⟨⟨c0, c1, c2, c3⟩, -⟩ := HPX.out.F.facts
        obtain ⟨-, g, hg, hst⟩ := HPX.out.own.facts
        have t1 := hst j hlt
        have t2 := HPX.out.L.PS j (by omega)
        have eA := (hg (by omega)).1
        have eY := HPX.out.L.hsa (by omega)
        have e : y.S.getD j ByteArray.empty = cn.getD j ByteArray.empty := by
          have hlt2 := hlt
          rw [HCN.out, List.length_take] at hlt2
          rw [HCN.out]
          simp only [List.getD_eq_getElem?_getD]
          rw [List.getElem?_take_of_lt (by omega)]
        rw [e] at t2
        rw [Nat.zero_add] at t1
        subst eA eY
        generalize cn.getD j ByteArray.empty = t at *
        have hjI : (j : Int) < (cn.length : Int) := by omega
        have hjJ : (j : Int) < (y.S.length : Int) := by omega
        clear hst hg e
        go_upto_region 26 with fail
        go_quiet (fail)
        go_wp2
        exact ⟨⟨j + 1, by omega, by go_num, ⟨HRR.out.os, HRR.out.tape, HRR.out.output, HRR.out.size, HRR.out.block⟩⟩, by simp [intOf]; omega⟩
      · go_wp2
        exact HK.out _ _ _ _ _ _ _ _ _ _ _ _ _ _ _ _ _ _ _ _ _ _ _ _ _ _ _ _ _ _ _ _ _ _ _ _ _ _ _ _ _ _ _ _ _ _ _ _ _ HPX.out
end Go.Proofs.Ytpocbkgkgpflaaa.Ln
