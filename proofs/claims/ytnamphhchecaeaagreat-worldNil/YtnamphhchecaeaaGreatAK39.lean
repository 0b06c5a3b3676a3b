/- Parts of the proof: PVSA. -/
import Derived.Test.YtnamphhchecaeaaGreatRows
import Derived.Test.YtnamphhchecaeaaGreatAK33
import Derived.Test.YtnamphhchecaeaaGreatAK38
set_option maxRecDepth 100000
namespace Go.Proofs.YtnamphhchecaeaaGreat.Pv
open Go.RowKit
def loadLk (v : Value) : Sem Value := Instr.loadAt 50 v
theorem loadLk_eq (v : Value) : Instr.loadAt 50 v = loadLk v := rfl
theorem infoLk : (Tryz.prog.info? 50).map (·.size) = some 14 := by kernel_rfl
theorem pr_range_link {w : World} {b : Nat} {p : Pr} {v : PrV} (h : CAt 56 w b (prC p v)) (k : Nat) (hk : k < 2) : w.rangeAt b (66 + k * 14) (lkL (p.L k) (v.l k)) := h.part fun j x hx => by
  have hj : j < 14 := (List.getElem?_eq_some_iff.1 hx).1
  rw [pr_link k hk j hj]
  exact hx
theorem pr_loadLk {w : World} {b : Nat} {p : Pr} {v : PrV} (h : CAt 56 w b (prC p v)) (k : Nat) (hk : k < 2) : (loadLk (.pointer (some ⟨b, 66 + k * 14, none⟩))).run Tryz.prog w = .ok (.agg (lkL (p.L k) (v.l k)).toArray) w :=
  run_loadAt_mid (P := Tryz.prog) w b (66 + k * 14) 50 _ _ (pr_range_link h k hk) Tryz.underlying50 rfl (by rw [infoLk]; rfl)
theorem pr_loadS {w : World} {b : Nat} {p : Pr} {v : PrV} (h : CAt 56 w b (prC p v)) : (loadS (.pointer (some ⟨b, 2, none⟩))).run Tryz.prog w = .ok (.agg (stC p.s v.ws)) w := by
  have := run_loadAt_mid (P := Tryz.prog) w b 2 41 _ _ (pr_stake h) Tryz.underlying41 rfl (by rw [infoS]; rfl)
  change (Instr.loadAt 41 _).run Tryz.prog w = _
  simpa using this
noncomputable def sp6C : Code := subC [1, 1, 0, 1, 9, 9, 1, 1, 0, 9, 1, 0] (Tryz.f6.body.getD .skip)
noncomputable def sp13C : Code := subC [1, 1, 1, 0, 1, 9, 9, 1, 1, 0, 9, 1, 0] (Tryz.f6.body.getD .skip)
attribute [local go_sem ↓] loadLk_eq
set_option maxHeartbeats 8000000 in
set_option maxRecDepth 1000000 in
theorem sp6_wp (g g' k : Nat) (hk : k < 2) (p : Pr) (v v' : PrV) (wl : World) (h : CAt 56 wl g (prC p v)) (h' : CAt 56 wl g' (prC p v')) (v0 v1 v4 v6 v7 v8 v9 v10 v11 v12 v13 v14 v15 v16 v17 v18 v19 v20 v21 v22 v23 v24 v25 v26 v27 v28 v29 v30 v31 v32 v33 v34 v35 v36 v37 v38 v39 v40 v41 v42 v43 v44 v45 v46 v47 v48 v49 v50 v51 v52 v53 v54 v55 v56 v57 v58 v59 v60 v61 v62 v63 v64 v65 v66 v67 v68 v69 v70 v71 v72 v73 v74 v75 v76 v77 v78 v79 v80 v81 v82 v83 v84 v85 v86 v87 v88 v89 v90 v91 v92 v93 v94 v95 v96 v97 v98 v99 v100 v101 v102 v103 v104 v105 v106 v107 v108 v109 v110 v111 v112 v113 v114 v115 v116 v117 v118 v119 v120 v121 v122 v123 v124 v125 v126 v127 v128 v129 v130 v131 v132 v133 v134 v135 v136 v137 v138 v139 v140 v141 v142 v143 v144 v145 v146 v147 v148 v149 v150 v151 v152 v153 v154 v155 v156 v157 : Value) (Q : Exit → Act → World → Prop)
    (hone : (∀ u ∈ lkL (p.L k) (v.l k), u.oneCell' = true) ∧ ∀ u ∈ lkL (p.L k) (v'.l k), u.oneCell' = true)
    (hQ : ∀ (x6 x7 : Nat) (t56 t57 t58 t59 t60 t61 t62 t63 : Value) (w5 : World), Below wl.heap.size wl w5 → CAt 50 w5 x6 (lkL (p.L k) (v.l k)).toArray → CAt 50 w5 x7 (lkL (p.L k) (v'.l k)).toArray → Q .normal ⟨List.toArray (v0 :: v1 :: (.pointer (some ⟨g, 0, none⟩)) :: (.pointer (some ⟨g', 0, none⟩)) :: v4 :: (.int .i64 (k : Int)) :: (.pointer (some ⟨x6, 0, none⟩)) :: (.pointer (some ⟨x7, 0, none⟩)) :: v8 :: v9 :: v10 :: v11 :: v12 :: v13 :: v14 :: v15 :: v16 :: v17 :: v18 :: v19 :: v20 :: v21 :: v22 :: v23 :: v24 :: v25 :: v26 :: v27 :: v28 :: v29 :: v30 :: v31 :: v32 :: v33 :: v34 :: v35 :: v36 :: v37 :: v38 :: v39 :: v40 :: v41 :: v42 :: v43 :: v44 :: v45 :: v46 :: v47 :: v48 :: v49 :: v50 :: v51 :: v52 :: v53 :: v54 :: v55 :: (t56) :: (t57) :: (t58) :: (t59) :: (t60) :: (t61) :: (t62) :: (t63) :: v64 :: v65 :: v66 :: v67 :: v68 :: v69 :: v70 :: v71 :: v72 :: v73 :: v74 :: v75 :: v76 :: v77 :: v78 :: v79 :: v80 :: v81 :: v82 :: v83 :: v84 :: v85 :: v86 :: v87 :: v88 :: v89 :: v90 :: v91 :: v92 :: v93 :: v94 :: v95 :: v96 :: v97 :: v98 :: v99 :: v100 :: v101 :: v102 :: v103 :: v104 :: v105 :: v106 :: v107 :: v108 :: v109 :: v110 :: v111 :: v112 :: v113 :: v114 :: v115 :: v116 :: v117 :: v118 :: v119 :: v120 :: v121 :: v122 :: v123 :: v124 :: v125 :: v126 :: v127 :: v128 :: v129 :: v130 :: v131 :: v132 :: v133 :: v134 :: v135 :: v136 :: v137 :: v138 :: v139 :: v140 :: v141 :: v142 :: v143 :: v144 :: v145 :: v146 :: v147 :: v148 :: v149 :: v150 :: v151 :: v152 :: v153 :: v154 :: v155 :: v156 :: v157 :: []), []⟩ w5) :
    Code.wp Tryz.prog sp6C Q ⟨List.toArray (v0 :: v1 :: (.pointer (some ⟨g, 0, none⟩)) :: (.pointer (some ⟨g', 0, none⟩)) :: v4 :: (.int .i64 (k : Int)) :: v6 :: v7 :: v8 :: v9 :: v10 :: v11 :: v12 :: v13 :: v14 :: v15 :: v16 :: v17 :: v18 :: v19 :: v20 :: v21 :: v22 :: v23 :: v24 :: v25 :: v26 :: v27 :: v28 :: v29 :: v30 :: v31 :: v32 :: v33 :: v34 :: v35 :: v36 :: v37 :: v38 :: v39 :: v40 :: v41 :: v42 :: v43 :: v44 :: v45 :: v46 :: v47 :: v48 :: v49 :: v50 :: v51 :: v52 :: v53 :: v54 :: v55 :: v56 :: v57 :: v58 :: v59 :: v60 :: v61 :: v62 :: v63 :: v64 :: v65 :: v66 :: v67 :: v68 :: v69 :: v70 :: v71 :: v72 :: v73 :: v74 :: v75 :: v76 :: v77 :: v78 :: v79 :: v80 :: v81 :: v82 :: v83 :: v84 :: v85 :: v86 :: v87 :: v88 :: v89 :: v90 :: v91 :: v92 :: v93 :: v94 :: v95 :: v96 :: v97 :: v98 :: v99 :: v100 :: v101 :: v102 :: v103 :: v104 :: v105 :: v106 :: v107 :: v108 :: v109 :: v110 :: v111 :: v112 :: v113 :: v114 :: v115 :: v116 :: v117 :: v118 :: v119 :: v120 :: v121 :: v122 :: v123 :: v124 :: v125 :: v126 :: v127 :: v128 :: v129 :: v130 :: v131 :: v132 :: v133 :: v134 :: v135 :: v136 :: v137 :: v138 :: v139 :: v140 :: v141 :: v142 :: v143 :: v144 :: v145 :: v146 :: v147 :: v148 :: v149 :: v150 :: v151 :: v152 :: v153 :: v154 :: v155 :: v156 :: v157 :: []), []⟩ wl := by
  have HK := hide hQ
  have hF : ∀ wx, Below wl.heap.size wl wx → (loadLk (.pointer (some ⟨g, 66 + k * 14, none⟩))).run Tryz.prog wx = .ok (.agg (lkL (p.L k) (v.l k)).toArray) wx ∧ (loadLk (.pointer (some ⟨g', 66 + k * 14, none⟩))).run Tryz.prog wx = .ok (.agg (lkL (p.L k) (v'.l k)).toArray) wx := fun wx hb => ⟨pr_loadLk (h.over hb) k hk, pr_loadLk (h'.over hb) k hk⟩
  have hkk : (k : Int) < 2 := by omega
  have hk0 : (0 : Int) ≤ (k : Int) := by omega
  clear hQ h h'
  conv => arg 2; whnf
  refine wp_region_noPanic ?_
  have hb : Below wl.heap.size wl wl.drew := (Below.refl _ wl).drew
  refine wp_region_held (S := fun wx => Below wl.heap.size wl wx) (by kernel_rfl) ?_
  change wpAnyH _ _ _ _ _ _ _ _ wl.drew
  refine Od.anyH_sl (i := 0) (v := .int .i64 (k : Int)) (some 56) rfl rfl (by kernel_rfl) (by kernel_rfl) (by kernel_rfl) (fun _ _ _ h => h) (Or.inl ⟨by rfl, ?_⟩) hb ?_
  · intro wx hwx; go_simp
  simp only [Act.put, List.setIfInBounds_toArray, List.set_cons_zero, List.set_cons_succ]
  refine Od.anyH_sl (i := 1) (v := .pointer (some ⟨g, 66, none⟩)) (some 57) rfl rfl (by kernel_rfl) (by kernel_rfl) (by kernel_rfl) (fun _ _ _ h => h) (Or.inl ⟨by rfl, ?_⟩) hb ?_
  · intro wx hwx; go_simp
  simp only [Act.put, List.setIfInBounds_toArray, List.set_cons_zero, List.set_cons_succ]
  refine Od.anyH_sl (i := 2) (v := .pointer (some ⟨g, 66 + k * 14, none⟩)) (some 58) rfl rfl (by kernel_rfl) (by kernel_rfl) (by kernel_rfl) (fun _ _ _ h => h) (Or.inl ⟨by rfl, ?_⟩) hb ?_
  · intro wx hwx; go_simp
  simp only [Act.put, List.setIfInBounds_toArray, List.set_cons_zero, List.set_cons_succ]
  refine Od.anyH_sl (i := 3) (v := .agg (lkL (p.L k) (v.l k)).toArray) (some 59) rfl rfl (by kernel_rfl) (by kernel_rfl) (by kernel_rfl) (fun _ _ _ h => h) (Or.inl ⟨by rfl, ?_⟩) hb ?_
  · intro wx hwx; obtain ⟨l1, l2⟩ := hF wx hwx; go_simp
  simp only [Act.put, List.setIfInBounds_toArray, List.set_cons_zero, List.set_cons_succ]
  refine Od.anyH_sl (i := 4) (v := .int .i64 (k : Int)) (some 60) rfl rfl (by kernel_rfl) (by kernel_rfl) (by kernel_rfl) (fun _ _ _ h => h) (Or.inl ⟨by rfl, ?_⟩) hb ?_
  · intro wx hwx; go_simp
  simp only [Act.put, List.setIfInBounds_toArray, List.set_cons_zero, List.set_cons_succ]
  refine Od.anyH_sl (i := 5) (v := .pointer (some ⟨g', 66, none⟩)) (some 61) rfl rfl (by kernel_rfl) (by kernel_rfl) (by kernel_rfl) (fun _ _ _ h => h) (Or.inl ⟨by rfl, ?_⟩) hb ?_
  · intro wx hwx; go_simp
  simp only [Act.put, List.setIfInBounds_toArray, List.set_cons_zero, List.set_cons_succ]
  refine Od.anyH_sl (i := 6) (v := .pointer (some ⟨g', 66 + k * 14, none⟩)) (some 62) rfl rfl (by kernel_rfl) (by kernel_rfl) (by kernel_rfl) (fun _ _ _ h => h) (Or.inl ⟨by rfl, ?_⟩) hb ?_
  · intro wx hwx; go_simp
  simp only [Act.put, List.setIfInBounds_toArray, List.set_cons_zero, List.set_cons_succ]
  refine Od.anyH_sl (i := 7) (v := .agg (lkL (p.L k) (v'.l k)).toArray) (some 63) rfl rfl (by kernel_rfl) (by kernel_rfl) (by kernel_rfl) (fun _ _ _ h => h) (Or.inl ⟨by rfl, ?_⟩) hb ?_
  · intro wx hwx; obtain ⟨l1, l2⟩ := hF wx hwx; go_simp
  simp only [Act.put, List.setIfInBounds_toArray, List.set_cons_zero, List.set_cons_succ]
  refine Od.anyH_two (i := 8) (j := 9) (by kernel_rfl) rfl rfl rfl rfl (fun K hK => ?_) (fun K hK => ?_)
  · go_simp
    refine hK _ _ (hb.alloc (Nat.le_refl _) _) ?_
    clear hK K
    refine Od.anyH_one (i := 9) (by kernel_rfl) rfl rfl (fun K hK => ?_)
    go_simp
    refine hK _ _ ((hb.alloc (Nat.le_refl _) _).alloc (by simp) _) ?_
    clear hK K
    have C0 : CAt 50 ((wl.alloc (.cells #[.bool false, .bool false, .int .i64 0, .slice none 0 0, .bool false, .slice none 0 0, .slice none 0 0, .slice none 0 0, .int .i64 0, .bool false, .int .i64 0, .int .i64 0, .int .i64 0, .int .i64 0] 50)).alloc (.cells #[.bool false, .bool false, .int .i64 0, .slice none 0 0, .bool false, .slice none 0 0, .slice none 0 0, .slice none 0 0, .int .i64 0, .bool false, .int .i64 0, .int .i64 0, .int .i64 0, .int .i64 0] 50)).drew wl.heap.size #[.bool false, .bool false, .int .i64 0, .slice none 0 0, .bool false, .slice none 0 0, .slice none 0 0, .slice none 0 0, .int .i64 0, .bool false, .int .i64 0, .int .i64 0, .int .i64 0, .int .i64 0] := (CAt.new 50 wl #[.bool false, .bool false, .int .i64 0, .slice none 0 0, .bool false, .slice none 0 0, .slice none 0 0, .slice none 0 0, .int .i64 0, .bool false, .int .i64 0, .int .i64 0, .int .i64 0, .int .i64 0]).alloc _
    have C1 : CAt 50 ((wl.alloc (.cells #[.bool false, .bool false, .int .i64 0, .slice none 0 0, .bool false, .slice none 0 0, .slice none 0 0, .slice none 0 0, .int .i64 0, .bool false, .int .i64 0, .int .i64 0, .int .i64 0, .int .i64 0] 50)).alloc (.cells #[.bool false, .bool false, .int .i64 0, .slice none 0 0, .bool false, .slice none 0 0, .slice none 0 0, .slice none 0 0, .int .i64 0, .bool false, .int .i64 0, .int .i64 0, .int .i64 0, .int .i64 0] 50)).drew (wl.heap.size + 1) #[.bool false, .bool false, .int .i64 0, .slice none 0 0, .bool false, .slice none 0 0, .slice none 0 0, .slice none 0 0, .int .i64 0, .bool false, .int .i64 0, .int .i64 0, .int .i64 0, .int .i64 0] := CAt.new2 50 wl (.cells #[.bool false, .bool false, .int .i64 0, .slice none 0 0, .bool false, .slice none 0 0, .slice none 0 0, .slice none 0 0, .int .i64 0, .bool false, .int .i64 0, .int .i64 0, .int .i64 0, .int .i64 0] 50) #[.bool false, .bool false, .int .i64 0, .slice none 0 0, .bool false, .slice none 0 0, .slice none 0 0, .slice none 0 0, .int .i64 0, .bool false, .int .i64 0, .int .i64 0, .int .i64 0, .int .i64 0]
    have hbW : Below wl.heap.size wl ((wl.alloc (.cells #[.bool false, .bool false, .int .i64 0, .slice none 0 0, .bool false, .slice none 0 0, .slice none 0 0, .slice none 0 0, .int .i64 0, .bool false, .int .i64 0, .int .i64 0, .int .i64 0, .int .i64 0] 50)).alloc (.cells #[.bool false, .bool false, .int .i64 0, .slice none 0 0, .bool false, .slice none 0 0, .slice none 0 0, .slice none 0 0, .int .i64 0, .bool false, .int .i64 0, .int .i64 0, .int .i64 0, .int .i64 0] 50)).drew := (((Below.refl _ wl).alloc (Nat.le_refl _) _).alloc (by simp) _).drew
    generalize ((wl.alloc (.cells #[.bool false, .bool false, .int .i64 0, .slice none 0 0, .bool false, .slice none 0 0, .slice none 0 0, .slice none 0 0, .int .i64 0, .bool false, .int .i64 0, .int .i64 0, .int .i64 0, .int .i64 0] 50)).alloc (.cells #[.bool false, .bool false, .int .i64 0, .slice none 0 0, .bool false, .slice none 0 0, .slice none 0 0, .slice none 0 0, .int .i64 0, .bool false, .int .i64 0, .int .i64 0, .int .i64 0, .int .i64 0] 50)).drew = w2 at *
    have o1 : ((lkL (p.L k) (v.l k)).toArray).all (·.oneCell') = true := by rw [Array.all_eq_true_iff_forall_mem]; exact fun u hu => hone.1 u (by simpa using hu)
    have o2 : ((lkL (p.L k) (v'.l k)).toArray).all (·.oneCell') = true := by rw [Array.all_eq_true_iff_forall_mem]; exact fun u hu => hone.2 u (by simpa using hu)
    refine Od.anyH_store (i := 10) (by kernel_rfl) rfl rfl 50 _ _ rfl rfl (wl.heap.size + 0) 0 (lkL (p.L k) (v.l k)).toArray rfl rfl (C0.there 0 _ (by show 0 + 14 ≤ 14; omega)) (by rw [infoLk]; rfl) o1 (below_sets (b := wl.heap.size + 0) (by omega) _ 0 _ hbW) ?_
    refine Od.anyH_store (i := 11) (by kernel_rfl) rfl rfl 50 _ _ rfl rfl (wl.heap.size + 1) 0 (lkL (p.L k) (v'.l k)).toArray rfl rfl ((C1.others (c := wl.heap.size + 0) (o := 0) (by omega) _).there 0 _ (by show 0 + 14 ≤ 14; omega)) (by rw [infoLk]; rfl) o2 (below_sets (b := wl.heap.size + 1) (by omega) _ 0 _ (below_sets (b := wl.heap.size + 0) (by omega) _ 0 _ hbW)) ?_
    have D6 := (CAt.setAll (ds := (lkL (p.L k) (v.l k)).toArray) C0 rfl).others (c := wl.heap.size + 1) (o := 0) (by omega) ((lkL (p.L k) (v'.l k)).toArray).toList
    have D7 := CAt.setAll (ds := (lkL (p.L k) (v'.l k)).toArray) (C1.others (c := wl.heap.size + 0) (o := 0) (by omega) ((lkL (p.L k) (v.l k)).toArray).toList) rfl
    have DB := below_sets (b := wl.heap.size + 1) (by omega) ((lkL (p.L k) (v'.l k)).toArray).toList 0 _ (below_sets (b := wl.heap.size + 0) (by omega) ((lkL (p.L k) (v.l k)).toArray).toList 0 _ hbW)
    refine wpAnyH_done (by kernel_rfl) ?_ _
    exact NoPanic.normal (HK.out (wl.heap.size + 0) (wl.heap.size + 1) _ _ _ _ _ _ _ _ _ DB D6 D7)
  · go_simp
    refine hK _ _ (hb.alloc (Nat.le_refl _) _) ?_
    clear hK K
    refine Od.anyH_one (i := 8) (by kernel_rfl) rfl rfl (fun K hK => ?_)
    go_simp
    refine hK _ _ ((hb.alloc (Nat.le_refl _) _).alloc (by simp) _) ?_
    clear hK K
    have C0 : CAt 50 ((wl.alloc (.cells #[.bool false, .bool false, .int .i64 0, .slice none 0 0, .bool false, .slice none 0 0, .slice none 0 0, .slice none 0 0, .int .i64 0, .bool false, .int .i64 0, .int .i64 0, .int .i64 0, .int .i64 0] 50)).alloc (.cells #[.bool false, .bool false, .int .i64 0, .slice none 0 0, .bool false, .slice none 0 0, .slice none 0 0, .slice none 0 0, .int .i64 0, .bool false, .int .i64 0, .int .i64 0, .int .i64 0, .int .i64 0] 50)).drew wl.heap.size #[.bool false, .bool false, .int .i64 0, .slice none 0 0, .bool false, .slice none 0 0, .slice none 0 0, .slice none 0 0, .int .i64 0, .bool false, .int .i64 0, .int .i64 0, .int .i64 0, .int .i64 0] := (CAt.new 50 wl #[.bool false, .bool false, .int .i64 0, .slice none 0 0, .bool false, .slice none 0 0, .slice none 0 0, .slice none 0 0, .int .i64 0, .bool false, .int .i64 0, .int .i64 0, .int .i64 0, .int .i64 0]).alloc _
    have C1 : CAt 50 ((wl.alloc (.cells #[.bool false, .bool false, .int .i64 0, .slice none 0 0, .bool false, .slice none 0 0, .slice none 0 0, .slice none 0 0, .int .i64 0, .bool false, .int .i64 0, .int .i64 0, .int .i64 0, .int .i64 0] 50)).alloc (.cells #[.bool false, .bool false, .int .i64 0, .slice none 0 0, .bool false, .slice none 0 0, .slice none 0 0, .slice none 0 0, .int .i64 0, .bool false, .int .i64 0, .int .i64 0, .int .i64 0, .int .i64 0] 50)).drew (wl.heap.size + 1) #[.bool false, .bool false, .int .i64 0, .slice none 0 0, .bool false, .slice none 0 0, .slice none 0 0, .slice none 0 0, .int .i64 0, .bool false, .int .i64 0, .int .i64 0, .int .i64 0, .int .i64 0] := CAt.new2 50 wl (.cells #[.bool false, .bool false, .int .i64 0, .slice none 0 0, .bool false, .slice none 0 0, .slice none 0 0, .slice none 0 0, .int .i64 0, .bool false, .int .i64 0, .int .i64 0, .int .i64 0, .int .i64 0] 50) #[.bool false, .bool false, .int .i64 0, .slice none 0 0, .bool false, .slice none 0 0, .slice none 0 0, .slice none 0 0, .int .i64 0, .bool false, .int .i64 0, .int .i64 0, .int .i64 0, .int .i64 0]
    have hbW : Below wl.heap.size wl ((wl.alloc (.cells #[.bool false, .bool false, .int .i64 0, .slice none 0 0, .bool false, .slice none 0 0, .slice none 0 0, .slice none 0 0, .int .i64 0, .bool false, .int .i64 0, .int .i64 0, .int .i64 0, .int .i64 0] 50)).alloc (.cells #[.bool false, .bool false, .int .i64 0, .slice none 0 0, .bool false, .slice none 0 0, .slice none 0 0, .slice none 0 0, .int .i64 0, .bool false, .int .i64 0, .int .i64 0, .int .i64 0, .int .i64 0] 50)).drew := (((Below.refl _ wl).alloc (Nat.le_refl _) _).alloc (by simp) _).drew
    generalize ((wl.alloc (.cells #[.bool false, .bool false, .int .i64 0, .slice none 0 0, .bool false, .slice none 0 0, .slice none 0 0, .slice none 0 0, .int .i64 0, .bool false, .int .i64 0, .int .i64 0, .int .i64 0, .int .i64 0] 50)).alloc (.cells #[.bool false, .bool false, .int .i64 0, .slice none 0 0, .bool false, .slice none 0 0, .slice none 0 0, .slice none 0 0, .int .i64 0, .bool false, .int .i64 0, .int .i64 0, .int .i64 0, .int .i64 0] 50)).drew = w2 at *
    have o1 : ((lkL (p.L k) (v.l k)).toArray).all (·.oneCell') = true := by rw [Array.all_eq_true_iff_forall_mem]; exact fun u hu => hone.1 u (by simpa using hu)
    have o2 : ((lkL (p.L k) (v'.l k)).toArray).all (·.oneCell') = true := by rw [Array.all_eq_true_iff_forall_mem]; exact fun u hu => hone.2 u (by simpa using hu)
    refine Od.anyH_store (i := 10) (by kernel_rfl) rfl rfl 50 _ _ rfl rfl (wl.heap.size + 1) 0 (lkL (p.L k) (v.l k)).toArray rfl rfl (C1.there 0 _ (by show 0 + 14 ≤ 14; omega)) (by rw [infoLk]; rfl) o1 (below_sets (b := wl.heap.size + 1) (by omega) _ 0 _ hbW) ?_
    refine Od.anyH_store (i := 11) (by kernel_rfl) rfl rfl 50 _ _ rfl rfl (wl.heap.size + 0) 0 (lkL (p.L k) (v'.l k)).toArray rfl rfl ((C0.others (c := wl.heap.size + 1) (o := 0) (by omega) _).there 0 _ (by show 0 + 14 ≤ 14; omega)) (by rw [infoLk]; rfl) o2 (below_sets (b := wl.heap.size + 0) (by omega) _ 0 _ (below_sets (b := wl.heap.size + 1) (by omega) _ 0 _ hbW)) ?_
    have D6 := (CAt.setAll (ds := (lkL (p.L k) (v.l k)).toArray) C1 rfl).others (c := wl.heap.size + 0) (o := 0) (by omega) ((lkL (p.L k) (v'.l k)).toArray).toList
    have D7 := CAt.setAll (ds := (lkL (p.L k) (v'.l k)).toArray) (C0.others (c := wl.heap.size + 1) (o := 0) (by omega) ((lkL (p.L k) (v.l k)).toArray).toList) rfl
    have DB := below_sets (b := wl.heap.size + 0) (by omega) ((lkL (p.L k) (v'.l k)).toArray).toList 0 _ (below_sets (b := wl.heap.size + 1) (by omega) ((lkL (p.L k) (v.l k)).toArray).toList 0 _ hbW)
    refine wpAnyH_done (by kernel_rfl) ?_ _
    exact NoPanic.normal (HK.out (wl.heap.size + 1) (wl.heap.size + 0) _ _ _ _ _ _ _ _ _ DB D6 D7)
set_option maxHeartbeats 8000000 in
set_option maxRecDepth 1000000 in
theorem sp13_wp (g g' k n bq oq bq' oq' Cq Cq' : Nat) (hk : k < n) (x : Int × Pkt) (y1 y2 y1' y2' : Value) (wl : World) (hF : ∀ wx, Below wl.heap.size wl wx → wx.cell? ⟨g, 96, none⟩ = some (.slice (some ⟨bq, oq, none⟩) n Cq) ∧ wx.cell? ⟨g', 96, none⟩ = some (.slice (some ⟨bq', oq', none⟩) n Cq') ∧ (wx.cell? ⟨bq, oq + k * 7, none⟩ = some (.int .i64 x.1) ∧ wx.cell? ⟨bq, oq + k * 7 + 1, none⟩ = some (.int .i64 x.2.k) ∧ wx.cell? ⟨bq, oq + k * 7 + 2, none⟩ = some (.int .i64 x.2.i) ∧ wx.cell? ⟨bq, oq + k * 7 + 3, none⟩ = some (.int .i64 x.2.v) ∧ wx.cell? ⟨bq, oq + k * 7 + 4, none⟩ = some (.int .i64 x.2.n) ∧ wx.cell? ⟨bq, oq + k * 7 + 5, none⟩ = some y1 ∧ wx.cell? ⟨bq, oq + k * 7 + 6, none⟩ = some y2) ∧ (wx.cell? ⟨bq', oq' + k * 7, none⟩ = some (.int .i64 x.1) ∧ wx.cell? ⟨bq', oq' + k * 7 + 1, none⟩ = some (.int .i64 x.2.k) ∧ wx.cell? ⟨bq', oq' + k * 7 + 2, none⟩ = some (.int .i64 x.2.i) ∧ wx.cell? ⟨bq', oq' + k * 7 + 3, none⟩ = some (.int .i64 x.2.v) ∧ wx.cell? ⟨bq', oq' + k * 7 + 4, none⟩ = some (.int .i64 x.2.n) ∧ wx.cell? ⟨bq', oq' + k * 7 + 5, none⟩ = some y1' ∧ wx.cell? ⟨bq', oq' + k * 7 + 6, none⟩ = some y2'))
    (hcall : ∀ wx, Below wl.heap.size wl wx → Calls Tryz.prog 15 #[.agg #[.int .i64 x.2.k, .int .i64 x.2.i, .int .i64 x.2.v, .int .i64 x.2.n, y1, y2], .agg #[.int .i64 x.2.k, .int .i64 x.2.i, .int .i64 x.2.v, .int .i64 x.2.n, y1', y2']] wx fun e w' => e = .returned (.bool true) ∧ Below wl.heap.size wl w') (v0 v1 v4 v5 v6 v7 v9 v10 v11 v12 v13 v14 v15 v16 v17 v18 v19 v20 v21 v22 v23 v24 v25 v26 v27 v28 v29 v30 v31 v32 v33 v34 v35 v36 v37 v38 v39 v40 v41 v42 v43 v44 v45 v46 v47 v48 v49 v50 v51 v52 v53 v54 v55 v56 v57 v58 v59 v60 v61 v62 v63 v64 v65 v66 v67 v68 v69 v70 v71 v72 v73 v74 v75 v76 v77 v78 v79 v80 v81 v82 v83 v84 v85 v86 v87 v88 v89 v90 v91 v92 v93 v94 v95 v96 v97 v98 v99 v100 v101 v102 v103 v104 v105 v106 v107 v108 v109 v110 v111 v112 v113 v114 v115 v116 v117 v118 v119 v120 v121 v122 v123 v124 v125 v126 v127 v128 v129 v130 v131 v132 v133 v134 v135 v136 v137 v138 v139 v140 v141 v142 v143 v144 v145 v146 v147 v148 v149 v150 v151 v152 v153 v154 v155 v156 v157 : Value) (Q : Exit → Act → World → Prop)
    (hQ : ∀ (t128 t129 t130 t131 t132 t133 t134 t135 t136 t137 t138 t139 t140 t141 t142 t143 t144 t145 t146 t147 t148 t149 t150 t151 t152 t153 t154 t155 : Value) (w5 : World), Below wl.heap.size wl w5 → Q .normal ⟨List.toArray (v0 :: v1 :: (.pointer (some ⟨g, 0, none⟩)) :: (.pointer (some ⟨g', 0, none⟩)) :: v4 :: v5 :: v6 :: v7 :: (.int .i64 (k : Int)) :: v9 :: v10 :: v11 :: v12 :: v13 :: v14 :: v15 :: v16 :: v17 :: v18 :: v19 :: v20 :: v21 :: v22 :: v23 :: v24 :: v25 :: v26 :: v27 :: v28 :: v29 :: v30 :: v31 :: v32 :: v33 :: v34 :: v35 :: v36 :: v37 :: v38 :: v39 :: v40 :: v41 :: v42 :: v43 :: v44 :: v45 :: v46 :: v47 :: v48 :: v49 :: v50 :: v51 :: v52 :: v53 :: v54 :: v55 :: v56 :: v57 :: v58 :: v59 :: v60 :: v61 :: v62 :: v63 :: v64 :: v65 :: v66 :: v67 :: v68 :: v69 :: v70 :: v71 :: v72 :: v73 :: v74 :: v75 :: v76 :: v77 :: v78 :: v79 :: v80 :: v81 :: v82 :: v83 :: v84 :: v85 :: v86 :: v87 :: v88 :: v89 :: v90 :: v91 :: v92 :: v93 :: v94 :: v95 :: v96 :: v97 :: v98 :: v99 :: v100 :: v101 :: v102 :: v103 :: v104 :: v105 :: v106 :: v107 :: v108 :: v109 :: v110 :: v111 :: v112 :: v113 :: v114 :: v115 :: v116 :: v117 :: v118 :: v119 :: v120 :: v121 :: v122 :: v123 :: v124 :: v125 :: v126 :: v127 :: (t128) :: (t129) :: (t130) :: (t131) :: (t132) :: (t133) :: (t134) :: (t135) :: (t136) :: (t137) :: (t138) :: (t139) :: (t140) :: (t141) :: (t142) :: (t143) :: (t144) :: (t145) :: (t146) :: (t147) :: (t148) :: (t149) :: (t150) :: (t151) :: (t152) :: (t153) :: (t154) :: (t155) :: (.bool false) :: v157 :: []), []⟩ w5) :
    Code.wp Tryz.prog sp13C Q ⟨List.toArray (v0 :: v1 :: (.pointer (some ⟨g, 0, none⟩)) :: (.pointer (some ⟨g', 0, none⟩)) :: v4 :: v5 :: v6 :: v7 :: (.int .i64 (k : Int)) :: v9 :: v10 :: v11 :: v12 :: v13 :: v14 :: v15 :: v16 :: v17 :: v18 :: v19 :: v20 :: v21 :: v22 :: v23 :: v24 :: v25 :: v26 :: v27 :: v28 :: v29 :: v30 :: v31 :: v32 :: v33 :: v34 :: v35 :: v36 :: v37 :: v38 :: v39 :: v40 :: v41 :: v42 :: v43 :: v44 :: v45 :: v46 :: v47 :: v48 :: v49 :: v50 :: v51 :: v52 :: v53 :: v54 :: v55 :: v56 :: v57 :: v58 :: v59 :: v60 :: v61 :: v62 :: v63 :: v64 :: v65 :: v66 :: v67 :: v68 :: v69 :: v70 :: v71 :: v72 :: v73 :: v74 :: v75 :: v76 :: v77 :: v78 :: v79 :: v80 :: v81 :: v82 :: v83 :: v84 :: v85 :: v86 :: v87 :: v88 :: v89 :: v90 :: v91 :: v92 :: v93 :: v94 :: v95 :: v96 :: v97 :: v98 :: v99 :: v100 :: v101 :: v102 :: v103 :: v104 :: v105 :: v106 :: v107 :: v108 :: v109 :: v110 :: v111 :: v112 :: v113 :: v114 :: v115 :: v116 :: v117 :: v118 :: v119 :: v120 :: v121 :: v122 :: v123 :: v124 :: v125 :: v126 :: v127 :: v128 :: v129 :: v130 :: v131 :: v132 :: v133 :: v134 :: v135 :: v136 :: v137 :: v138 :: v139 :: v140 :: v141 :: v142 :: v143 :: v144 :: v145 :: v146 :: v147 :: v148 :: v149 :: v150 :: v151 :: v152 :: v153 :: v154 :: v155 :: v156 :: v157 :: []), []⟩ wl := by
  have HK := hide hQ
  have hkk : (k : Int) < (n : Int) := by omega
  have hk0 : (0 : Int) ≤ (k : Int) := by omega
  have HC := hide hcall
  have HF := hide hF
  clear hQ hcall hF
  conv => arg 2; whnf
  refine wp_region_noPanic ?_
  have hb : Below wl.heap.size wl wl.drew := (Below.refl _ wl).drew
  refine wp_region_held (S := fun wx => Below wl.heap.size wl wx) (by kernel_rfl) ?_
  change wpAnyH _ _ _ _ _ _ _ _ wl.drew
  refine Od.anyH_sl (i := 0) (v := .pointer (some ⟨g, 96, none⟩)) (some 128) rfl rfl (by kernel_rfl) (by kernel_rfl) (by kernel_rfl) (fun _ _ _ h => h) (Or.inl ⟨by rfl, ?_⟩) hb ?_
  · intro wx hwx; go_simp
  simp only [Act.put, List.setIfInBounds_toArray, List.set_cons_zero, List.set_cons_succ]
  refine Od.anyH_sl (i := 1) (v := .slice (some ⟨bq, oq, none⟩) n Cq) (some 129) rfl rfl (by kernel_rfl) (by kernel_rfl) (by kernel_rfl) (fun _ _ _ h => h) (Or.inl ⟨by rfl, ?_⟩) hb ?_
  · intro wx hwx; obtain ⟨l1, l2, -, -⟩ := HF.out wx hwx; go_simp
  simp only [Act.put, List.setIfInBounds_toArray, List.set_cons_zero, List.set_cons_succ]
  refine Od.anyH_sl (i := 2) (v := .int .i64 (k : Int)) (some 130) rfl rfl (by kernel_rfl) (by kernel_rfl) (by kernel_rfl) (fun _ _ _ h => h) (Or.inl ⟨by rfl, ?_⟩) hb ?_
  · intro wx hwx; go_simp
  simp only [Act.put, List.setIfInBounds_toArray, List.set_cons_zero, List.set_cons_succ]
  refine Od.anyH_sl (i := 3) (v := .pointer (some ⟨bq, oq + k * 7, none⟩)) (some 131) rfl rfl (by kernel_rfl) (by kernel_rfl) (by kernel_rfl) (fun _ _ _ h => h) (Or.inl ⟨by rfl, ?_⟩) hb ?_
  · intro wx hwx; go_simp
  simp only [Act.put, List.setIfInBounds_toArray, List.set_cons_zero, List.set_cons_succ]
  refine Od.anyH_sl (i := 4) (v := .pointer (some ⟨bq, oq + k * 7, none⟩)) (some 132) rfl rfl (by kernel_rfl) (by kernel_rfl) (by kernel_rfl) (fun _ _ _ h => h) (Or.inl ⟨by rfl, ?_⟩) hb ?_
  · intro wx hwx; go_simp
  simp only [Act.put, List.setIfInBounds_toArray, List.set_cons_zero, List.set_cons_succ]
  refine Od.anyH_sl (i := 5) (v := .int .i64 x.1) (some 133) rfl rfl (by kernel_rfl) (by kernel_rfl) (by kernel_rfl) (fun _ _ _ h => h) (Or.inl ⟨by rfl, ?_⟩) hb ?_
  · intro wx hwx; obtain ⟨-, -, ⟨a0, a1, a2, a3, a4, a5, a6⟩, -⟩ := HF.out wx hwx; go_simp
  simp only [Act.put, List.setIfInBounds_toArray, List.set_cons_zero, List.set_cons_succ]
  refine Od.anyH_sl (i := 6) (v := .pointer (some ⟨g', 96, none⟩)) (some 134) rfl rfl (by kernel_rfl) (by kernel_rfl) (by kernel_rfl) (fun _ _ _ h => h) (Or.inl ⟨by rfl, ?_⟩) hb ?_
  · intro wx hwx; go_simp
  simp only [Act.put, List.setIfInBounds_toArray, List.set_cons_zero, List.set_cons_succ]
  refine Od.anyH_sl (i := 7) (v := .slice (some ⟨bq', oq', none⟩) n Cq') (some 135) rfl rfl (by kernel_rfl) (by kernel_rfl) (by kernel_rfl) (fun _ _ _ h => h) (Or.inl ⟨by rfl, ?_⟩) hb ?_
  · intro wx hwx; obtain ⟨l1, l2, -, -⟩ := HF.out wx hwx; go_simp
  simp only [Act.put, List.setIfInBounds_toArray, List.set_cons_zero, List.set_cons_succ]
  refine Od.anyH_sl (i := 8) (v := .int .i64 (k : Int)) (some 136) rfl rfl (by kernel_rfl) (by kernel_rfl) (by kernel_rfl) (fun _ _ _ h => h) (Or.inl ⟨by rfl, ?_⟩) hb ?_
  · intro wx hwx; go_simp
  simp only [Act.put, List.setIfInBounds_toArray, List.set_cons_zero, List.set_cons_succ]
  refine Od.anyH_sl (i := 9) (v := .pointer (some ⟨bq', oq' + k * 7, none⟩)) (some 137) rfl rfl (by kernel_rfl) (by kernel_rfl) (by kernel_rfl) (fun _ _ _ h => h) (Or.inl ⟨by rfl, ?_⟩) hb ?_
  · intro wx hwx; go_simp
  simp only [Act.put, List.setIfInBounds_toArray, List.set_cons_zero, List.set_cons_succ]
  refine Od.anyH_sl (i := 10) (v := .pointer (some ⟨bq', oq' + k * 7, none⟩)) (some 138) rfl rfl (by kernel_rfl) (by kernel_rfl) (by kernel_rfl) (fun _ _ _ h => h) (Or.inl ⟨by rfl, ?_⟩) hb ?_
  · intro wx hwx; go_simp
  simp only [Act.put, List.setIfInBounds_toArray, List.set_cons_zero, List.set_cons_succ]
  refine Od.anyH_sl (i := 11) (v := .int .i64 x.1) (some 139) rfl rfl (by kernel_rfl) (by kernel_rfl) (by kernel_rfl) (fun _ _ _ h => h) (Or.inl ⟨by rfl, ?_⟩) hb ?_
  · intro wx hwx; obtain ⟨-, -, -, ⟨a0, a1, a2, a3, a4, a5, a6⟩⟩ := HF.out wx hwx; go_simp
  simp only [Act.put, List.setIfInBounds_toArray, List.set_cons_zero, List.set_cons_succ]
  refine Od.anyH_sl (i := 12) (v := .bool false) (some 140) rfl rfl (by kernel_rfl) (by kernel_rfl) (by kernel_rfl) (fun _ _ _ h => h) (Or.inl ⟨by rfl, ?_⟩) hb ?_
  · intro wx hwx; go_simp
  simp only [Act.put, List.setIfInBounds_toArray, List.set_cons_zero, List.set_cons_succ]
  refine Od.anyH_sl (i := 13) (v := .bool false) (some 141) rfl rfl (by kernel_rfl) (by kernel_rfl) (by kernel_rfl) (fun _ _ _ h => h) (Or.inl ⟨by rfl, ?_⟩) hb ?_
  · intro wx hwx; go_simp
  simp only [Act.put, List.setIfInBounds_toArray, List.set_cons_zero, List.set_cons_succ]
  refine Od.anyH_sl (i := 14) (v := .pointer (some ⟨g, 96, none⟩)) (some 142) rfl rfl (by kernel_rfl) (by kernel_rfl) (by kernel_rfl) (fun _ _ _ h => h) (Or.inl ⟨by rfl, ?_⟩) hb ?_
  · intro wx hwx; go_simp
  simp only [Act.put, List.setIfInBounds_toArray, List.set_cons_zero, List.set_cons_succ]
  refine Od.anyH_sl (i := 15) (v := .slice (some ⟨bq, oq, none⟩) n Cq) (some 143) rfl rfl (by kernel_rfl) (by kernel_rfl) (by kernel_rfl) (fun _ _ _ h => h) (Or.inl ⟨by rfl, ?_⟩) hb ?_
  · intro wx hwx; obtain ⟨l1, l2, -, -⟩ := HF.out wx hwx; go_simp
  simp only [Act.put, List.setIfInBounds_toArray, List.set_cons_zero, List.set_cons_succ]
  refine Od.anyH_sl (i := 16) (v := .int .i64 (k : Int)) (some 144) rfl rfl (by kernel_rfl) (by kernel_rfl) (by kernel_rfl) (fun _ _ _ h => h) (Or.inl ⟨by rfl, ?_⟩) hb ?_
  · intro wx hwx; go_simp
  simp only [Act.put, List.setIfInBounds_toArray, List.set_cons_zero, List.set_cons_succ]
  refine Od.anyH_sl (i := 17) (v := .pointer (some ⟨bq, oq + k * 7, none⟩)) (some 145) rfl rfl (by kernel_rfl) (by kernel_rfl) (by kernel_rfl) (fun _ _ _ h => h) (Or.inl ⟨by rfl, ?_⟩) hb ?_
  · intro wx hwx; go_simp
  simp only [Act.put, List.setIfInBounds_toArray, List.set_cons_zero, List.set_cons_succ]
  refine Od.anyH_sl (i := 18) (v := .pointer (some ⟨bq, oq + k * 7 + 1, none⟩)) (some 146) rfl rfl (by kernel_rfl) (by kernel_rfl) (by kernel_rfl) (fun _ _ _ h => h) (Or.inl ⟨by rfl, ?_⟩) hb ?_
  · intro wx hwx; go_simp
  simp only [Act.put, List.setIfInBounds_toArray, List.set_cons_zero, List.set_cons_succ]
  refine Od.anyH_sl (i := 19) (v := .agg #[.int .i64 x.2.k, .int .i64 x.2.i, .int .i64 x.2.v, .int .i64 x.2.n, y1, y2]) (some 147) rfl rfl (by kernel_rfl) (by kernel_rfl) (by kernel_rfl) (fun _ _ _ h => h) (Or.inl ⟨by rfl, ?_⟩) hb ?_
  · intro wx hwx; obtain ⟨-, -, ⟨a0, a1, a2, a3, a4, a5, a6⟩, -⟩ := HF.out wx hwx; go_simp
  simp only [Act.put, List.setIfInBounds_toArray, List.set_cons_zero, List.set_cons_succ]
  refine Od.anyH_sl (i := 20) (v := .pointer (some ⟨g', 96, none⟩)) (some 148) rfl rfl (by kernel_rfl) (by kernel_rfl) (by kernel_rfl) (fun _ _ _ h => h) (Or.inl ⟨by rfl, ?_⟩) hb ?_
  · intro wx hwx; go_simp
  simp only [Act.put, List.setIfInBounds_toArray, List.set_cons_zero, List.set_cons_succ]
  refine Od.anyH_sl (i := 21) (v := .slice (some ⟨bq', oq', none⟩) n Cq') (some 149) rfl rfl (by kernel_rfl) (by kernel_rfl) (by kernel_rfl) (fun _ _ _ h => h) (Or.inl ⟨by rfl, ?_⟩) hb ?_
  · intro wx hwx; obtain ⟨l1, l2, -, -⟩ := HF.out wx hwx; go_simp
  simp only [Act.put, List.setIfInBounds_toArray, List.set_cons_zero, List.set_cons_succ]
  refine Od.anyH_sl (i := 22) (v := .int .i64 (k : Int)) (some 150) rfl rfl (by kernel_rfl) (by kernel_rfl) (by kernel_rfl) (fun _ _ _ h => h) (Or.inl ⟨by rfl, ?_⟩) hb ?_
  · intro wx hwx; go_simp
  simp only [Act.put, List.setIfInBounds_toArray, List.set_cons_zero, List.set_cons_succ]
  refine Od.anyH_sl (i := 23) (v := .pointer (some ⟨bq', oq' + k * 7, none⟩)) (some 151) rfl rfl (by kernel_rfl) (by kernel_rfl) (by kernel_rfl) (fun _ _ _ h => h) (Or.inl ⟨by rfl, ?_⟩) hb ?_
  · intro wx hwx; go_simp
  simp only [Act.put, List.setIfInBounds_toArray, List.set_cons_zero, List.set_cons_succ]
  refine Od.anyH_sl (i := 24) (v := .pointer (some ⟨bq', oq' + k * 7 + 1, none⟩)) (some 152) rfl rfl (by kernel_rfl) (by kernel_rfl) (by kernel_rfl) (fun _ _ _ h => h) (Or.inl ⟨by rfl, ?_⟩) hb ?_
  · intro wx hwx; go_simp
  simp only [Act.put, List.setIfInBounds_toArray, List.set_cons_zero, List.set_cons_succ]
  refine Od.anyH_sl (i := 25) (v := .agg #[.int .i64 x.2.k, .int .i64 x.2.i, .int .i64 x.2.v, .int .i64 x.2.n, y1', y2']) (some 153) rfl rfl (by kernel_rfl) (by kernel_rfl) (by kernel_rfl) (fun _ _ _ h => h) (Or.inl ⟨by rfl, ?_⟩) hb ?_
  · intro wx hwx; obtain ⟨-, -, -, ⟨a0, a1, a2, a3, a4, a5, a6⟩⟩ := HF.out wx hwx; go_simp
  simp only [Act.put, List.setIfInBounds_toArray, List.set_cons_zero, List.set_cons_succ]
  refine wpAnyH_ready (rs := [26]) (by kernel_rfl) (by simp) ?_
  refine AllReadyH.cons rfl (fun K hK => ?_) AllReadyH.nil
  rw [if_pos (by rfl)]
  go_simp
  refine (HC.out _ (by exact hb)).mono ?_
  rintro e wy ⟨rfl, hbn⟩
  refine hK.out _ _ hbn (fun _ => ?_)
  clear hK K hb
  have hb := hbn
  clear hbn
  refine Od.anyH_sl (i := 27) (v := .bool false) (some 155) rfl rfl (by kernel_rfl) (by kernel_rfl) (by kernel_rfl) (fun _ _ _ h => h) (Or.inl ⟨by rfl, ?_⟩) hb ?_
  · intro wx hwx; go_simp
  simp only [Act.put, List.setIfInBounds_toArray, List.set_cons_zero, List.set_cons_succ]
  refine Od.anyH_sl (i := 28) (v := .bool false) (some 156) rfl rfl (by kernel_rfl) (by kernel_rfl) (by kernel_rfl) (fun _ _ _ h => h) (Or.inl ⟨by rfl, ?_⟩) hb ?_
  · intro wx hwx; go_simp
  simp only [Act.put, List.setIfInBounds_toArray, List.set_cons_zero, List.set_cons_succ]
  refine wpAnyH_done (by kernel_rfl) ?_ _
  exact NoPanic.normal (HK.out _ _ _ _ _ _ _ _ _ _ _ _ _ _ _ _ _ _ _ _ _ _ _ _ _ _ _ _ _ hb)
end Go.Proofs.YtnamphhchecaeaaGreat.Pv

