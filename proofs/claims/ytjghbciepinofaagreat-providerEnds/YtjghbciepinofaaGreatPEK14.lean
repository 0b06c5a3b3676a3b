/- Parts of the proof: PRT PRG. -/
import Derived.Test.YtjghbciepinofaaGreatRows
import Derived.Test.YtjghbciepinofaaGreatPEK2
import Derived.Test.YtjghbciepinofaaGreatPEK3
import Derived.Test.YtjghbciepinofaaGreatPEK12
import Derived.Test.YtjghbciepinofaaGreatPEK13
import Derived.Test.YtjghbciepinofaaGreatPEK23
import Derived.Test.YtjghbciepinofaaGreatPEK54
set_option maxRecDepth 100000
namespace Go.Proofs.YtjghbciepinofaaGreat.Pv
open Go.RowKit
def tells (p : Pr) : Nat → Pr
  | 0 => p
  | k + 1 => tellP (tells p k) k
structure TQu (P : Nat → Prop) (w1 : World) (g : Nat) (r : Pr) (wl : World) : Prop where
  st : ∃ (v : PrV) (Q : Nat → Prop), CAt 47 wl g (prC r v) ∧ PIn Q wl r v ∧ (∀ b, Q b → New P w1 0 b) ∧ ¬ Q g
  A : Alt g w1 wl
def Joins (F : Option Addr → Nat → Act) (R : Option Addr → Nat → World → Prop) (ex : Exit) (a : Act) (w : World) : Prop := ∃ A C, ex = Exit.normal ∧ a = F A C ∧ R A C w
theorem wp_joins {P : Program} {c : Code} {Q : Exit → Act → World → Prop} {a : Act} {w : World} (R : Option Addr → Nat → World → Prop) (F : Option Addr → Nat → Act) (h1 : Code.wp P c (Joins F R) a w) (h2 : ∀ A C w', R A C w' → Q Exit.normal (F A C) w') : Code.wp P c Q a w :=
  Code.wp_mono (fun e a' w' h => by obtain ⟨A, C, rfl, rfl, h⟩ := h; exact h2 A C w' h) h1
theorem tells_rest (p : Pr) : ∀ k, (tells p k).h = p.h ∧ (tells p k).t = p.t ∧ (tells p k).set = p.set ∧ ∀ j, k ≤ j → (tells p k).L j = p.L j
  | 0 => ⟨rfl, rfl, rfl, fun _ _ => rfl⟩
  | k + 1 => by
    obtain ⟨h1, h2, h3, h4⟩ := tells_rest p k
    obtain ⟨a1, a2, a3, a4, -⟩ := tell_rest (tells p k) k
    exact ⟨a1.trans h1, a2.trans h2, a4.trans h3, fun j hj => (tell_offk (tells p k) k j (by omega)).trans (h4 j (by omega))⟩
/-- what region 37 loads, whatever it has stored -/
structure LnK (g g7 : Nat) (a b c d e : Value) (wx : World) : Prop where
  l0 : wx.cell? ⟨g7, 0, none⟩ = some a
  l1 : wx.cell? ⟨g7, 0 + 1, none⟩ = some b
  l2 : wx.cell? ⟨g7, 0 + 2, none⟩ = some c
  l3 : wx.cell? ⟨g7, 0 + 3, none⟩ = some d
  l65 : wx.cell? ⟨g, 65, none⟩ = some e
theorem LnK.put {g g7 o : Nat} {a b c d e : Value} {w : World} (h : LnK g g7 a b c d e w) (hn : g ≠ g7) (ho : 65 < o) (v : Value) : LnK g g7 a b c d e (w.setCell ⟨g, o, none⟩ v) :=
  ⟨(World.cell?_setCell_far _ _ _ _ hn).trans h.l0, (World.cell?_setCell_far _ _ _ _ hn).trans h.l1, (World.cell?_setCell_far _ _ _ _ hn).trans h.l2, (World.cell?_setCell_far _ _ _ _ hn).trans h.l3,
    (World.cell?_setCell_other _ _ _ _ (by intro e; injection e with _ e _; omega)).trans h.l65⟩
theorem LnK.sets {g g7 o : Nat} {a b c d e : Value} {w : World} (h : LnK g g7 a b c d e w) (hn : g ≠ g7) (ho : 65 < o) (vs : List Value) : LnK g g7 a b c d e (w.setCells g o vs) :=
  ⟨(World.cell?_setCells_out g vs o w _ fun e _ => absurd e.symm hn).trans h.l0, (World.cell?_setCells_out g vs o w _ fun e _ => absurd e.symm hn).trans h.l1, (World.cell?_setCells_out g vs o w _ fun e _ => absurd e.symm hn).trans h.l2, (World.cell?_setCells_out g vs o w _ fun e _ => absurd e.symm hn).trans h.l3,
    (World.cell?_setCells_out g vs o w _ fun _ _ => .inl ho).trans h.l65⟩
theorem tq_told {P Q5 : Nat → Prop} {w1 wr w8 : World} {g k o : Nat} {r : Pr} {v : PrV} {x : Ln.Line} {S U T : Value} (hlt : k < 2) (ho : o = 66 + k * 14) (C8 : CAt 47 w8 g (prC r v)) (P8 : PIn (New Q5 wr 0) w8 r v) (hg : ¬ New Q5 wr 0 g) (hq : ∀ b, New Q5 wr 0 b → New P w1 0 b) (A8 : Alt g w1 w8) (R1 : RepC (New Q5 wr 0) w8 S 1 16 (txC x.S)) (R2 : RepC (New Q5 wr 0) w8 U 1 8 (inC x.D)) (T8 : Rep (New Q5 wr 0) w8 T 2 16 (pwC r.set)) :
    TQu P w1 g { r with L := updL r.L k { r.L k with out := x, told := r.set, fresh := false, done := [] } } ((((w8.setCells g (o + 6) [S, U, .int .i64 x.g, .bool x.cl]).setCell ⟨g, o + 3, none⟩ T).setCell ⟨g, o + 4, none⟩ (.bool false)).setCell ⟨g, o + 5, none⟩ (.slice none 0 0)) := by
  subst ho
  have hk : ∀ b, New Q5 wr 0 b → b ≠ g := fun b hb e => hg (by rw [← e]; exact hb)
  have hks : ∀ b, New Q5 wr 0 b → ((((w8.setCells g (66 + k * 14 + 6) [S, U, .int .i64 x.g, .bool x.cl]).setCell ⟨g, 66 + k * 14 + 3, none⟩ T).setCell ⟨g, 66 + k * 14 + 4, none⟩ (.bool false)).setCell ⟨g, 66 + k * 14 + 5, none⟩ (.slice none 0 0)).heap[b]? = w8.heap[b]? := fun b hb => (Below.heap_setCell _ _ _ _ (hk b hb)).trans ((Below.heap_setCell _ _ _ _ (hk b hb)).trans ((Below.heap_setCell _ _ _ _ (hk b hb)).trans (heap_sets (hk b hb) _ _ _)))
  have C6 : CAt 47 (w8.setCells g (66 + k * 14 + 6) [S, U, .int .i64 x.g, .bool x.cl]) g (((((prC r v).setIfInBounds (66 + k * 14 + 6) S).setIfInBounds (66 + k * 14 + 7) U).setIfInBounds (66 + k * 14 + 8) (.int .i64 x.g)).setIfInBounds (66 + k * 14 + 9) (.bool x.cl)) := (((C8.set (66 + k * 14 + 6) _).set (66 + k * 14 + 7) _).set (66 + k * 14 + 8) _).set (66 + k * 14 + 9) _
  have C9 := ((C6.set (66 + k * 14 + 3) T).set (66 + k * 14 + 4) (.bool false)).set (66 + k * 14 + 5) (.slice none 0 0)
  rw [lk_told k hlt x r.set T S U] at C9
  exact ⟨⟨_, _, C9, told_in (P8.keep fun b hb _ => hks b hb) k x _ _ _ (T8.keep fun b hb _ => hks b hb) (R1.keep fun b hb _ => hks b hb) (R2.keep fun b hb _ => hks b hb), hq, hg⟩, (((A8.sets _ _).put _ _).put _ _).put _ _⟩
noncomputable def rtC : Code := subC [1, 1, 1, 1, 1, 1, 1, 1, 1, 1, 1, 1, 0] (Tryz.f17.body.getD .skip)
attribute [local go_sem ↓] loadS_eq loadP_eq storeP_eq storeS_eq storeK_eq storeN_eq
set_option maxRecDepth 1000000 in
set_option maxHeartbeats 16000000 in
theorem rtell_piece (p : Pr) (P : Nat → Prop) (w1 : World) (g : Nat) (now : Int) (hn : p.t = now) (hn0 : 0 ≤ now) (hn1 : now ≤ 1099511627776) (_hgw : g < w1.heap.size) (h0 : TQu P w1 g p w1) (hset : setB (-1) p.set = true) (htold : ∀ c, c < 2 → setB (-1) (p.L c).told = true) (v0 v2 v3 v4 v5 v6 v8 v9 v10 v11 v12 v13 v14 v15 v16 v17 v18 v19 v20 v21 v22 v23 v24 v25 v26 v27 v28 v29 v30 v31 v32 v33 v34 v35 v36 v37 v38 v39 v40 v41 v42 v43 v44 v45 v46 v47 v48 v49 v50 v51 v52 v53 v54 v55 v56 v57 v58 v59 v60 v61 v62 v63 v64 v65 v66 v67 v68 v69 v70 v71 v72 v73 v74 v75 v76 v77 v78 v79 v80 v81 v82 v83 v84 v85 v86 v87 v88 v89 v90 v91 v92 v93 v94 v95 v96 v97 v98 v99 v100 v101 v102 v103 v104 v105 v106 v107 v108 v109 v110 v111 v112 v113 v114 v115 v116 v117 v118 v119 v120 v121 v122 v123 v124 v125 v126 v127 v128 v129 v130 v131 v132 v133 v134 v135 v136 v137 v138 v139 v140 v141 v142 v143 v144 v145 v146 v147 v148 v149 v150 v151 v152 v153 v154 v155 v156 v157 v158 v159 v160 v161 v162 v163 v164 v165 v166 v167 v168 v169 v170 v171 v172 v173 v174 v175 v176 v177 v178 v179 v180 v181 v182 v183 v184 v185 v186 v187 v188 : Value) {Q : Exit → Act → World → Prop}
    (hQ : ∀ (t16 t17 t18 t19 t20 t21 t107 t108 t109 t110 t111 t112 t113 t114 t115 t116 t117 t118 t119 t120 t121 t122 t123 t124 t125 t126 t127 t128 t129 t130 t131 t132 t133 t134 t135 t136 t137 t138 t139 t140 t141 t142 t143 t144 t145 t146 t147 t148 t149 t150 t151 t152 t153 t154 t155 t156 t157 t158 t159 t160 t161 t162 t163 t164 t165 t166 t167 t168 t169 t170 t171 t172 t173 t174 t175 t176 t177 t178 t179 t180 t181 t182 t183 t184 t185 t186 : Value) (wz : World), TQu P w1 g (tells p 2) wz → Q .normal ⟨List.toArray (v0 :: (.int .i64 now) :: v2 :: v3 :: v4 :: v5 :: v6 :: (.pointer (some ⟨g, 0, none⟩)) :: v8 :: v9 :: v10 :: v11 :: v12 :: v13 :: v14 :: v15 :: t16 :: t17 :: t18 :: t19 :: t20 :: t21 :: v22 :: v23 :: v24 :: v25 :: v26 :: v27 :: v28 :: v29 :: v30 :: v31 :: v32 :: v33 :: v34 :: v35 :: v36 :: v37 :: v38 :: v39 :: v40 :: v41 :: v42 :: v43 :: v44 :: v45 :: v46 :: v47 :: v48 :: v49 :: v50 :: v51 :: v52 :: v53 :: v54 :: v55 :: v56 :: v57 :: v58 :: v59 :: v60 :: v61 :: v62 :: v63 :: v64 :: v65 :: v66 :: v67 :: v68 :: v69 :: v70 :: v71 :: v72 :: v73 :: v74 :: v75 :: v76 :: v77 :: v78 :: v79 :: v80 :: v81 :: v82 :: v83 :: v84 :: v85 :: v86 :: v87 :: v88 :: v89 :: v90 :: v91 :: v92 :: v93 :: v94 :: v95 :: v96 :: v97 :: v98 :: v99 :: v100 :: v101 :: v102 :: v103 :: v104 :: v105 :: v106 :: t107 :: t108 :: t109 :: t110 :: t111 :: t112 :: t113 :: t114 :: t115 :: t116 :: t117 :: t118 :: t119 :: t120 :: t121 :: t122 :: t123 :: t124 :: t125 :: t126 :: t127 :: t128 :: t129 :: t130 :: t131 :: t132 :: t133 :: t134 :: t135 :: t136 :: t137 :: t138 :: t139 :: t140 :: t141 :: t142 :: t143 :: t144 :: t145 :: t146 :: t147 :: t148 :: t149 :: t150 :: t151 :: t152 :: t153 :: t154 :: t155 :: t156 :: t157 :: t158 :: t159 :: t160 :: t161 :: t162 :: t163 :: t164 :: t165 :: t166 :: t167 :: t168 :: t169 :: t170 :: t171 :: t172 :: t173 :: t174 :: t175 :: t176 :: t177 :: t178 :: t179 :: t180 :: t181 :: t182 :: t183 :: t184 :: t185 :: t186 :: v187 :: v188 :: []), []⟩ wz) :
    Code.wp Tryz.prog rtC Q ⟨List.toArray (v0 :: (.int .i64 now) :: v2 :: v3 :: v4 :: v5 :: v6 :: (.pointer (some ⟨g, 0, none⟩)) :: v8 :: v9 :: v10 :: v11 :: v12 :: v13 :: v14 :: v15 :: v16 :: v17 :: v18 :: v19 :: v20 :: v21 :: v22 :: v23 :: v24 :: v25 :: v26 :: v27 :: v28 :: v29 :: v30 :: v31 :: v32 :: v33 :: v34 :: v35 :: v36 :: v37 :: v38 :: v39 :: v40 :: v41 :: v42 :: v43 :: v44 :: v45 :: v46 :: v47 :: v48 :: v49 :: v50 :: v51 :: v52 :: v53 :: v54 :: v55 :: v56 :: v57 :: v58 :: v59 :: v60 :: v61 :: v62 :: v63 :: v64 :: v65 :: v66 :: v67 :: v68 :: v69 :: v70 :: v71 :: v72 :: v73 :: v74 :: v75 :: v76 :: v77 :: v78 :: v79 :: v80 :: v81 :: v82 :: v83 :: v84 :: v85 :: v86 :: v87 :: v88 :: v89 :: v90 :: v91 :: v92 :: v93 :: v94 :: v95 :: v96 :: v97 :: v98 :: v99 :: v100 :: v101 :: v102 :: v103 :: v104 :: v105 :: v106 :: v107 :: v108 :: v109 :: v110 :: v111 :: v112 :: v113 :: v114 :: v115 :: v116 :: v117 :: v118 :: v119 :: v120 :: v121 :: v122 :: v123 :: v124 :: v125 :: v126 :: v127 :: v128 :: v129 :: v130 :: v131 :: v132 :: v133 :: v134 :: v135 :: v136 :: v137 :: v138 :: v139 :: v140 :: v141 :: v142 :: v143 :: v144 :: v145 :: v146 :: v147 :: v148 :: v149 :: v150 :: v151 :: v152 :: v153 :: v154 :: v155 :: v156 :: v157 :: v158 :: v159 :: v160 :: v161 :: v162 :: v163 :: v164 :: v165 :: v166 :: v167 :: v168 :: v169 :: v170 :: v171 :: v172 :: v173 :: v174 :: v175 :: v176 :: v177 :: v178 :: v179 :: v180 :: v181 :: v182 :: v183 :: v184 :: v185 :: v186 :: v187 :: v188 :: []), []⟩ w1 := by
  have HK := hide hQ
  clear hQ
  conv => arg 2; whnf
  have H0 := hide h0
  have HT := hide (show _ ∧ _ ∧ _ from ⟨hn, hset, htold⟩)
  clear h0 hn hset htold
  go_upto_region 28 with fail
  go_loopw [107] (fun i wl => ∃ (k : Nat), k ≤ 2 ∧ i = .int .i64 (k : Int) ∧ Hid (TQu P w1 g (tells p k) wl)) (fun i _ => 2 - (intOf i).toNat)
  case atStart => exact ⟨0, Nat.zero_le _, rfl, H0⟩
  case round =>
    obtain ⟨k, hk, rfl, HR⟩ := hrel
    by_cases hlt : k < 2
    rotate_left
    · obtain rfl : k = 2 := by omega
      go_wp2
      exact HK.out _ _ _ _ _ _ _ _ _ _ _ _ _ _ _ _ _ _ _ _ _ _ _ _ _ _ _ _ _ _ _ _ _ _ _ _ _ _ _ _ _ _ _ _ _ _ _ _ _ _ _ _ _ _ _ _ _ _ _ _ _ _ _ _ _ _ _ _ _ _ _ _ _ _ _ _ _ _ _ _ _ _ _ _ _ _ _ HR.out
    have hkI : (k : Int) < 2 := by omega
    have hk0 : (0 : Int) ≤ (k : Int) := by omega
    obtain ⟨r1, r2, r3, r4⟩ := tells_rest p k
    have HST : Hid (tells p (k + 1) = tellP (tells p k) k) := rfl
    have hsr : setB (-1) (tells p k).set = true := by rw [r3]; exact HT.out.2.1
    have htr : setB (-1) ((tells p k).L k).told = true := by rw [r4 k (Nat.le_refl _)]; exact HT.out.2.2 k hlt
    have htn : (tells p k).t = now := r2.trans HT.out.1
    generalize tells p k = r at *
    obtain ⟨⟨v, Q5, C5, P5, hq1, hq2⟩, A5⟩ := HR.out
    have hD : tellP r k = if quietB r (r.L k) = true then r
      else if Cd.goodN 1 r.h 0 0 (Df.diffL (r.L k).told r.set) (r.L k).done = 0 then
        if Ln.sayE (r.L k).out (now + 40) = 0 then { r with L := updL r.L k { r.L k with out := Ln.sayL (r.L k).out (Cd.encS 1 r.h 0 0 (Df.diffL (r.L k).told r.set) (r.L k).done) (now + 40), told := r.set, fresh := false, done := [] } } else r
      else r := by rw [← htn]; rfl
    have hQB : quietB r (r.L k) = (!(r.L k).on || (decide (((Df.diffL (r.L k).told r.set).length : Int) + ((r.L k).done.length : Int) = 0) && !(r.L k).fresh)) := by
      have hdn := diff_nil htr hsr
      unfold quietB
      cases (r.L k).on
      · rfl
      · show (decide ((r.L k).told = r.set) && !(r.L k).fresh && decide ((r.L k).done.length = 0)) = (decide (((Df.diffL (r.L k).told r.set).length : Int) + ((r.L k).done.length : Int) = 0) && !(r.L k).fresh)
        rw [Bool.eq_iff_iff]
        simp only [Bool.and_eq_true, decide_eq_true_eq]
        rw [← hdn]
        constructor
        · rintro ⟨⟨h1, h2⟩, h3⟩; exact ⟨by omega, h2⟩
        · rintro ⟨h1, h2⟩; exact ⟨⟨by omega, h2⟩, by omega⟩
    have HD := hide hD
    have HQB := hide hQB
    have h6 := diff_len6 (r.L k).told r.set
    clear hD hQB r1 r2 r3 r4 hsr htr
    obtain ⟨At, nt, Ct, et⟩ := (P5.lk k hlt).told.one'
    obtain ⟨As, ns, Cs, es'⟩ := P5.set.one'
    obtain ⟨Ad, Cd0, ed, sd, -⟩ := (P5.lk k hlt).done.open (inC_length _) (by decide)
    have hdl : (r.L k).done.length ≤ 17592186044404 := by omega
    obtain ⟨o, ho⟩ : ∃ o, o = 66 + k * 14 := ⟨_, rfl⟩
    have HO := hide ho
    have HF31 : Hid (∀ wx, Below wr.heap.size wr wx → wx.cell? ⟨g, o + 3, none⟩ = some (.slice At nt Ct) ∧ wx.cell? ⟨g, 65, none⟩ = some (.slice As ns Cs)) := fun wx hb => by
      have C := C5.over hb
      rw [← et, ← es', ho]
      exact ⟨(C.lk hlt).facts.2.2.2.1, C.cell 65⟩
    have HDF := hide (fun (wx : World) (hb : Below wr.heap.size wr wx) => rdiff_rep (r.L k).told r.set (v.l k).told v.set Q5 Q5 wx ((P5.lk k hlt).told.over hb) (P5.set.over hb))
    rw [et, es'] at HDF
    have H5 := hide (show _ ∧ _ ∧ _ ∧ _ ∧ _ from ⟨C5, P5, hq1, hq2, A5⟩)
    have HE := hide (show _ ∧ _ ∧ _ from ⟨et, es', ed⟩)
    have hg5 := C5.lt
    generalize Df.diffL (r.L k).told r.set = dl at *
    clear C5 P5 A5 hq1 hq2 HR et es' ed sd
    go_upto_region 31 with fail
    rw [← ho]
    clear ho
    apply wp_joins (fun Au Cu w' => Rep (fun b => wr.heap.size ≤ b) w' (.slice Au dl.length Cu) 2 16 (pwC dl) ∧ Below wr.heap.size wr w')
    · refine wp_region_noPanic ?_
      refine wp_region_held_drew (S := fun wx => Below wr.heap.size wr wx) (by kernel_rfl) (Below.refl _ _).drew (fun hS => ?_)
      refine Od.anyH_sl (i := 0) (v := (.pointer (some ⟨g, o, none⟩))) (some 113) rfl rfl (by kernel_rfl) (by kernel_rfl) (by kernel_rfl) (fun _ _ _ h => h) (Or.inl ⟨by rfl, fun wx hSw => ?_⟩) hS ?_
      · try dsimp only at hSw
        go_simp
      simp only [Act.put, List.setIfInBounds_toArray, List.set_cons_zero, List.set_cons_succ]
      refine Od.anyH_sl (i := 1) (v := (.pointer (some ⟨g, o, none⟩))) (some 114) rfl rfl (by kernel_rfl) (by kernel_rfl) (by kernel_rfl) (fun _ _ _ h => h) (Or.inl ⟨by rfl, fun wx hSw => ?_⟩) hS ?_
      · try dsimp only at hSw
        go_simp
      simp only [Act.put, List.setIfInBounds_toArray, List.set_cons_zero, List.set_cons_succ]
      refine Od.anyH_sl (i := 2) (v := (.pointer (some ⟨g, o + 3, none⟩))) (some 115) rfl rfl (by kernel_rfl) (by kernel_rfl) (by kernel_rfl) (fun _ _ _ h => h) (Or.inl ⟨by rfl, fun wx hSw => ?_⟩) hS ?_
      · try dsimp only at hSw
        go_simp
      simp only [Act.put, List.setIfInBounds_toArray, List.set_cons_zero, List.set_cons_succ]
      refine Od.anyH_sl (i := 3) (v := (.slice At nt Ct)) (some 116) rfl rfl (by kernel_rfl) (by kernel_rfl) (by kernel_rfl) (fun _ _ _ h => h) (Or.inl ⟨by rfl, fun wx hSw => ?_⟩) hS ?_
      · try dsimp only at hSw
        obtain ⟨f3, f65⟩ := HF31.out wx hSw; go_simp
      simp only [Act.put, List.setIfInBounds_toArray, List.set_cons_zero, List.set_cons_succ]
      refine Od.anyH_sl (i := 4) (v := (.pointer (some ⟨g, 65, none⟩))) (some 117) rfl rfl (by kernel_rfl) (by kernel_rfl) (by kernel_rfl) (fun _ _ _ h => h) (Or.inl ⟨by rfl, fun wx hSw => ?_⟩) hS ?_
      · try dsimp only at hSw
        go_simp
      simp only [Act.put, List.setIfInBounds_toArray, List.set_cons_zero, List.set_cons_succ]
      refine Od.anyH_sl (i := 5) (v := (.slice As ns Cs)) (some 118) rfl rfl (by kernel_rfl) (by kernel_rfl) (by kernel_rfl) (fun _ _ _ h => h) (Or.inl ⟨by rfl, fun wx hSw => ?_⟩) hS ?_
      · try dsimp only at hSw
        obtain ⟨f3, f65⟩ := HF31.out wx hSw; go_simp
      simp only [Act.put, List.setIfInBounds_toArray, List.set_cons_zero, List.set_cons_succ]
      refine wpAnyH_ready (rs := [6]) (by kernel_rfl) (by simp) ?_
      refine AllReadyH.cons rfl (fun K hK => ?_) AllReadyH.nil
      go_simp
      go_at_call 51
      refine (HDF.out _ (by exact hS)).mono ?_
      rintro e w2 ⟨u, rfl, U2, hb2⟩
      obtain ⟨Au, Cu, rfl, -⟩ := U2.open (pwC_length _) (by decide)
      replace hS := hS.trans (hb2.mono hS.size)
      dsimp only
      refine hK.out _ _ hS (fun hS => ?_)
      clear hK K
      try simp only [Act.put, List.setIfInBounds_toArray, List.set_cons_zero, List.set_cons_succ]
      refine Od.anyH_sl (i := 7) (v := (.slice Au dl.length Cu)) (some 18) rfl rfl (by kernel_rfl) (by kernel_rfl) (by kernel_rfl) (fun _ _ _ h => h) (Or.inl ⟨by rfl, fun wx hSw => ?_⟩) hS ?_
      · try dsimp only at hSw
        go_simp
      simp only [Act.put, List.setIfInBounds_toArray, List.set_cons_zero, List.set_cons_succ]
      refine wpAnyH_done (by kernel_rfl) ?_ _
      exact NoPanic.normal ⟨Au, Cu, rfl, rfl, U2.over (Below.refl _ _), hS⟩
    rintro Au Cu w2 ⟨U2, hb2⟩
    have H2 := hide (show _ ∧ _ from ⟨U2, hb2⟩)
    have HQR : Hid (∀ wx, Below wr.heap.size wr wx → TQu P w1 g r wx) := fun wx hb => ⟨⟨v, New Q5 wr 0, H5.out.1.over hb, H5.out.2.1.ofNew hb 0, fun b h => (by rcases h with ⟨h, _⟩ | h; exact H5.out.2.2.1 b h; exact .inr (by have := H5.out.2.2.2.2.size; omega)), new_not H5.out.2.2.2.1 hg5⟩, H5.out.2.2.2.2.trans (Alt.of hb)⟩
    have HF2 : Hid (∀ wx, Below w2.heap.size w2 wx → wx.cell? ⟨g, 0, none⟩ = some (.int .i64 r.h) ∧ wx.cell? ⟨g, o, none⟩ = some (.bool (r.L k).on) ∧ wx.cell? ⟨g, o + 4, none⟩ = some (.bool (r.L k).fresh) ∧ wx.cell? ⟨g, o + 5, none⟩ = some (.slice Ad (r.L k).done.length Cd0)) := fun wx hb => by
      have C := (H5.out.1.over H2.out.2).over hb
      have hf := (C.lk hlt).facts
      rw [← HO.out, HE.out.2.2] at hf
      exact ⟨C.cell 0, hf.1, hf.2.2.2.2.1, hf.2.2.2.2.2.1⟩
    obtain ⟨-, a0, a4, a5⟩ := HF2.out w2 (Below.refl _ _)
    have hg2 : g < w2.heap.size := Nat.lt_of_lt_of_le hg5 H2.out.2.size
    have hws : IntKind.i64.wrap ((dl.length : Int) + ((r.L k).done.length : Int)) = (dl.length : Int) + ((r.L k).done.length : Int) := wrapI (by omega) (by omega)
    clear U2 hb2 HF31 HDF
    simp only [Exit.then]
    apply_assumption
    cases hon : (r.L k).on
    · have hq : Hid (tellP r k = r) := HD.out.trans (if_pos (by rw [HQB.out, hon]; rfl))
      rw [hon] at a0
      clear HD HQB
      go_wp2
      go_roundw
      case rel => exact ⟨k + 1, by omega, by go_num, by rw [HST.out, hq.out]; exact HQR.out _ H2.out.2⟩
      case measure => simp [intOf]; omega
    rw [hon] at a0
    by_cases hsum : (dl.length : Int) + ((r.L k).done.length : Int) = 0
    · have hsb : ((dl.length : Int) + ((r.L k).done.length : Int) == 0) = true := by simpa using hsum
      cases hfr : (r.L k).fresh
      · have hq : Hid (tellP r k = r) := HD.out.trans (if_pos (by rw [HQB.out, hon, hfr]; simp [hsum]))
        rw [hfr] at a4
        have hd0 : dl.length = 0 := by omega
        have hd1 : (r.L k).done.length = 0 := by omega
        rw [hd1] at a5
        clear HD HQB
        go_wp2
        exact ⟨⟨k + 1, by omega, by go_num, by rw [HST.out, hq.out]; exact HQR.out _ H2.out.2⟩, by simp [intOf]; omega⟩
      · have hnq : Hid (quietB r (r.L k) = false) := by rw [Hid, HQB.out, hon, hfr]; simp
        rw [hfr] at a4
        go_upto_region 33 with fail
        have HD1 := hide (HD.out.trans (if_neg (by rw [hnq.out]; simp)))
        have HF33 : Hid (∀ wx, Below w2.heap.size w2 wx → wx.cell? ⟨g, 0, none⟩ = some (.int .i64 r.h) ∧ wx.cell? ⟨g, o + 5, none⟩ = some (.slice Ad (r.L k).done.length Cd0)) := fun wx hb => by
          obtain ⟨b0, -, -, b5⟩ := HF2.out wx hb
          exact ⟨b0, b5⟩
        have HEN : Hid (∀ wx, Below w2.heap.size w2 wx → Calls Tryz.prog 52 #[.agg #[.int .i64 1, .int .i64 r.h, .int .i64 0, .int .i64 0, .slice Au dl.length Cu, .slice Ad (r.L k).done.length Cd0]] wx fun e w' => e = .returned (.tuple #[.string (Cd.encS 1 r.h 0 0 dl (r.L k).done), .int .i64 (Cd.goodN 1 r.h 0 0 dl (r.L k).done)]) ∧ Below wx.heap.size wx w') := fun wx hb => by
          have q2 := (((H5.out.2.1.lk k hlt).done.over H2.out.2).over hb).mono (P' := fun _ => True) fun _ _ _ => trivial
          rw [HE.out.2.2] at q2
          have q1 := (H2.out.1.over hb).mono (P' := fun _ => True) fun _ _ _ => trivial
          obtain ⟨A1, C1, A2, C2, sb, so, db, dO, z1, z2, hL⟩ := Rep.lies q1 q2
          cases z1
          cases z2
          exact Cd.ep_any 1 r.h 0 0 dl (r.L k).done Au Ad Cu Cd0 sb so db dO wx hL
        generalize Cd.encS 1 r.h 0 0 dl (r.L k).done = es at *
        generalize Cd.goodN 1 r.h 0 0 dl (r.L k).done = E0 at *
        clear HD HQB hnq a0 a4 a5 hws
        apply wp_join (fun w' => Below w2.heap.size w2 w')
        · refine wp_region_noPanic ?_
          refine wp_region_held_drew (S := fun wx => Below w2.heap.size w2 wx) (by kernel_rfl) (Below.refl _ _).drew (fun hS => ?_)
          refine Od.anyH_sl (i := 0) (v := (.pointer (some ⟨g, 0, none⟩))) (some 144) rfl rfl (by kernel_rfl) (by kernel_rfl) (by kernel_rfl) (fun _ _ _ h => h) (Or.inl ⟨by rfl, fun wx hSw => ?_⟩) hS ?_
          · try dsimp only at hSw
            go_simp
          simp only [Act.put, List.setIfInBounds_toArray, List.set_cons_zero, List.set_cons_succ]
          refine Od.anyH_sl (i := 1) (v := (.int .i64 r.h)) (some 145) rfl rfl (by kernel_rfl) (by kernel_rfl) (by kernel_rfl) (fun _ _ _ h => h) (Or.inl ⟨by rfl, fun wx hSw => ?_⟩) hS ?_
          · try dsimp only at hSw
            obtain ⟨f0, f5⟩ := HF33.out wx hSw; go_simp
          simp only [Act.put, List.setIfInBounds_toArray, List.set_cons_zero, List.set_cons_succ]
          refine Od.anyH_sl (i := 2) (v := (.slice Au dl.length Cu)) (some 146) rfl rfl (by kernel_rfl) (by kernel_rfl) (by kernel_rfl) (fun _ _ _ h => h) (Or.inl ⟨by rfl, fun wx hSw => ?_⟩) hS ?_
          · try dsimp only at hSw
            go_simp
          simp only [Act.put, List.setIfInBounds_toArray, List.set_cons_zero, List.set_cons_succ]
          refine Od.anyH_sl (i := 3) (v := (.pointer (some ⟨g, o, none⟩))) (some 147) rfl rfl (by kernel_rfl) (by kernel_rfl) (by kernel_rfl) (fun _ _ _ h => h) (Or.inl ⟨by rfl, fun wx hSw => ?_⟩) hS ?_
          · try dsimp only at hSw
            go_simp
          simp only [Act.put, List.setIfInBounds_toArray, List.set_cons_zero, List.set_cons_succ]
          refine Od.anyH_sl (i := 4) (v := (.pointer (some ⟨g, o, none⟩))) (some 148) rfl rfl (by kernel_rfl) (by kernel_rfl) (by kernel_rfl) (fun _ _ _ h => h) (Or.inl ⟨by rfl, fun wx hSw => ?_⟩) hS ?_
          · try dsimp only at hSw
            go_simp
          simp only [Act.put, List.setIfInBounds_toArray, List.set_cons_zero, List.set_cons_succ]
          refine Od.anyH_sl (i := 5) (v := (.pointer (some ⟨g, o + 5, none⟩))) (some 149) rfl rfl (by kernel_rfl) (by kernel_rfl) (by kernel_rfl) (fun _ _ _ h => h) (Or.inl ⟨by rfl, fun wx hSw => ?_⟩) hS ?_
          · try dsimp only at hSw
            go_simp
          simp only [Act.put, List.setIfInBounds_toArray, List.set_cons_zero, List.set_cons_succ]
          refine Od.anyH_sl (i := 6) (v := (.slice Ad (r.L k).done.length Cd0)) (some 150) rfl rfl (by kernel_rfl) (by kernel_rfl) (by kernel_rfl) (fun _ _ _ h => h) (Or.inl ⟨by rfl, fun wx hSw => ?_⟩) hS ?_
          · try dsimp only at hSw
            obtain ⟨f0, f5⟩ := HF33.out wx hSw; go_simp
          simp only [Act.put, List.setIfInBounds_toArray, List.set_cons_zero, List.set_cons_succ]
          refine Od.anyH_sl (i := 7) (v := (.agg #[.int .i64 1, .int .i64 r.h, .int .i64 0, .int .i64 0, .slice Au dl.length Cu, .slice Ad (r.L k).done.length Cd0])) (some 151) rfl rfl (by kernel_rfl) (by kernel_rfl) (by kernel_rfl) (fun _ _ _ h => h) (Or.inl ⟨by rfl, fun wx hSw => ?_⟩) hS ?_
          · try dsimp only at hSw
            go_simp
          simp only [Act.put, List.setIfInBounds_toArray, List.set_cons_zero, List.set_cons_succ]
          refine wpAnyH_ready (rs := [8]) (by kernel_rfl) (by simp) ?_
          refine AllReadyH.cons rfl (fun K hK => ?_) AllReadyH.nil
          go_simp
          go_at_call 52
          refine (HEN.out _ (by exact hS)).mono ?_
          rintro e w3 ⟨rfl, hb3⟩
          replace hS := hS.trans (hb3.mono hS.size)
          dsimp only
          refine hK.out _ _ hS (fun hS => ?_)
          clear hK K
          try simp only [Act.put, List.setIfInBounds_toArray, List.set_cons_zero, List.set_cons_succ]
          refine Od.anyH_sl (i := 9) (v := (.tuple #[.string es, .int .i64 E0])) (some 143) rfl rfl (by kernel_rfl) (by kernel_rfl) (by kernel_rfl) (fun _ _ _ h => h) (Or.inl ⟨by rfl, fun wx hSw => ?_⟩) hS ?_
          · try dsimp only at hSw
            go_simp
          simp only [Act.put, List.setIfInBounds_toArray, List.set_cons_zero, List.set_cons_succ]
          refine Od.anyH_sl (i := 10) (v := (.string es)) (some 153) rfl rfl (by kernel_rfl) (by kernel_rfl) (by kernel_rfl) (fun _ _ _ h => h) (Or.inl ⟨by rfl, fun wx hSw => ?_⟩) hS ?_
          · try dsimp only at hSw
            go_simp
          simp only [Act.put, List.setIfInBounds_toArray, List.set_cons_zero, List.set_cons_succ]
          refine Od.anyH_sl (i := 11) (v := (.int .i64 E0)) (some 154) rfl rfl (by kernel_rfl) (by kernel_rfl) (by kernel_rfl) (fun _ _ _ h => h) (Or.inl ⟨by rfl, fun wx hSw => ?_⟩) hS ?_
          · try dsimp only at hSw
            go_simp
          simp only [Act.put, List.setIfInBounds_toArray, List.set_cons_zero, List.set_cons_succ]
          refine Od.anyH_sl (i := 12) (v := (.string es)) (some 19) rfl rfl (by kernel_rfl) (by kernel_rfl) (by kernel_rfl) (fun _ _ _ h => h) (Or.inl ⟨by rfl, fun wx hSw => ?_⟩) hS ?_
          · try dsimp only at hSw
            go_simp
          simp only [Act.put, List.setIfInBounds_toArray, List.set_cons_zero, List.set_cons_succ]
          refine Od.anyH_sl (i := 13) (v := (.int .i64 E0)) (some 20) rfl rfl (by kernel_rfl) (by kernel_rfl) (by kernel_rfl) (fun _ _ _ h => h) (Or.inl ⟨by rfl, fun wx hSw => ?_⟩) hS ?_
          · try dsimp only at hSw
            go_simp
          simp only [Act.put, List.setIfInBounds_toArray, List.set_cons_zero, List.set_cons_succ]
          refine wpAnyH_done (by kernel_rfl) ?_ _
          exact NoPanic.normal ⟨rfl, rfl, hS⟩
        intro w3 b3
        have HB3 := hide (H2.out.2.trans (b3.mono H2.out.2.size))
        clear b3 HF33 HEN HF2 H2
        simp only [Exit.then]
        apply_assumption
        by_cases hE : E0 = 0
        rotate_left
        · have hq : Hid (tellP r k = r) := HD1.out.trans (if_neg hE)
          have hE' : (E0 != 0) = true := by simpa using hE
          clear HD1
          go_wp2
          go_roundw
          case rel => exact ⟨k + 1, by omega, by go_num, by rw [HST.out, hq.out]; exact HQR.out _ HB3.out⟩
          case measure => simp [intOf]; omega
        subst hE
        replace HD1 := hide (HD1.out.trans (if_pos rfl))
        have hsz3 := HB3.out.size
        obtain ⟨Ae, ne, Ce, ee⟩ := (H5.out.2.1.lk k hlt).said.one'
        obtain ⟨Af, nf, Cf, ef⟩ := (H5.out.2.1.lk k hlt).due.one'
        have HSY := hide (rsay_rep (r.L k).out es (now + 40) (v.l k).said (v.l k).due (fun b => Q5 b ∧ b < wr.heap.size) w3 (((H5.out.2.1.lk k hlt).said.mono fun b hl h => ⟨h, hl⟩).over HB3.out) (((H5.out.2.1.lk k hlt).due.mono fun b hl h => ⟨h, hl⟩).over HB3.out))
        rw [ee, ef] at HSY
        have C3 := H5.out.1.over HB3.out
        have hf3 := (C3.lk hlt).facts
        rw [← HO.out, ee, ef] at hf3
        obtain ⟨-, -, -, -, -, -, g6, g7', g8, g9⟩ := hf3
        have hwr : IntKind.i64.wrap (now + 40) = now + 40 := wrapI (by omega) (by omega)
        generalize Ln.sayL (r.L k).out es (now + 40) = x at *
        generalize Ln.sayE (r.L k).out (now + 40) = E1 at *
        generalize (r.L k).out.g = gg at *
        generalize (r.L k).out.cl = gc at *
        have HS3 := hide hsz3
        have hg3 := C3.lt
        clear C3 hsz3
        go_upto_region 36 with (go_at_call 53; refine HSY.out.mono ?_; rintro e wb ⟨u1, u2, rfl, U1, U3, hbb⟩; obtain ⟨A1, n1, K1, rfl⟩ := U1.one'; obtain ⟨A2, n2, K2, rfl⟩ := U3.one'; obtain ⟨wS, sA, hST⟩ := sds_new (P := Q5) HS3.out (Nat.le_refl _) U1 U3 hbb; unfold Z4 at sA; have HST7 := hide hST; have hgne7 : g ≠ wb.heap.size := Nat.ne_of_lt (Nat.lt_of_lt_of_le hg3 hbb.size); clear hST U1 U3 hbb g6 g7' g8 g9; dsimp only)
        generalize wb.heap.size = g7 at *
        have HB7 := hide (HB3.out.trans (HST7.out.bel.mono HB3.out.size))
        by_cases hE1 : E1 = 0
        rotate_left
        · have hq : Hid (tellP r k = r) := HD1.out.trans (if_neg hE1)
          have hE' : (E1 != 0) = true := by simpa using hE1
          clear HD1
          go_wp2
          go_roundw
          case rel => exact ⟨k + 1, by omega, by go_num, by rw [HST.out, hq.out]; exact HQR.out _ HB7.out⟩
          case measure => simp [intOf]; omega
        subst hE1
        replace HD1 := hide (HD1.out.trans (if_pos rfl))
        have HQN : Hid (∀ b, New Q5 wr 0 b → New P w1 0 b) := fun b h => by
          rcases h with ⟨h, _⟩ | h
          · exact H5.out.2.2.1 b h
          · exact .inr (by have := H5.out.2.2.2.2.size; omega)
        have hgne : g ≠ g7 := hgne7
        have ho66 : 66 ≤ o := by have := HO.out; omega
        have HF37 : Hid (∀ wx, Below wS.heap.size wS wx → LnK g g7 (.slice A1 n1 K1) (.slice A2 n2 K2) (.int .i64 x.g) (.bool x.cl) (.slice As ns Cs) wx) := fun wx hb => by
          have X := HST7.out.cat.over hb
          have C := (H5.out.1.over HB7.out).over hb
          exact ⟨X.cell 0, X.cell 1, X.cell 2, X.cell 3, by rw [← HE.out.2.1]; exact C.cell 65⟩
        have HSE : Hid (∀ wx, Below wS.heap.size wS wx → Rep Q5 wx (.slice As ns Cs) 2 16 (pwC r.set)) := fun wx hb => by
          have := (H5.out.2.1.set.over HB7.out).over hb
          rw [HE.out.2.1] at this
          exact this
        have HSR := hide (fun (wx : World) (hb : Below wS.heap.size wS wx) => (HSE.out wx hb).src)
        have HTR := hide (fun (wx : World) (AT : Option Addr) (CT : Nat) (w8 : World) (hb : Below wS.heap.size wS wx) (hcp : Cd.Copied wx As ns 2 AT CT w8) => Rep.copied (HSE.out wx hb) (by decide) hcp (fun _ _ => rfl))
        go_upto_region 37 with fail
        apply wp_joins (fun AT CT w' => TQu P w1 g (tellP r k) w')
        · refine wp_region_noPanic ?_
          have hBl : Below wS.heap.size wS wS.drew := (Below.refl _ _).drew
          refine wp_region_held_drew (S := LnK g g7 (.slice A1 n1 K1) (.slice A2 n2 K2) (.int .i64 x.g) (.bool x.cl) (.slice As ns Cs)) (by kernel_rfl) (HF37.out _ hBl) (fun hS => ?_)
          refine Od.anyH_sl (i := 0) (v := (.pointer (some ⟨g, o, none⟩))) (some 170) rfl rfl (by kernel_rfl) (by kernel_rfl) (by kernel_rfl) (fun _ _ _ h => h) (Or.inl ⟨by rfl, fun wx hSw => ?_⟩) hS ?_
          · try dsimp only at hSw
            go_simp
          simp only [Act.put, List.setIfInBounds_toArray, List.set_cons_zero, List.set_cons_succ]
          refine Od.anyH_sl (i := 1) (v := (.pointer (some ⟨g, o, none⟩))) (some 171) rfl rfl (by kernel_rfl) (by kernel_rfl) (by kernel_rfl) (fun _ _ _ h => h) (Or.inl ⟨by rfl, fun wx hSw => ?_⟩) hS ?_
          · try dsimp only at hSw
            go_simp
          simp only [Act.put, List.setIfInBounds_toArray, List.set_cons_zero, List.set_cons_succ]
          refine Od.anyH_sl (i := 2) (v := (.pointer (some ⟨g, o, none⟩))) (some 172) rfl rfl (by kernel_rfl) (by kernel_rfl) (by kernel_rfl) (fun _ _ _ h => h) (Or.inl ⟨by rfl, fun wx hSw => ?_⟩) hS ?_
          · try dsimp only at hSw
            go_simp
          simp only [Act.put, List.setIfInBounds_toArray, List.set_cons_zero, List.set_cons_succ]
          refine Od.anyH_sl (i := 3) (v := (.pointer (some ⟨g, o, none⟩))) (some 173) rfl rfl (by kernel_rfl) (by kernel_rfl) (by kernel_rfl) (fun _ _ _ h => h) (Or.inl ⟨by rfl, fun wx hSw => ?_⟩) hS ?_
          · try dsimp only at hSw
            go_simp
          simp only [Act.put, List.setIfInBounds_toArray, List.set_cons_zero, List.set_cons_succ]
          refine Od.anyH_sl (i := 4) (v := (.agg #[.slice A1 n1 K1, .slice A2 n2 K2, .int .i64 x.g, .bool x.cl])) (some 174) rfl rfl (by kernel_rfl) (by kernel_rfl) (by kernel_rfl) (fun _ _ _ h => h) (Or.inl ⟨by rfl, fun wx hSw => ?_⟩) hS ?_
          · try dsimp only at hSw
            obtain ⟨l0, l1, l2, l3, l65⟩ := hSw; go_simp
          simp only [Act.put, List.setIfInBounds_toArray, List.set_cons_zero, List.set_cons_succ]
          refine Od.anyH_sl (i := 5) (v := (.pointer (some ⟨g, 65, none⟩))) (some 175) rfl rfl (by kernel_rfl) (by kernel_rfl) (by kernel_rfl) (fun _ _ _ h => h) (Or.inl ⟨by rfl, fun wx hSw => ?_⟩) hS ?_
          · try dsimp only at hSw
            go_simp
          simp only [Act.put, List.setIfInBounds_toArray, List.set_cons_zero, List.set_cons_succ]
          refine Od.anyH_sl (i := 6) (v := (.slice As ns Cs)) (some 176) rfl rfl (by kernel_rfl) (by kernel_rfl) (by kernel_rfl) (fun _ _ _ h => h) (Or.inl ⟨by rfl, fun wx hSw => ?_⟩) hS ?_
          · try dsimp only at hSw
            obtain ⟨l0, l1, l2, l3, l65⟩ := hSw; go_simp
          simp only [Act.put, List.setIfInBounds_toArray, List.set_cons_zero, List.set_cons_succ]
          refine wpAnyH_ready (rs := [7]) (by kernel_rfl) (by simp) ?_
          refine AllReadyH.cons rfl (fun K hK => ?_) AllReadyH.nil
          refine Cd.step_copy22 rfl rfl _ _ rfl As ns Cs rfl rfl (HSR.out _ (by exact hBl)) ?_
          intro AT CT w8 hcp
          have T8 := HTR.out _ _ _ _ (by exact hBl) hcp
          replace hBl := hBl.trans (hcp.below.mono hBl.size)
          clear hcp
          refine hK.out _ _ (HF37.out _ hBl) (fun hS => ?_)
          clear hK K
          simp only [Act.put, List.setIfInBounds_toArray]
          refine Od.anyH_sl (i := 8) (v := (.pointer (some ⟨g, o, none⟩))) (some 178) rfl rfl (by kernel_rfl) (by kernel_rfl) (by kernel_rfl) (fun _ _ _ h => h) (Or.inl ⟨by rfl, fun wx hSw => ?_⟩) hS ?_
          · try dsimp only at hSw
            go_simp
          simp only [Act.put]
          refine Od.anyH_sl (i := 9) (v := (.pointer (some ⟨g, o + 6, none⟩))) (some 179) rfl rfl (by kernel_rfl) (by kernel_rfl) (by kernel_rfl) (fun _ _ _ h => h) (Or.inl ⟨by rfl, fun wx hSw => ?_⟩) hS ?_
          · try dsimp only at hSw
            go_simp
          simp only [Act.put]
          have C8 := (H5.out.1.over HB7.out).over hBl
          have P8 := (H5.out.2.1.ofNew HB7.out 0).over hBl
          have A8 := (H5.out.2.2.2.2.trans (Alt.of HB7.out)).trans (Alt.of hBl)
          have R18 := (HST7.out.r1.mono (P' := New Q5 wr 0) fun b _ h => h.1).over hBl
          have R28 := (HST7.out.r2.mono (P' := New Q5 wr 0) fun b _ h => h.1).over hBl
          have T88 := T8.mono (P' := New Q5 wr 0) fun b _ h => .inr (by have := HB7.out.size; have e9 : wS.drew.heap.size = wS.heap.size := rfl; omega)
          have HTQ := hide (tq_told (P := P) hlt HO.out C8 P8 (new_not H5.out.2.2.2.1 hg5) HQN.out A8 (x := x) R18 R28 T88)
          have sN : (storeN (.pointer (some ⟨g, o + 6, none⟩)) (.agg #[.slice A1 n1 K1, .slice A2 n2 K2, .int .i64 x.g, .bool x.cl])).run Tryz.prog w8 = .ok () (w8.setCells g (o + 6) [.slice A1 n1 K1, .slice A2 n2 K2, .int .i64 x.g, .bool x.cl]) :=
            run_storeAt_mid (P := Tryz.prog) w8 g (o + 6) 37 #[.slice A1 n1 K1, .slice A2 n2 K2, .int .i64 x.g, .bool x.cl] (C8.there (o + 6) 4 (by rw [prC_size, HO.out]; omega)) (by rw [infoLnS]; rfl) (by simp [Value.oneCell'])
          have CL : CAt 47 (w8.setCells g (o + 6) [.slice A1 n1 K1, .slice A2 n2 K2, .int .i64 x.g, .bool x.cl]) g (((((prC r v).setIfInBounds (o + 6) (.slice A1 n1 K1)).setIfInBounds (o + 7) (.slice A2 n2 K2)).setIfInBounds (o + 8) (.int .i64 x.g)).setIfInBounds (o + 9) (.bool x.cl)) := (((C8.set (o + 6) _).set (o + 7) _).set (o + 8) _).set (o + 9) _
          have hl : ∀ j, j < 6 → ∀ z, (lkL (r.L k) (v.l k))[j]? = some z → (w8.setCells g (o + 6) [.slice A1 n1 K1, .slice A2 n2 K2, .int .i64 x.g, .bool x.cl]).cell? ⟨g, o + j, none⟩ = some z := fun j hj z hz => by
            rw [CL.cell (o + j)]
            simp only [Array.getElem?_setIfInBounds]
            rw [if_neg (by omega), if_neg (by omega), if_neg (by omega), if_neg (by omega), HO.out, pr_link k hlt j (by omega), hz]
          have q3 := hl 3 (by omega) _ rfl
          have q4 := hl 4 (by omega) _ rfl
          have q5 := hl 5 (by omega) _ rfl
          rw [HE.out.1] at q3
          rw [HE.out.2.2] at q5
          have z3 := CL.free (o + 3)
          have z4 := CL.free (o + 4)
          have z5 := CL.free (o + 5)
          have hgL := CL.lt
          clear C8 P8 A8 R18 R28 T88 T8 hl CL
          have hS6 := hS.sets hgne (o := o + 6) (by omega) [.slice A1 n1 K1, .slice A2 n2 K2, .int .i64 x.g, .bool x.cl]
          refine Od.anyH_one (i := 10) (by kernel_rfl) rfl rfl (fun K hK => ?_)
          go_simp
          refine hK _ _ hS6 ?_
          clear hK K sN hS
          have hS := hS6
          clear hS6
          generalize w8.setCells g (o + 6) [.slice A1 n1 K1, .slice A2 n2 K2, .int .i64 x.g, .bool x.cl] = wL at *
          refine Od.anyH_sl (i := 11) (v := (.pointer (some ⟨g, o, none⟩))) (some 180) rfl rfl (by kernel_rfl) (by kernel_rfl) (by kernel_rfl) (fun _ _ _ h => h) (Or.inl ⟨by rfl, fun wx hSw => ?_⟩) hS ?_
          · try dsimp only at hSw
            go_simp
          simp only [Act.put, List.setIfInBounds_toArray, List.set_cons_zero, List.set_cons_succ]
          refine Od.anyH_sl (i := 12) (v := (.pointer (some ⟨g, o + 3, none⟩))) (some 181) rfl rfl (by kernel_rfl) (by kernel_rfl) (by kernel_rfl) (fun _ _ _ h => h) (Or.inl ⟨by rfl, fun wx hSw => ?_⟩) hS ?_
          · try dsimp only at hSw
            go_simp
          simp only [Act.put, List.setIfInBounds_toArray, List.set_cons_zero, List.set_cons_succ]
          refine Od.anyH_one (i := 13) (by kernel_rfl) rfl rfl (fun K hK => ?_)
          go_simp
          replace hS := hS.put hgne (o := o + 3) (by omega) (.slice AT ns CT)
          refine hK _ _ hS ?_
          clear hK K
          refine Od.anyH_sl (i := 14) (v := (.pointer (some ⟨g, o, none⟩))) (some 182) rfl rfl (by kernel_rfl) (by kernel_rfl) (by kernel_rfl) (fun _ _ _ h => h) (Or.inl ⟨by rfl, fun wx hSw => ?_⟩) hS ?_
          · try dsimp only at hSw
            go_simp
          simp only [Act.put, List.setIfInBounds_toArray, List.set_cons_zero, List.set_cons_succ]
          refine Od.anyH_sl (i := 15) (v := (.pointer (some ⟨g, o + 4, none⟩))) (some 183) rfl rfl (by kernel_rfl) (by kernel_rfl) (by kernel_rfl) (fun _ _ _ h => h) (Or.inl ⟨by rfl, fun wx hSw => ?_⟩) hS ?_
          · try dsimp only at hSw
            go_simp
          simp only [Act.put, List.setIfInBounds_toArray, List.set_cons_zero, List.set_cons_succ]
          refine Od.anyH_one (i := 16) (by kernel_rfl) rfl rfl (fun K hK => ?_)
          go_simp
          replace hS := hS.put hgne (o := o + 4) (by omega) (.bool false)
          refine hK _ _ hS ?_
          clear hK K
          refine Od.anyH_sl (i := 17) (v := (.pointer (some ⟨g, o, none⟩))) (some 184) rfl rfl (by kernel_rfl) (by kernel_rfl) (by kernel_rfl) (fun _ _ _ h => h) (Or.inl ⟨by rfl, fun wx hSw => ?_⟩) hS ?_
          · try dsimp only at hSw
            go_simp
          simp only [Act.put, List.setIfInBounds_toArray, List.set_cons_zero, List.set_cons_succ]
          refine Od.anyH_sl (i := 18) (v := (.pointer (some ⟨g, o + 5, none⟩))) (some 185) rfl rfl (by kernel_rfl) (by kernel_rfl) (by kernel_rfl) (fun _ _ _ h => h) (Or.inl ⟨by rfl, fun wx hSw => ?_⟩) hS ?_
          · try dsimp only at hSw
            go_simp
          simp only [Act.put, List.setIfInBounds_toArray, List.set_cons_zero, List.set_cons_succ]
          refine Od.anyH_one (i := 19) (by kernel_rfl) rfl rfl (fun K hK => ?_)
          go_simp
          replace hS := hS.put hgne (o := o + 5) (by omega) (.slice none 0 0)
          refine hK _ _ hS ?_
          clear hK K
          refine wpAnyH_done (by kernel_rfl) ?_ _
          exact NoPanic.normal ⟨AT, CT, rfl, rfl, by rw [HD1.out]; exact HTQ.out⟩
        intro AT CT w9 hT
        have HT9 := hide hT
        clear hT HF37 HSE HSR HTR HQN HST7 HSY
        try simp only [Exit.then]
        try apply_assumption
        try go_wp2
        go_roundw
        case rel => exact ⟨k + 1, by omega, by go_num, by rw [HST.out]; exact HT9.out⟩
        case measure => simp [intOf]; omega
    · have hnq : Hid (quietB r (r.L k) = false) := by rw [Hid, HQB.out, hon]; simp [hsum]
      have hsb : ((dl.length : Int) + ((r.L k).done.length : Int) == 0) = false := by simpa using hsum
      go_upto_region 33 with fail
      have HD1 := hide (HD.out.trans (if_neg (by rw [hnq.out]; simp)))
      have HF33 : Hid (∀ wx, Below w2.heap.size w2 wx → wx.cell? ⟨g, 0, none⟩ = some (.int .i64 r.h) ∧ wx.cell? ⟨g, o + 5, none⟩ = some (.slice Ad (r.L k).done.length Cd0)) := fun wx hb => by
        obtain ⟨b0, -, -, b5⟩ := HF2.out wx hb
        exact ⟨b0, b5⟩
      have HEN : Hid (∀ wx, Below w2.heap.size w2 wx → Calls Tryz.prog 52 #[.agg #[.int .i64 1, .int .i64 r.h, .int .i64 0, .int .i64 0, .slice Au dl.length Cu, .slice Ad (r.L k).done.length Cd0]] wx fun e w' => e = .returned (.tuple #[.string (Cd.encS 1 r.h 0 0 dl (r.L k).done), .int .i64 (Cd.goodN 1 r.h 0 0 dl (r.L k).done)]) ∧ Below wx.heap.size wx w') := fun wx hb => by
        have q2 := (((H5.out.2.1.lk k hlt).done.over H2.out.2).over hb).mono (P' := fun _ => True) fun _ _ _ => trivial
        rw [HE.out.2.2] at q2
        have q1 := (H2.out.1.over hb).mono (P' := fun _ => True) fun _ _ _ => trivial
        obtain ⟨A1, C1, A2, C2, sb, so, db, dO, z1, z2, hL⟩ := Rep.lies q1 q2
        cases z1
        cases z2
        exact Cd.ep_any 1 r.h 0 0 dl (r.L k).done Au Ad Cu Cd0 sb so db dO wx hL
      generalize Cd.encS 1 r.h 0 0 dl (r.L k).done = es at *
      generalize Cd.goodN 1 r.h 0 0 dl (r.L k).done = E0 at *
      clear HD HQB hnq a0 a4 a5 hws
      apply wp_join (fun w' => Below w2.heap.size w2 w')
      · refine wp_region_noPanic ?_
        refine wp_region_held_drew (S := fun wx => Below w2.heap.size w2 wx) (by kernel_rfl) (Below.refl _ _).drew (fun hS => ?_)
        refine Od.anyH_sl (i := 0) (v := (.pointer (some ⟨g, 0, none⟩))) (some 144) rfl rfl (by kernel_rfl) (by kernel_rfl) (by kernel_rfl) (fun _ _ _ h => h) (Or.inl ⟨by rfl, fun wx hSw => ?_⟩) hS ?_
        · try dsimp only at hSw
          go_simp
        simp only [Act.put, List.setIfInBounds_toArray, List.set_cons_zero, List.set_cons_succ]
        refine Od.anyH_sl (i := 1) (v := (.int .i64 r.h)) (some 145) rfl rfl (by kernel_rfl) (by kernel_rfl) (by kernel_rfl) (fun _ _ _ h => h) (Or.inl ⟨by rfl, fun wx hSw => ?_⟩) hS ?_
        · try dsimp only at hSw
          obtain ⟨f0, f5⟩ := HF33.out wx hSw; go_simp
        simp only [Act.put, List.setIfInBounds_toArray, List.set_cons_zero, List.set_cons_succ]
        refine Od.anyH_sl (i := 2) (v := (.slice Au dl.length Cu)) (some 146) rfl rfl (by kernel_rfl) (by kernel_rfl) (by kernel_rfl) (fun _ _ _ h => h) (Or.inl ⟨by rfl, fun wx hSw => ?_⟩) hS ?_
        · try dsimp only at hSw
          go_simp
        simp only [Act.put, List.setIfInBounds_toArray, List.set_cons_zero, List.set_cons_succ]
        refine Od.anyH_sl (i := 3) (v := (.pointer (some ⟨g, o, none⟩))) (some 147) rfl rfl (by kernel_rfl) (by kernel_rfl) (by kernel_rfl) (fun _ _ _ h => h) (Or.inl ⟨by rfl, fun wx hSw => ?_⟩) hS ?_
        · try dsimp only at hSw
          go_simp
        simp only [Act.put, List.setIfInBounds_toArray, List.set_cons_zero, List.set_cons_succ]
        refine Od.anyH_sl (i := 4) (v := (.pointer (some ⟨g, o, none⟩))) (some 148) rfl rfl (by kernel_rfl) (by kernel_rfl) (by kernel_rfl) (fun _ _ _ h => h) (Or.inl ⟨by rfl, fun wx hSw => ?_⟩) hS ?_
        · try dsimp only at hSw
          go_simp
        simp only [Act.put, List.setIfInBounds_toArray, List.set_cons_zero, List.set_cons_succ]
        refine Od.anyH_sl (i := 5) (v := (.pointer (some ⟨g, o + 5, none⟩))) (some 149) rfl rfl (by kernel_rfl) (by kernel_rfl) (by kernel_rfl) (fun _ _ _ h => h) (Or.inl ⟨by rfl, fun wx hSw => ?_⟩) hS ?_
        · try dsimp only at hSw
          go_simp
        simp only [Act.put, List.setIfInBounds_toArray, List.set_cons_zero, List.set_cons_succ]
        refine Od.anyH_sl (i := 6) (v := (.slice Ad (r.L k).done.length Cd0)) (some 150) rfl rfl (by kernel_rfl) (by kernel_rfl) (by kernel_rfl) (fun _ _ _ h => h) (Or.inl ⟨by rfl, fun wx hSw => ?_⟩) hS ?_
        · try dsimp only at hSw
          obtain ⟨f0, f5⟩ := HF33.out wx hSw; go_simp
        simp only [Act.put, List.setIfInBounds_toArray, List.set_cons_zero, List.set_cons_succ]
        refine Od.anyH_sl (i := 7) (v := (.agg #[.int .i64 1, .int .i64 r.h, .int .i64 0, .int .i64 0, .slice Au dl.length Cu, .slice Ad (r.L k).done.length Cd0])) (some 151) rfl rfl (by kernel_rfl) (by kernel_rfl) (by kernel_rfl) (fun _ _ _ h => h) (Or.inl ⟨by rfl, fun wx hSw => ?_⟩) hS ?_
        · try dsimp only at hSw
          go_simp
        simp only [Act.put, List.setIfInBounds_toArray, List.set_cons_zero, List.set_cons_succ]
        refine wpAnyH_ready (rs := [8]) (by kernel_rfl) (by simp) ?_
        refine AllReadyH.cons rfl (fun K hK => ?_) AllReadyH.nil
        go_simp
        go_at_call 52
        refine (HEN.out _ (by exact hS)).mono ?_
        rintro e w3 ⟨rfl, hb3⟩
        replace hS := hS.trans (hb3.mono hS.size)
        dsimp only
        refine hK.out _ _ hS (fun hS => ?_)
        clear hK K
        try simp only [Act.put, List.setIfInBounds_toArray, List.set_cons_zero, List.set_cons_succ]
        refine Od.anyH_sl (i := 9) (v := (.tuple #[.string es, .int .i64 E0])) (some 143) rfl rfl (by kernel_rfl) (by kernel_rfl) (by kernel_rfl) (fun _ _ _ h => h) (Or.inl ⟨by rfl, fun wx hSw => ?_⟩) hS ?_
        · try dsimp only at hSw
          go_simp
        simp only [Act.put, List.setIfInBounds_toArray, List.set_cons_zero, List.set_cons_succ]
        refine Od.anyH_sl (i := 10) (v := (.string es)) (some 153) rfl rfl (by kernel_rfl) (by kernel_rfl) (by kernel_rfl) (fun _ _ _ h => h) (Or.inl ⟨by rfl, fun wx hSw => ?_⟩) hS ?_
        · try dsimp only at hSw
          go_simp
        simp only [Act.put, List.setIfInBounds_toArray, List.set_cons_zero, List.set_cons_succ]
        refine Od.anyH_sl (i := 11) (v := (.int .i64 E0)) (some 154) rfl rfl (by kernel_rfl) (by kernel_rfl) (by kernel_rfl) (fun _ _ _ h => h) (Or.inl ⟨by rfl, fun wx hSw => ?_⟩) hS ?_
        · try dsimp only at hSw
          go_simp
        simp only [Act.put, List.setIfInBounds_toArray, List.set_cons_zero, List.set_cons_succ]
        refine Od.anyH_sl (i := 12) (v := (.string es)) (some 19) rfl rfl (by kernel_rfl) (by kernel_rfl) (by kernel_rfl) (fun _ _ _ h => h) (Or.inl ⟨by rfl, fun wx hSw => ?_⟩) hS ?_
        · try dsimp only at hSw
          go_simp
        simp only [Act.put, List.setIfInBounds_toArray, List.set_cons_zero, List.set_cons_succ]
        refine Od.anyH_sl (i := 13) (v := (.int .i64 E0)) (some 20) rfl rfl (by kernel_rfl) (by kernel_rfl) (by kernel_rfl) (fun _ _ _ h => h) (Or.inl ⟨by rfl, fun wx hSw => ?_⟩) hS ?_
        · try dsimp only at hSw
          go_simp
        simp only [Act.put, List.setIfInBounds_toArray, List.set_cons_zero, List.set_cons_succ]
        refine wpAnyH_done (by kernel_rfl) ?_ _
        exact NoPanic.normal ⟨rfl, rfl, hS⟩
      intro w3 b3
      have HB3 := hide (H2.out.2.trans (b3.mono H2.out.2.size))
      clear b3 HF33 HEN HF2 H2
      simp only [Exit.then]
      apply_assumption
      by_cases hE : E0 = 0
      rotate_left
      · have hq : Hid (tellP r k = r) := HD1.out.trans (if_neg hE)
        have hE' : (E0 != 0) = true := by simpa using hE
        clear HD1
        go_wp2
        go_roundw
        case rel => exact ⟨k + 1, by omega, by go_num, by rw [HST.out, hq.out]; exact HQR.out _ HB3.out⟩
        case measure => simp [intOf]; omega
      subst hE
      replace HD1 := hide (HD1.out.trans (if_pos rfl))
      have hsz3 := HB3.out.size
      obtain ⟨Ae, ne, Ce, ee⟩ := (H5.out.2.1.lk k hlt).said.one'
      obtain ⟨Af, nf, Cf, ef⟩ := (H5.out.2.1.lk k hlt).due.one'
      have HSY := hide (rsay_rep (r.L k).out es (now + 40) (v.l k).said (v.l k).due (fun b => Q5 b ∧ b < wr.heap.size) w3 (((H5.out.2.1.lk k hlt).said.mono fun b hl h => ⟨h, hl⟩).over HB3.out) (((H5.out.2.1.lk k hlt).due.mono fun b hl h => ⟨h, hl⟩).over HB3.out))
      rw [ee, ef] at HSY
      have C3 := H5.out.1.over HB3.out
      have hf3 := (C3.lk hlt).facts
      rw [← HO.out, ee, ef] at hf3
      obtain ⟨-, -, -, -, -, -, g6, g7', g8, g9⟩ := hf3
      have hwr : IntKind.i64.wrap (now + 40) = now + 40 := wrapI (by omega) (by omega)
      generalize Ln.sayL (r.L k).out es (now + 40) = x at *
      generalize Ln.sayE (r.L k).out (now + 40) = E1 at *
      generalize (r.L k).out.g = gg at *
      generalize (r.L k).out.cl = gc at *
      have HS3 := hide hsz3
      have hg3 := C3.lt
      clear C3 hsz3
      go_upto_region 36 with (go_at_call 53; refine HSY.out.mono ?_; rintro e wb ⟨u1, u2, rfl, U1, U3, hbb⟩; obtain ⟨A1, n1, K1, rfl⟩ := U1.one'; obtain ⟨A2, n2, K2, rfl⟩ := U3.one'; obtain ⟨wS, sA, hST⟩ := sds_new (P := Q5) HS3.out (Nat.le_refl _) U1 U3 hbb; unfold Z4 at sA; have HST7 := hide hST; have hgne7 : g ≠ wb.heap.size := Nat.ne_of_lt (Nat.lt_of_lt_of_le hg3 hbb.size); clear hST U1 U3 hbb g6 g7' g8 g9; dsimp only)
      generalize wb.heap.size = g7 at *
      have HB7 := hide (HB3.out.trans (HST7.out.bel.mono HB3.out.size))
      by_cases hE1 : E1 = 0
      rotate_left
      · have hq : Hid (tellP r k = r) := HD1.out.trans (if_neg hE1)
        have hE' : (E1 != 0) = true := by simpa using hE1
        clear HD1
        go_wp2
        go_roundw
        case rel => exact ⟨k + 1, by omega, by go_num, by rw [HST.out, hq.out]; exact HQR.out _ HB7.out⟩
        case measure => simp [intOf]; omega
      subst hE1
      replace HD1 := hide (HD1.out.trans (if_pos rfl))
      have HQN : Hid (∀ b, New Q5 wr 0 b → New P w1 0 b) := fun b h => by
        rcases h with ⟨h, _⟩ | h
        · exact H5.out.2.2.1 b h
        · exact .inr (by have := H5.out.2.2.2.2.size; omega)
      have hgne : g ≠ g7 := hgne7
      have ho66 : 66 ≤ o := by have := HO.out; omega
      have HF37 : Hid (∀ wx, Below wS.heap.size wS wx → LnK g g7 (.slice A1 n1 K1) (.slice A2 n2 K2) (.int .i64 x.g) (.bool x.cl) (.slice As ns Cs) wx) := fun wx hb => by
        have X := HST7.out.cat.over hb
        have C := (H5.out.1.over HB7.out).over hb
        exact ⟨X.cell 0, X.cell 1, X.cell 2, X.cell 3, by rw [← HE.out.2.1]; exact C.cell 65⟩
      have HSE : Hid (∀ wx, Below wS.heap.size wS wx → Rep Q5 wx (.slice As ns Cs) 2 16 (pwC r.set)) := fun wx hb => by
        have := (H5.out.2.1.set.over HB7.out).over hb
        rw [HE.out.2.1] at this
        exact this
      have HSR := hide (fun (wx : World) (hb : Below wS.heap.size wS wx) => (HSE.out wx hb).src)
      have HTR := hide (fun (wx : World) (AT : Option Addr) (CT : Nat) (w8 : World) (hb : Below wS.heap.size wS wx) (hcp : Cd.Copied wx As ns 2 AT CT w8) => Rep.copied (HSE.out wx hb) (by decide) hcp (fun _ _ => rfl))
      go_upto_region 37 with fail
      apply wp_joins (fun AT CT w' => TQu P w1 g (tellP r k) w')
      · refine wp_region_noPanic ?_
        have hBl : Below wS.heap.size wS wS.drew := (Below.refl _ _).drew
        refine wp_region_held_drew (S := LnK g g7 (.slice A1 n1 K1) (.slice A2 n2 K2) (.int .i64 x.g) (.bool x.cl) (.slice As ns Cs)) (by kernel_rfl) (HF37.out _ hBl) (fun hS => ?_)
        refine Od.anyH_sl (i := 0) (v := (.pointer (some ⟨g, o, none⟩))) (some 170) rfl rfl (by kernel_rfl) (by kernel_rfl) (by kernel_rfl) (fun _ _ _ h => h) (Or.inl ⟨by rfl, fun wx hSw => ?_⟩) hS ?_
        · try dsimp only at hSw
          go_simp
        simp only [Act.put, List.setIfInBounds_toArray, List.set_cons_zero, List.set_cons_succ]
        refine Od.anyH_sl (i := 1) (v := (.pointer (some ⟨g, o, none⟩))) (some 171) rfl rfl (by kernel_rfl) (by kernel_rfl) (by kernel_rfl) (fun _ _ _ h => h) (Or.inl ⟨by rfl, fun wx hSw => ?_⟩) hS ?_
        · try dsimp only at hSw
          go_simp
        simp only [Act.put, List.setIfInBounds_toArray, List.set_cons_zero, List.set_cons_succ]
        refine Od.anyH_sl (i := 2) (v := (.pointer (some ⟨g, o, none⟩))) (some 172) rfl rfl (by kernel_rfl) (by kernel_rfl) (by kernel_rfl) (fun _ _ _ h => h) (Or.inl ⟨by rfl, fun wx hSw => ?_⟩) hS ?_
        · try dsimp only at hSw
          go_simp
        simp only [Act.put, List.setIfInBounds_toArray, List.set_cons_zero, List.set_cons_succ]
        refine Od.anyH_sl (i := 3) (v := (.pointer (some ⟨g, o, none⟩))) (some 173) rfl rfl (by kernel_rfl) (by kernel_rfl) (by kernel_rfl) (fun _ _ _ h => h) (Or.inl ⟨by rfl, fun wx hSw => ?_⟩) hS ?_
        · try dsimp only at hSw
          go_simp
        simp only [Act.put, List.setIfInBounds_toArray, List.set_cons_zero, List.set_cons_succ]
        refine Od.anyH_sl (i := 4) (v := (.agg #[.slice A1 n1 K1, .slice A2 n2 K2, .int .i64 x.g, .bool x.cl])) (some 174) rfl rfl (by kernel_rfl) (by kernel_rfl) (by kernel_rfl) (fun _ _ _ h => h) (Or.inl ⟨by rfl, fun wx hSw => ?_⟩) hS ?_
        · try dsimp only at hSw
          obtain ⟨l0, l1, l2, l3, l65⟩ := hSw; go_simp
        simp only [Act.put, List.setIfInBounds_toArray, List.set_cons_zero, List.set_cons_succ]
        refine Od.anyH_sl (i := 5) (v := (.pointer (some ⟨g, 65, none⟩))) (some 175) rfl rfl (by kernel_rfl) (by kernel_rfl) (by kernel_rfl) (fun _ _ _ h => h) (Or.inl ⟨by rfl, fun wx hSw => ?_⟩) hS ?_
        · try dsimp only at hSw
          go_simp
        simp only [Act.put, List.setIfInBounds_toArray, List.set_cons_zero, List.set_cons_succ]
        refine Od.anyH_sl (i := 6) (v := (.slice As ns Cs)) (some 176) rfl rfl (by kernel_rfl) (by kernel_rfl) (by kernel_rfl) (fun _ _ _ h => h) (Or.inl ⟨by rfl, fun wx hSw => ?_⟩) hS ?_
        · try dsimp only at hSw
          obtain ⟨l0, l1, l2, l3, l65⟩ := hSw; go_simp
        simp only [Act.put, List.setIfInBounds_toArray, List.set_cons_zero, List.set_cons_succ]
        refine wpAnyH_ready (rs := [7]) (by kernel_rfl) (by simp) ?_
        refine AllReadyH.cons rfl (fun K hK => ?_) AllReadyH.nil
        refine Cd.step_copy22 rfl rfl _ _ rfl As ns Cs rfl rfl (HSR.out _ (by exact hBl)) ?_
        intro AT CT w8 hcp
        have T8 := HTR.out _ _ _ _ (by exact hBl) hcp
        replace hBl := hBl.trans (hcp.below.mono hBl.size)
        clear hcp
        refine hK.out _ _ (HF37.out _ hBl) (fun hS => ?_)
        clear hK K
        simp only [Act.put, List.setIfInBounds_toArray]
        refine Od.anyH_sl (i := 8) (v := (.pointer (some ⟨g, o, none⟩))) (some 178) rfl rfl (by kernel_rfl) (by kernel_rfl) (by kernel_rfl) (fun _ _ _ h => h) (Or.inl ⟨by rfl, fun wx hSw => ?_⟩) hS ?_
        · try dsimp only at hSw
          go_simp
        simp only [Act.put]
        refine Od.anyH_sl (i := 9) (v := (.pointer (some ⟨g, o + 6, none⟩))) (some 179) rfl rfl (by kernel_rfl) (by kernel_rfl) (by kernel_rfl) (fun _ _ _ h => h) (Or.inl ⟨by rfl, fun wx hSw => ?_⟩) hS ?_
        · try dsimp only at hSw
          go_simp
        simp only [Act.put]
        have C8 := (H5.out.1.over HB7.out).over hBl
        have P8 := (H5.out.2.1.ofNew HB7.out 0).over hBl
        have A8 := (H5.out.2.2.2.2.trans (Alt.of HB7.out)).trans (Alt.of hBl)
        have R18 := (HST7.out.r1.mono (P' := New Q5 wr 0) fun b _ h => h.1).over hBl
        have R28 := (HST7.out.r2.mono (P' := New Q5 wr 0) fun b _ h => h.1).over hBl
        have T88 := T8.mono (P' := New Q5 wr 0) fun b _ h => .inr (by have := HB7.out.size; have e9 : wS.drew.heap.size = wS.heap.size := rfl; omega)
        have HTQ := hide (tq_told (P := P) hlt HO.out C8 P8 (new_not H5.out.2.2.2.1 hg5) HQN.out A8 (x := x) R18 R28 T88)
        have sN : (storeN (.pointer (some ⟨g, o + 6, none⟩)) (.agg #[.slice A1 n1 K1, .slice A2 n2 K2, .int .i64 x.g, .bool x.cl])).run Tryz.prog w8 = .ok () (w8.setCells g (o + 6) [.slice A1 n1 K1, .slice A2 n2 K2, .int .i64 x.g, .bool x.cl]) :=
          run_storeAt_mid (P := Tryz.prog) w8 g (o + 6) 37 #[.slice A1 n1 K1, .slice A2 n2 K2, .int .i64 x.g, .bool x.cl] (C8.there (o + 6) 4 (by rw [prC_size, HO.out]; omega)) (by rw [infoLnS]; rfl) (by simp [Value.oneCell'])
        have CL : CAt 47 (w8.setCells g (o + 6) [.slice A1 n1 K1, .slice A2 n2 K2, .int .i64 x.g, .bool x.cl]) g (((((prC r v).setIfInBounds (o + 6) (.slice A1 n1 K1)).setIfInBounds (o + 7) (.slice A2 n2 K2)).setIfInBounds (o + 8) (.int .i64 x.g)).setIfInBounds (o + 9) (.bool x.cl)) := (((C8.set (o + 6) _).set (o + 7) _).set (o + 8) _).set (o + 9) _
        have hl : ∀ j, j < 6 → ∀ z, (lkL (r.L k) (v.l k))[j]? = some z → (w8.setCells g (o + 6) [.slice A1 n1 K1, .slice A2 n2 K2, .int .i64 x.g, .bool x.cl]).cell? ⟨g, o + j, none⟩ = some z := fun j hj z hz => by
          rw [CL.cell (o + j)]
          simp only [Array.getElem?_setIfInBounds]
          rw [if_neg (by omega), if_neg (by omega), if_neg (by omega), if_neg (by omega), HO.out, pr_link k hlt j (by omega), hz]
        have q3 := hl 3 (by omega) _ rfl
        have q4 := hl 4 (by omega) _ rfl
        have q5 := hl 5 (by omega) _ rfl
        rw [HE.out.1] at q3
        rw [HE.out.2.2] at q5
        have z3 := CL.free (o + 3)
        have z4 := CL.free (o + 4)
        have z5 := CL.free (o + 5)
        have hgL := CL.lt
        clear C8 P8 A8 R18 R28 T88 T8 hl CL
        have hS6 := hS.sets hgne (o := o + 6) (by omega) [.slice A1 n1 K1, .slice A2 n2 K2, .int .i64 x.g, .bool x.cl]
        refine Od.anyH_one (i := 10) (by kernel_rfl) rfl rfl (fun K hK => ?_)
        go_simp
        refine hK _ _ hS6 ?_
        clear hK K sN hS
        have hS := hS6
        clear hS6
        generalize w8.setCells g (o + 6) [.slice A1 n1 K1, .slice A2 n2 K2, .int .i64 x.g, .bool x.cl] = wL at *
        refine Od.anyH_sl (i := 11) (v := (.pointer (some ⟨g, o, none⟩))) (some 180) rfl rfl (by kernel_rfl) (by kernel_rfl) (by kernel_rfl) (fun _ _ _ h => h) (Or.inl ⟨by rfl, fun wx hSw => ?_⟩) hS ?_
        · try dsimp only at hSw
          go_simp
        simp only [Act.put, List.setIfInBounds_toArray, List.set_cons_zero, List.set_cons_succ]
        refine Od.anyH_sl (i := 12) (v := (.pointer (some ⟨g, o + 3, none⟩))) (some 181) rfl rfl (by kernel_rfl) (by kernel_rfl) (by kernel_rfl) (fun _ _ _ h => h) (Or.inl ⟨by rfl, fun wx hSw => ?_⟩) hS ?_
        · try dsimp only at hSw
          go_simp
        simp only [Act.put, List.setIfInBounds_toArray, List.set_cons_zero, List.set_cons_succ]
        refine Od.anyH_one (i := 13) (by kernel_rfl) rfl rfl (fun K hK => ?_)
        go_simp
        replace hS := hS.put hgne (o := o + 3) (by omega) (.slice AT ns CT)
        refine hK _ _ hS ?_
        clear hK K
        refine Od.anyH_sl (i := 14) (v := (.pointer (some ⟨g, o, none⟩))) (some 182) rfl rfl (by kernel_rfl) (by kernel_rfl) (by kernel_rfl) (fun _ _ _ h => h) (Or.inl ⟨by rfl, fun wx hSw => ?_⟩) hS ?_
        · try dsimp only at hSw
          go_simp
        simp only [Act.put, List.setIfInBounds_toArray, List.set_cons_zero, List.set_cons_succ]
        refine Od.anyH_sl (i := 15) (v := (.pointer (some ⟨g, o + 4, none⟩))) (some 183) rfl rfl (by kernel_rfl) (by kernel_rfl) (by kernel_rfl) (fun _ _ _ h => h) (Or.inl ⟨by rfl, fun wx hSw => ?_⟩) hS ?_
        · try dsimp only at hSw
          go_simp
        simp only [Act.put, List.setIfInBounds_toArray, List.set_cons_zero, List.set_cons_succ]
        refine Od.anyH_one (i := 16) (by kernel_rfl) rfl rfl (fun K hK => ?_)
        go_simp
        replace hS := hS.put hgne (o := o + 4) (by omega) (.bool false)
        refine hK _ _ hS ?_
        clear hK K
        refine Od.anyH_sl (i := 17) (v := (.pointer (some ⟨g, o, none⟩))) (some 184) rfl rfl (by kernel_rfl) (by kernel_rfl) (by kernel_rfl) (fun _ _ _ h => h) (Or.inl ⟨by rfl, fun wx hSw => ?_⟩) hS ?_
        · try dsimp only at hSw
          go_simp
        simp only [Act.put, List.setIfInBounds_toArray, List.set_cons_zero, List.set_cons_succ]
        refine Od.anyH_sl (i := 18) (v := (.pointer (some ⟨g, o + 5, none⟩))) (some 185) rfl rfl (by kernel_rfl) (by kernel_rfl) (by kernel_rfl) (fun _ _ _ h => h) (Or.inl ⟨by rfl, fun wx hSw => ?_⟩) hS ?_
        · try dsimp only at hSw
          go_simp
        simp only [Act.put, List.setIfInBounds_toArray, List.set_cons_zero, List.set_cons_succ]
        refine Od.anyH_one (i := 19) (by kernel_rfl) rfl rfl (fun K hK => ?_)
        go_simp
        replace hS := hS.put hgne (o := o + 5) (by omega) (.slice none 0 0)
        refine hK _ _ hS ?_
        clear hK K
        refine wpAnyH_done (by kernel_rfl) ?_ _
        exact NoPanic.normal ⟨AT, CT, rfl, rfl, by rw [HD1.out]; exact HTQ.out⟩
      intro AT CT w9 hT
      have HT9 := hide hT
      clear hT HF37 HSE HSR HTR HQN HST7 HSY
      try simp only [Exit.then]
      try apply_assumption
      try go_wp2
      go_roundw
      case rel => exact ⟨k + 1, by omega, by go_num, by rw [HST.out]; exact HT9.out⟩
      case measure => simp [intOf]; omega
end Go.Proofs.YtjghbciepinofaaGreat.Pv

set_option maxRecDepth 100000
namespace Go.Proofs.YtjghbciepinofaaGreat.Pv
open Go.RowKit
theorem okv_of {L : Nat → Lk} {a : Int × Pkt} (h : goodQ L a = true) : (0 ≤ a.1 ∧ a.1 < 2) ∧ okPv a.2 := by
  obtain ⟨hc, hk, hv⟩ := okPk_of h
  refine ⟨hc, hk, ?_⟩
  by_cases k2 : a.2.k = 2
  · unfold goodQ at h
    simp only [Bool.and_eq_true, decide_eq_true_eq] at h
    have hn := h.2
    have h0 : a.2.v = 0 := by
      refine Classical.byContradiction fun hv0 => ?_
      have hf : Cd.forB a.2.k a.2.v a.2.n a.2.S.length a.2.D.length = true := by simp [Cd.forB, Cd.accB, k2, hv0]
      unfold Cd.goodN at hn
      by_cases h1 : a.2.k < 1 ∨ 4 < a.2.k
      · rw [if_pos h1] at hn; omega
      rw [if_neg h1] at hn
      by_cases h2 : a.2.i < 1 ∨ 1099511627776 < a.2.i
      · rw [if_pos h2] at hn; omega
      rw [if_neg h2] at hn
      by_cases h3 : Cd.accB a.2.k = true ∧ (Cd.isV a.2.v = false ∨ a.2.n < 1 ∨ 1125899906842624 < a.2.n)
      · rw [if_pos h3] at hn; omega
      rw [if_neg h3, if_pos hf] at hn
      omega
    omega
  · exact hv (by omega)
theorem okv_queue {p : Pr} (hg : goodP p = true) : ∀ a ∈ p.q, (0 ≤ a.1 ∧ a.1 < 2) ∧ okPv a.2 := fun a ha => by
  unfold goodP at hg
  simp only [Bool.and_eq_true] at hg
  exact okv_of (List.all_eq_true.1 hg.2 a ha)
theorem paid_good {p : Pr} (hg : goodP p = true) (now : Int) : goodS (payS (queueP (tickP p now)).s now) = true := pay_good (inv_queue hg now).1 now
theorem paid_set {p : Pr} (hg : goodP p = true) (now : Int) : setB (-1) (paidP (queueP (tickP p now)) now).set = true := setS_set fun _ hk => (vTok (paid_good hg now) hk).2
theorem paid_told {p : Pr} (hg : goodP p = true) (now : Int) : ∀ c, c < 2 → setB (-1) ((paidP (queueP (tickP p now)) now).L c).told = true := fun c hc => by
  have e : ((paidP (queueP (tickP p now)) now).L c).told = (p.L c).told := ((queue_same (tickP p now)).lk c).told
  rw [e]
  unfold goodP at hg
  simp only [Bool.and_eq_true, goodLk] at hg
  obtain ⟨⟨-, ⟨⟨-, ⟨⟨-, t0⟩, -⟩⟩, ⟨-, ⟨⟨-, t1⟩, -⟩⟩⟩⟩, -⟩ := hg
  rcases (show c = 0 ∨ c = 1 by omega) with rfl | rfl
  · exact t0
  · exact t1
theorem paid_t (p : Pr) (now : Int) : (paidP (queueP (tickP p now)) now).t = now := (queue_same (tickP p now)).t
/-- the queue's end is where the tellings begin -/
theorem RQu.told {P : Nat → Prop} {w1 wl : World} {g : Nat} {r : Pr} (h : RQu P w1 g r wl) (hg : ¬ P g) (hgw : g < w1.heap.size) (h88 : r.q.length * 88 ≤ 140737488351232) : TQu P w1 g r wl := by
  obtain ⟨v, Q, z, hC, hp, hQ, -, -, hz, ho, hi⟩ := h.st
  have key : ∀ {u : Value} {s t : Nat} {cs : List Value}, Rep P w1 u s t cs → Rep (New P w1 0) wl u s t cs := fun hr => ((hr.mono (P' := fun b => P b ∧ b < w1.heap.size) fun _ hl hp => ⟨hp, hl⟩).keep (w' := wl) fun b hb hlt => h.A.block b hlt fun e => hg (e ▸ hb.1)).mono fun _ _ hb => .inl hb
  have hp' := hp.mono (P' := New P w1 0) fun b _ hb => hQ b hb
  exact ⟨⟨v, New P w1 0, hC, ⟨hp'.ws, hp'.set, hp'.lk, z, hz, (Rep.own ho (by omega)).mono fun b _ hb => .inr (by omega), fun i x y hx hy => ⟨key (hi i x y hx hy).1, key (hi i x y hx hy).2⟩⟩, fun _ hb => hb, new_not hg hgw⟩, h.A⟩
end Go.Proofs.YtjghbciepinofaaGreat.Pv

