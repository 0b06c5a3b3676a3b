/- Parts of the proof: PV7. -/
import Derived.Test.YtkhlihpghbhppaaGreatRows
import Derived.Test.YtkhlihpghbhppaaGreatPjK31
import Derived.Deep.RegionHeld3
import Derived.Deep.DeepCutAuto
set_option maxRecDepth 100000
namespace Go.Proofs.YtkhlihpghbhppaaGreat.Pv
open Go.RowKit
/-- a piece of a code -/
def subC : List Nat → Code → Code
  | [], c => c
  | 0 :: p, .seq a _ => subC p a
  | 1 :: p, .seq _ b => subC p b
  | _ :: p, .block _ c => subC p c
  | _ :: p, .loop c => subC p c
  | 1 :: p, .cond _ a _ => subC p a
  | 2 :: p, .cond _ _ b => subC p b
  | _, _ => .skip
noncomputable def cp7C : Code := subC [1, 1, 1, 0, 1, 9, 9, 1, 1, 0, 9, 1, 1] (Tryz.f10.body.getD .skip)
theorem infoPw2 : (Tryz.prog.info? 104).map (fun i => (i.zero, i.size, i.bytes)) = some (some (.agg #[.int .i64 0, .int .i64 0]), 2, 16) := by kernel_rfl
theorem infoI2 : (Tryz.prog.info? 3).map (fun i => (i.zero, i.size, i.bytes)) = some (some (.int .i64 0), 1, 8) := by kernel_rfl
theorem one_ins (l : List Int) : ∀ u ∈ inC l, u.oneCell' = true := Ln.one_ints l
/-- a link's four lists, copied -/
structure Lk4 (B : Nat) (w : World) (x : Lk) (T D S U : Value) : Prop where
  told : Rep (fun b => B ≤ b) w T 2 16 (pwC x.told)
  done : Rep (fun b => B ≤ b) w D 1 8 (inC x.done)
  said : Rep (fun b => B ≤ b) w S 1 16 (txC x.out.S)
  due : Rep (fun b => B ≤ b) w U 1 8 (inC x.out.D)
set_option maxHeartbeats 8000000 in
set_option maxRecDepth 1000000 in
theorem cp7_wp (g o : Nat) (x : Lk) (v : LkV) (P : Nat → Prop) (wl : World) (hx : LkIn P wl x v) (hg : g < wl.heap.size)
    (c3 : wl.cell? ⟨g, o + 3, none⟩ = some v.told) (c5 : wl.cell? ⟨g, o + 5, none⟩ = some v.done) (c6 : wl.cell? ⟨g, o + 6, none⟩ = some v.said) (c7 : wl.cell? ⟨g, o + 7, none⟩ = some v.due) (c8 : wl.cell? ⟨g, o + 8, none⟩ = some (.int .i64 x.out.g)) (c9 : wl.cell? ⟨g, o + 9, none⟩ = some (.bool x.out.cl))
    (hz : ∀ k, k < 14 → wl.frozen? ⟨g, o + k, none⟩ = false) (v0 v1 v2 v3 v5 v6 v7 v8 v9 v10 v11 v12 v13 v14 v15 v16 v17 v18 v19 v20 v21 v22 v23 v24 v25 v26 v27 v28 v29 v30 v31 v32 v33 v34 v35 v36 v37 v38 v39 v40 v41 v42 v43 v44 v45 v46 v47 v48 v49 v50 v51 v52 v53 v54 v55 v56 v57 v58 v59 v60 v61 v62 v63 v64 v65 v66 : Value) (Q : Exit → Act → World → Prop)
    (hQ : ∀ (T D S U : Value) (t22 t23 t24 t25 t26 t27 t28 t29 t30 t31 t32 t33 t34 t35 t36 t37 t38 t39 t40 t41 t42 t43 t44 t45 : Value) (w5 : World), Below wl.heap.size wl w5 → Lk4 wl.heap.size w5 x T D S U → Q .normal ⟨List.toArray (v0 :: v1 :: v2 :: v3 :: (.pointer (some ⟨g, o, none⟩)) :: v5 :: v6 :: v7 :: v8 :: v9 :: v10 :: v11 :: v12 :: v13 :: v14 :: v15 :: v16 :: v17 :: v18 :: v19 :: v20 :: v21 :: (t22) :: (t23) :: (t24) :: (t25) :: (t26) :: (t27) :: (t28) :: (t29) :: (t30) :: (t31) :: (t32) :: (t33) :: (t34) :: (t35) :: (t36) :: (t37) :: (t38) :: (t39) :: (t40) :: (t41) :: (t42) :: (t43) :: (t44) :: (t45) :: v46 :: v47 :: v48 :: v49 :: v50 :: v51 :: v52 :: v53 :: v54 :: v55 :: v56 :: v57 :: v58 :: v59 :: v60 :: v61 :: v62 :: v63 :: v64 :: v65 :: v66 :: []), []⟩ ((((((w5.setCell ⟨g, o + 3, none⟩ T).setCell ⟨g, o + 5, none⟩ D).setCell ⟨g, o + 6, none⟩ S).setCell ⟨g, o + 7, none⟩ U).setCell ⟨g, o + 8, none⟩ (.int .i64 x.out.g)).setCell ⟨g, o + 9, none⟩ (.bool x.out.cl))) :
    Code.wp Tryz.prog cp7C Q ⟨List.toArray (v0 :: v1 :: v2 :: v3 :: (.pointer (some ⟨g, o, none⟩)) :: v5 :: v6 :: v7 :: v8 :: v9 :: v10 :: v11 :: v12 :: v13 :: v14 :: v15 :: v16 :: v17 :: v18 :: v19 :: v20 :: v21 :: v22 :: v23 :: v24 :: v25 :: v26 :: v27 :: v28 :: v29 :: v30 :: v31 :: v32 :: v33 :: v34 :: v35 :: v36 :: v37 :: v38 :: v39 :: v40 :: v41 :: v42 :: v43 :: v44 :: v45 :: v46 :: v47 :: v48 :: v49 :: v50 :: v51 :: v52 :: v53 :: v54 :: v55 :: v56 :: v57 :: v58 :: v59 :: v60 :: v61 :: v62 :: v63 :: v64 :: v65 :: v66 :: []), []⟩ wl := by
  obtain ⟨i0, hi, hz0, hz1, hz2⟩ := info_parts infoPw2
  obtain ⟨j0, hj, hy0, hy1, hy2⟩ := info_parts infoI2
  obtain ⟨vt, vd, vsd, vu⟩ := v
  have hxt : Rep P wl vt 2 16 (pwC x.told) := hx.told
  have hxd : Rep P wl vd 1 8 (inC x.done) := hx.done
  have hxs : Rep P wl vsd 1 16 (txC x.out.S) := hx.said
  have hxu : Rep P wl vu 1 8 (inC x.out.D) := hx.due
  obtain ⟨At, Ct, rfl, st, nt, -, -⟩ := hxt.open (pwC_length _) (by decide)
  obtain ⟨Ad, Cd', rfl, sd, nd, -, -⟩ := hxd.open (inC_length _) (by decide)
  obtain ⟨A1, C1, A2, C2, sb, so, db, dO, rfl, rfl, hL, -, -⟩ := Rep.line hxs hxu
  have HK := hide hQ
  dsimp only at c3 c5 c6 c7
  have hF : ∀ wx, Below wl.heap.size wl wx → wx.cell? ⟨g, o + 3, none⟩ = some (.slice At x.told.length Ct) ∧ wx.cell? ⟨g, o + 5, none⟩ = some (.slice Ad x.done.length Cd') ∧ wx.cell? ⟨g, o + 6, none⟩ = some (.slice A1 x.out.S.length C1) ∧ wx.cell? ⟨g, o + 7, none⟩ = some (.slice A2 x.out.D.length C2) ∧ wx.cell? ⟨g, o + 8, none⟩ = some (.int .i64 x.out.g) ∧ wx.cell? ⟨g, o + 9, none⟩ = some (.bool x.out.cl) := fun wx h =>
    ⟨(h.cell (p := ⟨g, o + 3, none⟩) hg).trans c3, (h.cell (p := ⟨g, o + 5, none⟩) hg).trans c5, (h.cell (p := ⟨g, o + 6, none⟩) hg).trans c6, (h.cell (p := ⟨g, o + 7, none⟩) hg).trans c7, (h.cell (p := ⟨g, o + 8, none⟩) hg).trans c8, (h.cell (p := ⟨g, o + 9, none⟩) hg).trans c9⟩
  have bT : 0 + x.told.length ≤ maxLen := by unfold maxLen; omega
  have bD : 0 + x.done.length ≤ maxLen := by unfold maxLen; omega
  clear hQ c3 c5 c6 c7 c8 c9
  conv => arg 2; whnf
  refine wp_region_noPanic ?_
  have hb : Below wl.heap.size wl wl.drew := (Below.refl _ wl).drew
  refine Od.wp_region_C (c := 17) (S := fun wx => Below wl.heap.size wl wx) (by kernel_rfl) ?_
  refine Od.anyC_free (i := 0) (v := .pointer (some ⟨g, o, none⟩)) (some 22) rfl rfl (by kernel_rfl) (by kernel_rfl) (by kernel_rfl) (by decide) (fun _ _ _ h => h) (Or.inl ⟨by rfl, ?_⟩) hb ?_
  · intro wx; go_simp
  simp only [Act.put, List.setIfInBounds_toArray, List.set_cons_zero, List.set_cons_succ]
  refine Od.anyC_free (i := 1) (v := .pointer (some ⟨g, o, none⟩)) (some 23) rfl rfl (by kernel_rfl) (by kernel_rfl) (by kernel_rfl) (by decide) (fun _ _ _ h => h) (Or.inl ⟨by rfl, ?_⟩) hb ?_
  · intro wx; go_simp
  simp only [Act.put, List.setIfInBounds_toArray, List.set_cons_zero, List.set_cons_succ]
  refine Od.anyC_free (i := 2) (v := .pointer (some ⟨g, o, none⟩)) (some 24) rfl rfl (by kernel_rfl) (by kernel_rfl) (by kernel_rfl) (by decide) (fun _ _ _ h => h) (Or.inl ⟨by rfl, ?_⟩) hb ?_
  · intro wx; go_simp
  simp only [Act.put, List.setIfInBounds_toArray, List.set_cons_zero, List.set_cons_succ]
  refine Od.anyC_free (i := 3) (v := .pointer (some ⟨g, o, none⟩)) (some 25) rfl rfl (by kernel_rfl) (by kernel_rfl) (by kernel_rfl) (by decide) (fun _ _ _ h => h) (Or.inl ⟨by rfl, ?_⟩) hb ?_
  · intro wx; go_simp
  simp only [Act.put, List.setIfInBounds_toArray, List.set_cons_zero, List.set_cons_succ]
  refine Od.anyC_free (i := 4) (v := .pointer (some ⟨g, o, none⟩)) (some 26) rfl rfl (by kernel_rfl) (by kernel_rfl) (by kernel_rfl) (by decide) (fun _ _ _ h => h) (Or.inl ⟨by rfl, ?_⟩) hb ?_
  · intro wx; go_simp
  simp only [Act.put, List.setIfInBounds_toArray, List.set_cons_zero, List.set_cons_succ]
  refine Od.anyC_free (i := 5) (v := .pointer (some ⟨g, o + 3, none⟩)) (some 27) rfl rfl (by kernel_rfl) (by kernel_rfl) (by kernel_rfl) (by decide) (fun _ _ _ h => h) (Or.inl ⟨by rfl, ?_⟩) hb ?_
  · intro wx; go_simp
  simp only [Act.put, List.setIfInBounds_toArray, List.set_cons_zero, List.set_cons_succ]
  refine Od.anyC_at (i := 6) (v := .slice At x.told.length Ct) (some 28) rfl rfl (by kernel_rfl) (by kernel_rfl) (by kernel_rfl) (by kernel_rfl) (by decide) (fun _ _ _ h => h) (Or.inl ⟨by rfl, ?_⟩) hb ?_
  · intro wx hwx; obtain ⟨l3, l5, l6, l7, l8, l9⟩ := hF wx hwx; go_simp
  simp only [Act.put, List.setIfInBounds_toArray, List.set_cons_zero, List.set_cons_succ]
  refine Od.anyC_free (i := 8) (v := .pointer (some ⟨g, o, none⟩)) (some 30) rfl rfl (by kernel_rfl) (by kernel_rfl) (by kernel_rfl) (by decide) (fun _ _ _ h => h) (Or.inl ⟨by rfl, ?_⟩) hb ?_
  · intro wx; go_simp
  simp only [Act.put, List.setIfInBounds_toArray, List.set_cons_zero, List.set_cons_succ]
  refine Od.anyC_free (i := 9) (v := .pointer (some ⟨g, o, none⟩)) (some 31) rfl rfl (by kernel_rfl) (by kernel_rfl) (by kernel_rfl) (by decide) (fun _ _ _ h => h) (Or.inl ⟨by rfl, ?_⟩) hb ?_
  · intro wx; go_simp
  simp only [Act.put, List.setIfInBounds_toArray, List.set_cons_zero, List.set_cons_succ]
  refine Od.anyC_free (i := 10) (v := .pointer (some ⟨g, o + 5, none⟩)) (some 32) rfl rfl (by kernel_rfl) (by kernel_rfl) (by kernel_rfl) (by decide) (fun _ _ _ h => h) (Or.inl ⟨by rfl, ?_⟩) hb ?_
  · intro wx; go_simp
  simp only [Act.put, List.setIfInBounds_toArray, List.set_cons_zero, List.set_cons_succ]
  refine Od.anyC_at (i := 11) (v := .slice Ad x.done.length Cd') (some 33) rfl rfl (by kernel_rfl) (by kernel_rfl) (by kernel_rfl) (by kernel_rfl) (by decide) (fun _ _ _ h => h) (Or.inl ⟨by rfl, ?_⟩) hb ?_
  · intro wx hwx; obtain ⟨l3, l5, l6, l7, l8, l9⟩ := hF wx hwx; go_simp
  simp only [Act.put, List.setIfInBounds_toArray, List.set_cons_zero, List.set_cons_succ]
  refine Od.anyC_free (i := 13) (v := .pointer (some ⟨g, o, none⟩)) (some 35) rfl rfl (by kernel_rfl) (by kernel_rfl) (by kernel_rfl) (by decide) (fun _ _ _ h => h) (Or.inl ⟨by rfl, ?_⟩) hb ?_
  · intro wx; go_simp
  simp only [Act.put, List.setIfInBounds_toArray, List.set_cons_zero, List.set_cons_succ]
  refine Od.anyC_free (i := 14) (v := .pointer (some ⟨g, o, none⟩)) (some 36) rfl rfl (by kernel_rfl) (by kernel_rfl) (by kernel_rfl) (by decide) (fun _ _ _ h => h) (Or.inl ⟨by rfl, ?_⟩) hb ?_
  · intro wx; go_simp
  simp only [Act.put, List.setIfInBounds_toArray, List.set_cons_zero, List.set_cons_succ]
  refine Od.anyC_free (i := 15) (v := .pointer (some ⟨g, o + 6, none⟩)) (some 37) rfl rfl (by kernel_rfl) (by kernel_rfl) (by kernel_rfl) (by decide) (fun _ _ _ h => h) (Or.inl ⟨by rfl, ?_⟩) hb ?_
  · intro wx; go_simp
  simp only [Act.put, List.setIfInBounds_toArray, List.set_cons_zero, List.set_cons_succ]
  refine Od.anyC_at (i := 16) (v := .agg #[.slice A1 x.out.S.length C1, .slice A2 x.out.D.length C2, .int .i64 x.out.g, .bool x.out.cl]) (some 38) rfl rfl (by kernel_rfl) (by kernel_rfl) (by kernel_rfl) (by kernel_rfl) (by decide) (fun _ _ _ h => h) (Or.inl ⟨by rfl, ?_⟩) hb ?_
  · intro wx hwx; obtain ⟨l3, l5, l6, l7, l8, l9⟩ := hF wx hwx; go_simp
  simp only [Act.put, List.setIfInBounds_toArray, List.set_cons_zero, List.set_cons_succ]
  refine Od.anyC_one (i := 7) (by kernel_rfl) rfl (by decide) (fun K hK => ?_)
  refine Ln.step_app rfl _ _ 33 rfl wl.heap.size 104 i0 _ 2 16 Tryz.underlying33 hi hz0 hz1 hz2 rfl (by decide) (.slice none 0 0) 0 [] rfl (World.ownsRow_nil _ _ _ _) At x.told.length Ct (pwC x.told) rfl (pwC_length _) nt ((hxt.over hb).cellsOf rfl) (one_pws _) bT (by omega) (Nat.le_refl _) ?_
  intro B1 E1 w5 ho5 hg5
  rw [Nat.zero_add, List.nil_append] at ho5
  have b5 : Below wl.heap.size wl w5 := hb.trans ((Below.refl _ wl.drew).grown hg5 (Nat.le_refl _) (fun k hk => by cases hk))
  have r5 : Rep (fun b => wl.heap.size ≤ b) w5 (.slice B1 x.told.length E1) 2 16 (pwC x.told) := Rep.own ho5 st
  refine hK _ _ b5 ?_
  clear hK K ho5 hg5 hb
  rw [Nat.zero_add]
  go_simp
  refine Od.anyC_one (i := 12) (by kernel_rfl) rfl (by decide) (fun K hK => ?_)
  refine Ln.step_app rfl _ _ 34 rfl w5.heap.size 3 j0 _ 1 8 Tryz.underlying34 hj hy0 hy1 hy2 rfl (by decide) (.slice none 0 0) 0 [] rfl (World.ownsRow_nil _ _ _ _) Ad x.done.length Cd' (inC x.done) rfl (inC_length _) nd ((hxd.over b5).cellsOf rfl) (one_ins _) bD (by omega) (Nat.le_refl _) ?_
  intro B2 E2 w6 ho6 hg6
  rw [Nat.zero_add, List.nil_append] at ho6
  have c6 : Below w5.heap.size w5 w6 := (Below.refl _ w5).grown hg6 (Nat.le_refl _) (fun k hk => by cases hk)
  have b6 : Below wl.heap.size wl w6 := b5.trans (c6.mono b5.size)
  have r6 : Rep (fun b => wl.heap.size ≤ b) w6 (.slice B2 x.done.length E2) 1 8 (inC x.done) := (Rep.own ho6 sd).mono fun b _ h => Nat.le_trans b5.size h
  refine hK _ _ b6 ?_
  clear hK K ho6 hg6
  rw [Nat.zero_add]
  go_simp
  have q5 := r5.over c6
  refine Od.anyC_go (by kernel_rfl) rfl rfl (fun K hK => ?_)
  go_simp
  refine (Ln.copy_any x.out A1 A2 C1 C2 sb so db dO w6 (hL.later b6)).mono ?_
  rintro e w7 ⟨F1, G1, F2, G2, rfl, hOL, hb7⟩
  refine hK _ _ ?_
  clear hK K
  have b7 : Below wl.heap.size wl w7 := b6.trans (hb7.mono b6.size)
  have hlk : Lk4 wl.heap.size w7 x (.slice B1 x.told.length E1) (.slice B2 x.done.length E2) (.slice F1 x.out.S.length G1) (.slice F2 x.out.D.length G2) :=
    ⟨q5.over hb7, r6.over hb7, (Rep.own hOL.oS hL.hls).mono fun b _ h => by have := b6.size; omega, (Rep.own hOL.oD hL.hld).mono fun b _ h => by have := b6.size; omega⟩
  have HLK := hide hlk
  obtain ⟨l3, l5, l6, l7, l8, l9⟩ := hF w7 b7
  have z : ∀ k, k < 14 → w7.frozen? ⟨g, o + k, none⟩ = false := fun k hk => (b7.frozen (p := ⟨g, o + k, none⟩) hg).trans (hz k hk)
  have z3 := z 3 (by omega)
  have z5 := z 5 (by omega)
  have z6 := z 6 (by omega)
  have z7 := z 7 (by omega)
  have z8 := z 8 (by omega)
  have z9 := z 9 (by omega)
  clear hlk hOL hb7 z hz hF q5 r5 r6 c6 b5 b6 hL hxt hxd hxs hxu hx
  refine Od.any_at (i := 18) (v := .pointer (some ⟨g, o, none⟩)) (some 40) rfl rfl (by kernel_rfl) (by kernel_rfl) (by kernel_rfl) (fun _ _ _ h => h) (Or.inl ⟨by rfl, ?_⟩) ?_
  · intro wx; go_simp
  simp only [Act.put, List.setIfInBounds_toArray, List.set_cons_zero, List.set_cons_succ]
  refine Od.any_at (i := 19) (v := .pointer (some ⟨g, o + 3, none⟩)) (some 41) rfl rfl (by kernel_rfl) (by kernel_rfl) (by kernel_rfl) (fun _ _ _ h => h) (Or.inl ⟨by rfl, ?_⟩) ?_
  · intro wx; go_simp
  simp only [Act.put, List.setIfInBounds_toArray, List.set_cons_zero, List.set_cons_succ]
  refine Od.any_go (i := 20) (by kernel_rfl) rfl rfl (fun K hK => ?_)
  go_simp
  refine hK _ _ ?_
  clear hK K
  refine Od.any_at (i := 21) (v := .pointer (some ⟨g, o, none⟩)) (some 42) rfl rfl (by kernel_rfl) (by kernel_rfl) (by kernel_rfl) (fun _ _ _ h => h) (Or.inl ⟨by rfl, ?_⟩) ?_
  · intro wx; go_simp
  simp only [Act.put, List.setIfInBounds_toArray, List.set_cons_zero, List.set_cons_succ]
  refine Od.any_at (i := 22) (v := .pointer (some ⟨g, o + 5, none⟩)) (some 43) rfl rfl (by kernel_rfl) (by kernel_rfl) (by kernel_rfl) (fun _ _ _ h => h) (Or.inl ⟨by rfl, ?_⟩) ?_
  · intro wx; go_simp
  simp only [Act.put, List.setIfInBounds_toArray, List.set_cons_zero, List.set_cons_succ]
  refine Od.any_go (i := 23) (by kernel_rfl) rfl rfl (fun K hK => ?_)
  go_simp
  refine hK _ _ ?_
  clear hK K
  refine Od.any_at (i := 24) (v := .pointer (some ⟨g, o, none⟩)) (some 44) rfl rfl (by kernel_rfl) (by kernel_rfl) (by kernel_rfl) (fun _ _ _ h => h) (Or.inl ⟨by rfl, ?_⟩) ?_
  · intro wx; go_simp
  simp only [Act.put, List.setIfInBounds_toArray, List.set_cons_zero, List.set_cons_succ]
  refine Od.any_at (i := 25) (v := .pointer (some ⟨g, o + 6, none⟩)) (some 45) rfl rfl (by kernel_rfl) (by kernel_rfl) (by kernel_rfl) (fun _ _ _ h => h) (Or.inl ⟨by rfl, ?_⟩) ?_
  · intro wx; go_simp
  simp only [Act.put, List.setIfInBounds_toArray, List.set_cons_zero, List.set_cons_succ]
  refine Od.any_go (i := 26) (by kernel_rfl) rfl rfl (fun K hK => ?_)
  go_simp
  refine hK _ _ ?_
  clear hK K
  refine wpAny_done (by kernel_rfl) ?_ _
  exact NoPanic.normal (HK.out _ _ _ _ _ _ _ _ _ _ _ _ _ _ _ _ _ _ _ _ _ _ _ _ _ _ _ _ w7 b7 HLK.out)
end Go.Proofs.YtkhlihpghbhppaaGreat.Pv

