/- StakeGood: the law's great condition (region 8), piece by piece. -/
import Derived.Test.YtjmhmmphbcohdaaZFO9
import Derived.Test.YtjmhmmphbcohdaaZOR2
import Derived.Test.YtjmhmmphbcohdaaXsd
import Derived.Test.YtjmhmmphbcohdaaXtd
import Derived.BigQuiet
import Derived.Deep.RegionHeld3
set_option maxRecDepth 100000
namespace Go.Proofs.Ytjmhmmphbcohdaa
open Go.RowKit
namespace Od
section
variable {P : Program} {md : Region.Mode} {ops : Array Oper} {Q : Exit → Act → World → Prop} {S : World → Prop}
theorem anyH_at {i : Nat} {oi : Oper} {v : Value} {n : Nat} {L : Array Bool} {a : Act} {w : World} (dd : Option Tmp) (hi : ops[i]? = some oi) (hd : oi.dst = dd)
    (hs : Region.noSelect ops = true) (hf : Region.free md ops L i = true) (hr : (Region.ready md ops L).contains i = true)
    (hQ : ∀ c a w, Q (.panic c) (a.put dd v) w → Q (.panic c) a w) (hy : YieldsIf P ops S oi v a) (hS : S w)
    (h : wpAnyH P md ops Q S n (L.setIfInBounds i true) (a.put dd v) w) : wpAnyH P md ops Q S (n + 1) L a w := by
  subst hd
  exact wpAnyH_take hi hs hf hr hQ hy hS h
end
end Od
/-- a piece of a code -/
def subG : List Nat → Code → Code
  | [], c => c
  | 0 :: p, .seq a _ => subG p a
  | 1 :: p, .seq _ b => subG p b
  | _ :: p, .block _ c => subG p c
  | _ :: p, .loop c => subG p c
  | 1 :: p, .cond _ a _ => subG p a
  | 2 :: p, .cond _ _ b => subG p b
  | _, _ => .skip
/-- the law's great condition -/
noncomputable def g8C : Code := subG [1, 1, 1, 0, 1, 9, 9, 1, 0, 9, 1, 0, 0] (Try.f3.body.getD .skip)
/-- all of a round behind follow -/
noncomputable def gtC : Code := subG [1, 1, 1, 0, 1, 9, 9, 1, 0, 9, 1] (Try.f3.body.getD .skip)
def loadB (v : Value) : Sem Value := Instr.loadAt 26 v
theorem loadB_eq (v : Value) : Instr.loadAt 26 v = loadB v := rfl
def loadVs (v : Value) : Sem Value := Instr.loadAt 29 v
theorem loadVs_eq (v : Value) : Instr.loadAt 29 v = loadVs v := rfl
def loadHs (v : Value) : Sem Value := Instr.loadAt 31 v
theorem loadHs_eq (v : Value) : Instr.loadAt 31 v = loadHs v := rfl
theorem SAt.loadB {w : World} {b : Nat} {s : St} {sl : Value} (h : SAt w b (stC s sl)) : (loadB (.pointer (some ⟨b, 0, none⟩))).run Try.prog w = .ok (.agg (bkC s.b)) w := by
  have := run_loadAt_mid (P := Try.prog) w b 0 26 (bkC s.b).toList _ (st_bank h) Try.underlying26 rfl (by kernel_rfl)
  change (Instr.loadAt 26 _).run Try.prog w = _
  simpa using this
theorem SAt.loadVs {w : World} {b : Nat} {s : St} {sl : Value} (h : SAt w b (stC s sl)) : (loadVs (.pointer (some ⟨b, 7, none⟩))).run Try.prog w = .ok (.agg (vsC s.V)) w := by
  have := run_loadAt_mid (P := Try.prog) w b 7 29 (vsC s.V).toList _ (st_vals h) Try.underlying29 rfl (by kernel_rfl)
  change (Instr.loadAt 29 _).run Try.prog w = _
  simpa using this
theorem SAt.loadHs {w : World} {b : Nat} {s : St} {sl : Value} (h : SAt w b (stC s sl)) : (loadHs (.pointer (some ⟨b, 37, none⟩))).run Try.prog w = .ok (.agg (shC s.S)) w := by
  have := run_loadAt_mid (P := Try.prog) w b 37 31 (shC s.S).toList _ (st_shares h) Try.underlying31 rfl (by kernel_rfl)
  change (Instr.loadAt 31 _).run Try.prog w = _
  simpa using this
theorem sum_good {b : Bk} (hg : b.good = true) (w : World) : Calls Try.prog 8 #[.agg (bkC b)] w fun e w' => e = .returned (.int .i64 400000) ∧ Below w.heap.size w w' := by
  refine (sum_any b.f0 b.f1 b.f2 b.f3 b.bo b.wa b.bu w).mono ?_
  rintro e w' ⟨rfl, h⟩
  have := (good_iff b).1 hg
  refine ⟨?_, h⟩
  rw [show b.f0 + b.f1 + b.f2 + b.f3 + b.bo + b.wa + b.bu = 400000 by omega, show wrap64 400000 = 400000 by simp [wrap64]]
theorem neBkA (w : World) (b : Bk) : (binOp .neq 26 (.agg (bkC b)) (.agg (bkC b))).run Try.prog w = .ok (.bool false) w := neBk w b
attribute [local go_sem ↓] loadS_eq
attribute [local go_sem ↓] loadB_eq
attribute [local go_sem ↓] loadVs_eq
attribute [local go_sem ↓] loadHs_eq
set_option maxHeartbeats 8000000 in
set_option maxRecDepth 1000000 in
theorem reg8_ok (s t : St) (g p : Nat) (A2 : Option Addr) (C2 : Nat) (wz : World) (hSF : Hid (∀ wx, Below wz.heap.size wz wx → (loadS (.pointer (some ⟨p, 0, none⟩))).run Try.prog wx = .ok (.agg (stC t (.slice A2 t.W.length C2))) wx ∧ (loadB (.pointer (some ⟨p, 0, none⟩))).run Try.prog wx = .ok (.agg (bkC t.b)) wx ∧ (loadB (.pointer (some ⟨g, 0, none⟩))).run Try.prog wx = .ok (.agg (bkC s.b)) wx ∧ (loadVs (.pointer (some ⟨p, 7, none⟩))).run Try.prog wx = .ok (.agg (vsC t.V)) wx ∧ (loadVs (.pointer (some ⟨g, 7, none⟩))).run Try.prog wx = .ok (.agg (vsC s.V)) wx ∧ (loadHs (.pointer (some ⟨p, 37, none⟩))).run Try.prog wx = .ok (.agg (shC t.S)) wx ∧ (loadHs (.pointer (some ⟨g, 37, none⟩))).run Try.prog wx = .ok (.agg (shC s.S)) wx ∧ wx.cell? ⟨p, 6, none⟩ = some (.int .i64 t.b.bu) ∧ wx.cell? ⟨g, 6, none⟩ = some (.int .i64 s.b.bu)))
    (hgd : Hid (∀ wx, Below wz.heap.size wz wx → Calls Try.prog 7 #[.agg (stC t (.slice A2 t.W.length C2))] wx fun e w' => e = .returned (.bool true) ∧ Below wz.heap.size wz w'))
    (hs1 : Hid (∀ wx, Below wz.heap.size wz wx → Calls Try.prog 8 #[.agg (bkC s.b)] wx fun e w' => e = .returned (.int .i64 400000) ∧ Below wz.heap.size wz w'))
    (hs2 : Hid (∀ wx, Below wz.heap.size wz wx → Calls Try.prog 8 #[.agg (bkC t.b)] wx fun e w' => e = .returned (.int .i64 400000) ∧ Below wz.heap.size wz w'))
    (hbu : ¬ (t.b.bu < s.b.bu)) (v0 v1 v2 v4 v7 v8 v9 v10 v11 v12 v13 v14 v15 v16 v17 v18 v19 v20 v21 v22 v23 v24 v25 v26 v27 v28 v29 v30 v31 v32 v33 v34 v35 v36 v37 v38 v39 v40 v41 v42 v43 v44 v45 v46 v47 v48 v49 v50 v51 v52 v53 v54 v55 v56 v57 v58 v59 v60 v61 v62 v63 v64 v65 v66 v67 v68 v69 v70 v71 v72 v73 v74 v75 v76 v77 v78 v79 v80 v81 v82 v83 v84 v85 v86 v87 v88 v89 v90 v91 v92 v93 v94 v95 v96 v97 v98 v99 v100 v101 v102 v103 v104 v105 v106 : Value) (Q : Exit → Act → World → Prop)
    (hQ : ∀ (t30 t31 t32 t33 t34 t35 t36 t37 t38 t39 t40 t41 t42 t43 t44 t45 t46 t47 t48 t49 t50 t51 t52 t53 t54 t55 t56 t57 t58 t59 t60 t61 t62 t63 t64 t65 t66 t67 t68 t69 t70 t71 t72 t73 t74 : Value) (wq : World), Below wz.heap.size wz wq → Q .normal ⟨List.toArray (v0 :: v1 :: v2 :: (.pointer (some ⟨g, 0, none⟩)) :: v4 :: (.pointer (some ⟨p, 0, none⟩)) :: (.int .i64 0) :: v7 :: v8 :: v9 :: v10 :: v11 :: v12 :: v13 :: v14 :: v15 :: v16 :: v17 :: v18 :: v19 :: v20 :: v21 :: v22 :: v23 :: v24 :: v25 :: v26 :: v27 :: v28 :: v29 :: (t30) :: (t31) :: (t32) :: (t33) :: (t34) :: (t35) :: (t36) :: (t37) :: (t38) :: (t39) :: (t40) :: (t41) :: (t42) :: (t43) :: (t44) :: (t45) :: (t46) :: (t47) :: (t48) :: (t49) :: (t50) :: (t51) :: (t52) :: (t53) :: (t54) :: (t55) :: (t56) :: (t57) :: (t58) :: (t59) :: (t60) :: (t61) :: (t62) :: (t63) :: (t64) :: (t65) :: (t66) :: (t67) :: (t68) :: (t69) :: (t70) :: (t71) :: (t72) :: (t73) :: (t74) :: (.bool false) :: v76 :: v77 :: v78 :: v79 :: v80 :: v81 :: v82 :: v83 :: v84 :: v85 :: v86 :: v87 :: v88 :: v89 :: v90 :: v91 :: v92 :: v93 :: v94 :: v95 :: v96 :: v97 :: v98 :: v99 :: v100 :: v101 :: v102 :: v103 :: v104 :: v105 :: v106 :: []), []⟩ wq) :
    Code.wp Try.prog g8C Q ⟨List.toArray (v0 :: v1 :: v2 :: (.pointer (some ⟨g, 0, none⟩)) :: v4 :: (.pointer (some ⟨p, 0, none⟩)) :: (.int .i64 0) :: v7 :: v8 :: v9 :: v10 :: v11 :: v12 :: v13 :: v14 :: v15 :: v16 :: v17 :: v18 :: v19 :: v20 :: v21 :: v22 :: v23 :: v24 :: v25 :: v26 :: v27 :: v28 :: v29 :: v30 :: v31 :: v32 :: v33 :: v34 :: v35 :: v36 :: v37 :: v38 :: v39 :: v40 :: v41 :: v42 :: v43 :: v44 :: v45 :: v46 :: v47 :: v48 :: v49 :: v50 :: v51 :: v52 :: v53 :: v54 :: v55 :: v56 :: v57 :: v58 :: v59 :: v60 :: v61 :: v62 :: v63 :: v64 :: v65 :: v66 :: v67 :: v68 :: v69 :: v70 :: v71 :: v72 :: v73 :: v74 :: v75 :: v76 :: v77 :: v78 :: v79 :: v80 :: v81 :: v82 :: v83 :: v84 :: v85 :: v86 :: v87 :: v88 :: v89 :: v90 :: v91 :: v92 :: v93 :: v94 :: v95 :: v96 :: v97 :: v98 :: v99 :: v100 :: v101 :: v102 :: v103 :: v104 :: v105 :: v106 :: []), []⟩ wz := by
  have HK := hide hQ
  clear hQ
  conv => arg 2; whnf
  refine wp_region_noPanic ?_
  have hb : Below wz.heap.size wz wz.drew := (Below.refl _ wz).drew
  refine wp_region_held (S := fun wx => Below wz.heap.size wz wx) (by kernel_rfl) ?_
  change wpAnyH _ _ _ _ _ _ _ _ wz.drew
  refine Od.anyH_at (i := 0) (v := .int .i64 0) (some 30) rfl rfl (by kernel_rfl) (by kernel_rfl) (by kernel_rfl) (fun _ _ _ h => h) (Or.inl ⟨by rfl, ?_⟩) hb ?_
  · intro wx hwx; go_simp
  simp only [Act.put, List.setIfInBounds_toArray, List.set_cons_zero, List.set_cons_succ]
  refine Od.anyH_at (i := 1) (v := .bool false) (some 31) rfl rfl (by kernel_rfl) (by kernel_rfl) (by kernel_rfl) (fun _ _ _ h => h) (Or.inl ⟨by rfl, ?_⟩) hb ?_
  · intro wx hwx; go_simp
  simp only [Act.put, List.setIfInBounds_toArray, List.set_cons_zero, List.set_cons_succ]
  refine Od.anyH_at (i := 2) (v := .bool false) (some 32) rfl rfl (by kernel_rfl) (by kernel_rfl) (by kernel_rfl) (fun _ _ _ h => h) (Or.inl ⟨by rfl, ?_⟩) hb ?_
  · intro wx hwx; go_simp
  simp only [Act.put, List.setIfInBounds_toArray, List.set_cons_zero, List.set_cons_succ]
  refine Od.anyH_at (i := 3) (v := undef) (some 33) rfl rfl (by kernel_rfl) (by kernel_rfl) (by kernel_rfl) (fun _ _ _ h => h) (Or.inr ⟨by rfl, rfl⟩) hb ?_
  simp only [Act.put, List.setIfInBounds_toArray, List.set_cons_zero, List.set_cons_succ]
  refine Od.anyH_at (i := 4) (v := undef) (some 34) rfl rfl (by kernel_rfl) (by kernel_rfl) (by kernel_rfl) (fun _ _ _ h => h) (Or.inr ⟨by rfl, rfl⟩) hb ?_
  simp only [Act.put, List.setIfInBounds_toArray, List.set_cons_zero, List.set_cons_succ]
  refine Od.anyH_at (i := 5) (v := undef) (some 35) rfl rfl (by kernel_rfl) (by kernel_rfl) (by kernel_rfl) (fun _ _ _ h => h) (Or.inr ⟨by rfl, rfl⟩) hb ?_
  simp only [Act.put, List.setIfInBounds_toArray, List.set_cons_zero, List.set_cons_succ]
  refine Od.anyH_at (i := 6) (v := undef) (some 36) rfl rfl (by kernel_rfl) (by kernel_rfl) (by kernel_rfl) (fun _ _ _ h => h) (Or.inr ⟨by rfl, rfl⟩) hb ?_
  simp only [Act.put, List.setIfInBounds_toArray, List.set_cons_zero, List.set_cons_succ]
  refine Od.anyH_at (i := 7) (v := undef) (some 37) rfl rfl (by kernel_rfl) (by kernel_rfl) (by kernel_rfl) (fun _ _ _ h => h) (Or.inr ⟨by rfl, rfl⟩) hb ?_
  simp only [Act.put, List.setIfInBounds_toArray, List.set_cons_zero, List.set_cons_succ]
  refine Od.anyH_at (i := 8) (v := undef) (some 38) rfl rfl (by kernel_rfl) (by kernel_rfl) (by kernel_rfl) (fun _ _ _ h => h) (Or.inr ⟨by rfl, rfl⟩) hb ?_
  simp only [Act.put, List.setIfInBounds_toArray, List.set_cons_zero, List.set_cons_succ]
  refine Od.anyH_at (i := 9) (v := undef) (some 39) rfl rfl (by kernel_rfl) (by kernel_rfl) (by kernel_rfl) (fun _ _ _ h => h) (Or.inr ⟨by rfl, rfl⟩) hb ?_
  simp only [Act.put, List.setIfInBounds_toArray, List.set_cons_zero, List.set_cons_succ]
  refine Od.anyH_at (i := 10) (v := undef) (some 40) rfl rfl (by kernel_rfl) (by kernel_rfl) (by kernel_rfl) (fun _ _ _ h => h) (Or.inr ⟨by rfl, rfl⟩) hb ?_
  simp only [Act.put, List.setIfInBounds_toArray, List.set_cons_zero, List.set_cons_succ]
  refine Od.anyH_at (i := 11) (v := undef) (some 41) rfl rfl (by kernel_rfl) (by kernel_rfl) (by kernel_rfl) (fun _ _ _ h => h) (Or.inr ⟨by rfl, rfl⟩) hb ?_
  simp only [Act.put, List.setIfInBounds_toArray, List.set_cons_zero, List.set_cons_succ]
  refine Od.anyH_at (i := 12) (v := undef) (some 42) rfl rfl (by kernel_rfl) (by kernel_rfl) (by kernel_rfl) (fun _ _ _ h => h) (Or.inr ⟨by rfl, rfl⟩) hb ?_
  simp only [Act.put, List.setIfInBounds_toArray, List.set_cons_zero, List.set_cons_succ]
  refine Od.anyH_at (i := 13) (v := undef) (some 43) rfl rfl (by kernel_rfl) (by kernel_rfl) (by kernel_rfl) (fun _ _ _ h => h) (Or.inr ⟨by rfl, rfl⟩) hb ?_
  simp only [Act.put, List.setIfInBounds_toArray, List.set_cons_zero, List.set_cons_succ]
  refine Od.anyH_at (i := 14) (v := undef) (some 44) rfl rfl (by kernel_rfl) (by kernel_rfl) (by kernel_rfl) (fun _ _ _ h => h) (Or.inr ⟨by rfl, rfl⟩) hb ?_
  simp only [Act.put, List.setIfInBounds_toArray, List.set_cons_zero, List.set_cons_succ]
  refine Od.anyH_at (i := 15) (v := undef) (some 45) rfl rfl (by kernel_rfl) (by kernel_rfl) (by kernel_rfl) (fun _ _ _ h => h) (Or.inr ⟨by rfl, rfl⟩) hb ?_
  simp only [Act.put, List.setIfInBounds_toArray, List.set_cons_zero, List.set_cons_succ]
  refine Od.anyH_at (i := 16) (v := undef) (some 46) rfl rfl (by kernel_rfl) (by kernel_rfl) (by kernel_rfl) (fun _ _ _ h => h) (Or.inr ⟨by rfl, rfl⟩) hb ?_
  simp only [Act.put, List.setIfInBounds_toArray, List.set_cons_zero, List.set_cons_succ]
  refine Od.anyH_at (i := 17) (v := undef) (some 47) rfl rfl (by kernel_rfl) (by kernel_rfl) (by kernel_rfl) (fun _ _ _ h => h) (Or.inr ⟨by rfl, rfl⟩) hb ?_
  simp only [Act.put, List.setIfInBounds_toArray, List.set_cons_zero, List.set_cons_succ]
  refine Od.anyH_at (i := 18) (v := undef) (some 48) rfl rfl (by kernel_rfl) (by kernel_rfl) (by kernel_rfl) (fun _ _ _ h => h) (Or.inr ⟨by rfl, rfl⟩) hb ?_
  simp only [Act.put, List.setIfInBounds_toArray, List.set_cons_zero, List.set_cons_succ]
  refine Od.anyH_at (i := 19) (v := undef) (some 49) rfl rfl (by kernel_rfl) (by kernel_rfl) (by kernel_rfl) (fun _ _ _ h => h) (Or.inr ⟨by rfl, rfl⟩) hb ?_
  simp only [Act.put, List.setIfInBounds_toArray, List.set_cons_zero, List.set_cons_succ]
  refine Od.anyH_at (i := 20) (v := undef) (some 50) rfl rfl (by kernel_rfl) (by kernel_rfl) (by kernel_rfl) (fun _ _ _ h => h) (Or.inr ⟨by rfl, rfl⟩) hb ?_
  simp only [Act.put, List.setIfInBounds_toArray, List.set_cons_zero, List.set_cons_succ]
  refine Od.anyH_at (i := 21) (v := undef) (some 51) rfl rfl (by kernel_rfl) (by kernel_rfl) (by kernel_rfl) (fun _ _ _ h => h) (Or.inr ⟨by rfl, rfl⟩) hb ?_
  simp only [Act.put, List.setIfInBounds_toArray, List.set_cons_zero, List.set_cons_succ]
  refine Od.anyH_at (i := 22) (v := .bool false) (some 52) rfl rfl (by kernel_rfl) (by kernel_rfl) (by kernel_rfl) (fun _ _ _ h => h) (Or.inl ⟨by rfl, ?_⟩) hb ?_
  · intro wx hwx; go_simp
  simp only [Act.put, List.setIfInBounds_toArray, List.set_cons_zero, List.set_cons_succ]
  refine Od.anyH_at (i := 23) (v := .bool false) (some 53) rfl rfl (by kernel_rfl) (by kernel_rfl) (by kernel_rfl) (fun _ _ _ h => h) (Or.inl ⟨by rfl, ?_⟩) hb ?_
  · intro wx hwx; go_simp
  simp only [Act.put, List.setIfInBounds_toArray, List.set_cons_zero, List.set_cons_succ]
  refine Od.anyH_at (i := 24) (v := .agg (stC t (.slice A2 t.W.length C2))) (some 54) rfl rfl (by kernel_rfl) (by kernel_rfl) (by kernel_rfl) (fun _ _ _ h => h) (Or.inl ⟨by rfl, ?_⟩) hb ?_
  · intro wx hwx; obtain ⟨l0, l1, l2, l3, l4, l5, l6, l7, l8⟩ := hSF.out wx hwx; go_simp
  simp only [Act.put, List.setIfInBounds_toArray, List.set_cons_zero, List.set_cons_succ]
  refine wpAnyH_ready (rs := [25]) (by kernel_rfl) (by simp) ?_
  refine AllReadyH.cons rfl (fun K hK => ?_) AllReadyH.nil
  rw [if_pos (by rfl)]
  go_simp
  refine (hgd.out _ (by exact hb)).mono ?_
  rintro e wy ⟨rfl, hbn⟩
  refine hK.out _ _ hbn (fun _ => ?_)
  clear hK K hb
  have hb := hbn
  clear hbn
  refine Od.anyH_at (i := 26) (v := .bool false) (some 56) rfl rfl (by kernel_rfl) (by kernel_rfl) (by kernel_rfl) (fun _ _ _ h => h) (Or.inl ⟨by rfl, ?_⟩) hb ?_
  · intro wx hwx; go_simp
  simp only [Act.put, List.setIfInBounds_toArray, List.set_cons_zero, List.set_cons_succ]
  refine Od.anyH_at (i := 27) (v := .bool false) (some 57) rfl rfl (by kernel_rfl) (by kernel_rfl) (by kernel_rfl) (fun _ _ _ h => h) (Or.inl ⟨by rfl, ?_⟩) hb ?_
  · intro wx hwx; go_simp
  simp only [Act.put, List.setIfInBounds_toArray, List.set_cons_zero, List.set_cons_succ]
  refine Od.anyH_at (i := 28) (v := .bool false) (some 58) rfl rfl (by kernel_rfl) (by kernel_rfl) (by kernel_rfl) (fun _ _ _ h => h) (Or.inl ⟨by rfl, ?_⟩) hb ?_
  · intro wx hwx; go_simp
  simp only [Act.put, List.setIfInBounds_toArray, List.set_cons_zero, List.set_cons_succ]
  refine Od.anyH_at (i := 29) (v := .pointer (some ⟨p, 0, none⟩)) (some 59) rfl rfl (by kernel_rfl) (by kernel_rfl) (by kernel_rfl) (fun _ _ _ h => h) (Or.inl ⟨by rfl, ?_⟩) hb ?_
  · intro wx hwx; go_simp
  simp only [Act.put, List.setIfInBounds_toArray, List.set_cons_zero, List.set_cons_succ]
  refine Od.anyH_at (i := 30) (v := .agg (bkC t.b)) (some 60) rfl rfl (by kernel_rfl) (by kernel_rfl) (by kernel_rfl) (fun _ _ _ h => h) (Or.inl ⟨by rfl, ?_⟩) hb ?_
  · intro wx hwx; obtain ⟨l0, l1, l2, l3, l4, l5, l6, l7, l8⟩ := hSF.out wx hwx; go_simp
  simp only [Act.put, List.setIfInBounds_toArray, List.set_cons_zero, List.set_cons_succ]
  refine Od.anyH_at (i := 32) (v := .pointer (some ⟨g, 0, none⟩)) (some 62) rfl rfl (by kernel_rfl) (by kernel_rfl) (by kernel_rfl) (fun _ _ _ h => h) (Or.inl ⟨by rfl, ?_⟩) hb ?_
  · intro wx hwx; go_simp
  simp only [Act.put, List.setIfInBounds_toArray, List.set_cons_zero, List.set_cons_succ]
  refine Od.anyH_at (i := 33) (v := .agg (bkC s.b)) (some 63) rfl rfl (by kernel_rfl) (by kernel_rfl) (by kernel_rfl) (fun _ _ _ h => h) (Or.inl ⟨by rfl, ?_⟩) hb ?_
  · intro wx hwx; obtain ⟨l0, l1, l2, l3, l4, l5, l6, l7, l8⟩ := hSF.out wx hwx; go_simp
  simp only [Act.put, List.setIfInBounds_toArray, List.set_cons_zero, List.set_cons_succ]
  refine wpAnyH_ready (rs := [31]) (by kernel_rfl) (by simp) ?_
  refine AllReadyH.cons rfl (fun K hK => ?_) AllReadyH.nil
  rw [if_pos (by rfl)]
  go_simp
  refine (hs2.out _ (by exact hb)).mono ?_
  rintro e wy ⟨rfl, hbn⟩
  refine hK.out _ _ hbn (fun _ => ?_)
  clear hK K hb
  have hb := hbn
  clear hbn
  refine wpAnyH_ready (rs := [34]) (by kernel_rfl) (by simp) ?_
  refine AllReadyH.cons rfl (fun K hK => ?_) AllReadyH.nil
  rw [if_pos (by rfl)]
  go_simp
  refine (hs1.out _ (by exact hb)).mono ?_
  rintro e wy ⟨rfl, hbn⟩
  refine hK.out _ _ hbn (fun _ => ?_)
  clear hK K hb
  have hb := hbn
  clear hbn
  refine Od.anyH_at (i := 35) (v := .bool false) (some 65) rfl rfl (by kernel_rfl) (by kernel_rfl) (by kernel_rfl) (fun _ _ _ h => h) (Or.inl ⟨by rfl, ?_⟩) hb ?_
  · intro wx hwx; go_simp
  simp only [Act.put, List.setIfInBounds_toArray, List.set_cons_zero, List.set_cons_succ]
  refine Od.anyH_at (i := 36) (v := .bool false) (some 66) rfl rfl (by kernel_rfl) (by kernel_rfl) (by kernel_rfl) (fun _ _ _ h => h) (Or.inl ⟨by rfl, ?_⟩) hb ?_
  · intro wx hwx; go_simp
  simp only [Act.put, List.setIfInBounds_toArray, List.set_cons_zero, List.set_cons_succ]
  refine Od.anyH_at (i := 37) (v := .bool false) (some 67) rfl rfl (by kernel_rfl) (by kernel_rfl) (by kernel_rfl) (fun _ _ _ h => h) (Or.inl ⟨by rfl, ?_⟩) hb ?_
  · intro wx hwx; go_simp
  simp only [Act.put, List.setIfInBounds_toArray, List.set_cons_zero, List.set_cons_succ]
  refine Od.anyH_at (i := 38) (v := .pointer (some ⟨p, 0, none⟩)) (some 68) rfl rfl (by kernel_rfl) (by kernel_rfl) (by kernel_rfl) (fun _ _ _ h => h) (Or.inl ⟨by rfl, ?_⟩) hb ?_
  · intro wx hwx; go_simp
  simp only [Act.put, List.setIfInBounds_toArray, List.set_cons_zero, List.set_cons_succ]
  refine Od.anyH_at (i := 39) (v := .pointer (some ⟨p, 6, none⟩)) (some 69) rfl rfl (by kernel_rfl) (by kernel_rfl) (by kernel_rfl) (fun _ _ _ h => h) (Or.inl ⟨by rfl, ?_⟩) hb ?_
  · intro wx hwx; go_simp
  simp only [Act.put, List.setIfInBounds_toArray, List.set_cons_zero, List.set_cons_succ]
  refine Od.anyH_at (i := 40) (v := .int .i64 t.b.bu) (some 70) rfl rfl (by kernel_rfl) (by kernel_rfl) (by kernel_rfl) (fun _ _ _ h => h) (Or.inl ⟨by rfl, ?_⟩) hb ?_
  · intro wx hwx; obtain ⟨l0, l1, l2, l3, l4, l5, l6, l7, l8⟩ := hSF.out wx hwx; go_simp
  simp only [Act.put, List.setIfInBounds_toArray, List.set_cons_zero, List.set_cons_succ]
  refine Od.anyH_at (i := 41) (v := .pointer (some ⟨g, 0, none⟩)) (some 71) rfl rfl (by kernel_rfl) (by kernel_rfl) (by kernel_rfl) (fun _ _ _ h => h) (Or.inl ⟨by rfl, ?_⟩) hb ?_
  · intro wx hwx; go_simp
  simp only [Act.put, List.setIfInBounds_toArray, List.set_cons_zero, List.set_cons_succ]
  refine Od.anyH_at (i := 42) (v := .pointer (some ⟨g, 6, none⟩)) (some 72) rfl rfl (by kernel_rfl) (by kernel_rfl) (by kernel_rfl) (fun _ _ _ h => h) (Or.inl ⟨by rfl, ?_⟩) hb ?_
  · intro wx hwx; go_simp
  simp only [Act.put, List.setIfInBounds_toArray, List.set_cons_zero, List.set_cons_succ]
  refine Od.anyH_at (i := 43) (v := .int .i64 s.b.bu) (some 73) rfl rfl (by kernel_rfl) (by kernel_rfl) (by kernel_rfl) (fun _ _ _ h => h) (Or.inl ⟨by rfl, ?_⟩) hb ?_
  · intro wx hwx; obtain ⟨l0, l1, l2, l3, l4, l5, l6, l7, l8⟩ := hSF.out wx hwx; go_simp
  simp only [Act.put, List.setIfInBounds_toArray, List.set_cons_zero, List.set_cons_succ]
  refine Od.anyH_at (i := 44) (v := .bool false) (some 74) rfl rfl (by kernel_rfl) (by kernel_rfl) (by kernel_rfl) (fun _ _ _ h => h) (Or.inl ⟨by rfl, ?_⟩) hb ?_
  · intro wx hwx; go_simp
  simp only [Act.put, List.setIfInBounds_toArray, List.set_cons_zero, List.set_cons_succ]
  refine Od.anyH_at (i := 45) (v := .bool false) (some 75) rfl rfl (by kernel_rfl) (by kernel_rfl) (by kernel_rfl) (fun _ _ _ h => h) (Or.inl ⟨by rfl, ?_⟩) hb ?_
  · intro wx hwx; go_simp
  simp only [Act.put, List.setIfInBounds_toArray, List.set_cons_zero, List.set_cons_succ]
  refine wpAnyH_done (by kernel_rfl) ?_ _
  exact NoPanic.normal (HK.out _ _ _ _ _ _ _ _ _ _ _ _ _ _ _ _ _ _ _ _ _ _ _ _ _ _ _ _ _ _ _ _ _ _ _ _ _ _ _ _ _ _ _ _ _ _ hb)
end Go.Proofs.Ytjmhmmphbcohdaa
