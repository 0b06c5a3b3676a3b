/- StakeGood: a round of the law behind follow. -/
import Derived.Test.YtjmhmmphbcohdaaZGR9
set_option maxRecDepth 100000
namespace Go.Proofs.Ytjmhmmphbcohdaa
open Go.RowKit
/-- behind follow: the old stake lies in block g, the new one in block p -/
structure GZ (wr wz : World) (g p : Nat) (s : St) (ssl : Value) (t : St) (A : Option Addr) (ab a2 C : Nat) : Prop where
  s1 : SAt wz g (stC s ssl)
  s2 : SAt wz p (stC t (.slice A t.W.length C))
  ws : WsAt wz A ab a2 t.W
  ne : p ≠ g
  nb : 0 < t.W.length → ab ≠ g
  below : Below wr.heap.size wr wz
theorem gz_a {wr w2 : World} {g : Nat} {s : St} {ssl : Value} {sb : Nat} {t : St} {A : Option Addr} {ab a2 C : Nat} (S5 : SAt wr g (stC s ssl)) (hab : 0 < s.W.length → sb ≠ g)
    (hW2 : WsAt w2 A ab a2 t.W) (hat : 0 < t.W.length → ab < w2.heap.size ∧ (0 < s.W.length ∧ ab = sb ∨ wr.heap.size ≤ ab)) (hb2 : Below wr.heap.size wr w2) :
    GZ wr ((w2.alloc (.cells Z63 34)).setCells w2.heap.size 0 (stC t (.slice A t.W.length C)).toList) g w2.heap.size s ssl t A ab a2 C := by
  have h1 := S5.later hb2 S5.lt
  have hlt := S5.lt
  refine ⟨(heap_sets (by have := h1.lt; omega) _ _ _).trans (h1.alloc _), (SAt.new w2 Z63).setAll rfl, (hW2.alloc _).sets (fun h => by have := (hat h).1; omega) _ _, by have := h1.lt; omega, fun h => ?_, below_sets hb2.size _ _ _ (hb2.alloc hb2.size _)⟩
  rcases (hat h).2 with ⟨h2, h3⟩ | h2
  · rw [h3]; exact hab h2
  · omega
theorem gz_b {wr w5 w2 : World} {g : Nat} {s : St} {ssl : Value} {so : Option Addr} {sb s2 : Nat} {t : St} {A : Option Addr} {ab a2 C : Nat} (S5 : SAt wr g (stC s ssl)) (hab : 0 < s.W.length → sb ≠ g) (hW : WsAt wr so sb s2 s.W)
    (N5 : SAt w5 wr.heap.size Z63) (hb5 : Below wr.heap.size wr w5) (hW2 : WsAt w2 A ab a2 t.W) (hat : 0 < t.W.length → ab < w2.heap.size ∧ (0 < s.W.length ∧ ab = sb ∨ w5.heap.size ≤ ab)) (hb2 : Below w5.heap.size w5 w2) :
    GZ wr (w2.setCells wr.heap.size 0 (stC t (.slice A t.W.length C)).toList) g wr.heap.size s ssl t A ab a2 C := by
  have hlt := S5.lt
  have h5 := N5.lt
  have hb : Below wr.heap.size wr w2 := hb5.trans (hb2.mono hb5.size)
  have h1 := S5.later hb S5.lt
  have N2 := N5.later hb2 N5.lt
  have hne : 0 < t.W.length → ab ≠ g ∧ ab ≠ wr.heap.size := fun h => by
    rcases (hat h).2 with ⟨h2, h3⟩ | h2
    · have := hab h2
      have := hW.lt h2
      omega
    · omega
  exact ⟨(heap_sets (by omega) _ _ _).trans h1, N2.setAll rfl, hW2.sets (fun h => (hne h).2) _ _, by omega, fun h => (hne h).1, below_sets (Nat.le_refl _) _ _ _ hb⟩
attribute [local go_sem ↓] loadS_eq
set_option maxHeartbeats 8000000 in
set_option maxRecDepth 1000000 in
theorem gtail_wp (W wr wz : World) (g p : Nat) (s t : St) (ssl : Value) (er : Int) (A2 : Option Addr) (b2 a3 C2 : Nat) (hW : Below W.heap.size W wr) (hg : W.heap.size ≤ g) (hz : GZ wr wz g p s ssl t A2 b2 a3 C2) (hsg : goodS s = true) (kp : Kp s (t, er)) (v0 v1 v2 v4 v7 v8 v9 v10 v11 v12 v13 v14 v15 v16 v17 v18 v19 v20 v21 v22 v23 v24 v25 v26 v27 v28 v29 v30 v31 v32 v33 v34 v35 v36 v37 v38 v39 v40 v41 v42 v43 v44 v45 v46 v47 v48 v49 v50 v51 v52 v53 v54 v55 v56 v57 v58 v59 v60 v61 v62 v63 v64 v65 v66 v67 v68 v69 v70 v71 v72 v73 v74 v75 v76 v77 v78 v79 v80 v81 v82 v83 v84 v85 v86 v87 v88 v89 v90 v91 v92 v93 v94 v95 v96 v97 v98 v99 v100 v101 v102 v103 v104 v105 v106 : Value) (Q : Exit → Act → World → Prop)
    (hQ : ∀ (t2 t7 t30 t31 t32 t33 t34 t35 t36 t37 t38 t39 t40 t41 t42 t43 t44 t45 t46 t47 t48 t49 t50 t51 t52 t53 t54 t55 t56 t57 t58 t59 t60 t61 t62 t63 t64 t65 t66 t67 t68 t69 t70 t71 t72 t73 t74 t75 t76 t77 t78 t79 t80 t81 t82 t83 t84 t85 t86 t87 t88 t89 t90 t91 t92 t93 t94 t95 t96 t97 t98 t99 t100 t101 t102 t103 t104 t105 t106 : Value) (wq : World), SAt wq g (stC t (.slice A2 t.W.length C2)) → WsAt wq A2 b2 a3 t.W → Below W.heap.size W wq → Q .normal ⟨List.toArray (v0 :: v1 :: (t2) :: (.pointer (some ⟨g, 0, none⟩)) :: v4 :: (.pointer (some ⟨p, 0, none⟩)) :: (.int .i64 er) :: (t7) :: v8 :: v9 :: v10 :: v11 :: v12 :: v13 :: v14 :: v15 :: v16 :: v17 :: v18 :: v19 :: v20 :: v21 :: v22 :: v23 :: v24 :: v25 :: v26 :: v27 :: v28 :: v29 :: (t30) :: (t31) :: (t32) :: (t33) :: (t34) :: (t35) :: (t36) :: (t37) :: (t38) :: (t39) :: (t40) :: (t41) :: (t42) :: (t43) :: (t44) :: (t45) :: (t46) :: (t47) :: (t48) :: (t49) :: (t50) :: (t51) :: (t52) :: (t53) :: (t54) :: (t55) :: (t56) :: (t57) :: (t58) :: (t59) :: (t60) :: (t61) :: (t62) :: (t63) :: (t64) :: (t65) :: (t66) :: (t67) :: (t68) :: (t69) :: (t70) :: (t71) :: (t72) :: (t73) :: (t74) :: (t75) :: (t76) :: (t77) :: (t78) :: (t79) :: (t80) :: (t81) :: (t82) :: (t83) :: (t84) :: (t85) :: (t86) :: (t87) :: (t88) :: (t89) :: (t90) :: (t91) :: (t92) :: (t93) :: (t94) :: (t95) :: (t96) :: (t97) :: (t98) :: (t99) :: (t100) :: (t101) :: (t102) :: (t103) :: (t104) :: (t105) :: (t106) :: []), []⟩ wq) :
    Code.wp Try.prog gtC Q ⟨List.toArray (v0 :: v1 :: v2 :: (.pointer (some ⟨g, 0, none⟩)) :: v4 :: (.pointer (some ⟨p, 0, none⟩)) :: (.int .i64 er) :: v7 :: v8 :: v9 :: v10 :: v11 :: v12 :: v13 :: v14 :: v15 :: v16 :: v17 :: v18 :: v19 :: v20 :: v21 :: v22 :: v23 :: v24 :: v25 :: v26 :: v27 :: v28 :: v29 :: v30 :: v31 :: v32 :: v33 :: v34 :: v35 :: v36 :: v37 :: v38 :: v39 :: v40 :: v41 :: v42 :: v43 :: v44 :: v45 :: v46 :: v47 :: v48 :: v49 :: v50 :: v51 :: v52 :: v53 :: v54 :: v55 :: v56 :: v57 :: v58 :: v59 :: v60 :: v61 :: v62 :: v63 :: v64 :: v65 :: v66 :: v67 :: v68 :: v69 :: v70 :: v71 :: v72 :: v73 :: v74 :: v75 :: v76 :: v77 :: v78 :: v79 :: v80 :: v81 :: v82 :: v83 :: v84 :: v85 :: v86 :: v87 :: v88 :: v89 :: v90 :: v91 :: v92 :: v93 :: v94 :: v95 :: v96 :: v97 :: v98 :: v99 :: v100 :: v101 :: v102 :: v103 :: v104 :: v105 :: v106 :: []), []⟩ wz := by
  have HK := hide hQ
  clear hQ
  have hsum1 := fun (wx : World) => sum_good ((goodS_iff _).1 hsg).1 wx
  have hsum2 := fun (wx : World) => sum_good ((goodS_iff _).1 kp.good).1 wx
  have hgd : ∀ wx, Below wz.heap.size wz wx → Calls Try.prog 7 #[.agg (stC t (.slice A2 t.W.length C2))] wx fun e w' => e = .returned (.bool true) ∧ Below wz.heap.size wz w' := fun wx h1 => (sgood_any t A2 b2 a3 C2 wx (hz.ws.over h1)).mono fun _ _ hh => ⟨by rw [hh.1]; exact congrArg (fun x => Ending.returned (Value.bool x)) kp.good, h1.trans (hh.2.mono h1.size)⟩
  have hs1 : ∀ wx, Below wz.heap.size wz wx → Calls Try.prog 8 #[.agg (bkC s.b)] wx fun e w' => e = .returned (.int .i64 400000) ∧ Below wz.heap.size wz w' := fun wx h1 => (hsum1 wx).mono fun _ _ hh => ⟨hh.1, h1.trans (hh.2.mono h1.size)⟩
  have hs2 : ∀ wx, Below wz.heap.size wz wx → Calls Try.prog 8 #[.agg (bkC t.b)] wx fun e w' => e = .returned (.int .i64 400000) ∧ Below wz.heap.size wz w' := fun wx h1 => (hsum2 wx).mono fun _ _ hh => ⟨hh.1, h1.trans (hh.2.mono h1.size)⟩
  have hSF : ∀ wx, Below wz.heap.size wz wx → (loadS (.pointer (some ⟨p, 0, none⟩))).run Try.prog wx = .ok (.agg (stC t (.slice A2 t.W.length C2))) wx ∧ (loadB (.pointer (some ⟨p, 0, none⟩))).run Try.prog wx = .ok (.agg (bkC t.b)) wx ∧ (loadB (.pointer (some ⟨g, 0, none⟩))).run Try.prog wx = .ok (.agg (bkC s.b)) wx ∧ (loadVs (.pointer (some ⟨p, 7, none⟩))).run Try.prog wx = .ok (.agg (vsC t.V)) wx ∧ (loadVs (.pointer (some ⟨g, 7, none⟩))).run Try.prog wx = .ok (.agg (vsC s.V)) wx ∧ (loadHs (.pointer (some ⟨p, 37, none⟩))).run Try.prog wx = .ok (.agg (shC t.S)) wx ∧ (loadHs (.pointer (some ⟨g, 37, none⟩))).run Try.prog wx = .ok (.agg (shC s.S)) wx ∧ wx.cell? ⟨p, 6, none⟩ = some (.int .i64 t.b.bu) ∧ wx.cell? ⟨g, 6, none⟩ = some (.int .i64 s.b.bu) := fun wx h1 => by
    have T1 := hz.s1.later h1 hz.s1.lt
    have T2 := hz.s2.later h1 hz.s2.lt
    exact ⟨T2.loadS rfl, T2.loadB, T1.loadB, T2.loadVs, T1.loadVs, T2.loadHs, T1.loadHs, (st_cells T2).2.2.2.2.2.2.1, (st_cells T1).2.2.2.2.2.2.1⟩
  have hbu : ¬ (t.b.bu < s.b.bu) := by have := kp.bu; dsimp only at this; omega
  have HZ := hide hz
  have HKp := hide kp
  have HSF := hide hSF
  have HGD := hide hgd
  have HS1 := hide hs1
  have HS2 := hide hs2
  have HWr := hide hW
  clear hsum1 hsum2 hgd hs1 hs2 hSF hz kp hW
  have H8 : ∀ (Q' : Exit → Act → World → Prop), (∀ (t30 t31 t32 t33 t34 t35 t36 t37 t38 t39 t40 t41 t42 t43 t44 t45 t46 t47 t48 t49 t50 t51 t52 t53 t54 t55 t56 t57 t58 t59 t60 t61 t62 t63 t64 t65 t66 t67 t68 t69 t70 t71 t72 t73 t74 : Value) (wq : World), Below wz.heap.size wz wq → Q' .normal ⟨List.toArray (v0 :: v1 :: v2 :: (.pointer (some ⟨g, 0, none⟩)) :: v4 :: (.pointer (some ⟨p, 0, none⟩)) :: (.int .i64 er) :: v7 :: v8 :: v9 :: v10 :: v11 :: v12 :: v13 :: v14 :: v15 :: v16 :: v17 :: v18 :: v19 :: v20 :: v21 :: v22 :: v23 :: v24 :: v25 :: v26 :: v27 :: v28 :: v29 :: (t30) :: (t31) :: (t32) :: (t33) :: (t34) :: (t35) :: (t36) :: (t37) :: (t38) :: (t39) :: (t40) :: (t41) :: (t42) :: (t43) :: (t44) :: (t45) :: (t46) :: (t47) :: (t48) :: (t49) :: (t50) :: (t51) :: (t52) :: (t53) :: (t54) :: (t55) :: (t56) :: (t57) :: (t58) :: (t59) :: (t60) :: (t61) :: (t62) :: (t63) :: (t64) :: (t65) :: (t66) :: (t67) :: (t68) :: (t69) :: (t70) :: (t71) :: (t72) :: (t73) :: (t74) :: (.bool false) :: v76 :: v77 :: v78 :: v79 :: v80 :: v81 :: v82 :: v83 :: v84 :: v85 :: v86 :: v87 :: v88 :: v89 :: v90 :: v91 :: v92 :: v93 :: v94 :: v95 :: v96 :: v97 :: v98 :: v99 :: v100 :: v101 :: v102 :: v103 :: v104 :: v105 :: v106 :: []), []⟩ wq) → Code.wp Try.prog g8C Q' ⟨List.toArray (v0 :: v1 :: v2 :: (.pointer (some ⟨g, 0, none⟩)) :: v4 :: (.pointer (some ⟨p, 0, none⟩)) :: (.int .i64 er) :: v7 :: v8 :: v9 :: v10 :: v11 :: v12 :: v13 :: v14 :: v15 :: v16 :: v17 :: v18 :: v19 :: v20 :: v21 :: v22 :: v23 :: v24 :: v25 :: v26 :: v27 :: v28 :: v29 :: v30 :: v31 :: v32 :: v33 :: v34 :: v35 :: v36 :: v37 :: v38 :: v39 :: v40 :: v41 :: v42 :: v43 :: v44 :: v45 :: v46 :: v47 :: v48 :: v49 :: v50 :: v51 :: v52 :: v53 :: v54 :: v55 :: v56 :: v57 :: v58 :: v59 :: v60 :: v61 :: v62 :: v63 :: v64 :: v65 :: v66 :: v67 :: v68 :: v69 :: v70 :: v71 :: v72 :: v73 :: v74 :: v75 :: v76 :: v77 :: v78 :: v79 :: v80 :: v81 :: v82 :: v83 :: v84 :: v85 :: v86 :: v87 :: v88 :: v89 :: v90 :: v91 :: v92 :: v93 :: v94 :: v95 :: v96 :: v97 :: v98 :: v99 :: v100 :: v101 :: v102 :: v103 :: v104 :: v105 :: v106 :: []), []⟩ wz := by
    intro Q' hq
    by_cases her : er = 0
    · subst her
      exact reg8_ok s t g p A2 C2 wz HSF HGD HS1 HS2 hbu _ _ _ _ _ _ _ _ _ _ _ _ _ _ _ _ _ _ _ _ _ _ _ _ _ _ _ _ _ _ _ _ _ _ _ _ _ _ _ _ _ _ _ _ _ _ _ _ _ _ _ _ _ _ _ _ _ _ _ _ _ _ _ _ _ _ _ _ _ _ _ _ _ _ _ _ _ _ _ _ _ _ _ _ _ _ _ _ _ _ _ _ _ _ _ _ _ _ _ _ _ _ _ _ Q' hq
    · have e := HKp.out.no her
      dsimp only at e
      subst e
      exact reg8_no t er (by simpa using her) g p A2 C2 wz HSF HGD HS1 HS2 hbu _ _ _ _ _ _ _ _ _ _ _ _ _ _ _ _ _ _ _ _ _ _ _ _ _ _ _ _ _ _ _ _ _ _ _ _ _ _ _ _ _ _ _ _ _ _ _ _ _ _ _ _ _ _ _ _ _ _ _ _ _ _ _ _ _ _ _ _ _ _ _ _ _ _ _ _ _ _ _ _ _ _ _ _ _ _ _ _ _ _ _ _ _ _ _ _ _ _ _ _ _ _ _ _ Q' hq
  clear HSF HGD HS1 HS2 hbu
  have H8h := hide H8
  clear H8
  conv => arg 2; whnf
  go_upto_region 8 with fail
  refine H8h.out _ ?_
  clear H8h
  intro t30 t31 t32 t33 t34 t35 t36 t37 t38 t39 t40 t41 t42 t43 t44 t45 t46 t47 t48 t49 t50 t51 t52 t53 t54 t55 t56 t57 t58 t59 t60 t61 t62 t63 t64 t65 t66 t67 t68 t69 t70 t71 t72 t73 t74 wq hbq
  simp only [Exit.then]
  apply_assumption
  have S1 := HZ.out.s1.later hbq HZ.out.s1.lt
  have S2 := HZ.out.s2.later hbq HZ.out.s2.lt
  have W2 := HZ.out.ws.over hbq
  have hpg := HZ.out.ne
  have HB := hide (HWr.out.trans ((HZ.out.below.trans (hbq.mono HZ.out.below.size)).mono HWr.out.size))
  have HNB := hide HZ.out.nb
  clear HZ hbq HWr
  have HS1 := hide S1
  have HS2 := hide S2
  have HW2 := hide W2
  clear S1 S2 W2
  go_upto_region 11 with fail
  go_loopw [7] (fun i wl => ∃ (k : Nat), k ≤ 6 ∧ i = .int .i64 (k : Int) ∧ Hid (Below wq.heap.size wq wl)) (fun i _ => (6 - intOf i).toNat)
  case atStart => exact ⟨0, by omega, rfl, Below.refl _ _⟩
  case round =>
    obtain ⟨k, hk, rfl, HR⟩ := hrel
    have T1 := HS1.out.later HR.out HS1.out.lt
    have T2 := HS2.out.later HR.out HS2.out.lt
    by_cases hk6 : k < 6
    · have hkk : (k : Int) < 6 := by omega
      have hk0 : (0 : Int) ≤ (k : Int) := by omega
      obtain ⟨-, -, c2, -, c4⟩ := T1.val k hk6
      obtain ⟨-, -, d2, -, d4⟩ := T2.val k hk6
      have hd := HKp.out.dead k hk6
      have hl := HKp.out.lost k hk6
      dsimp only at hd hl
      clear T1 T2
      generalize (s.V k).dead = sd at *
      generalize (s.V k).lost = sl at *
      generalize (t.V k).dead = td at *
      generalize (t.V k).lost = tl at *
      have hnl : ¬ tl < sl := by omega
      cases sd
      · clear hd
        go_upto_region 13 with fail
        go_quiet (fail)
        go_wp2
        first | exact ⟨⟨k + 1, by omega, by go_num, ⟨HR.out.os, HR.out.tape, HR.out.output, HR.out.size, HR.out.block⟩⟩, by simp [intOf]; omega⟩ | ((repeat apply Exists.intro); exact ⟨⟨k + 1, by omega, by go_num, ⟨HR.out.os, HR.out.tape, HR.out.output, HR.out.size, HR.out.block⟩⟩, rfl⟩)
      · have hd := hd rfl
        subst hd
        go_upto_region 13 with fail
        go_quiet (fail)
        go_wp2
        first | exact ⟨⟨k + 1, by omega, by go_num, ⟨HR.out.os, HR.out.tape, HR.out.output, HR.out.size, HR.out.block⟩⟩, by simp [intOf]; omega⟩ | ((repeat apply Exists.intro); exact ⟨⟨k + 1, by omega, by go_num, ⟨HR.out.os, HR.out.tape, HR.out.output, HR.out.size, HR.out.block⟩⟩, rfl⟩)
    · obtain rfl : k = 6 := by omega
      have HW3 := hide (HW2.out.over HR.out)
      have HB3 := hide (HB.out.trans (HR.out.mono HB.out.size))
      have hlt1 := T1.lt
      have HNE := hide hpg
      clear HR HS1 HS2 HW2 HB hpg
      go_upto_region 15 with fail
      apply wp_region_lit
      refine wpList_load_mid rfl 34 _ rfl _ 0 rfl _ _ T2.range Try.underlying34 rfl (by rw [infoS]; rfl) ?_
      refine wpList_store_mid rfl 34 _ _ rfl _ 0 (stC t (.slice A2 t.W.length C2)) rfl rfl (T1.there 0 _ (by rw [stC_size, stC_size]; omega)) (by rw [infoS]; rfl) (stC_one _ _ _ _) ?_
      go_wp2
      exact HK.out _ _ _ _ _ _ _ _ _ _ _ _ _ _ _ _ _ _ _ _ _ _ _ _ _ _ _ _ _ _ _ _ _ _ _ _ _ _ _ _ _ _ _ _ _ _ _ _ _ _ _ _ _ _ _ _ _ _ _ _ _ _ _ _ _ _ _ _ _ _ _ _ _ _ _ _ _ _ _ _ (T1.setAll rfl) (HW3.out.sets HNB.out _ _) (below_sets hg _ _ _ HB3.out)
end Go.Proofs.Ytjmhmmphbcohdaa
