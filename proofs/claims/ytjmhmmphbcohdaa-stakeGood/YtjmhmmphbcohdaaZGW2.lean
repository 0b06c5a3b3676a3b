/- StakeGood: the law's walk. -/
import Derived.Test.YtjmhmmphbcohdaaZGRT
import Derived.Test.YtjmhmmphbcohdaaZGDO
import Derived.BigQuiet
import Derived.Deep.RegionHeld3
set_option maxRecDepth 100000
namespace Go.Proofs.Ytjmhmmphbcohdaa
open Go.RowKit
/-- at the head of the law's loop: the stake lies in block g -/
structure GL (w : World) (g : Nat) (wl : World) : Prop where
  ex : ∃ (s : St) (A : Option Addr) (ab a2 C : Nat), goodS s = true ∧ s.W.length ≤ C ∧ WsAt wl A ab a2 s.W ∧ (0 < s.W.length → ab ≠ g) ∧ SAt wl g (stC s (.slice A s.W.length C))
  below : Below w.heap.size w wl
attribute [local go_sem ↓] loadS_eq
set_option maxHeartbeats 8000000 in
set_option maxRecDepth 100000 in
theorem kgood_walk (l : List Gd.Or) (ao : Option Addr) (b off c : Nat) (w : World) (hl : Gd.OrsAt w ao b off l) :
    Calls Try.prog 3 #[.slice ao l.length c] w fun e w' => e = .returned (.bool true) ∧ Below w.heap.size w w' := by
  have hlen := hl.len
  unfold maxLen at hlen
  have HL := hide hl
  clear hl
  go_enter Try.func3, Try.ntmps3
  go_upto_region 3 with (go_at_call 4; refine (stakes_any _).mono ?_; rintro e w1 ⟨rfl, h1⟩)
  apply wp_region_lit
  iterate 2 go_step
  refine (snew_any _).mono ?_
  rintro e w3 ⟨rfl, h3⟩
  dsimp only
  have HB3 := hide (h1.trans (h3.mono h1.size))
  have hz3 : w.heap.size ≤ w3.heap.size := HB3.out.size
  clear h1 h3
  iterate 4 go_step
  refine wpList_store_mid rfl 34 _ _ rfl _ 0 (stC newS (.slice none 0 0)) rfl rfl ((SAt.new w3 Z63).there 0 _ (by rw [Z63_size, stC_size]; omega)) (by rw [infoS]; rfl) (stC_one _ _ _ _) ?_
  change wpList Try.prog _ _ _ _ ((w3.alloc (.cells Z63 34)).setCells w3.heap.size 0 (stC newS (.slice none 0 0)).toList)
  have S4 := (SAt.new w3 Z63).setAll (ds := (stC newS (.slice none 0 0))) rfl
  have HB4 := hide (below_sets (b := w3.heap.size) (by omega) (stC newS (.slice none 0 0)).toList 0 _ (HB3.out.alloc (by omega) (.cells Z63 34)))
  generalize (w3.alloc (.cells Z63 34)).setCells w3.heap.size 0 (stC newS (.slice none 0 0)).toList = w4 at *
  have HG0 : Hid (GL w w3.heap.size w4) := ⟨⟨newS, none, 0, 0, 0, by decide +kernel, Nat.le_refl _, wsNil w4, fun h => absurd h (by decide), S4⟩, HB4.out⟩
  generalize w3.heap.size = g at *
  clear HB3 S4 HB4
  go_upto_region 5 with fail
  go_loopw [4] (fun i wl => ∃ (k : Nat), k ≤ l.length ∧ i = .int .i64 (k : Int) ∧ Hid (GL w g wl)) (fun i _ => l.length - (intOf i).toNat)
  case atStart => exact ⟨0, Nat.zero_le _, rfl, HG0⟩
  case round =>
    obtain ⟨k, hk, rfl, HP⟩ := hrel
    by_cases hlt : k < l.length ∧ k < 80
    · have hk1 : (k : Int) < (l.length : Int) := by omega
      have hk0 : (0 : Int) ≤ (k : Int) := by omega
      have hk2 : (k : Int) < 80 := by omega
      obtain ⟨s, A, ab, a2, C, hg, hc, hW, hab, S5⟩ := HP.out.ex
      obtain ⟨x, hx⟩ : ∃ x, l[k]? = some x := ⟨l[k], List.getElem?_eq_getElem hlt.1⟩
      have hl5 := HL.out.later HP.out.below
      obtain rfl := HL.out.adr (by omega)
      obtain ⟨c0, c1, c2, c3, c4⟩ := hl5.cells k x hx
      clear hl5
      have hbl : b < wr.heap.size := World.block_lt_of_cell? wr _ c0
      have HGd := hide hg
      have HCc := hide hc
      have HWs := hide hW
      have HAb := hide hab
      clear hg hc hW hab
      have hSS : ∀ wx, Below wr.heap.size wr wx → (loadS (.pointer (some ⟨g, 0, none⟩))).run Try.prog wx = .ok (.agg (stC s (.slice A s.W.length C))) wx ∧ wx.cell? ⟨b, off + k * 5, none⟩ = some (.int .i64 x.k) ∧ wx.cell? ⟨b, off + k * 5 + 1, none⟩ = some (.int .i64 x.d) ∧ wx.cell? ⟨b, off + k * 5 + 2, none⟩ = some (.int .i64 x.v) ∧ wx.cell? ⟨b, off + k * 5 + 3, none⟩ = some (.int .i64 x.n) ∧ wx.cell? ⟨b, off + k * 5 + 4, none⟩ = some (.int .i64 x.h) := fun wx hb =>
        ⟨(S5.later hb S5.lt).loadS rfl, (hb.cell (p := ⟨b, off + k * 5, none⟩) hbl).trans c0, (hb.cell (p := ⟨b, off + k * 5 + 1, none⟩) hbl).trans c1, (hb.cell (p := ⟨b, off + k * 5 + 2, none⟩) hbl).trans c2, (hb.cell (p := ⟨b, off + k * 5 + 3, none⟩) hbl).trans c3, (hb.cell (p := ⟨b, off + k * 5 + 4, none⟩) hbl).trans c4⟩
      clear c0 c1 c2 c3 c4
      go_upto_region 7 with fail
      have hS : Below wr.heap.size wr wr.drew := (Below.refl _ wr).drew
      refine Od.wp_region_C (c := 5) (S := fun wx => Below wr.heap.size wr wx) (by kernel_rfl) ?_
      refine Od.anyC_at (i := 0) (v := .agg (stC s (.slice A s.W.length C))) (some 22) rfl rfl (by kernel_rfl) (by kernel_rfl) (by kernel_rfl) (by kernel_rfl) (by decide) (fun _ _ _ h => h) (Or.inl ⟨by rfl, ?_⟩) hS ?_
      · intro wx hwx; have l0 := (hSS wx hwx).1; go_simp
      refine Od.anyC_at (i := 1) (v := .slice (some ⟨b, off, none⟩) l.length c) (some 23) rfl rfl (by kernel_rfl) (by kernel_rfl) (by kernel_rfl) (by kernel_rfl) (by decide) (fun _ _ _ h => h) (Or.inl ⟨by rfl, ?_⟩) hS ?_
      · intro wx hwx; go_simp
      refine Od.anyC_at (i := 2) (v := .int .i64 (k : Int)) (some 24) rfl rfl (by kernel_rfl) (by kernel_rfl) (by kernel_rfl) (by kernel_rfl) (by decide) (fun _ _ _ h => h) (Or.inl ⟨by rfl, ?_⟩) hS ?_
      · intro wx hwx; go_simp
      refine Od.anyC_at (i := 3) (v := .pointer (some ⟨b, off + k * 5, none⟩)) (some 25) rfl rfl (by kernel_rfl) (by kernel_rfl) (by kernel_rfl) (by kernel_rfl) (by decide) (fun _ _ _ h => h) (Or.inl ⟨by rfl, ?_⟩) hS ?_
      · intro wx hwx; go_simp
      refine Od.anyC_at (i := 4) (v := .agg #[.int .i64 x.k, .int .i64 x.d, .int .i64 x.v, .int .i64 x.n, .int .i64 x.h]) (some 26) rfl rfl (by kernel_rfl) (by kernel_rfl) (by kernel_rfl) (by kernel_rfl) (by decide) (fun _ _ _ h => h) (Or.inl ⟨by rfl, ?_⟩) hS ?_
      · intro wx hwx; obtain ⟨-, c0, c1, c2, c3, c4⟩ := hSS wx hwx; go_simp
      refine Od.anyC_two (j := 9) (by kernel_rfl) (by decide) rfl rfl rfl rfl (fun K hK => ?_) (fun K hK => ?_)
      · go_simp
        refine (follow_law s A ab a2 C x.k x.d x.v x.n x.h _ HGd.out HCc.out (by exact HWs.out.over hS)).mono ?_
        rintro e w2 ⟨t, er, A2, b2, a3, C2, kp, rfl, hC2, hW2, hat, hb2⟩
        refine hK _ _ ?_
        clear hK K
        obtain ⟨ts, hts⟩ : ∃ x, x = stC t (.slice A2 t.W.length C2) := ⟨_, rfl⟩
        have HT := hide hts
        have q1 : (Option.map (fun x => x.size) (Try.prog.info? 34)) = some ts.size := by rw [HT.out, infoS]; rfl
        have q2 : ts.all (fun x => x.oneCell') = true := by rw [HT.out]; exact stC_one _ _ _ _
        have q4 : ts.size = 63 := by rw [HT.out]; rfl
        rw [← hts]
        clear hts
        refine Od.any_at (i := 6) (v := .tuple #[.agg ts, .int .i64 er]) (some 21) rfl rfl (by kernel_rfl) (by kernel_rfl) (by kernel_rfl) (fun _ _ _ h => h) (Or.inl ⟨by rfl, ?_⟩) ?_
        · intro wx; go_simp
        refine Od.any_at (i := 7) (v := .agg ts) (some 28) rfl rfl (by kernel_rfl) (by kernel_rfl) (by kernel_rfl) (fun _ _ _ h => h) (Or.inl ⟨by rfl, ?_⟩) ?_
        · intro wx; go_simp
        refine Od.any_at (i := 8) (v := .int .i64 er) (some 29) rfl rfl (by kernel_rfl) (by kernel_rfl) (by kernel_rfl) (fun _ _ _ h => h) (Or.inl ⟨by rfl, ?_⟩) ?_
        · intro wx; go_simp
        refine Od.any_go (i := 9) (by kernel_rfl) rfl rfl (fun K hK => ?_)
        go_simp
        refine hK _ _ ?_
        clear hK K
        change wpAny _ _ _ _ _ _ _ (w2.alloc (.cells Z63 34))
        refine Od.any_store (i := 10) (by kernel_rfl) rfl rfl 34 _ _ rfl rfl w2.heap.size 0 ts rfl rfl ((SAt.new w2 Z63).there 0 _ (by rw [Z63_size, q4]; omega)) q1 q2 ?_
        refine Od.any_at (i := 11) (v := .int .i64 er) (some 6) rfl rfl (by kernel_rfl) (by kernel_rfl) (by kernel_rfl) (fun _ _ _ h => h) (Or.inl ⟨by rfl, ?_⟩) ?_
        · intro wx; go_simp
        refine wpAny_done (by kernel_rfl) ?_ _
        have hz := gz_a S5 HAb.out hW2 hat (hS.trans hb2) (C := C2)
        have hts := HT.out
        subst hts
        clear HT q1 q2 q4
        generalize (w2.alloc (.cells Z63 34)).setCells w2.heap.size 0 (stC t (.slice A2 t.W.length C2)).toList = wz at hz ⊢
        generalize w2.heap.size = p at hz ⊢
        have HZ := hide hz
        have HK := hide kp
        have HC3 := hide hC2
        clear hz kp hC2 hW2 hat S5 hSS
        go_simp
        apply_assumption
        refine gtail_wp w wr wz g p s t _ er A2 b2 a3 C2 HP.out.below hz3 HZ.out HGd.out HK.out _ _ _ _ _ _ _ _ _ _ _ _ _ _ _ _ _ _ _ _ _ _ _ _ _ _ _ _ _ _ _ _ _ _ _ _ _ _ _ _ _ _ _ _ _ _ _ _ _ _ _ _ _ _ _ _ _ _ _ _ _ _ _ _ _ _ _ _ _ _ _ _ _ _ _ _ _ _ _ _ _ _ _ _ _ _ _ _ _ _ _ _ _ _ _ _ _ _ _ _ _ _ _ _ _ ?_
        intro t2 t7 t30 t31 t32 t33 t34 t35 t36 t37 t38 t39 t40 t41 t42 t43 t44 t45 t46 t47 t48 t49 t50 t51 t52 t53 t54 t55 t56 t57 t58 t59 t60 t61 t62 t63 t64 t65 t66 t67 t68 t69 t70 t71 t72 t73 t74 t75 t76 t77 t78 t79 t80 t81 t82 t83 t84 t85 t86 t87 t88 t89 t90 t91 t92 t93 t94 t95 t96 t97 t98 t99 t100 t101 t102 t103 t104 t105 t106 wq S9 W9 B9
        have HG : Hid (GL w g wq) := ⟨⟨t, A2, b2, a3, C2, HK.out.good, HC3.out, W9, HZ.out.nb, S9⟩, B9⟩
        clear S9 W9 B9 HZ HK HC3 HGd HCc HWs HAb HP HL HG0
        go_wp2
        first | exact ⟨⟨k + 1, by omega, by go_num, HG⟩, by simp [intOf]; omega⟩ | ((repeat apply Exists.intro); exact ⟨⟨k + 1, by omega, by go_num, HG⟩, rfl⟩)
      · go_simp
        refine hK _ _ (hS.alloc (Nat.le_refl _) _) ?_
        clear hK K
        have N5 : SAt (wr.drew.alloc (.cells Z63 34)) wr.heap.size Z63 := SAt.new wr.drew Z63
        have hb5 : Below wr.heap.size wr (wr.drew.alloc (.cells Z63 34)) := hS.alloc (Nat.le_refl _) _
        change Od.anyC _ _ _ _ _ _ _ _ _ (wr.drew.alloc (.cells Z63 34))
        generalize wr.drew.alloc (.cells Z63 34) = w5 at *
        refine Od.anyC_go (by kernel_rfl) rfl rfl (fun K hK => ?_)
        go_simp
        refine (follow_law s A ab a2 C x.k x.d x.v x.n x.h _ HGd.out HCc.out (by exact HWs.out.over hb5)).mono ?_
        rintro e w2 ⟨t, er, A2, b2, a3, C2, kp, rfl, hC2, hW2, hat, hb2⟩
        refine hK _ _ ?_
        clear hK K
        obtain ⟨ts, hts⟩ : ∃ x, x = stC t (.slice A2 t.W.length C2) := ⟨_, rfl⟩
        have HT := hide hts
        have q1 : (Option.map (fun x => x.size) (Try.prog.info? 34)) = some ts.size := by rw [HT.out, infoS]; rfl
        have q2 : ts.all (fun x => x.oneCell') = true := by rw [HT.out]; exact stC_one _ _ _ _
        have q4 : ts.size = 63 := by rw [HT.out]; rfl
        rw [← hts]
        clear hts
        refine Od.any_at (i := 6) (v := .tuple #[.agg ts, .int .i64 er]) (some 21) rfl rfl (by kernel_rfl) (by kernel_rfl) (by kernel_rfl) (fun _ _ _ h => h) (Or.inl ⟨by rfl, ?_⟩) ?_
        · intro wx; go_simp
        refine Od.any_at (i := 7) (v := .agg ts) (some 28) rfl rfl (by kernel_rfl) (by kernel_rfl) (by kernel_rfl) (fun _ _ _ h => h) (Or.inl ⟨by rfl, ?_⟩) ?_
        · intro wx; go_simp
        refine Od.any_at (i := 8) (v := .int .i64 er) (some 29) rfl rfl (by kernel_rfl) (by kernel_rfl) (by kernel_rfl) (fun _ _ _ h => h) (Or.inl ⟨by rfl, ?_⟩) ?_
        · intro wx; go_simp
        refine Od.any_store (i := 10) (by kernel_rfl) rfl rfl 34 _ _ rfl rfl wr.heap.size 0 ts rfl rfl ((N5.later hb2 N5.lt).there 0 _ (by rw [Z63_size, q4]; omega)) q1 q2 ?_
        refine Od.any_at (i := 11) (v := .int .i64 er) (some 6) rfl rfl (by kernel_rfl) (by kernel_rfl) (by kernel_rfl) (fun _ _ _ h => h) (Or.inl ⟨by rfl, ?_⟩) ?_
        · intro wx; go_simp
        refine wpAny_done (by kernel_rfl) ?_ _
        have hz := gz_b S5 HAb.out HWs.out N5 hb5 hW2 hat hb2 (C := C2)
        have hts := HT.out
        subst hts
        clear HT q1 q2 q4
        generalize w2.setCells wr.heap.size 0 (stC t (.slice A2 t.W.length C2)).toList = wz at hz ⊢
        generalize wr.heap.size = p at hz ⊢
        have HZ := hide hz
        have HK := hide kp
        have HC3 := hide hC2
        clear hz kp hC2 hW2 hat S5 hSS
        go_simp
        apply_assumption
        refine gtail_wp w wr wz g p s t _ er A2 b2 a3 C2 HP.out.below hz3 HZ.out HGd.out HK.out _ _ _ _ _ _ _ _ _ _ _ _ _ _ _ _ _ _ _ _ _ _ _ _ _ _ _ _ _ _ _ _ _ _ _ _ _ _ _ _ _ _ _ _ _ _ _ _ _ _ _ _ _ _ _ _ _ _ _ _ _ _ _ _ _ _ _ _ _ _ _ _ _ _ _ _ _ _ _ _ _ _ _ _ _ _ _ _ _ _ _ _ _ _ _ _ _ _ _ _ _ _ _ _ _ ?_
        intro t2 t7 t30 t31 t32 t33 t34 t35 t36 t37 t38 t39 t40 t41 t42 t43 t44 t45 t46 t47 t48 t49 t50 t51 t52 t53 t54 t55 t56 t57 t58 t59 t60 t61 t62 t63 t64 t65 t66 t67 t68 t69 t70 t71 t72 t73 t74 t75 t76 t77 t78 t79 t80 t81 t82 t83 t84 t85 t86 t87 t88 t89 t90 t91 t92 t93 t94 t95 t96 t97 t98 t99 t100 t101 t102 t103 t104 t105 t106 wq S9 W9 B9
        have HG : Hid (GL w g wq) := ⟨⟨t, A2, b2, a3, C2, HK.out.good, HC3.out, W9, HZ.out.nb, S9⟩, B9⟩
        clear S9 W9 B9 HZ HK HC3 HGd HCc HWs HAb HP HL HG0
        go_wp2
        first | exact ⟨⟨k + 1, by omega, by go_num, HG⟩, by simp [intOf]; omega⟩ | ((repeat apply Exists.intro); exact ⟨⟨k + 1, by omega, by go_num, HG⟩, rfl⟩)
    · have HB := hide HP.out.below
      clear HP HL HG0
      by_cases h1 : k < l.length
      · have hk1 : (k : Int) < (l.length : Int) := by omega
        have hk2 : ¬ (k : Int) < 80 := by omega
        go_wp2
        go_ret
        exact ⟨rfl, HB.out⟩
      · have hk1 : ¬ (k : Int) < (l.length : Int) := by omega
        go_wp2
        go_ret
        exact ⟨rfl, HB.out⟩
end Go.Proofs.Ytjmhmmphbcohdaa
