/- LinePlays: the walk. -/
import Derived.Test.YtpocbkgkgpflaaaLPS
import Derived.Test.YtpocbkgkgpflaaaLPD
import Derived.Test.YtpocbkgkgpflaaaLPE
import Derived.Test.YtpocbkgkgpflaaaLPT
set_option maxRecDepth 100000
namespace Go.Proofs.Ytpocbkgkgpflaaa.Ln
open Go.RowKit
set_option maxHeartbeats 8000000 in
theorem plays_walk (l : List Cy) (ao : Option Addr) (cc ab aof : Nat) (w : World) (hl : CysAt w ao ab aof l) :
    Calls Try.prog 7 #[.slice ao l.length cc] w fun e w' => e = .returned (.bool true) ∧ Below w.heap.size w w' := by
  obtain ⟨i0, hi, hz0, hz1, hz2⟩ := info_parts infoStr
  have hmx := hl.len
  unfold maxLen at hmx
  have HC := hide hl
  clear hl
  go_enter Try.func7, Try.ntmps7
  go_upto_region 6 with (go_at_call 19; refine (klines_any _).mono ?_; rintro e w1 ⟨rfl, hb1⟩; have HB1 := hide hb1; clear hb1)
  have R0 : PlR w w1.heap.size ⟨[], [], 0, false⟩ none none 0 0 0 0 0 0 [] none 0 (w1.alloc (.cells #[.slice none 0 0, .slice none 0 0, .int .i64 0, .bool false] 25)) :=
    ⟨FAt.new w1 _ _ _ _, nil_at _, fun h => by simp at h, fun h => by simp at h, World.ownsRow_nil _ _ _ _, HB1.out.alloc HB1.out.size _, HB1.out.size⟩
  generalize w1.heap.size = b3 at *
  generalize w1.alloc (.cells #[.slice none 0 0, .slice none 0 0, .int .i64 0, .bool false] 25) = w2 at *
  have HR0 := hide R0
  clear R0
  go_loopw [4, 5] (fun cmv i wl => ∃ (k : Nat) (x : Line) (sa da : Option Addr) (cs cd sb so db dO : Nat) (cm : List ByteArray) (A : Option Addr) (C : Nat), k ≤ l.length ∧ k ≤ 80 ∧ i = .int .i64 (k : Int) ∧ cmv = .slice A cm.length C ∧ Hid (PlR w b3 x sa da cs cd sb so db dO cm A C wl) ∧ Hid (goodL x = true ∧ cm = x.S.take x.g.toNat)) (fun _ i _ => 80 - (intOf i).toNat)
  case atStart => exact ⟨0, ⟨[], [], 0, false⟩, none, none, 0, 0, 0, 0, 0, 0, [], none, 0, Nat.zero_le _, Nat.zero_le _, rfl, rfl, HR0.out, by decide, rfl⟩
  case round =>
    obtain ⟨k, x, sa, da, cs, cd, sb, so, db, dO, cm, A, C, hk, hk8, rfl, rfl, HP, HQ⟩ := hrel
    clear HR0
    by_cases hend : k < l.length ∧ k < 80
    · obtain ⟨hk1, hk2⟩ := hend
      have hkI : (k : Int) < (l.length : Int) := by omega
      have hkJ : (k : Int) < 80 := by omega
      obtain ⟨c, hc⟩ : ∃ c, l[k]? = some c := ⟨_, List.getElem?_eq_getElem hk1⟩
      have eao := HC.out.adr (by omega)
      subst eao
      obtain ⟨q0, q1, q2, q3, q4⟩ := (HC.out.later HP.out.below).cells k c hc
      go_upto_region 9 with fail
      have B3 := below_new wr (.cells #[.int .i64 c.kind, .int .i64 c.k, .int .i64 c.said, .int .i64 c.time, .string c.s] 41)
      have P3 := HP.out.over B3
      have C6 : CAt (wr.alloc (.cells #[.int .i64 c.kind, .int .i64 c.k, .int .i64 c.said, .int .i64 c.time, .string c.s] 41)) wr.heap.size c := heap_alloc_new _ _
      have h36 : b3 < wr.heap.size := HP.out.F.lt
      clear q0 q1 q2 q3 q4 B3 HP HC hc
      generalize wr.heap.size = b6 at *
      generalize wr.alloc (.cells #[.int .i64 c.kind, .int .i64 c.k, .int .i64 c.said, .int .i64 c.time, .string c.s] 41) = w3 at *
      obtain ⟨⟨c0, c1, c2, c3⟩, -⟩ := P3.F.facts
      have h67 : b6 < w3.heap.size := C6.lt
      have HP3 := hide P3
      have HC6 := hide C6
      clear P3 C6
      go_upto_region 10 with fail
      have B4 := below_new w3 (.cells #[.slice sa x.S.length cs, .slice da x.D.length cd, .int .i64 x.g, .bool x.cl] 25)
      have P4 := HP3.out.over B4
      have R4 : Rd b3 b6 w3.heap.size c (.slice sa x.S.length cs) (.slice da x.D.length cd) x.g x.cl (w3.alloc (.cells #[.slice sa x.S.length cs, .slice da x.D.length cd, .int .i64 x.g, .bool x.cl] 25)) := ⟨(B4.block b6 h67).trans HC6.out, FAt.new w3 _ _ _ _, h36, h67⟩
      clear c0 c1 c2 c3 B4 HP3 HC6
      generalize w3.heap.size = b7 at *
      generalize w3.alloc (.cells #[.slice sa x.S.length cs, .slice da x.D.length cd, .int .i64 x.g, .bool x.cl] 25) = w4 at *
      obtain ⟨k0, k1, k2, k3, k4⟩ := R4.C6.facts
      obtain ⟨⟨c0, c1, c2, c3⟩, ⟨e0, e1, e2, e3⟩⟩ := P4.F.facts
      obtain ⟨⟨d0, d1, d2, d3⟩, -⟩ := R4.F7.facts
      have HP := hide P4
      have HR := hide R4
      clear P4 R4
      have hm3 : c.kind % 3 = 0 ∨ c.kind % 3 = 1 ∨ c.kind % 3 = 2 := by omega
      have HPK := hide (fun w => Pk.pick_any c.kind 3 w (by decide) (by decide))
      generalize c.kind % 3 = m at *
      go_upto_block 2 with (go_at_call 20; refine (HPK.out _).mono ?_; rintro e wy ⟨rfl, rfl⟩)
      clear k0 k1 k2 k3 k4 c0 c1 c2 c3 d0 d1 d2 d3 e0 e1 e2 e3 HPK
      rcases hm3 with rfl | rfl | rfl
      · refine sw_say w b3 b6 b7 c x sa da cs cd sb so db dO cm A C _ HP HR HQ _ _ _ _ _ _ _ _ _ _ _ _ _ _ _ _ _ _ _ _ _ _ _ _ _ _ _ _ _ _ _ _ _ _ _ _ _ _ _ _ _ _ _ _ _ _ _ _ _ _ _ _ _ _ _ _ _ _ _ _ _ _ _ _ _ _ _ _ _ _ _ _ _ _ _ _ _ _ _ _ _ _ _ _ _ _ _ _ _ _ _ _ _ _ _ _ _ _ _ _ _ _ _ _ _ _ _ _ _ _ _ _ _ _ _ _ _ _ _ _ _ _ _ _ _ _ _ _ _ _ _ _ _ _ _ _ _ ?_
        intro y ya yb yc yd ye yf yg yh cn A' C' nn er t30 t31 t32 t33 t34 t35 t36 t37 t38 t39 t40 t41 t42 t43 t44 t45 t46 t47 t48 t49 t50 t51 t52 t53 t54 t55 t56 t57 t58 t59 t60 t61 t62 t63 t64 t65 t66 t67 t68 t69 t70 t71 t72 t73 t74 t75 t76 t77 t78 t79 t80 t81 t82 t83 t84 t85 t86 t87 t88 t89 t90 t91 t92 t93 t94 t95 wc hnn hP2 hR2 hN hcn
        subst hnn
        simp only [Exit.then]
        apply_assumption
        refine tail_wp w b3 b6 b7 c x sa da cs cd y ya yb yc yd ye yf yg yh cn A' C' er _ hP2 hR2 ⟨hN, hcn⟩ _ _ _ _ _ _ _ _ _ _ _ _ _ _ _ _ _ _ _ _ _ _ _ _ _ _ _ _ _ _ _ _ _ _ _ _ _ _ _ _ _ _ _ _ _ _ _ _ _ _ _ _ _ _ _ _ _ _ _ _ _ _ _ _ _ _ _ _ _ _ _ _ _ _ _ _ _ _ _ _ _ _ _ _ _ _ _ _ _ _ _ _ _ _ _ _ _ _ _ _ _ _ _ _ _ _ _ _ _ _ _ _ _ _ _ _ _ _ _ _ _ _ _ _ _ _ _ _ _ _ _ _ _ _ _ _ _ ?_
        intro t2 t9 t96 t97 t98 t99 t100 t101 t102 t103 t104 t105 t106 t107 t108 t109 t110 t111 t112 t113 t114 t115 t116 t117 t118 t119 t120 t121 t122 t123 t124 t125 t126 t127 t128 t129 t130 t131 t132 t133 t134 t135 t136 t137 t138 t139 t140 t141 wz hPz
        have HPz := hide hPz
        have HNz := hide (And.intro hN.good hcn)
        clear hPz hP2 hR2 hN hcn HP HR HQ
        go_wp2
        exact ⟨⟨k + 1, y, ya, yb, yc, yd, ye, yf, yg, yh, cn, A', C', by omega, by omega, by go_num, rfl, HPz.out, HNz.out⟩, by simp [intOf]; omega⟩
      · refine sw_del w b3 b6 b7 c x sa da cs cd sb so db dO cm A C _ HP HR HQ _ _ _ _ _ _ _ _ _ _ _ _ _ _ _ _ _ _ _ _ _ _ _ _ _ _ _ _ _ _ _ _ _ _ _ _ _ _ _ _ _ _ _ _ _ _ _ _ _ _ _ _ _ _ _ _ _ _ _ _ _ _ _ _ _ _ _ _ _ _ _ _ _ _ _ _ _ _ _ _ _ _ _ _ _ _ _ _ _ _ _ _ _ _ _ _ _ _ _ _ _ _ _ _ _ _ _ _ _ _ _ _ _ _ _ _ _ _ _ _ _ _ _ _ _ _ _ _ _ _ _ _ _ _ _ _ _ ?_
        intro y ya yb yc yd ye yf yg yh cn A' C' nn er t30 t31 t32 t33 t34 t35 t36 t37 t38 t39 t40 t41 t42 t43 t44 t45 t46 t47 t48 t49 t50 t51 t52 t53 t54 t55 t56 t57 t58 t59 t60 t61 t62 t63 t64 t65 t66 t67 t68 t69 t70 t71 t72 t73 t74 t75 t76 t77 t78 t79 t80 t81 t82 t83 t84 t85 t86 t87 t88 t89 t90 t91 t92 t93 t94 t95 wc hnn hP2 hR2 hN hcn
        subst hnn
        simp only [Exit.then]
        apply_assumption
        refine tail_wp w b3 b6 b7 c x sa da cs cd y ya yb yc yd ye yf yg yh cn A' C' er _ hP2 hR2 ⟨hN, hcn⟩ _ _ _ _ _ _ _ _ _ _ _ _ _ _ _ _ _ _ _ _ _ _ _ _ _ _ _ _ _ _ _ _ _ _ _ _ _ _ _ _ _ _ _ _ _ _ _ _ _ _ _ _ _ _ _ _ _ _ _ _ _ _ _ _ _ _ _ _ _ _ _ _ _ _ _ _ _ _ _ _ _ _ _ _ _ _ _ _ _ _ _ _ _ _ _ _ _ _ _ _ _ _ _ _ _ _ _ _ _ _ _ _ _ _ _ _ _ _ _ _ _ _ _ _ _ _ _ _ _ _ _ _ _ _ _ _ _ ?_
        intro t2 t9 t96 t97 t98 t99 t100 t101 t102 t103 t104 t105 t106 t107 t108 t109 t110 t111 t112 t113 t114 t115 t116 t117 t118 t119 t120 t121 t122 t123 t124 t125 t126 t127 t128 t129 t130 t131 t132 t133 t134 t135 t136 t137 t138 t139 t140 t141 wz hPz
        have HPz := hide hPz
        have HNz := hide (And.intro hN.good hcn)
        clear hPz hP2 hR2 hN hcn HP HR HQ
        go_wp2
        exact ⟨⟨k + 1, y, ya, yb, yc, yd, ye, yf, yg, yh, cn, A', C', by omega, by omega, by go_num, rfl, HPz.out, HNz.out⟩, by simp [intOf]; omega⟩
      · refine sw_exp w b3 b6 b7 c x sa da cs cd sb so db dO cm A C _ HP HR HQ _ _ _ _ _ _ _ _ _ _ _ _ _ _ _ _ _ _ _ _ _ _ _ _ _ _ _ _ _ _ _ _ _ _ _ _ _ _ _ _ _ _ _ _ _ _ _ _ _ _ _ _ _ _ _ _ _ _ _ _ _ _ _ _ _ _ _ _ _ _ _ _ _ _ _ _ _ _ _ _ _ _ _ _ _ _ _ _ _ _ _ _ _ _ _ _ _ _ _ _ _ _ _ _ _ _ _ _ _ _ _ _ _ _ _ _ _ _ _ _ _ _ _ _ _ _ _ _ _ _ _ _ _ _ _ _ _ ?_
        intro y ya yb yc yd ye yf yg yh cn A' C' nn er t30 t31 t32 t33 t34 t35 t36 t37 t38 t39 t40 t41 t42 t43 t44 t45 t46 t47 t48 t49 t50 t51 t52 t53 t54 t55 t56 t57 t58 t59 t60 t61 t62 t63 t64 t65 t66 t67 t68 t69 t70 t71 t72 t73 t74 t75 t76 t77 t78 t79 t80 t81 t82 t83 t84 t85 t86 t87 t88 t89 t90 t91 t92 t93 t94 t95 wc hnn hP2 hR2 hN hcn
        subst hnn
        simp only [Exit.then]
        apply_assumption
        refine tail_wp w b3 b6 b7 c x sa da cs cd y ya yb yc yd ye yf yg yh cn A' C' er _ hP2 hR2 ⟨hN, hcn⟩ _ _ _ _ _ _ _ _ _ _ _ _ _ _ _ _ _ _ _ _ _ _ _ _ _ _ _ _ _ _ _ _ _ _ _ _ _ _ _ _ _ _ _ _ _ _ _ _ _ _ _ _ _ _ _ _ _ _ _ _ _ _ _ _ _ _ _ _ _ _ _ _ _ _ _ _ _ _ _ _ _ _ _ _ _ _ _ _ _ _ _ _ _ _ _ _ _ _ _ _ _ _ _ _ _ _ _ _ _ _ _ _ _ _ _ _ _ _ _ _ _ _ _ _ _ _ _ _ _ _ _ _ _ _ _ _ _ ?_
        intro t2 t9 t96 t97 t98 t99 t100 t101 t102 t103 t104 t105 t106 t107 t108 t109 t110 t111 t112 t113 t114 t115 t116 t117 t118 t119 t120 t121 t122 t123 t124 t125 t126 t127 t128 t129 t130 t131 t132 t133 t134 t135 t136 t137 t138 t139 t140 t141 wz hPz
        have HPz := hide hPz
        have HNz := hide (And.intro hN.good hcn)
        clear hPz hP2 hR2 hN hcn HP HR HQ
        go_wp2
        exact ⟨⟨k + 1, y, ya, yb, yc, yd, ye, yf, yg, yh, cn, A', C', by omega, by omega, by go_num, rfl, HPz.out, HNz.out⟩, by simp [intOf]; omega⟩
    · go_wp2
      all_goals go_ret
      all_goals exact ⟨rfl, HP.out.below⟩
end Go.Proofs.Ytpocbkgkgpflaaa.Ln
