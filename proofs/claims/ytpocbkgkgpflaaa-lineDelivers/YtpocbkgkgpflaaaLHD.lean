/- The reference's Deliver and Expire. -/
import Derived.Test.YtpocbkgkgpflaaaLH
set_option maxRecDepth 100000
namespace Go.Proofs.Ytpocbkgkgpflaaa.Ln
open Go.RowKit
theorem refN_cases (x : Line) : (goodL x = false ∧ refN x = 2) ∨ (goodL x = true ∧ x.cl = true ∧ refN x = 11) ∨ (goodL x = true ∧ x.cl = false ∧ refN x = 0) := by
  unfold refN
  cases goodL x <;> cases x.cl <;> simp
set_option maxHeartbeats 2000000 in
theorem rdel_any (x : Line) (sa da : Option Addr) (cs cd sb so db dO : Nat) (k : Int) (s : ByteArray) (said now : Int) (w : World) (L : LAt w x sa da cs cd sb so db dO) (hk : k ≤ 9223372036854775807) :
    Calls Try.prog 16 #[.agg #[.slice sa x.S.length cs, .slice da x.D.length cd, .int .i64 x.g, .bool x.cl], .int .i64 k, .string s, .int .i64 said, .int .i64 now] w fun e w' => Ans w (delL x k s said now, delE x k s said now) e w' := by
  have hcs := del_cases x k s said now
  have hcr := refN_cases x
  generalize (delL x k s said now, delE x k s said now) = r at *
  have HB := hide (begun L)
  have HGOOD := hide (fun w (L : LAt w x sa da cs cd sb so db dO) => rgood_any x sa da cs cd sb so db dO w L)
  have HLEN := hide (goodL_len (x := x))
  clear L
  go_enter Try.func16, Try.ntmps16
  go_upto_region 1 with fail
  generalize ((w.alloc (.cells #[.slice sa x.S.length cs, .slice da x.D.length cd, .int .i64 x.g, .bool x.cl] 25)).alloc (.cells #[.slice none 0 0, .slice none 0 0, .int .i64 0, .bool false] 25)) = w0 at *
  obtain ⟨⟨c0, c1, c2, c3⟩, -⟩ := HB.out.F1.facts
  obtain ⟨⟨d0, d1, d2, d3⟩, ⟨f0, f1, f2, f3⟩⟩ := HB.out.F2.facts
  generalize goodL x = G at *
  rcases hcr with ⟨rfl, h2⟩ | ⟨rfl, h1, h2⟩ | ⟨rfl, h1, h2⟩
  · have HR : Hid (r = (x, 2)) := by
      rcases hcs with ⟨_, hr⟩ | ⟨h0, _⟩
      · rw [h2] at hr; exact hr
      · rw [h2] at h0; cases h0
    clear hcs h2
    go_wp2_with (go_at_call 13; refine (HGOOD.out _ HB.out.L).mono ?_; rintro e w1 ⟨rfl, hb⟩; have HB1 := hide (HB.out.over hb); clear hb c0 c1 c2 c3 d0 d1 d2 d3 f0 f1 f2 f3; obtain ⟨⟨c0, c1, c2, c3⟩, -⟩ := HB1.out.F1.facts; obtain ⟨⟨d0, d1, d2, d3⟩, ⟨f0, f1, f2, f3⟩⟩ := HB1.out.F2.facts)
    exact HB1.out.asItWas rfl _ _ HR.out _ rfl rfl rfl
  · have HR : Hid (r = (x, 11)) := by
      rcases hcs with ⟨_, hr⟩ | ⟨h0, _⟩
      · rw [h2] at hr; exact hr
      · rw [h2] at h0; cases h0
    clear hcs h2
    obtain ⟨S, D, g, cl⟩ := x
    dsimp only at *
    subst h1
    go_wp2_with (go_at_call 13; refine (HGOOD.out _ HB.out.L).mono ?_; rintro e w1 ⟨rfl, hb⟩; have HB1 := hide (HB.out.over hb); clear hb c0 c1 c2 c3 d0 d1 d2 d3 f0 f1 f2 f3; obtain ⟨⟨c0, c1, c2, c3⟩, -⟩ := HB1.out.F1.facts; obtain ⟨⟨d0, d1, d2, d3⟩, ⟨f0, f1, f2, f3⟩⟩ := HB1.out.F2.facts; dsimp only at c0 c1 c2 c3)
    exact HB1.out.asItWas rfl _ _ HR.out _ rfl rfl rfl
  replace hcs := (hcs.resolve_left (fun h => h.1 h2)).2
  obtain ⟨hl1, hl2, hg0, hg1⟩ := HLEN.out rfl
  obtain ⟨S, D, g, cl⟩ := x
  dsimp only at *
  subst h1
  have HL1 := hide hl1
  clear hl1 h2
  go_upto_region 5 with (go_at_call 13; refine (HGOOD.out _ HB.out.L).mono ?_; rintro e w1 ⟨rfl, hb⟩; have HB1 := hide (HB.out.over hb); clear hb c0 c1 c2 c3 d0 d1 d2 d3 f0 f1 f2 f3; obtain ⟨⟨c0, c1, c2, c3⟩, ⟨e0, e1, e2, e3⟩⟩ := HB1.out.F1.facts; obtain ⟨⟨d0, d1, d2, d3⟩, ⟨f0, f1, f2, f3⟩⟩ := HB1.out.F2.facts; dsimp only at c0 c1 c2 c3)
  clear HB HGOOD w0
  rcases hcs with ⟨h2, hr⟩ | ⟨h2, hcs⟩
  · have HR := hide hr
    clear hr
    by_cases h3 : k < 1
    · clear h2
      go_wp2
      exact HB1.out.asItWas rfl _ _ HR.out _ rfl rfl rfl
    · have h2' : (k - 1 != g) = true := by simp; omega
      clear h2
      go_wp2
      exact HB1.out.asItWas rfl _ _ HR.out _ rfl rfl rfl
  have h2' : (k - 1 != g) = false := by simp; omega
  obtain ⟨j, hj⟩ : ∃ j : Nat, k - 1 = (j : Int) := ⟨(k - 1).toNat, by omega⟩
  rw [hj, Int.toNat_natCast] at hcs
  obtain rfl : k = (j : Int) + 1 := by omega
  obtain rfl : g = (j : Int) := by omega
  clear h2 hj h2' hk
  go_upto_region 7 with fail
  rcases hcs with ⟨h3, hr⟩ | ⟨h3, hcs⟩
  · have HR := hide hr
    clear hr
    go_wp2
    exact HB1.out.asItWas rfl _ _ HR.out _ rfl rfl rfl
  rcases hcs with ⟨h4, hr⟩ | ⟨h4, hcs⟩
  · have HR := hide hr
    clear hr
    go_wp2
    exact HB1.out.asItWas rfl _ _ HR.out _ rfl rfl rfl
  have hjS : j < S.length := by omega
  have hjD : j < D.length := by rw [HL1.out]; exact hjS
  have hjI : (j : Int) < (S.length : Int) := by omega
  have hjJ : (j : Int) < (D.length : Int) := by omega
  have esa := HB1.out.L.hsa (show 0 < S.length by omega)
  have eda := HB1.out.L.hda (show 0 < D.length by omega)
  subst esa eda
  have ct := HB1.out.L.PS j hjS
  have cy := HB1.out.L.PD j hjD
  dsimp only at ct cy
  generalize S.getD j ByteArray.empty = t at *
  generalize D.getD j 0 = y at *
  rcases hcs with ⟨h5, hr⟩ | ⟨rfl, hcs⟩
  · have HR := hide hr
    have h5' := str_ne (fun e => h5 (Eq.symm e))
    clear hr h5
    go_wp2
    exact HB1.out.asItWas rfl _ _ HR.out _ rfl rfl rfl
  rcases hcs with ⟨h6, hr⟩ | ⟨h6, hr⟩
  · have HR := hide hr
    clear hr
    go_wp2
    exact HB1.out.asItWas rfl _ _ HR.out _ rfl rfl rfl
  have HR := hide hr
  clear hr
  have HCOPY := hide (copy_any ⟨S, D, (j : Int), false⟩ _ _ cs cd sb so db dO w1 HB1.out.L)
  dsimp only at HCOPY
  go_upto_region 12 with (go_at_call 8; refine HCOPY.out.mono ?_; rintro e w2 ⟨A1, C1, A2, C2, rfl, hO, hb⟩; have HO := hide hO; have HB2 := hide (HB1.out.over hb); clear hb hO c0 c1 c2 c3 d0 d1 d2 d3 e0 e1 e2 e3 f0 f1 f2 f3 ct cy)
  have M0 : Mid w (w2.alloc (.cells #[.slice A1 S.length C1, .slice A2 D.length C2, .int .i64 (j : Int), .bool false] 25)) w2.heap.size (.slice A1 S.length C1) (.slice A2 D.length C2) (j : Int) false S A1 C1 D A2 C2 :=
    ⟨FAt.new w2 _ _ _ _, HB2.out.F2.alloc _, World.ownsRow.alloc (own_base HO.out.oS (by have := HB1.out.size; omega)) _, World.ownsRow.alloc (own_base HO.out.oD (by have := HB1.out.size; omega)) _, HB2.out.below.alloc HB2.out.below.size _, HB2.out.size⟩
  have hb8 := HB2.out.size
  have HLL := hide (And.intro HB1.out.L.hls HB1.out.L.hld)
  clear HO HB2 HB1 HCOPY
  generalize w2.heap.size = b8 at *
  generalize w2.alloc (.cells #[.slice A1 S.length C1, .slice A2 D.length C2, .int .i64 (j : Int), .bool false] 25) = w3 at *
  obtain ⟨⟨c0, c1, c2, c3⟩, ⟨e0, e1, e2, e3⟩⟩ := M0.F8.facts
  have HM := hide M0
  clear M0
  go_upto_region 13 with fail
  have M1 := HM.out.set (HM.out.F8.set_2 (.int .i64 ((j : Int) + 1))) (fun k hk => Below.heap_setCell _ _ _ _ hk) (HM.out.below.setCell (p := ⟨b8, 2, none⟩) (by show w.heap.size ≤ b8; omega) _)
  clear c0 c1 c2 c3 e0 e1 e2 e3
  generalize w3.setCell ⟨b8, 2, none⟩ (.int .i64 ((j : Int) + 1)) = w4 at *
  obtain ⟨⟨c0, c1, c2, c3⟩, -⟩ := M1.F8.facts
  obtain ⟨⟨d0, d1, d2, d3⟩, ⟨f0, f1, f2, f3⟩⟩ := M1.F2.facts
  have HM1 := hide M1
  clear M1
  go_wp2
  exact HM1.out.fin rfl HLL.out.1 HLL.out.2 _ _ rfl rfl _ _ HR.out _ rfl rfl rfl
set_option maxHeartbeats 2000000 in
theorem rexp_any (x : Line) (sa da : Option Addr) (cs cd sb so db dO : Nat) (k time got : Int) (w : World) (L : LAt w x sa da cs cd sb so db dO) :
    Calls Try.prog 18 #[.agg #[.slice sa x.S.length cs, .slice da x.D.length cd, .int .i64 x.g, .bool x.cl], .int .i64 k, .int .i64 time, .int .i64 got] w fun e w' => Ans w (expL x k time got, expE x k time got) e w' := by
  have hcs := exp_cases x k time got
  have hcr := refN_cases x
  generalize (expL x k time got, expE x k time got) = r at *
  have HB := hide (begun L)
  have HGOOD := hide (fun w (L : LAt w x sa da cs cd sb so db dO) => rgood_any x sa da cs cd sb so db dO w L)
  have HLEN := hide (goodL_len (x := x))
  clear L
  go_enter Try.func18, Try.ntmps18
  go_upto_region 1 with fail
  generalize ((w.alloc (.cells #[.slice sa x.S.length cs, .slice da x.D.length cd, .int .i64 x.g, .bool x.cl] 25)).alloc (.cells #[.slice none 0 0, .slice none 0 0, .int .i64 0, .bool false] 25)) = w0 at *
  obtain ⟨⟨c0, c1, c2, c3⟩, -⟩ := HB.out.F1.facts
  obtain ⟨⟨d0, d1, d2, d3⟩, ⟨f0, f1, f2, f3⟩⟩ := HB.out.F2.facts
  generalize goodL x = G at *
  rcases hcr with ⟨rfl, h2⟩ | ⟨rfl, h1, h2⟩ | ⟨rfl, h1, h2⟩
  · have HR : Hid (r = (x, 2)) := by
      rcases hcs with ⟨_, hr⟩ | ⟨h0, _⟩
      · rw [h2] at hr; exact hr
      · rw [h2] at h0; cases h0
    clear hcs h2
    go_wp2_with (go_at_call 13; refine (HGOOD.out _ HB.out.L).mono ?_; rintro e w1 ⟨rfl, hb⟩; have HB1 := hide (HB.out.over hb); clear hb c0 c1 c2 c3 d0 d1 d2 d3 f0 f1 f2 f3; obtain ⟨⟨c0, c1, c2, c3⟩, -⟩ := HB1.out.F1.facts; obtain ⟨⟨d0, d1, d2, d3⟩, ⟨f0, f1, f2, f3⟩⟩ := HB1.out.F2.facts)
    exact HB1.out.asItWas rfl _ _ HR.out _ rfl rfl rfl
  · have HR : Hid (r = (x, 11)) := by
      rcases hcs with ⟨_, hr⟩ | ⟨h0, _⟩
      · rw [h2] at hr; exact hr
      · rw [h2] at h0; cases h0
    clear hcs h2
    obtain ⟨S, D, g, cl⟩ := x
    dsimp only at *
    subst h1
    go_wp2_with (go_at_call 13; refine (HGOOD.out _ HB.out.L).mono ?_; rintro e w1 ⟨rfl, hb⟩; have HB1 := hide (HB.out.over hb); clear hb c0 c1 c2 c3 d0 d1 d2 d3 f0 f1 f2 f3; obtain ⟨⟨c0, c1, c2, c3⟩, -⟩ := HB1.out.F1.facts; obtain ⟨⟨d0, d1, d2, d3⟩, ⟨f0, f1, f2, f3⟩⟩ := HB1.out.F2.facts; dsimp only at c0 c1 c2 c3)
    exact HB1.out.asItWas rfl _ _ HR.out _ rfl rfl rfl
  replace hcs := (hcs.resolve_left (fun h => h.1 h2)).2
  obtain ⟨hl1, hl2, -, -⟩ := HLEN.out rfl
  obtain ⟨S, D, g, cl⟩ := x
  dsimp only at *
  subst h1
  have HL1 := hide hl1
  clear hl1 h2
  go_upto_region 5 with (go_at_call 13; refine (HGOOD.out _ HB.out.L).mono ?_; rintro e w1 ⟨rfl, hb⟩; have HB1 := hide (HB.out.over hb); clear hb c0 c1 c2 c3 d0 d1 d2 d3 f0 f1 f2 f3; obtain ⟨⟨c0, c1, c2, c3⟩, ⟨e0, e1, e2, e3⟩⟩ := HB1.out.F1.facts; obtain ⟨⟨d0, d1, d2, d3⟩, ⟨f0, f1, f2, f3⟩⟩ := HB1.out.F2.facts; dsimp only at c0 c1 c2 c3)
  clear HB HGOOD w0
  rcases hcs with ⟨h2, hr⟩ | ⟨h2, h2', hcs⟩
  · have HR := hide hr
    clear hr
    by_cases h3 : k < 1
    · clear h2
      go_wp2
      exact HB1.out.asItWas rfl _ _ HR.out _ rfl rfl rfl
    · have h2' : (S.length : Int) < k := by omega
      clear h2
      go_wp2
      exact HB1.out.asItWas rfl _ _ HR.out _ rfl rfl rfl
  obtain ⟨j, hj⟩ : ∃ j : Nat, k - 1 = (j : Int) := ⟨(k - 1).toNat, by omega⟩
  rw [hj, Int.toNat_natCast] at hcs
  obtain rfl : k = (j : Int) + 1 := by omega
  have hjS : j < S.length := by omega
  have hjD : j < D.length := by rw [HL1.out]; exact hjS
  have hjJ : (j : Int) < (D.length : Int) := by omega
  have eda := HB1.out.L.hda (show 0 < D.length by omega)
  subst eda
  have cy := HB1.out.L.PD j hjD
  dsimp only at cy
  generalize D.getD j 0 = y at *
  go_upto_region 7 with fail
  rcases hcs with ⟨h3, hr⟩ | ⟨h3, hcs⟩
  · have HR := hide hr
    clear hr
    go_wp2
    exact HB1.out.asItWas rfl _ _ HR.out _ rfl rfl rfl
  rcases hcs with ⟨h4, hr⟩ | ⟨h4, hr⟩
  · have HR := hide hr
    clear hr
    go_wp2
    exact HB1.out.asItWas rfl _ _ HR.out _ rfl rfl rfl
  have HR := hide hr
  clear hr
  have HCOPY := hide (copy_any ⟨S, D, g, false⟩ _ _ cs cd sb so db dO w1 HB1.out.L)
  dsimp only at HCOPY
  go_upto_region 12 with (go_at_call 8; refine HCOPY.out.mono ?_; rintro e w2 ⟨A1, C1, A2, C2, rfl, hO, hb⟩; have HO := hide hO; have HB2 := hide (HB1.out.over hb); clear hb hO c0 c1 c2 c3 d0 d1 d2 d3 e0 e1 e2 e3 f0 f1 f2 f3 cy)
  have M0 : Mid w (w2.alloc (.cells #[.slice A1 S.length C1, .slice A2 D.length C2, .int .i64 g, .bool false] 25)) w2.heap.size (.slice A1 S.length C1) (.slice A2 D.length C2) g false S A1 C1 D A2 C2 :=
    ⟨FAt.new w2 _ _ _ _, HB2.out.F2.alloc _, World.ownsRow.alloc (own_base HO.out.oS (by have := HB1.out.size; omega)) _, World.ownsRow.alloc (own_base HO.out.oD (by have := HB1.out.size; omega)) _, HB2.out.below.alloc HB2.out.below.size _, HB2.out.size⟩
  have hb8 := HB2.out.size
  have HLL := hide (And.intro HB1.out.L.hls HB1.out.L.hld)
  clear HO HB2 HB1 HCOPY
  generalize w2.heap.size = b8 at *
  generalize w2.alloc (.cells #[.slice A1 S.length C1, .slice A2 D.length C2, .int .i64 g, .bool false] 25) = w3 at *
  obtain ⟨⟨c0, c1, c2, c3⟩, ⟨e0, e1, e2, e3⟩⟩ := M0.F8.facts
  have HM := hide M0
  clear M0
  go_upto_region 13 with fail
  have M1 := HM.out.set (HM.out.F8.set_3 (.bool true)) (fun k hk => Below.heap_setCell _ _ _ _ hk) (HM.out.below.setCell (p := ⟨b8, 3, none⟩) (by show w.heap.size ≤ b8; omega) _)
  clear c0 c1 c2 c3 e0 e1 e2 e3
  generalize w3.setCell ⟨b8, 3, none⟩ (.bool true) = w4 at *
  obtain ⟨⟨c0, c1, c2, c3⟩, -⟩ := M1.F8.facts
  obtain ⟨⟨d0, d1, d2, d3⟩, ⟨f0, f1, f2, f3⟩⟩ := M1.F2.facts
  have HM1 := hide M1
  clear M1
  go_wp2
  exact HM1.out.fin rfl HLL.out.1 HLL.out.2 _ _ rfl rfl _ _ HR.out _ rfl rfl rfl
end Go.Proofs.Ytpocbkgkgpflaaa.Ln
