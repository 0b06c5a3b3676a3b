/- The walks of line.Deliver and Expire. -/
import Derived.Test.YtpocbkgkgpflaaaLD
set_option maxRecDepth 100000
namespace Go.Proofs.Ytpocbkgkgpflaaa.Ln
open Go.RowKit
theorem del_cases (x : Line) (k : Int) (s : ByteArray) (said now : Int) :
    (refN x ≠ 0 ∧ (delL x k s said now, delE x k s said now) = (x, refN x)) ∨ (refN x = 0 ∧ ((k ≠ x.g + 1 ∧ (delL x k s said now, delE x k s said now) = (x, 10)) ∨
    (k = x.g + 1 ∧ ((said < k ∧ (delL x k s said now, delE x k s said now) = (x, 9)) ∨ (k ≤ said ∧ (((x.S.length : Int) < k ∧ (delL x k s said now, delE x k s said now) = (x, 9)) ∨ (k ≤ x.S.length ∧
      ((x.S.getD (k - 1).toNat ByteArray.empty ≠ s ∧ (delL x k s said now, delE x k s said now) = (x, 9)) ∨ (x.S.getD (k - 1).toNat ByteArray.empty = s ∧
        ((x.D.getD (k - 1).toNat 0 ≤ now ∧ (delL x k s said now, delE x k s said now) = (x, 12)) ∨ (now < x.D.getD (k - 1).toNat 0 ∧ (delL x k s said now, delE x k s said now) = (⟨x.S, x.D, k, x.cl⟩, 0))))))))))))  := by
  have no : ∀ e, delE x k s said now = e → e ≠ 0 → (delL x k s said now, delE x k s said now) = (x, e) := fun e h h0 => by unfold delL; rw [h, if_neg h0]
  by_cases h1 : refN x = 0
  · right
    have g1 : ¬ refN x ≠ 0 := fun h => h h1
    refine ⟨h1, ?_⟩
    by_cases h2 : k = x.g + 1
    · right
      have g2 : ¬ k ≠ x.g + 1 := fun h => h h2
      refine ⟨h2, ?_⟩
      by_cases h3 : said < k
      · left; exact ⟨h3, no 9 (by rw [delE, if_neg g1, if_neg g2, if_pos (.inl h3)]) (by decide)⟩
      · right
        refine ⟨by omega, ?_⟩
        by_cases h4 : (x.S.length : Int) < k
        · left; exact ⟨h4, no 9 (by rw [delE, if_neg g1, if_neg g2, if_pos (.inr (.inl h4))]) (by decide)⟩
        · right
          refine ⟨by omega, ?_⟩
          by_cases h5 : x.S.getD (k - 1).toNat ByteArray.empty = s
          · right
            refine ⟨h5, ?_⟩
            have h6 : ¬ (said < k ∨ (x.S.length : Int) < k ∨ x.S.getD (k - 1).toNat ByteArray.empty ≠ s) := by
              rintro (h | h | h)
              · exact h3 h
              · exact h4 h
              · exact h h5
            by_cases h7 : x.D.getD (k - 1).toNat 0 ≤ now
            · left; exact ⟨h7, no 12 (by rw [delE, if_neg g1, if_neg g2, if_neg h6, if_pos h7]) (by decide)⟩
            · right
              have e : delE x k s said now = 0 := by rw [delE, if_neg g1, if_neg g2, if_neg h6, if_neg h7]
              exact ⟨by omega, by unfold delL; rw [e, if_pos rfl]⟩
          · left; exact ⟨h5, no 9 (by rw [delE, if_neg g1, if_neg g2, if_pos (.inr (.inr h5))]) (by decide)⟩
    · left; exact ⟨h2, no 10 (by rw [delE, if_neg g1, if_pos h2]) (by decide)⟩
  · left; exact ⟨h1, no _ (by rw [delE, if_pos h1]) h1⟩
set_option maxHeartbeats 2000000 in
theorem del_any (x : Line) (sa da : Option Addr) (cs cd sb so db dO : Nat) (k : Int) (s : ByteArray) (said now : Int) (w : World) (L : LAt w x sa da cs cd sb so db dO) :
    Calls Try.prog 15 #[.agg #[.slice sa x.S.length cs, .slice da x.D.length cd, .int .i64 x.g, .bool x.cl], .int .i64 k, .string s, .int .i64 said, .int .i64 now] w fun e w' => Ans sb db x w (delL x k s said now, delE x k s said now) e w' := by
  have hcs := del_cases x k s said now
  generalize (delL x k s said now, delE x k s said now) = r at *
  have HB := hide (begun L)
  have HREF := hide (fun w (L : LAt w x sa da cs cd sb so db dO) => ref_any x sa da cs cd sb so db dO w L)
  have HHAS := hide (fun w => has_any x sa da cs cd k w)
  have HGD := hide (fun h => goodL_len (refN_good (x := x) h).1)
  clear L
  go_enter Try.func15, Try.ntmps15
  go_upto_region 1 with fail
  generalize ((w.alloc (.cells #[.slice sa x.S.length cs, .slice da x.D.length cd, .int .i64 x.g, .bool x.cl] 25)).alloc (.cells #[.slice none 0 0, .slice none 0 0, .int .i64 0, .bool false] 25)) = w0 at *
  obtain ⟨⟨c0, c1, c2, c3⟩, -⟩ := HB.out.F1.facts
  obtain ⟨⟨d0, d1, d2, d3⟩, ⟨f0, f1, f2, f3⟩⟩ := HB.out.F2.facts
  generalize refN x = R at *
  rcases hcs with ⟨h1, hr⟩ | ⟨rfl, hcs⟩
  · have HR := hide hr
    have h1' : (R != 0) = true := by simpa using h1
    clear hr h1
    go_wp2_with (go_at_call 21; refine (HREF.out _ HB.out.L).mono ?_; rintro e w1 ⟨rfl, hb⟩; have HB1 := hide (HB.out.over hb); clear hb c0 c1 c2 c3 d0 d1 d2 d3 f0 f1 f2 f3; obtain ⟨⟨c0, c1, c2, c3⟩, -⟩ := HB1.out.F1.facts; obtain ⟨⟨d0, d1, d2, d3⟩, ⟨f0, f1, f2, f3⟩⟩ := HB1.out.F2.facts)
    exact HB1.out.asItWas rfl _ _ HR.out _ rfl rfl rfl
  obtain ⟨hl1, hl2, hg0, hg1⟩ := HGD.out rfl
  have HL1 := hide hl1
  clear hl1
  go_upto_region 4 with (go_at_call 21; refine (HREF.out _ HB.out.L).mono ?_; rintro e w1 ⟨rfl, hb⟩; have HB1 := hide (HB.out.over hb); clear hb c0 c1 c2 c3 d0 d1 d2 d3 f0 f1 f2 f3; obtain ⟨⟨c0, c1, c2, c3⟩, ⟨e0, e1, e2, e3⟩⟩ := HB1.out.F1.facts; obtain ⟨⟨d0, d1, d2, d3⟩, ⟨f0, f1, f2, f3⟩⟩ := HB1.out.F2.facts)
  clear HB HREF w0
  rcases hcs with ⟨h2, hr⟩ | ⟨h2, hcs⟩
  · have HR := hide hr
    have h2' : (k != x.g + 1) = true := by simpa using h2
    clear hr h2
    go_wp2
    exact HB1.out.asItWas rfl _ _ HR.out _ rfl rfl rfl
  have h2' : (k != x.g + 1) = false := by simpa using h2
  have hk0 : 1 ≤ k := by omega
  have HK := hide h2
  clear h2
  go_upto_region 6 with fail
  clear h2'
  rcases hcs with ⟨h3, hr⟩ | ⟨h3, hcs⟩
  · have HR := hide hr
    clear hr
    go_wp2_with (go_at_call 25; exfalso; omega)
    exact HB1.out.asItWas rfl _ _ HR.out _ rfl rfl rfl
  rcases hcs with ⟨h4, hr⟩ | ⟨h4, hcs⟩
  · have HR := hide hr
    have hd : (decide (1 ≤ k) && decide (k ≤ (x.S.length : Int))) = false := by simp; omega
    rw [hd] at HHAS
    clear hr hd
    go_wp2_with (go_at_call 25; refine (HHAS.out _).mono ?_; rintro e w2 ⟨rfl, hb⟩; have HB2 := hide (HB1.out.over hb); clear hb c0 c1 c2 c3 e0 e1 e2 e3 d0 d1 d2 d3 f0 f1 f2 f3; obtain ⟨⟨c0, c1, c2, c3⟩, -⟩ := HB2.out.F1.facts; obtain ⟨⟨d0, d1, d2, d3⟩, ⟨f0, f1, f2, f3⟩⟩ := HB2.out.F2.facts)
    exact HB2.out.asItWas rfl _ _ HR.out _ rfl rfl rfl
  have hd : (decide (1 ≤ k) && decide (k ≤ (x.S.length : Int))) = true := by simp; omega
  rw [hd] at HHAS
  clear hd
  obtain ⟨j, hj⟩ : ∃ j : Nat, k - 1 = (j : Int) := ⟨(k - 1).toNat, by omega⟩
  have hjS : j < x.S.length := by omega
  have hjD : j < x.D.length := by rw [HL1.out]; exact hjS
  have hjI : (j : Int) < (x.S.length : Int) := by omega
  have hjJ : (j : Int) < (x.D.length : Int) := by omega
  rw [hj, Int.toNat_natCast] at hcs
  obtain rfl : k = (j : Int) + 1 := by omega
  have esa := HB1.out.L.hsa (by omega)
  have eda := HB1.out.L.hda (by omega)
  subst esa eda
  obtain ⟨t, ht⟩ : ∃ t, x.S.getD j ByteArray.empty = t := ⟨_, rfl⟩
  obtain ⟨y, hy⟩ : ∃ y, x.D.getD j 0 = y := ⟨_, rfl⟩
  rw [ht, hy] at hcs
  have HT := hide ht
  have HY := hide hy
  clear ht hy
  rcases hcs with ⟨h5, hr⟩ | ⟨rfl, hcs⟩
  · have HR := hide hr
    have h5' := str_ne h5
    clear hr h5
    go_wp2_with (go_at_call 25; refine (HHAS.out _).mono ?_; rintro e w2 ⟨rfl, hb⟩; have HB2 := hide (HB1.out.over hb); clear hb c0 c1 c2 c3 e0 e1 e2 e3 d0 d1 d2 d3 f0 f1 f2 f3; obtain ⟨⟨c0, c1, c2, c3⟩, -⟩ := HB2.out.F1.facts; obtain ⟨⟨d0, d1, d2, d3⟩, ⟨f0, f1, f2, f3⟩⟩ := HB2.out.F2.facts; have ct := HB2.out.L.PS j hjS; rw [HT.out] at ct)
    exact HB2.out.asItWas rfl _ _ HR.out _ rfl rfl rfl
  rcases hcs with ⟨h6, hr⟩ | ⟨h6, hr⟩
  · have HR := hide hr
    clear hr
    go_wp2_with (go_at_call 25; refine (HHAS.out _).mono ?_; rintro e w2 ⟨rfl, hb⟩; have HB2 := hide (HB1.out.over hb); clear hb c0 c1 c2 c3 e0 e1 e2 e3 d0 d1 d2 d3 f0 f1 f2 f3; obtain ⟨⟨c0, c1, c2, c3⟩, -⟩ := HB2.out.F1.facts; obtain ⟨⟨d0, d1, d2, d3⟩, ⟨f0, f1, f2, f3⟩⟩ := HB2.out.F2.facts; have ct := HB2.out.L.PS j hjS; rw [HT.out] at ct; have cy := HB2.out.L.PD j hjD; rw [HY.out] at cy)
    exact HB2.out.asItWas rfl _ _ HR.out _ rfl rfl rfl
  · have HR := hide hr
    clear hr
    go_upto_region 11 with (go_at_call 25; refine (HHAS.out _).mono ?_; rintro e w2 ⟨rfl, hb⟩; have HB2 := hide (HB1.out.over hb); clear hb c0 c1 c2 c3 e0 e1 e2 e3 d0 d1 d2 d3 f0 f1 f2 f3; obtain ⟨⟨c0, c1, c2, c3⟩, ⟨e0, e1, e2, e3⟩⟩ := HB2.out.F1.facts; have ct := HB2.out.L.PS j hjS; rw [HT.out] at ct; have cy := HB2.out.L.PD j hjD; rw [HY.out] at cy)
    have F1 := HB2.out.F1.set_2 (.int .i64 ((j : Int) + 1))
    have F2 := HB2.out.F2.other (c := w.heap.size) (o := 2) (by omega) (.int .i64 ((j : Int) + 1))
    have BW := HB2.out.below.setCell (p := ⟨w.heap.size, 2, none⟩) (Nat.le_refl _) (.int .i64 ((j : Int) + 1))
    have LL := HB2.out.L.laterB ((Below.refl w.heap.size w2).setCell (p := ⟨w.heap.size, 2, none⟩) (Nat.le_refl _) (.int .i64 ((j : Int) + 1))) HB2.out.ltS HB2.out.ltD
    clear c0 c1 c2 c3 e0 e1 e2 e3 ct cy
    generalize (w2.setCell ⟨w.heap.size, 2, none⟩ (.int .i64 ((j : Int) + 1))) = w3 at *
    obtain ⟨⟨c0, c1, c2, c3⟩, -⟩ := F1.facts
    obtain ⟨⟨d0, d1, d2, d3⟩, ⟨f0, f1, f2, f3⟩⟩ := F2.facts
    have HX := hide (show _ ∧ _ ∧ _ from ⟨F2, BW, LL⟩)
    have HLT := hide (And.intro HB2.out.ltS HB2.out.ltD)
    clear F1 F2 BW LL
    go_wp2
    exact line_end rfl HX.out.1 HX.out.2.1 (Nat.le_succ _) ⟨x.S, x.D, (j : Int) + 1, x.cl⟩ _ _ _ _ _ _ _ _ ⟨HX.out.2.2.hls, HX.out.2.2.hld, HX.out.2.2.hsa, HX.out.2.2.hda, HX.out.2.2.ncs, HX.out.2.2.ncd, HX.out.2.2.PS, HX.out.2.2.PD⟩ (fun h => by have := HLT.out.1 h; omega) (fun h => by have := HLT.out.2 h; omega) (fun _ => .inl ⟨rfl, rfl⟩) (fun _ => .inl ⟨rfl, rfl⟩) _ _ rfl rfl _ _ HR.out _ rfl rfl rfl
theorem exp_cases (x : Line) (k time got : Int) :
    (refN x ≠ 0 ∧ (expL x k time got, expE x k time got) = (x, refN x)) ∨ (refN x = 0 ∧ (((k < 1 ∨ (x.S.length : Int) < k) ∧ (expL x k time got, expE x k time got) = (x, 4)) ∨
    (1 ≤ k ∧ k ≤ x.S.length ∧ ((k ≤ got ∧ (expL x k time got, expE x k time got) = (x, 5)) ∨ (got < k ∧ ((time < x.D.getD (k - 1).toNat 0 ∧ (expL x k time got, expE x k time got) = (x, 13)) ∨
      (x.D.getD (k - 1).toNat 0 ≤ time ∧ (expL x k time got, expE x k time got) = (⟨x.S, x.D, x.g, true⟩, 0)))))))) := by
  have no : ∀ e, expE x k time got = e → e ≠ 0 → (expL x k time got, expE x k time got) = (x, e) := fun e h h0 => by unfold expL; rw [h, if_neg h0]
  by_cases h1 : refN x = 0
  · right
    have g1 : ¬ refN x ≠ 0 := fun h => h h1
    refine ⟨h1, ?_⟩
    by_cases h2 : k < 1 ∨ (x.S.length : Int) < k
    · left; exact ⟨h2, no 4 (by rw [expE, if_neg g1, if_pos h2]) (by decide)⟩
    · right
      refine ⟨by omega, by omega, ?_⟩
      by_cases h3 : k ≤ got
      · left; exact ⟨h3, no 5 (by rw [expE, if_neg g1, if_neg h2, if_pos h3]) (by decide)⟩
      · right
        refine ⟨by omega, ?_⟩
        by_cases h4 : time < x.D.getD (k - 1).toNat 0
        · left; exact ⟨h4, no 13 (by rw [expE, if_neg g1, if_neg h2, if_neg h3, if_pos h4]) (by decide)⟩
        · right
          have e : expE x k time got = 0 := by rw [expE, if_neg g1, if_neg h2, if_neg h3, if_neg h4]
          exact ⟨by omega, by unfold expL; rw [e, if_pos rfl]⟩
  · left; exact ⟨h1, no _ (by rw [expE, if_pos h1]) h1⟩
set_option maxHeartbeats 2000000 in
theorem exp_any (x : Line) (sa da : Option Addr) (cs cd sb so db dO : Nat) (k time got : Int) (w : World) (L : LAt w x sa da cs cd sb so db dO) :
    Calls Try.prog 17 #[.agg #[.slice sa x.S.length cs, .slice da x.D.length cd, .int .i64 x.g, .bool x.cl], .int .i64 k, .int .i64 time, .int .i64 got] w fun e w' => Ans sb db x w (expL x k time got, expE x k time got) e w' := by
  have hcs := exp_cases x k time got
  generalize (expL x k time got, expE x k time got) = r at *
  have HB := hide (begun L)
  have HREF := hide (fun w (L : LAt w x sa da cs cd sb so db dO) => ref_any x sa da cs cd sb so db dO w L)
  have HHAS := hide (fun w => has_any x sa da cs cd k w)
  have HGD := hide (fun h => goodL_len (refN_good (x := x) h).1)
  clear L
  go_enter Try.func17, Try.ntmps17
  go_upto_region 1 with fail
  generalize ((w.alloc (.cells #[.slice sa x.S.length cs, .slice da x.D.length cd, .int .i64 x.g, .bool x.cl] 25)).alloc (.cells #[.slice none 0 0, .slice none 0 0, .int .i64 0, .bool false] 25)) = w0 at *
  obtain ⟨⟨c0, c1, c2, c3⟩, -⟩ := HB.out.F1.facts
  obtain ⟨⟨d0, d1, d2, d3⟩, ⟨f0, f1, f2, f3⟩⟩ := HB.out.F2.facts
  generalize refN x = R at *
  rcases hcs with ⟨h1, hr⟩ | ⟨rfl, hcs⟩
  · have HR := hide hr
    have h1' : (R != 0) = true := by simpa using h1
    clear hr h1
    go_wp2_with (go_at_call 21; refine (HREF.out _ HB.out.L).mono ?_; rintro e w1 ⟨rfl, hb⟩; have HB1 := hide (HB.out.over hb); clear hb c0 c1 c2 c3 d0 d1 d2 d3 f0 f1 f2 f3; obtain ⟨⟨c0, c1, c2, c3⟩, -⟩ := HB1.out.F1.facts; obtain ⟨⟨d0, d1, d2, d3⟩, ⟨f0, f1, f2, f3⟩⟩ := HB1.out.F2.facts)
    exact HB1.out.asItWas rfl _ _ HR.out _ rfl rfl rfl
  obtain ⟨hl1, hl2, -, -⟩ := HGD.out rfl
  have HL1 := hide hl1
  clear hl1
  go_upto_region 4 with (go_at_call 21; refine (HREF.out _ HB.out.L).mono ?_; rintro e w1 ⟨rfl, hb⟩; have HB1 := hide (HB.out.over hb); clear hb c0 c1 c2 c3 d0 d1 d2 d3 f0 f1 f2 f3; obtain ⟨⟨c0, c1, c2, c3⟩, -⟩ := HB1.out.F1.facts)
  clear HB HREF w0
  rcases hcs with ⟨h2, hr⟩ | ⟨h2, h2', hcs⟩
  · have HR := hide hr
    have hd : (decide (1 ≤ k) && decide (k ≤ (x.S.length : Int))) = false := by simp; omega
    rw [hd] at HHAS
    clear hr hd h2
    go_wp2_with (go_at_call 25; refine (HHAS.out _).mono ?_; rintro e w2 ⟨rfl, hb⟩; have HB2 := hide (HB1.out.over hb); clear hb c0 c1 c2 c3; obtain ⟨⟨c0, c1, c2, c3⟩, -⟩ := HB2.out.F1.facts; obtain ⟨⟨d0, d1, d2, d3⟩, ⟨f0, f1, f2, f3⟩⟩ := HB2.out.F2.facts)
    exact HB2.out.asItWas rfl _ _ HR.out _ rfl rfl rfl
  have hd : (decide (1 ≤ k) && decide (k ≤ (x.S.length : Int))) = true := by simp; omega
  rw [hd] at HHAS
  clear hd
  obtain ⟨j, hj⟩ : ∃ j : Nat, k - 1 = (j : Int) := ⟨(k - 1).toNat, by omega⟩
  have hjS : j < x.S.length := by omega
  have hjD : j < x.D.length := by rw [HL1.out]; exact hjS
  have hjJ : (j : Int) < (x.D.length : Int) := by omega
  rw [hj, Int.toNat_natCast] at hcs
  obtain rfl : k = (j : Int) + 1 := by omega
  have eda := HB1.out.L.hda (by omega)
  subst eda
  obtain ⟨y, hy⟩ : ∃ y, x.D.getD j 0 = y := ⟨_, rfl⟩
  rw [hy] at hcs
  have HY := hide hy
  clear hy
  go_upto_region 6 with (go_at_call 25; refine (HHAS.out _).mono ?_; rintro e w2 ⟨rfl, hb⟩; have HB2 := hide (HB1.out.over hb); clear hb c0 c1 c2 c3; obtain ⟨⟨c0, c1, c2, c3⟩, ⟨e0, e1, e2, e3⟩⟩ := HB2.out.F1.facts; obtain ⟨⟨d0, d1, d2, d3⟩, ⟨f0, f1, f2, f3⟩⟩ := HB2.out.F2.facts; have cy := HB2.out.L.PD j hjD; rw [HY.out] at cy)
  rcases hcs with ⟨h3, hr⟩ | ⟨h3, hcs⟩
  · have HR := hide hr
    clear hr
    go_wp2
    exact HB2.out.asItWas rfl _ _ HR.out _ rfl rfl rfl
  rcases hcs with ⟨h4, hr⟩ | ⟨h4, hr⟩
  · have HR := hide hr
    clear hr
    go_wp2
    exact HB2.out.asItWas rfl _ _ HR.out _ rfl rfl rfl
  · have HR := hide hr
    clear hr
    go_upto_region 11 with fail
    have F1 := HB2.out.F1.set_3 (.bool true)
    have F2 := HB2.out.F2.other (c := w.heap.size) (o := 3) (by omega) (.bool true)
    have BW := HB2.out.below.setCell (p := ⟨w.heap.size, 3, none⟩) (Nat.le_refl _) (.bool true)
    have LL := HB2.out.L.laterB ((Below.refl w.heap.size w2).setCell (p := ⟨w.heap.size, 3, none⟩) (Nat.le_refl _) (.bool true)) HB2.out.ltS HB2.out.ltD
    clear c0 c1 c2 c3 e0 e1 e2 e3 d0 d1 d2 d3 f0 f1 f2 f3 cy
    generalize (w2.setCell ⟨w.heap.size, 3, none⟩ (.bool true)) = w3 at *
    obtain ⟨⟨c0, c1, c2, c3⟩, -⟩ := F1.facts
    obtain ⟨⟨d0, d1, d2, d3⟩, ⟨f0, f1, f2, f3⟩⟩ := F2.facts
    have HX := hide (show _ ∧ _ ∧ _ from ⟨F2, BW, LL⟩)
    have HLT := hide (And.intro HB2.out.ltS HB2.out.ltD)
    clear F1 F2 BW LL
    go_wp2
    exact line_end rfl HX.out.1 HX.out.2.1 (Nat.le_succ _) ⟨x.S, x.D, x.g, true⟩ _ _ _ _ _ _ _ _ ⟨HX.out.2.2.hls, HX.out.2.2.hld, HX.out.2.2.hsa, HX.out.2.2.hda, HX.out.2.2.ncs, HX.out.2.2.ncd, HX.out.2.2.PS, HX.out.2.2.PD⟩ (fun h => by have := HLT.out.1 h; omega) (fun h => by have := HLT.out.2 h; omega) (fun _ => .inl ⟨rfl, rfl⟩) (fun _ => .inl ⟨rfl, rfl⟩) _ _ rfl rfl _ _ HR.out _ rfl rfl rfl
end Go.Proofs.Ytpocbkgkgpflaaa.Ln
