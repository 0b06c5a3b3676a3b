/- The reference's Say. -/
import Derived.Test.YtpocbkgkgpflaaaLH
set_option maxRecDepth 100000
namespace Go.Proofs.Ytpocbkgkgpflaaa.Ln
open Go.RowKit
theorem rsay_cases (x : Line) (s : ByteArray) (due : Int) :
    (goodL x = false ∧ (sayL x s due, sayE x due) = (x, 2)) ∨ (goodL x = true ∧ ((due < 0 ∧ (sayL x s due, sayE x due) = (x, 2)) ∨ (0 ≤ due ∧ ((x.cl = true ∧ (sayL x s due, sayE x due) = (x, 11)) ∨ (x.cl = false ∧
      ((x.S.length = 400 ∧ (sayL x s due, sayE x due) = (x, 6)) ∨ (x.S.length < 400 ∧ (sayL x s due, sayE x due) = (⟨x.S ++ [s], x.D ++ [due], x.g, x.cl⟩, 0)))))))) := by
  have hc := say_cases x s due
  by_cases hg : goodL x = true
  · right
    have hl := goodL_len hg
    refine ⟨hg, ?_⟩
    rcases hc with ⟨h1, hr⟩ | ⟨h1, h2, hr⟩ | ⟨h1, h2, h3, hr⟩ | ⟨h1, h2, h3, hr⟩
    · exact .inl ⟨h1, hr⟩
    · refine .inr ⟨h1, .inl ?_⟩
      unfold refN at h2 hr
      rw [if_neg (by simp [hg])] at h2 hr
      cases hc : x.cl
      · rw [hc] at h2; exact absurd rfl h2
      · rw [hc, if_pos rfl] at hr; exact ⟨rfl, hr⟩
    · exact .inr ⟨h1, .inr ⟨(refN_good h2).2, .inl ⟨by omega, hr⟩⟩⟩
    · exact .inr ⟨h1, .inr ⟨(refN_good h2).2, .inr ⟨h3, hr⟩⟩⟩
  · left
    have hg' : goodL x = false := by simpa using hg
    refine ⟨hg', ?_⟩
    have hn : refN x = 2 := by unfold refN; rw [if_pos hg']
    rcases hc with ⟨h1, hr⟩ | ⟨h1, h2, hr⟩ | ⟨h1, h2, h3, hr⟩ | ⟨h1, h2, h3, hr⟩
    · exact hr
    · rw [hn] at hr; exact hr
    · rw [hn] at h2; cases h2
    · rw [hn] at h2; cases h2
set_option maxHeartbeats 8000000 in
theorem rsay_any (x : Line) (sa da : Option Addr) (cs cd sb so db dO : Nat) (s : ByteArray) (due : Int) (w : World) (L : LAt w x sa da cs cd sb so db dO) :
    Calls Try.prog 10 #[.agg #[.slice sa x.S.length cs, .slice da x.D.length cd, .int .i64 x.g, .bool x.cl], .string s, .int .i64 due] w fun e w' => Ans w (sayL x s due, sayE x due) e w' := by
  have hcs := rsay_cases x s due
  generalize (sayL x s due, sayE x due) = r at *
  have HB := hide (begun L)
  have HGOOD := hide (fun w (L : LAt w x sa da cs cd sb so db dO) => rgood_any x sa da cs cd sb so db dO w L)
  have HLEN := hide (goodL_len (x := x))
  clear L
  obtain ⟨i0, hi, hz0, hz1, hz2⟩ := info_parts infoStr
  obtain ⟨j0, hj, hy0, hy1, hy2⟩ := info_parts infoI
  go_enter Try.func10, Try.ntmps10
  go_upto_region 1 with fail
  generalize ((w.alloc (.cells #[.slice sa x.S.length cs, .slice da x.D.length cd, .int .i64 x.g, .bool x.cl] 25)).alloc (.cells #[.slice none 0 0, .slice none 0 0, .int .i64 0, .bool false] 25)) = w0 at *
  obtain ⟨⟨c0, c1, c2, c3⟩, -⟩ := HB.out.F1.facts
  obtain ⟨⟨d0, d1, d2, d3⟩, ⟨f0, f1, f2, f3⟩⟩ := HB.out.F2.facts
  generalize goodL x = G at *
  rcases hcs with ⟨rfl, hr⟩ | ⟨rfl, hcs⟩
  · have HR := hide hr
    clear hr
    go_wp2_with (go_at_call 13; refine (HGOOD.out _ HB.out.L).mono ?_; rintro e w1 ⟨rfl, hb⟩; have HB1 := hide (HB.out.over hb); clear hb c0 c1 c2 c3 d0 d1 d2 d3 f0 f1 f2 f3; obtain ⟨⟨c0, c1, c2, c3⟩, -⟩ := HB1.out.F1.facts; obtain ⟨⟨d0, d1, d2, d3⟩, ⟨f0, f1, f2, f3⟩⟩ := HB1.out.F2.facts)
    exact HB1.out.asItWas rfl _ _ HR.out _ rfl rfl rfl
  obtain ⟨hl1, hl2, -, -⟩ := HLEN.out rfl
  have HL1 := hide hl1
  clear hl1
  rcases hcs with ⟨h2, hr⟩ | ⟨h2, hcs⟩
  · have HR := hide hr
    clear hr
    go_wp2_with (go_at_call 13; refine (HGOOD.out _ HB.out.L).mono ?_; rintro e w1 ⟨rfl, hb⟩; have HB1 := hide (HB.out.over hb); clear hb c0 c1 c2 c3 d0 d1 d2 d3 f0 f1 f2 f3; obtain ⟨⟨c0, c1, c2, c3⟩, -⟩ := HB1.out.F1.facts; obtain ⟨⟨d0, d1, d2, d3⟩, ⟨f0, f1, f2, f3⟩⟩ := HB1.out.F2.facts)
    exact HB1.out.asItWas rfl _ _ HR.out _ rfl rfl rfl
  go_upto_region 3 with (go_at_call 13; refine (HGOOD.out _ HB.out.L).mono ?_; rintro e w1 ⟨rfl, hb⟩; have HB1 := hide (HB.out.over hb); clear hb c0 c1 c2 c3 d0 d1 d2 d3 f0 f1 f2 f3; obtain ⟨⟨c0, c1, c2, c3⟩, -⟩ := HB1.out.F1.facts; obtain ⟨⟨d0, d1, d2, d3⟩, ⟨f0, f1, f2, f3⟩⟩ := HB1.out.F2.facts)
  clear HB HGOOD w0
  obtain ⟨S, D, g, cl⟩ := x
  dsimp only at *
  rcases hcs with ⟨rfl, hr⟩ | ⟨rfl, hcs⟩
  · have HR := hide hr
    clear hr
    go_wp2
    exact HB1.out.asItWas rfl _ _ HR.out _ rfl rfl rfl
  rcases hcs with ⟨h4, hr⟩ | ⟨h4, hr⟩
  · have HR := hide hr
    have h4' : ((S.length : Int) == 400) = true := by simp; omega
    clear hr h4 hl2 HL1 HLEN
    go_wp2
    exact HB1.out.asItWas rfl _ _ HR.out _ rfl rfl rfl
  have HR := hide hr
  have h4' : ((S.length : Int) == 400) = false := by simp; omega
  clear hr
  have HCOPY := hide (copy_any ⟨S, D, g, false⟩ sa da cs cd sb so db dO w1 HB1.out.L)
  dsimp only at HCOPY
  go_upto_region 8 with (go_at_call 8; refine HCOPY.out.mono ?_; rintro e w2 ⟨A1, C1, A2, C2, rfl, hO, hb⟩; have HO := hide hO; have HB2 := hide (HB1.out.over hb); clear hb hO c0 c1 c2 c3 d0 d1 d2 d3 f0 f1 f2 f3)
  have M0 : Mid w (w2.alloc (.cells #[.slice A1 S.length C1, .slice A2 D.length C2, .int .i64 g, .bool false] 25)) w2.heap.size (.slice A1 S.length C1) (.slice A2 D.length C2) g false S A1 C1 D A2 C2 :=
    ⟨FAt.new w2 _ _ _ _, HB2.out.F2.alloc _, World.ownsRow.alloc (own_base HO.out.oS (by have := HB1.out.size; omega)) _, World.ownsRow.alloc (own_base HO.out.oD (by have := HB1.out.size; omega)) _, HB2.out.below.alloc HB2.out.below.size _, HB2.out.size⟩
  have hb8 := HB2.out.size
  clear HO HB2 HB1 HCOPY
  generalize w2.heap.size = b8 at *
  generalize w2.alloc (.cells #[.slice A1 S.length C1, .slice A2 D.length C2, .int .i64 g, .bool false] 25) = w3 at *
  have HM := hide M0
  obtain ⟨⟨c0, c1, c2, c3⟩, -⟩ := M0.F8.facts
  have z3 := M0.F8.lt
  clear M0
  have hlD : D.length < 400 := by rw [HL1.out]; exact h4
  go_region_law (first
    | (refine stepS rfl _ _ rfl (HM.out.alloc (.cells #[.string s] 9)).drew rfl _ rfl s (q_cell (q_new w3 _ _)) h4 ?_; rintro A3 C3 w4 ⟨hM, hq⟩; have HM4 := hide hM; have z4 := hM.F8.lt; clear c0 c1 c2 c3; obtain ⟨⟨c0, c1, c2, c3⟩, ⟨e0, e1, e2, e3⟩⟩ := hM.F8.facts; clear hM hq)
    | (refine stepS rfl _ _ rfl ((HM.out.alloc (.cells #[.string s] 9)).alloc (.cells #[.int .i64 due] 3)).drew rfl _ rfl s (q_cell (q_old w3 _ _ _)) h4 ?_; rintro A3 C3 w4 ⟨hM, hq⟩; have HM4 := hide hM; have z4 := hM.F8.lt; clear c0 c1 c2 c3; obtain ⟨⟨c0, c1, c2, c3⟩, ⟨e0, e1, e2, e3⟩⟩ := hM.F8.facts; have kq := hq _ _ (q_new1 w3 (.cells #[.string s] 9) (.int .i64 due) _); clear hM hq)
    | (refine stepS rfl _ _ rfl ((HM.out.alloc (.cells #[.int .i64 due] 3)).alloc (.cells #[.string s] 9)).drew rfl _ rfl s (q_cell (q_new1 w3 _ _ _)) h4 ?_; rintro A3 C3 w4 ⟨hM, hq⟩; have HM4 := hide hM; have z4 := hM.F8.lt; clear c0 c1 c2 c3; obtain ⟨⟨c0, c1, c2, c3⟩, ⟨e0, e1, e2, e3⟩⟩ := hM.F8.facts; have kq := hq _ _ (q_old w3 (.cells #[.string s] 9) (.int .i64 due) _); clear hM hq)
    | (refine stepD rfl _ _ rfl HM4.out rfl _ rfl due (q_cell kq) hlD ?_; rintro A4 C4 w5 hM; have HM5 := hide hM; have z5 := hM.F8.lt; clear c0 c1 c2 c3 e0 e1 e2 e3; obtain ⟨⟨c0, c1, c2, c3⟩, ⟨e0, e1, e2, e3⟩⟩ := hM.F8.facts; clear hM)
    | (refine stepD rfl _ _ rfl (HM4.out.alloc (.cells #[.int .i64 due] 3)) rfl _ rfl due (q_cell (q_new w4 _ _)) hlD ?_; rintro A4 C4 w5 hM; have HM5 := hide hM; have z5 := hM.F8.lt; clear c0 c1 c2 c3 e0 e1 e2 e3; obtain ⟨⟨c0, c1, c2, c3⟩, ⟨e0, e1, e2, e3⟩⟩ := hM.F8.facts; clear hM))
  all_goals
    have M6 := HM5.out.set ((HM5.out.F8.set_0 (.slice A3 (S.length + 1) C3)).set_1 (.slice A4 (D.length + 1) C4)) (fun k hk => by rw [Below.heap_setCell _ _ _ _ hk, Below.heap_setCell _ _ _ _ hk]) ((HM5.out.below.setCell (p := ⟨b8, 0, none⟩) (by show w.heap.size ≤ b8; omega) (.slice A3 (S.length + 1) C3)).setCell (p := ⟨b8, 1, none⟩) (by show w.heap.size ≤ b8; omega) (.slice A4 (D.length + 1) C4))
    clear c0 c1 c2 c3 e0 e1 e2 e3
    generalize (w5.setCell ⟨b8, 0, none⟩ (.slice A3 (S.length + 1) C3)).setCell ⟨b8, 1, none⟩ (.slice A4 (D.length + 1) C4) = w6 at *
    obtain ⟨⟨c0, c1, c2, c3⟩, -⟩ := M6.F8.facts
    obtain ⟨⟨d0, d1, d2, d3⟩, ⟨f0, f1, f2, f3⟩⟩ := M6.F2.facts
    have HM6 := hide M6
    clear M6
    go_wp2
    exact HM6.out.fin rfl (by simp; omega) (by simp; omega) _ _ (by simp) (by simp) _ _ HR.out _ rfl rfl rfl
end Go.Proofs.Ytpocbkgkgpflaaa.Ln
