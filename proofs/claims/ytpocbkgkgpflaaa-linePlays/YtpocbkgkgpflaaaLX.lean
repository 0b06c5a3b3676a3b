/- LineEither: the walk. -/
import Derived.Test.YtpocbkgkgpflaaaLI
set_option maxRecDepth 100000
namespace Go.Proofs.Ytpocbkgkgpflaaa.Ln
open Go.RowKit
theorem either_time {x : Line} {k : Int} {s : ByteArray} {said now time got : Int} (h1 : delE x k s said now = 0) (h2 : expE x k time got = 0) : now < time := by
  have hc := del_cases x k s said now
  have hx := exp_cases x k time got
  rw [h1] at hc
  rw [h2] at hx
  simp only [Prod.mk.injEq] at hc hx
  have a : now < x.D.getD (k - 1).toNat 0 := by
    rcases hc with ⟨h, _, h'⟩ | ⟨_, ⟨_, _, h'⟩ | ⟨_, ⟨_, _, h'⟩ | ⟨_, ⟨_, _, h'⟩ | ⟨_, ⟨_, _, h'⟩ | ⟨_, ⟨_, _, h'⟩ | ⟨h', _⟩⟩⟩⟩⟩⟩
    · exact absurd h'.symm h
    all_goals first | cases h' | exact h'
  have b : x.D.getD (k - 1).toNat 0 ≤ time := by
    rcases hx with ⟨h, _, h'⟩ | ⟨_, ⟨_, _, h'⟩ | ⟨_, _, ⟨_, _, h'⟩ | ⟨_, ⟨_, _, h'⟩ | ⟨h', _⟩⟩⟩⟩
    · exact absurd h'.symm h
    all_goals first | cases h' | exact h'
  omega
theorem del_zero {x : Line} {k : Int} {s : ByteArray} {said now : Int} (h1 : delE x k s said now = 0) : refN x = 0 ∧ k = x.g + 1 ∧ k ≤ x.S.length ∧ x.S.getD (k - 1).toNat ByteArray.empty = s ∧ delL x k s said now = ⟨x.S, x.D, k, x.cl⟩ := by
  have hc := del_cases x k s said now
  rw [h1] at hc
  simp only [Prod.mk.injEq] at hc
  rcases hc with ⟨h, _, h'⟩ | ⟨a1, ⟨_, _, h'⟩ | ⟨a2, ⟨_, _, h'⟩ | ⟨_, ⟨_, _, h'⟩ | ⟨a3, ⟨_, _, h'⟩ | ⟨a4, ⟨_, _, h'⟩ | ⟨h', a5, _⟩⟩⟩⟩⟩⟩
  · exact absurd h'.symm h
  all_goals first | cases h' | exact ⟨a1, a2, a3, a4, a5⟩
theorem exp_zero {x : Line} {k time got : Int} (h1 : expE x k time got = 0) : refN x = 0 ∧ 1 ≤ k ∧ k ≤ x.S.length ∧ got < k ∧ x.D.getD (k - 1).toNat 0 ≤ time ∧ expL x k time got = ⟨x.S, x.D, x.g, true⟩ := by
  have hx := exp_cases x k time got
  rw [h1] at hx
  simp only [Prod.mk.injEq] at hx
  rcases hx with ⟨h, _, h'⟩ | ⟨a1, ⟨_, _, h'⟩ | ⟨a2, a3, ⟨_, _, h'⟩ | ⟨a4, ⟨_, _, h'⟩ | ⟨h', a5, _⟩⟩⟩⟩
  · exact absurd h'.symm h
  all_goals first | cases h' | exact ⟨a1, a2, a3, a4, h', a5⟩
theorem goodL_g {x : Line} {k : Int} (hg : goodL x = true) (h0 : 0 ≤ k) (h1 : k ≤ x.S.length) (cl : Bool) : goodL ⟨x.S, x.D, k, cl⟩ = true := by
  simp only [goodL, Bool.and_eq_true, decide_eq_true_eq] at hg ⊢
  exact ⟨⟨hg.1.1, h0⟩, h1⟩
theorem del_twice {x : Line} {k : Int} {s : ByteArray} {said now : Int} (h1 : delE x k s said now = 0) : delE (delL x k s said now) k s said now = 10 := by
  obtain ⟨a1, a2, a3, a4, a5⟩ := del_zero h1
  obtain ⟨hg, hcl⟩ := refN_good a1
  have hl := goodL_len hg
  rw [a5]
  have hr : refN ⟨x.S, x.D, k, x.cl⟩ = 0 := by unfold refN; rw [if_neg (by rw [goodL_g hg (by omega) a3]; simp), if_neg (by simp [hcl])]
  rw [delE, if_neg (fun h => h hr), if_pos (by show k ≠ k + 1; omega)]
theorem del_closed {x : Line} {k time got : Int} (k' : Int) (s : ByteArray) (said now : Int) (h1 : expE x k time got = 0) : delE (expL x k time got) k' s said now = 11 := by
  obtain ⟨a1, a2, a3, a4, a5, a6⟩ := exp_zero h1
  obtain ⟨hg, hcl⟩ := refN_good a1
  have hl := goodL_len hg
  rw [a6]
  have hr : refN ⟨x.S, x.D, x.g, true⟩ = 11 := by unfold refN; rw [if_neg (by rw [goodL_g hg hl.2.2.1 hl.2.2.2]; simp), if_pos rfl]
  rw [delE, hr, if_pos (by decide)]
set_option maxHeartbeats 2000000 in
theorem either_walk (x : Line) (sa da : Option Addr) (cs cd sb so db dO : Nat) (k : Int) (s : ByteArray) (said now time : Int) (w : World) (L : LAt w x sa da cs cd sb so db dO) :
    Calls Try.prog 6 #[.agg #[.slice sa x.S.length cs, .slice da x.D.length cd, .int .i64 x.g, .bool x.cl], .int .i64 k, .string s, .int .i64 said, .int .i64 now, .int .i64 time] w fun e w' => e = .returned (.bool true) ∧ Below w.heap.size w w' := by
  have F1 := FAt.new w (.slice sa x.S.length cs) (.slice da x.D.length cd) (.int .i64 x.g) (.bool x.cl)
  have B1 := below_new w (.cells #[.slice sa x.S.length cs, .slice da x.D.length cd, .int .i64 x.g, .bool x.cl] 25)
  have L1 := L.later B1
  have HD := hide (fun (y : Line) A1 A2 C1 C2 g1 o1 g2 o2 w (L : LAt w y A1 A2 C1 C2 g1 o1 g2 o2) => del_any y A1 A2 C1 C2 g1 o1 g2 o2 k s said now w L)
  have HE := hide (fun w (L : LAt w x sa da cs cd sb so db dO) => exp_any x sa da cs cd sb so db dO k time x.g w L)
  have p1 := @either_time x k s said now time x.g
  have p2 := @del_twice x k s said now
  have p3 := @del_closed x k time x.g k s said now
  have HDx := hide (fun w (L : LAt w x sa da cs cd sb so db dO) => HD.out x sa da cs cd sb so db dO w L)
  generalize delL x k s said now = y at *
  generalize delE x k s said now = ey at *
  generalize expL x k time x.g = z at *
  generalize expE x k time x.g = ez at *
  have HP := hide (show _ ∧ _ ∧ _ from ⟨p1, p2, p3⟩)
  clear L p1 p2 p3
  go_enter Try.func6, Try.ntmps6
  go_upto_region 1 with fail
  generalize w.alloc (.cells #[.slice sa x.S.length cs, .slice da x.D.length cd, .int .i64 x.g, .bool x.cl] 25) = w1 at *
  obtain ⟨⟨c0, c1, c2, c3⟩, -⟩ := F1.facts
  have HX := hide (show _ ∧ _ ∧ _ from ⟨F1, B1, L1⟩)
  clear F1 B1 L1
  go_upto_region 2 with (go_at_call 15; refine (HDx.out _ HX.out.2.2).mono ?_; rintro e w3 ⟨v, rfl, ⟨ya, yb, yc, yd, ye, yf, yg, yh, rfl, LY, -, -⟩, hb3⟩; have HB3 := hide hb3; have HLY := hide LY; clear hb3 LY)
  have F1 := (HX.out.1.later HB3.out HX.out.1.lt).alloc (.cells #[.slice ya y.S.length yc, .slice yb y.D.length yd, .int .i64 y.g, .bool y.cl] 25)
  have F3 := FAt.new w3 (.slice ya y.S.length yc) (.slice yb y.D.length yd) (.int .i64 y.g) (.bool y.cl)
  have B4 := (below_then HX.out.2.1 HB3.out).alloc (below_then HX.out.2.1 HB3.out).size (.cells #[.slice ya y.S.length yc, .slice yb y.D.length yd, .int .i64 y.g, .bool y.cl] 25)
  have L4 := (HX.out.2.2.later HB3.out).later (below_new w3 (.cells #[.slice ya y.S.length yc, .slice yb y.D.length yd, .int .i64 y.g, .bool y.cl] 25))
  have LY4 := HLY.out.later (below_new w3 (.cells #[.slice ya y.S.length yc, .slice yb y.D.length yd, .int .i64 y.g, .bool y.cl] 25))
  clear c0 c1 c2 c3
  generalize w3.heap.size = b3 at *
  generalize w3.alloc (.cells #[.slice ya y.S.length yc, .slice yb y.D.length yd, .int .i64 y.g, .bool y.cl] 25) = w4 at *
  obtain ⟨⟨c0, c1, c2, c3⟩, -⟩ := F1.facts
  have HZ := hide (show _ ∧ _ ∧ _ ∧ _ from ⟨F3, B4, L4, LY4⟩)
  clear F1 F3 B4 L4 LY4
  go_upto_region 3 with (go_at_call 17; refine (HE.out _ HZ.out.2.2.1).mono ?_; rintro e w5 ⟨v, rfl, ⟨za, zb, zc, zd, ze, zf, zg, zh, rfl, LZ, -, -⟩, hb5⟩; have HB5 := hide hb5; have HLZ := hide LZ; clear hb5 LZ)
  have F3 := (HZ.out.1.later HB5.out HZ.out.1.lt).alloc (.cells #[.slice za z.S.length zc, .slice zb z.D.length zd, .int .i64 z.g, .bool z.cl] 25)
  have F5 := FAt.new w5 (.slice za z.S.length zc) (.slice zb z.D.length zd) (.int .i64 z.g) (.bool z.cl)
  have B6 := (below_then HZ.out.2.1 HB5.out).alloc (below_then HZ.out.2.1 HB5.out).size (.cells #[.slice za z.S.length zc, .slice zb z.D.length zd, .int .i64 z.g, .bool z.cl] 25)
  have LY6 := (HZ.out.2.2.2.later HB5.out).later (below_new w5 (.cells #[.slice za z.S.length zc, .slice zb z.D.length zd, .int .i64 z.g, .bool z.cl] 25))
  have LZ6 := HLZ.out.later (below_new w5 (.cells #[.slice za z.S.length zc, .slice zb z.D.length zd, .int .i64 z.g, .bool z.cl] 25))
  clear c0 c1 c2 c3
  generalize w5.heap.size = b5 at *
  generalize w5.alloc (.cells #[.slice za z.S.length zc, .slice zb z.D.length zd, .int .i64 z.g, .bool z.cl] 25) = w6 at *
  have HV := hide (show _ ∧ _ ∧ _ ∧ _ ∧ _ from ⟨B6, LY6, LZ6, F3, F5⟩)
  clear F3 F5 B6 LY6 LZ6
  have hlines := fun w => klines_any w
  have step3 : ∀ (w7 : World), Below w6.heap.size w6 w7 → (FAt w7 b3 (.slice ya y.S.length yc) (.slice yb y.D.length yd) (.int .i64 y.g) (.bool y.cl) ∧ FAt w7 b5 (.slice za z.S.length zc) (.slice zb z.D.length zd) (.int .i64 z.g) (.bool z.cl) ∧ LAt w7 y ya yb yc yd ye yf yg yh ∧ LAt w7 z za zb zc zd ze zf zg zh ∧ Below w.heap.size w w7) := fun w7 hb =>
    ⟨HV.out.2.2.2.1.later hb HV.out.2.2.2.1.lt, HV.out.2.2.2.2.later hb HV.out.2.2.2.2.lt, HV.out.2.1.later hb, HV.out.2.2.1.later hb, below_then HV.out.1 hb⟩
  have H3 := hide step3
  clear step3
  by_cases he : ey = 0
  · subst he
    have p2 := HP.out.2.1 rfl
    have HDy := hide (fun w (L : LAt w y ya yb yc yd ye yf yg yh) => HD.out y ya yb yc yd ye yf yg yh w L)
    rw [p2] at HDy
    by_cases hf : ez = 0
    · subst hf
      have p1 := HP.out.1 rfl rfl
      have p3 := HP.out.2.2 rfl
      have HDz := hide (fun w (L : LAt w z za zb zc zd ze zf zg zh) => HD.out z za zb zc zd ze zf zg zh w L)
      rw [p3] at HDz
      generalize delL y k s said now = yy at *
      generalize delL z k s said now = zz at *
      clear p2 p3 HP HD
      go_wp2_with (first
        | (go_at_call 19; refine (hlines _).mono ?_; rintro e w7 ⟨rfl, hb7⟩; obtain ⟨F3, F5, LY7, LZ7, B7⟩ := H3.out w7 hb7; obtain ⟨⟨c0, c1, c2, c3⟩, -⟩ := F3.facts; have HG := hide (show _ ∧ _ ∧ _ ∧ _ from ⟨F5, LY7, LZ7, B7⟩); clear F3 F5 LY7 LZ7 B7 hb7)
        | (go_at_call 15; have _m := m1; refine (HDz.out _ HI.out.2.1).mono ?_; rintro e w9 ⟨v, rfl, ⟨qa, qb, qc, qd, qe, qf, qg, qh, rfl, -, -, -⟩, hb9⟩)
        | (go_at_call 15; refine (HDy.out _ HG.out.2.1).mono ?_; rintro e w8 ⟨v, rfl, ⟨pa, pb, pc, pd, pe, pf, pg, ph, rfl, -, -, -⟩, hb8⟩; have F5 := (HG.out.1.later hb8 HG.out.1.lt).alloc (.cells #[.slice pa yy.S.length pc, .slice pb yy.D.length pd, .int .i64 yy.g, .bool yy.cl] 25); have LZ8 := (HG.out.2.2.1.later hb8).later (below_new w8 (.cells #[.slice pa yy.S.length pc, .slice pb yy.D.length pd, .int .i64 yy.g, .bool yy.cl] 25)); clear c0 c1 c2 c3; obtain ⟨⟨c0, c1, c2, c3⟩, -⟩ := F5.facts; have HI := hide (show _ ∧ _ ∧ _ from ⟨F5, LZ8, (below_then HG.out.2.2.2 hb8).alloc (below_then HG.out.2.2.2 hb8).size (.cells #[.slice pa yy.S.length pc, .slice pb yy.D.length pd, .int .i64 yy.g, .bool yy.cl] 25)⟩); have m1 : True := trivial; clear F5 LZ8 hb8))
      go_ret
      exact ⟨rfl, (below_then HI.out.2.2 hb9).alloc (below_then HI.out.2.2 hb9).size _⟩
    · have hf' : (ez == 0) = false := by simpa using hf
      generalize delL y k s said now = yy at *
      clear hf p2 HP HD
      go_wp2_with (first
        | (go_at_call 19; refine (hlines _).mono ?_; rintro e w7 ⟨rfl, hb7⟩; obtain ⟨F3, F5, LY7, LZ7, B7⟩ := H3.out w7 hb7; obtain ⟨⟨c0, c1, c2, c3⟩, -⟩ := F3.facts; have HG := hide (And.intro LY7 B7); clear F3 F5 LY7 LZ7 B7 hb7)
        | (go_at_call 15; refine (HDy.out _ HG.out.1).mono ?_; rintro e w8 ⟨v, rfl, ⟨pa, pb, pc, pd, pe, pf, pg, ph, rfl, -, -, -⟩, hb8⟩))
      go_ret
      exact ⟨rfl, (below_then HG.out.2 hb8).alloc (below_then HG.out.2 hb8).size _⟩
  · have he' : (ey == 0) = false := by simpa using he
    clear he
    by_cases hf : ez = 0
    · subst hf
      have p3 := HP.out.2.2 rfl
      have HDz := hide (fun w (L : LAt w z za zb zc zd ze zf zg zh) => HD.out z za zb zc zd ze zf zg zh w L)
      rw [p3] at HDz
      generalize delL z k s said now = zz at *
      clear p3 HP HD
      go_wp2_with (first
        | (go_at_call 19; refine (hlines _).mono ?_; rintro e w7 ⟨rfl, hb7⟩; obtain ⟨F3, F5, LY7, LZ7, B7⟩ := H3.out w7 hb7; obtain ⟨⟨c0, c1, c2, c3⟩, -⟩ := F5.facts; have HG := hide (And.intro LZ7 B7); clear F3 F5 LY7 LZ7 B7 hb7)
        | (go_at_call 15; refine (HDz.out _ HG.out.1).mono ?_; rintro e w8 ⟨v, rfl, ⟨pa, pb, pc, pd, pe, pf, pg, ph, rfl, -, -, -⟩, hb8⟩))
      go_ret
      exact ⟨rfl, (below_then HG.out.2 hb8).alloc (below_then HG.out.2 hb8).size _⟩
    · have hf' : (ez == 0) = false := by simpa using hf
      clear hf HP HD
      go_wp2_with (first
        | (go_at_call 19; refine (hlines _).mono ?_; rintro e w7 ⟨rfl, hb7⟩; have HG := hide (below_then HV.out.1 hb7); clear hb7))
      go_ret
      exact ⟨rfl, HG.out⟩
end Go.Proofs.Ytpocbkgkgpflaaa.Ln
