/- Parts of the proof: T6 T7. -/
import Derived.Test.YtjghbciepinofaaGreatRows
import Derived.Test.YtjghbciepinofaaGreatPEK33
import Derived.Test.YtjghbciepinofaaGreatPEK43
import Derived.Test.YtjghbciepinofaaGreatPEK48
import Derived.Test.YtjghbciepinofaaGreatPEK51
import Derived.WalkKit
set_option maxRecDepth 100000
namespace Go.Proofs.YtjghbciepinofaaGreat
open Go.RowKit
theorem rpay_end {w wq : World} (R : BAt wq (w.heap.size + 1) 0 0 0 0 0 0 0) (H : Below w.heap.size w wq) (r0 r1 r2 r3 r4 r5 r6 er : Int) (act : Act)
    (h8 : act.tmps.getD 6 undef = .pointer (some ⟨w.heap.size + 1, 0, none⟩)) (h9 : act.tmps.getD 7 undef = .int .i64 er) (hd : act.defers = []) :
    bodyPost Tryz.prog Tryz.f100 (fun e w' => e = .returned (.tuple #[.agg #[.int .i64 r0, .int .i64 r1, .int .i64 r2, .int .i64 r3, .int .i64 r4, .int .i64 r5, .int .i64 r6], .int .i64 er]) ∧ Below w.heap.size w w') Exit.ret act
      (set7 wq (w.heap.size + 1) r0 r1 r2 r3 r4 r5 r6) := by
  have HR := R.set7 r0 r1 r2 r3 r4 r5 r6
  have HW := set7_below (b := w.heap.size + 1) H (by omega) r0 r1 r2 r3 r4 r5 r6
  generalize set7 wq (w.heap.size + 1) r0 r1 r2 r3 r4 r5 r6 = w9 at *
  obtain ⟨u0, u1, u2, u3, u4, u5, u6⟩ := HR.cells
  have h8' : act.tmps[6]?.getD undef = .pointer (some ⟨w.heap.size + 1, 0, none⟩) := by simpa using h8
  have h9' : act.tmps[7]?.getD undef = .int .i64 er := by simpa using h9
  exact bodyPost_ret (v := .tuple #[.agg #[.int .i64 r0, .int .i64 r1, .int .i64 r2, .int .i64 r3, .int .i64 r4, .int .i64 r5, .int .i64 r6], .int .i64 er]) (by simp [results, Tryz.results100, go_sem, h8', h9', u0, u1, u2, u3, u4, u5, u6]) hd ⟨rfl, HW⟩
set_option maxHeartbeats 1000000 in
theorem rpay_walk (f0 f1 f2 f3 bo wa bu d n r0 r1 r2 r3 r4 r5 r6 er : Int) (w : World) (h0 : 0 ≤ d) (h1 : d < 4)
    (hmv : ∀ w : World, Calls Tryz.prog 143 #[.agg #[.int .i64 f0, .int .i64 f1, .int .i64 f2, .int .i64 f3, .int .i64 bo, .int .i64 wa, .int .i64 bu], .int .i64 5, .int .i64 d, .int .i64 n] w
      fun e w' => e = .returned (.tuple #[.agg #[.int .i64 r0, .int .i64 r1, .int .i64 r2, .int .i64 r3, .int .i64 r4, .int .i64 r5, .int .i64 r6], .int .i64 er]) ∧ Below w.heap.size w w') :
    Calls Tryz.prog 100 #[.agg #[.int .i64 f0, .int .i64 f1, .int .i64 f2, .int .i64 f3, .int .i64 bo, .int .i64 wa, .int .i64 bu], .int .i64 d, .int .i64 n] w
      fun e w' => e = .returned (.tuple #[.agg #[.int .i64 r0, .int .i64 r1, .int .i64 r2, .int .i64 r3, .int .i64 r4, .int .i64 r5, .int .i64 r6], .int .i64 er]) ∧ Below w.heap.size w w' := by
  have h2 : d ≤ 3 := by omega
  go_enter Tryz.func100, Tryz.ntmps100
  go_wp2_with fail
  refine (hmv _).mono ?_
  rintro e w5 ⟨rfl, hb5⟩
  have R5 : BAt w5 (w.heap.size + 1) 0 0 0 0 0 0 0 := by
    have := (BAt.new (w.alloc (.cells #[.int .i64 f0, .int .i64 f1, .int .i64 f2, .int .i64 f3, .int .i64 bo, .int .i64 wa, .int .i64 bu] 24)) 0 0 0 0 0 0 0).later hb5 (by simp)
    simpa using this
  have HB5 : Hid (Below w.heap.size w w5) := (((Below.refl _ w).alloc (Nat.le_refl _) _).alloc (by simp) _).trans (hb5.mono (by simp; omega))
  clear hb5
  obtain ⟨u0, u1, u2, u3, u4, u5, u6⟩ := R5.frees
  obtain ⟨v0, v1, v2, v3, v4, v5, v6⟩ := R5.cells
  have HR5 : Hid (BAt w5 (w.heap.size + 1) 0 0 0 0 0 0 0) := R5
  clear R5
  go_wp2
  exact rpay_end HR5.out HB5.out r0 r1 r2 r3 r4 r5 r6 er _ rfl rfl rfl
theorem rpay_fin {w w9 : World} {r0 r1 r2 r3 r4 r5 r6 : Int} (HR : BAt w9 (w.heap.size + 1) r0 r1 r2 r3 r4 r5 r6) (HW : Below w.heap.size w w9) (er : Int) (act : Act)
    (h8 : act.tmps.getD 6 undef = .pointer (some ⟨w.heap.size + 1, 0, none⟩)) (h9 : act.tmps.getD 7 undef = .int .i64 er) (hd : act.defers = []) :
    bodyPost Tryz.prog Tryz.f100 (fun e w' => e = .returned (.tuple #[.agg #[.int .i64 r0, .int .i64 r1, .int .i64 r2, .int .i64 r3, .int .i64 r4, .int .i64 r5, .int .i64 r6], .int .i64 er]) ∧ Below w.heap.size w w') Exit.ret act w9 := by
  obtain ⟨u0, u1, u2, u3, u4, u5, u6⟩ := HR.cells
  have h8' : act.tmps[6]?.getD undef = .pointer (some ⟨w.heap.size + 1, 0, none⟩) := by simpa using h8
  have h9' : act.tmps[7]?.getD undef = .int .i64 er := by simpa using h9
  exact bodyPost_ret (v := .tuple #[.agg #[.int .i64 r0, .int .i64 r1, .int .i64 r2, .int .i64 r3, .int .i64 r4, .int .i64 r5, .int .i64 r6], .int .i64 er]) (by simp [results, Tryz.results100, go_sem, h8', h9', u0, u1, u2, u3, u4, u5, u6]) hd ⟨rfl, HW⟩
theorem rpay_no (f0 f1 f2 f3 bo wa bu d n : Int) (w : World) (h : ¬ (0 ≤ d ∧ d < 4)) :
    Calls Tryz.prog 100 #[.agg #[.int .i64 f0, .int .i64 f1, .int .i64 f2, .int .i64 f3, .int .i64 bo, .int .i64 wa, .int .i64 bu], .int .i64 d, .int .i64 n] w
      fun e w' => e = .returned (.tuple #[.agg #[.int .i64 f0, .int .i64 f1, .int .i64 f2, .int .i64 f3, .int .i64 bo, .int .i64 wa, .int .i64 bu], .int .i64 4]) ∧ Below w.heap.size w w' := by
  rcases (show d < 0 ∨ (0 ≤ d ∧ 3 < d) by omega) with h1 | ⟨h1, h2⟩
  all_goals
    clear h
    go_enter Tryz.func100, Tryz.ntmps100
    go_wp2
    exact rpay_fin (by have := BAt.new (w.alloc (.cells #[.int .i64 f0, .int .i64 f1, .int .i64 f2, .int .i64 f3, .int .i64 bo, .int .i64 wa, .int .i64 bu] 24)) f0 f1 f2 f3 bo wa bu; simpa using this) (((Below.refl _ w).alloc (Nat.le_refl _) _).alloc (by simp) _) 4 _ rfl rfl rfl
theorem rburn_fin {w w9 : World} {r0 r1 r2 r3 r4 r5 r6 : Int} (HR : BAt w9 (w.heap.size + 1) r0 r1 r2 r3 r4 r5 r6) (HW : Below w.heap.size w w9) (er : Int) (act : Act)
    (h8 : act.tmps.getD 6 undef = .pointer (some ⟨w.heap.size + 1, 0, none⟩)) (h9 : act.tmps.getD 7 undef = .int .i64 er) (hd : act.defers = []) :
    bodyPost Tryz.prog Tryz.f142 (fun e w' => e = .returned (.tuple #[.agg #[.int .i64 r0, .int .i64 r1, .int .i64 r2, .int .i64 r3, .int .i64 r4, .int .i64 r5, .int .i64 r6], .int .i64 er]) ∧ Below w.heap.size w w') Exit.ret act w9 := by
  obtain ⟨u0, u1, u2, u3, u4, u5, u6⟩ := HR.cells
  have h8' : act.tmps[6]?.getD undef = .pointer (some ⟨w.heap.size + 1, 0, none⟩) := by simpa using h8
  have h9' : act.tmps[7]?.getD undef = .int .i64 er := by simpa using h9
  exact bodyPost_ret (v := .tuple #[.agg #[.int .i64 r0, .int .i64 r1, .int .i64 r2, .int .i64 r3, .int .i64 r4, .int .i64 r5, .int .i64 r6], .int .i64 er]) (by simp [results, Tryz.results142, go_sem, h8', h9', u0, u1, u2, u3, u4, u5, u6]) hd ⟨rfl, HW⟩
set_option maxHeartbeats 2000000 in
theorem rburn_walk (f0 f1 f2 f3 bo wa bu n m r0 r1 r2 r3 r4 r5 r6 er s0 s1 s2 s3 s4 s5 s6 es t0 t1 t2 t3 t4 t5 t6 et : Int) (w : World)
    (hres : (er ≠ 0 ∧ f0 = t0 ∧ f1 = t1 ∧ f2 = t2 ∧ f3 = t3 ∧ bo = t4 ∧ wa = t5 ∧ bu = t6 ∧ er = et) ∨ (er = 0 ∧ es ≠ 0 ∧ f0 = t0 ∧ f1 = t1 ∧ f2 = t2 ∧ f3 = t3 ∧ bo = t4 ∧ wa = t5 ∧ bu = t6 ∧ es = et) ∨ (er = 0 ∧ es = 0 ∧ s0 = t0 ∧ s1 = t1 ∧ s2 = t2 ∧ s3 = t3 ∧ s4 = t4 ∧ s5 = t5 ∧ s6 = t6 ∧ 0 = et))
    (hm1 : ∀ w : World, Calls Tryz.prog 143 #[.agg #[.int .i64 f0, .int .i64 f1, .int .i64 f2, .int .i64 f3, .int .i64 bo, .int .i64 wa, .int .i64 bu], .int .i64 4, .int .i64 6, .int .i64 n] w fun e w' => e = .returned (.tuple #[.agg #[.int .i64 r0, .int .i64 r1, .int .i64 r2, .int .i64 r3, .int .i64 r4, .int .i64 r5, .int .i64 r6], .int .i64 er]) ∧ Below w.heap.size w w')
    (hm2 : ∀ w : World, Calls Tryz.prog 143 #[.agg #[.int .i64 r0, .int .i64 r1, .int .i64 r2, .int .i64 r3, .int .i64 r4, .int .i64 r5, .int .i64 r6], .int .i64 5, .int .i64 6, .int .i64 m] w fun e w' => e = .returned (.tuple #[.agg #[.int .i64 s0, .int .i64 s1, .int .i64 s2, .int .i64 s3, .int .i64 s4, .int .i64 s5, .int .i64 s6], .int .i64 es]) ∧ Below w.heap.size w w') :
    Calls Tryz.prog 142 #[.agg #[.int .i64 f0, .int .i64 f1, .int .i64 f2, .int .i64 f3, .int .i64 bo, .int .i64 wa, .int .i64 bu], .int .i64 n, .int .i64 m] w
      fun e w' => e = .returned (.tuple #[.agg #[.int .i64 t0, .int .i64 t1, .int .i64 t2, .int .i64 t3, .int .i64 t4, .int .i64 t5, .int .i64 t6], .int .i64 et]) ∧ Below w.heap.size w w' := by
  go_enter Tryz.func142, Tryz.ntmps142
  go_wp2_with fail
  have R0 : BAt ((w.alloc (.cells #[.int .i64 f0, .int .i64 f1, .int .i64 f2, .int .i64 f3, .int .i64 bo, .int .i64 wa, .int .i64 bu] 24)).alloc (.cells #[.int .i64 0, .int .i64 0, .int .i64 0, .int .i64 0, .int .i64 0, .int .i64 0, .int .i64 0] 24)) (w.heap.size + 1) 0 0 0 0 0 0 0 := by
    have := BAt.new (w.alloc (.cells #[.int .i64 f0, .int .i64 f1, .int .i64 f2, .int .i64 f3, .int .i64 bo, .int .i64 wa, .int .i64 bu] 24)) 0 0 0 0 0 0 0
    simpa using this
  have B0 := ((BAt.new w f0 f1 f2 f3 bo wa bu).alloc (.cells #[.int .i64 0, .int .i64 0, .int .i64 0, .int .i64 0, .int .i64 0, .int .i64 0, .int .i64 0] 24))
  have HB : Hid (Below w.heap.size w ((w.alloc (.cells #[.int .i64 f0, .int .i64 f1, .int .i64 f2, .int .i64 f3, .int .i64 bo, .int .i64 wa, .int .i64 bu] 24)).alloc (.cells #[.int .i64 0, .int .i64 0, .int .i64 0, .int .i64 0, .int .i64 0, .int .i64 0, .int .i64 0] 24))) := (((Below.refl _ w).alloc (Nat.le_refl _) _).alloc (by simp) _)
  generalize (w.alloc (.cells #[.int .i64 f0, .int .i64 f1, .int .i64 f2, .int .i64 f3, .int .i64 bo, .int .i64 wa, .int .i64 bu] 24)).alloc (.cells #[.int .i64 0, .int .i64 0, .int .i64 0, .int .i64 0, .int .i64 0, .int .i64 0, .int .i64 0] 24) = w0 at *
  obtain ⟨x0, x1, x2, x3, x4, x5, x6⟩ := B0.cells
  have hz0 : w.heap.size < w0.heap.size := B0.lt
  have hz1 : w.heap.size + 1 < w0.heap.size := R0.lt
  refine (hm1 _).mono ?_
  rintro e w1 ⟨rfl, h1⟩
  have B1 := B0.later h1 hz0
  have R1 := R0.later h1 hz1
  have HB1 : Hid (Below w.heap.size w w1) := HB.out.trans (h1.mono (Nat.le_of_lt hz0))
  have hz2 : w.heap.size < w1.heap.size := B1.lt
  have hz3 : w.heap.size + 1 < w1.heap.size := R1.lt
  clear B0 R0 h1 HB hz0 hz1 x0 x1 x2 x3 x4 x5 x6 hm1
  obtain ⟨x0, x1, x2, x3, x4, x5, x6⟩ := B1.cells
  obtain ⟨u0, u1, u2, u3, u4, u5, u6⟩ := R1.frees
  obtain ⟨v0, v1, v2, v3, v4, v5, v6⟩ := R1.cells
  have HR1 : Hid (BAt w1 (w.heap.size + 1) 0 0 0 0 0 0 0) := R1
  have HX1 : Hid (BAt w1 w.heap.size f0 f1 f2 f3 bo wa bu) := B1
  clear R1 B1
  by_cases her : er = 0
  · subst her
    go_wp2_with fail
    refine (hm2 _).mono ?_
    rintro e w2 ⟨rfl, h2⟩
    have B2 := (HX1.out.alloc (.cells #[.int .i64 r0, .int .i64 r1, .int .i64 r2, .int .i64 r3, .int .i64 r4, .int .i64 r5, .int .i64 r6] 24)).later h2 (by simp; omega)
    have R2 := (HR1.out.alloc (.cells #[.int .i64 r0, .int .i64 r1, .int .i64 r2, .int .i64 r3, .int .i64 r4, .int .i64 r5, .int .i64 r6] 24)).later h2 (by simp; omega)
    have H2 := (BAt.new w1 r0 r1 r2 r3 r4 r5 r6).later h2 (by simp)
    have HB2 : Hid (Below w.heap.size w w2) := (HB1.out.alloc (Nat.le_of_lt hz2) _).trans (h2.mono (by simp; omega))
    clear h2 HB1 HX1 HR1 x0 x1 x2 x3 x4 x5 x6 u0 u1 u2 u3 u4 u5 u6 v0 v1 v2 v3 v4 v5 v6 hm2
    obtain ⟨u0, u1, u2, u3, u4, u5, u6⟩ := R2.frees
    obtain ⟨v0, v1, v2, v3, v4, v5, v6⟩ := R2.cells
    obtain ⟨y0, y1, y2, y3, y4, y5, y6⟩ := H2.frees
    obtain ⟨z0, z1, z2, z3, z4, z5, z6⟩ := H2.cells
    have hne1 : ¬ w1.heap.size = w.heap.size := by omega
    have hne2 : ¬ w1.heap.size = w.heap.size + 1 := by omega
    have hne3 : ¬ w.heap.size = w1.heap.size := by omega
    have hne4 : ¬ w.heap.size + 1 = w1.heap.size := by omega
    rcases hres with ⟨h, _⟩ | ⟨_, h, rfl, rfl, rfl, rfl, rfl, rfl, rfl, rfl⟩ | ⟨_, rfl, rfl, rfl, rfl, rfl, rfl, rfl, rfl, rfl⟩
    · exact absurd rfl h
    · have hb : (es != 0) = true := by simpa using h
      obtain ⟨x0, x1, x2, x3, x4, x5, x6⟩ := B2.cells
      have HR2 : Hid (BAt w2 (w.heap.size + 1) 0 0 0 0 0 0 0) := R2
      clear B2 H2 R2
      go_wp2
      exact rburn_fin (w9 := set7 (set7 w2 w1.heap.size s0 s1 s2 s3 s4 s5 s6) (w.heap.size + 1) f0 f1 f2 f3 bo wa bu) ((HR2.out.other7 hne4 _ _ _ _ _ _ _).set7 _ _ _ _ _ _ _) (set7_below (set7_below HB2.out (by omega) _ _ _ _ _ _ _) (by omega) _ _ _ _ _ _ _) es _ rfl rfl rfl
    · have HR2 : Hid (BAt w2 (w.heap.size + 1) 0 0 0 0 0 0 0) := R2
      clear B2 H2 R2
      go_wp2
      exact rburn_fin (w9 := set7 (set7 w2 w1.heap.size s0 s1 s2 s3 s4 s5 s6) (w.heap.size + 1) s0 s1 s2 s3 s4 s5 s6) ((HR2.out.other7 hne4 _ _ _ _ _ _ _).set7 _ _ _ _ _ _ _) (set7_below (set7_below HB2.out (by omega) _ _ _ _ _ _ _) (by omega) _ _ _ _ _ _ _) 0 _ rfl rfl rfl
  · have hb : (er != 0) = true := by simpa using her
    rcases hres with ⟨_, rfl, rfl, rfl, rfl, rfl, rfl, rfl, rfl⟩ | ⟨h, _⟩ | ⟨h, _⟩
    · go_wp2
      exact rburn_fin (w9 := (set7 w1 (w.heap.size + 1) f0 f1 f2 f3 bo wa bu).alloc _) ((HR1.out.set7 f0 f1 f2 f3 bo wa bu).alloc _) (let h := set7_below (b := w.heap.size + 1) HB1.out (by omega) f0 f1 f2 f3 bo wa bu; h.alloc h.size _) er _ rfl rfl rfl
    · exact absurd h her
    · exact absurd h her
end Go.Proofs.YtjghbciepinofaaGreat

set_option maxRecDepth 100000
namespace Go.Proofs.YtjghbciepinofaaGreat
open Go.RowKit
theorem rmv_50 (b : Bk) (n : Int) (w : World) :
    Calls Tryz.prog 143 #[.agg #[.int .i64 b.f0, .int .i64 b.f1, .int .i64 b.f2, .int .i64 b.f3, .int .i64 b.bo, .int .i64 b.wa, .int .i64 b.bu], .int .i64 5, .int .i64 0, .int .i64 n] w fun e w' => e = .returned (.tuple #[.agg #[.int .i64 (mv b 5 0 n).1.f0, .int .i64 (mv b 5 0 n).1.f1, .int .i64 (mv b 5 0 n).1.f2, .int .i64 (mv b 5 0 n).1.f3, .int .i64 (mv b 5 0 n).1.bo, .int .i64 (mv b 5 0 n).1.wa, .int .i64 (mv b 5 0 n).1.bu], .int .i64 (mv b 5 0 n).2]) ∧ Below w.heap.size w w' := by
  by_cases hg : b.good = true
  · by_cases hn : 0 ≤ n ∧ n ≤ 1125899906842624
    · have h1 : ¬ (b.good = false ∨ ¬ (0 ≤ n ∧ n ≤ 1125899906842624)) := by rw [hg]; simp [hn]
      by_cases hl : b.wa < n
      · have e : mv b 5 0 n = (b, 7) := by rw [mv, if_neg h1, if_pos (show b.get 5 < n from hl)]
        rw [e]
        exact rmove_funds_5 b.f0 b.f1 b.f2 b.f3 b.bo b.wa b.bu _ n w hg hn.1 hn.2 hl
      · have e : mv b 5 0 n = ((b.put 5 (b.wa - n)).put 0 (b.f0 + n), 0) := by rw [mv, if_neg h1, if_neg (show ¬ b.get 5 < n from hl)]; rfl
        rw [e]
        exact rmove_ok_50 b.f0 b.f1 b.f2 b.f3 b.bo b.wa b.bu n w hg hn.1 hn.2 (by omega)
    · have e : mv b 5 0 n = (b, 2) := by rw [mv, if_pos (.inr hn)]
      rw [e]
      exact rmove_range_in b.f0 b.f1 b.f2 b.f3 b.bo b.wa b.bu _ _ n w hg hn
  · have e : mv b 5 0 n = (b, 2) := by rw [mv, if_pos (.inl (by simpa using hg))]
    rw [e]
    exact rmove_range_bad b.f0 b.f1 b.f2 b.f3 b.bo b.wa b.bu _ _ n w (by simpa [Bk.good] using hg)
theorem rmv_51 (b : Bk) (n : Int) (w : World) :
    Calls Tryz.prog 143 #[.agg #[.int .i64 b.f0, .int .i64 b.f1, .int .i64 b.f2, .int .i64 b.f3, .int .i64 b.bo, .int .i64 b.wa, .int .i64 b.bu], .int .i64 5, .int .i64 1, .int .i64 n] w fun e w' => e = .returned (.tuple #[.agg #[.int .i64 (mv b 5 1 n).1.f0, .int .i64 (mv b 5 1 n).1.f1, .int .i64 (mv b 5 1 n).1.f2, .int .i64 (mv b 5 1 n).1.f3, .int .i64 (mv b 5 1 n).1.bo, .int .i64 (mv b 5 1 n).1.wa, .int .i64 (mv b 5 1 n).1.bu], .int .i64 (mv b 5 1 n).2]) ∧ Below w.heap.size w w' := by
  by_cases hg : b.good = true
  · by_cases hn : 0 ≤ n ∧ n ≤ 1125899906842624
    · have h1 : ¬ (b.good = false ∨ ¬ (0 ≤ n ∧ n ≤ 1125899906842624)) := by rw [hg]; simp [hn]
      by_cases hl : b.wa < n
      · have e : mv b 5 1 n = (b, 7) := by rw [mv, if_neg h1, if_pos (show b.get 5 < n from hl)]
        rw [e]
        exact rmove_funds_5 b.f0 b.f1 b.f2 b.f3 b.bo b.wa b.bu _ n w hg hn.1 hn.2 hl
      · have e : mv b 5 1 n = ((b.put 5 (b.wa - n)).put 1 (b.f1 + n), 0) := by rw [mv, if_neg h1, if_neg (show ¬ b.get 5 < n from hl)]; rfl
        rw [e]
        exact rmove_ok_51 b.f0 b.f1 b.f2 b.f3 b.bo b.wa b.bu n w hg hn.1 hn.2 (by omega)
    · have e : mv b 5 1 n = (b, 2) := by rw [mv, if_pos (.inr hn)]
      rw [e]
      exact rmove_range_in b.f0 b.f1 b.f2 b.f3 b.bo b.wa b.bu _ _ n w hg hn
  · have e : mv b 5 1 n = (b, 2) := by rw [mv, if_pos (.inl (by simpa using hg))]
    rw [e]
    exact rmove_range_bad b.f0 b.f1 b.f2 b.f3 b.bo b.wa b.bu _ _ n w (by simpa [Bk.good] using hg)
theorem rmv_52 (b : Bk) (n : Int) (w : World) :
    Calls Tryz.prog 143 #[.agg #[.int .i64 b.f0, .int .i64 b.f1, .int .i64 b.f2, .int .i64 b.f3, .int .i64 b.bo, .int .i64 b.wa, .int .i64 b.bu], .int .i64 5, .int .i64 2, .int .i64 n] w fun e w' => e = .returned (.tuple #[.agg #[.int .i64 (mv b 5 2 n).1.f0, .int .i64 (mv b 5 2 n).1.f1, .int .i64 (mv b 5 2 n).1.f2, .int .i64 (mv b 5 2 n).1.f3, .int .i64 (mv b 5 2 n).1.bo, .int .i64 (mv b 5 2 n).1.wa, .int .i64 (mv b 5 2 n).1.bu], .int .i64 (mv b 5 2 n).2]) ∧ Below w.heap.size w w' := by
  by_cases hg : b.good = true
  · by_cases hn : 0 ≤ n ∧ n ≤ 1125899906842624
    · have h1 : ¬ (b.good = false ∨ ¬ (0 ≤ n ∧ n ≤ 1125899906842624)) := by rw [hg]; simp [hn]
      by_cases hl : b.wa < n
      · have e : mv b 5 2 n = (b, 7) := by rw [mv, if_neg h1, if_pos (show b.get 5 < n from hl)]
        rw [e]
        exact rmove_funds_5 b.f0 b.f1 b.f2 b.f3 b.bo b.wa b.bu _ n w hg hn.1 hn.2 hl
      · have e : mv b 5 2 n = ((b.put 5 (b.wa - n)).put 2 (b.f2 + n), 0) := by rw [mv, if_neg h1, if_neg (show ¬ b.get 5 < n from hl)]; rfl
        rw [e]
        exact rmove_ok_52 b.f0 b.f1 b.f2 b.f3 b.bo b.wa b.bu n w hg hn.1 hn.2 (by omega)
    · have e : mv b 5 2 n = (b, 2) := by rw [mv, if_pos (.inr hn)]
      rw [e]
      exact rmove_range_in b.f0 b.f1 b.f2 b.f3 b.bo b.wa b.bu _ _ n w hg hn
  · have e : mv b 5 2 n = (b, 2) := by rw [mv, if_pos (.inl (by simpa using hg))]
    rw [e]
    exact rmove_range_bad b.f0 b.f1 b.f2 b.f3 b.bo b.wa b.bu _ _ n w (by simpa [Bk.good] using hg)
theorem rmv_53 (b : Bk) (n : Int) (w : World) :
    Calls Tryz.prog 143 #[.agg #[.int .i64 b.f0, .int .i64 b.f1, .int .i64 b.f2, .int .i64 b.f3, .int .i64 b.bo, .int .i64 b.wa, .int .i64 b.bu], .int .i64 5, .int .i64 3, .int .i64 n] w fun e w' => e = .returned (.tuple #[.agg #[.int .i64 (mv b 5 3 n).1.f0, .int .i64 (mv b 5 3 n).1.f1, .int .i64 (mv b 5 3 n).1.f2, .int .i64 (mv b 5 3 n).1.f3, .int .i64 (mv b 5 3 n).1.bo, .int .i64 (mv b 5 3 n).1.wa, .int .i64 (mv b 5 3 n).1.bu], .int .i64 (mv b 5 3 n).2]) ∧ Below w.heap.size w w' := by
  by_cases hg : b.good = true
  · by_cases hn : 0 ≤ n ∧ n ≤ 1125899906842624
    · have h1 : ¬ (b.good = false ∨ ¬ (0 ≤ n ∧ n ≤ 1125899906842624)) := by rw [hg]; simp [hn]
      by_cases hl : b.wa < n
      · have e : mv b 5 3 n = (b, 7) := by rw [mv, if_neg h1, if_pos (show b.get 5 < n from hl)]
        rw [e]
        exact rmove_funds_5 b.f0 b.f1 b.f2 b.f3 b.bo b.wa b.bu _ n w hg hn.1 hn.2 hl
      · have e : mv b 5 3 n = ((b.put 5 (b.wa - n)).put 3 (b.f3 + n), 0) := by rw [mv, if_neg h1, if_neg (show ¬ b.get 5 < n from hl)]; rfl
        rw [e]
        exact rmove_ok_53 b.f0 b.f1 b.f2 b.f3 b.bo b.wa b.bu n w hg hn.1 hn.2 (by omega)
    · have e : mv b 5 3 n = (b, 2) := by rw [mv, if_pos (.inr hn)]
      rw [e]
      exact rmove_range_in b.f0 b.f1 b.f2 b.f3 b.bo b.wa b.bu _ _ n w hg hn
  · have e : mv b 5 3 n = (b, 2) := by rw [mv, if_pos (.inl (by simpa using hg))]
    rw [e]
    exact rmove_range_bad b.f0 b.f1 b.f2 b.f3 b.bo b.wa b.bu _ _ n w (by simpa [Bk.good] using hg)
theorem rmv_46 (b : Bk) (n : Int) (w : World) :
    Calls Tryz.prog 143 #[.agg #[.int .i64 b.f0, .int .i64 b.f1, .int .i64 b.f2, .int .i64 b.f3, .int .i64 b.bo, .int .i64 b.wa, .int .i64 b.bu], .int .i64 4, .int .i64 6, .int .i64 n] w fun e w' => e = .returned (.tuple #[.agg #[.int .i64 (mv b 4 6 n).1.f0, .int .i64 (mv b 4 6 n).1.f1, .int .i64 (mv b 4 6 n).1.f2, .int .i64 (mv b 4 6 n).1.f3, .int .i64 (mv b 4 6 n).1.bo, .int .i64 (mv b 4 6 n).1.wa, .int .i64 (mv b 4 6 n).1.bu], .int .i64 (mv b 4 6 n).2]) ∧ Below w.heap.size w w' := by
  by_cases hg : b.good = true
  · by_cases hn : 0 ≤ n ∧ n ≤ 1125899906842624
    · have h1 : ¬ (b.good = false ∨ ¬ (0 ≤ n ∧ n ≤ 1125899906842624)) := by rw [hg]; simp [hn]
      by_cases hl : b.bo < n
      · have e : mv b 4 6 n = (b, 7) := by rw [mv, if_neg h1, if_pos (show b.get 4 < n from hl)]
        rw [e]
        exact rmove_funds_4 b.f0 b.f1 b.f2 b.f3 b.bo b.wa b.bu _ n w hg hn.1 hn.2 hl
      · have e : mv b 4 6 n = ((b.put 4 (b.bo - n)).put 6 (b.bu + n), 0) := by rw [mv, if_neg h1, if_neg (show ¬ b.get 4 < n from hl)]; rfl
        rw [e]
        exact rmove_ok_46 b.f0 b.f1 b.f2 b.f3 b.bo b.wa b.bu n w hg hn.1 hn.2 (by omega)
    · have e : mv b 4 6 n = (b, 2) := by rw [mv, if_pos (.inr hn)]
      rw [e]
      exact rmove_range_in b.f0 b.f1 b.f2 b.f3 b.bo b.wa b.bu _ _ n w hg hn
  · have e : mv b 4 6 n = (b, 2) := by rw [mv, if_pos (.inl (by simpa using hg))]
    rw [e]
    exact rmove_range_bad b.f0 b.f1 b.f2 b.f3 b.bo b.wa b.bu _ _ n w (by simpa [Bk.good] using hg)
theorem rmv_56 (b : Bk) (n : Int) (w : World) :
    Calls Tryz.prog 143 #[.agg #[.int .i64 b.f0, .int .i64 b.f1, .int .i64 b.f2, .int .i64 b.f3, .int .i64 b.bo, .int .i64 b.wa, .int .i64 b.bu], .int .i64 5, .int .i64 6, .int .i64 n] w fun e w' => e = .returned (.tuple #[.agg #[.int .i64 (mv b 5 6 n).1.f0, .int .i64 (mv b 5 6 n).1.f1, .int .i64 (mv b 5 6 n).1.f2, .int .i64 (mv b 5 6 n).1.f3, .int .i64 (mv b 5 6 n).1.bo, .int .i64 (mv b 5 6 n).1.wa, .int .i64 (mv b 5 6 n).1.bu], .int .i64 (mv b 5 6 n).2]) ∧ Below w.heap.size w w' := by
  by_cases hg : b.good = true
  · by_cases hn : 0 ≤ n ∧ n ≤ 1125899906842624
    · have h1 : ¬ (b.good = false ∨ ¬ (0 ≤ n ∧ n ≤ 1125899906842624)) := by rw [hg]; simp [hn]
      by_cases hl : b.wa < n
      · have e : mv b 5 6 n = (b, 7) := by rw [mv, if_neg h1, if_pos (show b.get 5 < n from hl)]
        rw [e]
        exact rmove_funds_5 b.f0 b.f1 b.f2 b.f3 b.bo b.wa b.bu _ n w hg hn.1 hn.2 hl
      · have e : mv b 5 6 n = ((b.put 5 (b.wa - n)).put 6 (b.bu + n), 0) := by rw [mv, if_neg h1, if_neg (show ¬ b.get 5 < n from hl)]; rfl
        rw [e]
        exact rmove_ok_56 b.f0 b.f1 b.f2 b.f3 b.bo b.wa b.bu n w hg hn.1 hn.2 (by omega)
    · have e : mv b 5 6 n = (b, 2) := by rw [mv, if_pos (.inr hn)]
      rw [e]
      exact rmove_range_in b.f0 b.f1 b.f2 b.f3 b.bo b.wa b.bu _ _ n w hg hn
  · have e : mv b 5 6 n = (b, 2) := by rw [mv, if_pos (.inl (by simpa using hg))]
    rw [e]
    exact rmove_range_bad b.f0 b.f1 b.f2 b.f3 b.bo b.wa b.bu _ _ n w (by simpa [Bk.good] using hg)
theorem rpay_any (b : Bk) (d n : Int) (w : World) : Calls Tryz.prog 100 #[.agg #[.int .i64 b.f0, .int .i64 b.f1, .int .i64 b.f2, .int .i64 b.f3, .int .i64 b.bo, .int .i64 b.wa, .int .i64 b.bu], .int .i64 d, .int .i64 n] w fun e w' => e = .returned (.tuple #[.agg #[.int .i64 (payR b d n).1.f0, .int .i64 (payR b d n).1.f1, .int .i64 (payR b d n).1.f2, .int .i64 (payR b d n).1.f3, .int .i64 (payR b d n).1.bo, .int .i64 (payR b d n).1.wa, .int .i64 (payR b d n).1.bu], .int .i64 (payR b d n).2]) ∧ Below w.heap.size w w' := by
  by_cases h : 0 ≤ d ∧ d < 4
  · rw [payR, if_pos h]
    refine rpay_walk b.f0 b.f1 b.f2 b.f3 b.bo b.wa b.bu d n (mv b 5 d.toNat n).1.f0 (mv b 5 d.toNat n).1.f1 (mv b 5 d.toNat n).1.f2 (mv b 5 d.toNat n).1.f3 (mv b 5 d.toNat n).1.bo (mv b 5 d.toNat n).1.wa (mv b 5 d.toNat n).1.bu (mv b 5 d.toNat n).2 w h.1 h.2 ?_
    intro w
    rcases (show d = 0 ∨ d = 1 ∨ d = 2 ∨ d = 3 by omega) with rfl | rfl | rfl | rfl
    · exact rmv_50 b n w
    · exact rmv_51 b n w
    · exact rmv_52 b n w
    · exact rmv_53 b n w
  · rw [payR, if_neg h]
    exact rpay_no b.f0 b.f1 b.f2 b.f3 b.bo b.wa b.bu d n w h
theorem rburn_any (b : Bk) (x y : Int) (w : World) : Calls Tryz.prog 142 #[.agg #[.int .i64 b.f0, .int .i64 b.f1, .int .i64 b.f2, .int .i64 b.f3, .int .i64 b.bo, .int .i64 b.wa, .int .i64 b.bu], .int .i64 x, .int .i64 y] w fun e w' => e = .returned (.tuple #[.agg #[.int .i64 (burnR b x y).1.f0, .int .i64 (burnR b x y).1.f1, .int .i64 (burnR b x y).1.f2, .int .i64 (burnR b x y).1.f3, .int .i64 (burnR b x y).1.bo, .int .i64 (burnR b x y).1.wa, .int .i64 (burnR b x y).1.bu], .int .i64 (burnR b x y).2]) ∧ Below w.heap.size w w' := by
  refine rburn_walk b.f0 b.f1 b.f2 b.f3 b.bo b.wa b.bu x y (mv b 4 6 x).1.f0 (mv b 4 6 x).1.f1 (mv b 4 6 x).1.f2 (mv b 4 6 x).1.f3 (mv b 4 6 x).1.bo (mv b 4 6 x).1.wa (mv b 4 6 x).1.bu (mv b 4 6 x).2 (mv (mv b 4 6 x).1 5 6 y).1.f0 (mv (mv b 4 6 x).1 5 6 y).1.f1 (mv (mv b 4 6 x).1 5 6 y).1.f2 (mv (mv b 4 6 x).1 5 6 y).1.f3 (mv (mv b 4 6 x).1 5 6 y).1.bo (mv (mv b 4 6 x).1 5 6 y).1.wa (mv (mv b 4 6 x).1 5 6 y).1.bu (mv (mv b 4 6 x).1 5 6 y).2 (burnR b x y).1.f0 (burnR b x y).1.f1 (burnR b x y).1.f2 (burnR b x y).1.f3 (burnR b x y).1.bo (burnR b x y).1.wa (burnR b x y).1.bu (burnR b x y).2 w ?_ (rmv_46 b x) (rmv_56 (mv b 4 6 x).1 y)
  unfold burnR
  by_cases h1 : (mv b 4 6 x).2 = 0
  · by_cases h2 : (mv (mv b 4 6 x).1 5 6 y).2 = 0
    · rw [if_pos h1, if_pos h2]
      exact .inr (.inr ⟨h1, h2, rfl, rfl, rfl, rfl, rfl, rfl, rfl, rfl⟩)
    · rw [if_pos h1, if_neg h2]
      exact .inr (.inl ⟨h1, h2, rfl, rfl, rfl, rfl, rfl, rfl, rfl, rfl⟩)
  · rw [if_neg h1]
    exact .inl ⟨h1, rfl, rfl, rfl, rfl, rfl, rfl, rfl, rfl⟩
end Go.Proofs.YtjghbciepinofaaGreat

