/- Parts of the proof: T2. -/
import Derived.Test.YtkhlihpghbhppaaGreatRows
import Derived.Test.YtkhlihpghbhppaaGreatPjK33
import Derived.Test.YtkhlihpghbhppaaGreatPjK34
import Derived.WalkKit
set_option maxRecDepth 100000
namespace Go.Proofs.YtkhlihpghbhppaaGreat
open Go.RowKit
theorem rmove_end {w wq : World} (R : BAt wq (w.heap.size + 1) 0 0 0 0 0 0 0) (H : Below w.heap.size w wq) (r0 r1 r2 r3 r4 r5 r6 er : Int) (act : Act)
    (h8 : act.tmps.getD 8 undef = .pointer (some ⟨w.heap.size + 1, 0, none⟩)) (h9 : act.tmps.getD 9 undef = .int .i64 er) (hd : act.defers = []) :
    bodyPost Tryz.prog Tryz.f156 (fun e w' => e = .returned (.tuple #[.agg #[.int .i64 r0, .int .i64 r1, .int .i64 r2, .int .i64 r3, .int .i64 r4, .int .i64 r5, .int .i64 r6], .int .i64 er]) ∧ Below w.heap.size w w') Exit.ret act
      (set7 wq (w.heap.size + 1) r0 r1 r2 r3 r4 r5 r6) := by
  have HR := R.set7 r0 r1 r2 r3 r4 r5 r6
  have HW := set7_below (b := w.heap.size + 1) H (by omega) r0 r1 r2 r3 r4 r5 r6
  generalize set7 wq (w.heap.size + 1) r0 r1 r2 r3 r4 r5 r6 = w9 at *
  obtain ⟨u0, u1, u2, u3, u4, u5, u6⟩ := HR.cells
  have h8' : act.tmps[8]?.getD undef = .pointer (some ⟨w.heap.size + 1, 0, none⟩) := by simpa using h8
  have h9' : act.tmps[9]?.getD undef = .int .i64 er := by simpa using h9
  exact bodyPost_ret (v := .tuple #[.agg #[.int .i64 r0, .int .i64 r1, .int .i64 r2, .int .i64 r3, .int .i64 r4, .int .i64 r5, .int .i64 r6], .int .i64 er]) (by simp [results, Tryz.results156, go_sem, h8', h9', u0, u1, u2, u3, u4, u5, u6]) hd ⟨rfl, HW⟩
theorem rmove_fin {w w9 : World} {r0 r1 r2 r3 r4 r5 r6 : Int} (HR : BAt w9 (w.heap.size + 1) r0 r1 r2 r3 r4 r5 r6) (HW : Below w.heap.size w w9) (er : Int) (act : Act)
    (h8 : act.tmps.getD 8 undef = .pointer (some ⟨w.heap.size + 1, 0, none⟩)) (h9 : act.tmps.getD 9 undef = .int .i64 er) (hd : act.defers = []) :
    bodyPost Tryz.prog Tryz.f156 (fun e w' => e = .returned (.tuple #[.agg #[.int .i64 r0, .int .i64 r1, .int .i64 r2, .int .i64 r3, .int .i64 r4, .int .i64 r5, .int .i64 r6], .int .i64 er]) ∧ Below w.heap.size w w') Exit.ret act w9 := by
  obtain ⟨u0, u1, u2, u3, u4, u5, u6⟩ := HR.cells
  have h8' : act.tmps[8]?.getD undef = .pointer (some ⟨w.heap.size + 1, 0, none⟩) := by simpa using h8
  have h9' : act.tmps[9]?.getD undef = .int .i64 er := by simpa using h9
  exact bodyPost_ret (v := .tuple #[.agg #[.int .i64 r0, .int .i64 r1, .int .i64 r2, .int .i64 r3, .int .i64 r4, .int .i64 r5, .int .i64 r6], .int .i64 er]) (by simp [results, Tryz.results156, go_sem, h8', h9', u0, u1, u2, u3, u4, u5, u6]) hd ⟨rfl, HW⟩
set_option maxHeartbeats 2000000 in
theorem rmove_funds_0 (f0 f1 f2 f3 bo wa bu t n : Int) (w : World) (hg : goodB f0 f1 f2 f3 bo wa bu = true) (hn0 : 0 ≤ n) (hn1 : n ≤ 1125899906842624) (hle : f0 < n) :
    Calls Tryz.prog 156 #[.agg #[.int .i64 f0, .int .i64 f1, .int .i64 f2, .int .i64 f3, .int .i64 bo, .int .i64 wa, .int .i64 bu], .int .i64 0, .int .i64 t, .int .i64 n] w fun e w' => e = .returned (.tuple #[.agg #[.int .i64 f0, .int .i64 f1, .int .i64 f2, .int .i64 f3, .int .i64 bo, .int .i64 wa, .int .i64 bu], .int .i64 7]) ∧ Below w.heap.size w w' := by
  have hG := rgood_any f0 f1 f2 f3 bo wa bu
  rw [hg] at hG
  have hI := rin_any n
  rw [decide_eq_true ⟨hn0, hn1⟩] at hI
  clear hg hn0 hn1
  go_enter Tryz.func156, Tryz.ntmps156
  go_wp2_with fail
  refine (hG _).mono ?_
  rintro e w1 ⟨rfl, hb⟩
  have B1 := ((BAt.new w f0 f1 f2 f3 bo wa bu).alloc (.cells #[.int .i64 0, .int .i64 0, .int .i64 0, .int .i64 0, .int .i64 0, .int .i64 0, .int .i64 0] 24)).later hb (by simp; omega)
  have R1 : BAt w1 (w.heap.size + 1) 0 0 0 0 0 0 0 := by
    have := (BAt.new (w.alloc (.cells #[.int .i64 f0, .int .i64 f1, .int .i64 f2, .int .i64 f3, .int .i64 bo, .int .i64 wa, .int .i64 bu] 24)) 0 0 0 0 0 0 0).later hb (by simp)
    simpa using this
  have HB : Hid (Below w.heap.size w w1) := (((Below.refl _ w).alloc (Nat.le_refl _) _).alloc (by simp) _).trans (hb.mono (by simp; omega))
  clear hb
  obtain ⟨x0, x1, x2, x3, x4, x5, x6⟩ := B1.cells
  go_wp2_with (first
    | (go_at_call 115; refine (hI _).mono ?_; rintro e wI ⟨rfl, rfl⟩)
    | (go_at_call 158; refine (rplaces_any f0 f1 f2 f3 bo wa bu _).mono ?_; rintro e w2 ⟨rfl, h2⟩; have R2 := R1.later h2 R1.lt; have B2 := B1.later h2 B1.lt; have HB2 : Hid (Below w.heap.size w w2) := HB.out.trans (h2.mono HB.out.size); have hz2 : w.heap.size < w2.heap.size := B2.lt; have hz3 : w.heap.size + 1 < w2.heap.size := R2.lt; clear h2; clear x0 x1 x2 x3 x4 x5 x6; obtain ⟨x0, x1, x2, x3, x4, x5, x6⟩ := B2.cells; obtain ⟨u0, u1, u2, u3, u4, u5, u6⟩ := R2.frees; obtain ⟨v0, v1, v2, v3, v4, v5, v6⟩ := R2.cells; have HR2 : Hid (BAt w2 (w.heap.size + 1) 0 0 0 0 0 0 0) := R2; clear B1 R1 HB B2 R2))
  exact rmove_fin (w9 := (set7 w2 (w.heap.size + 1) f0 f1 f2 f3 bo wa bu).alloc _) ((HR2.out.set7 f0 f1 f2 f3 bo wa bu).alloc _) (let h := set7_below (b := w.heap.size + 1) HB2.out (by omega) f0 f1 f2 f3 bo wa bu; h.alloc h.size _) 7 _ rfl rfl rfl
set_option maxHeartbeats 2000000 in
theorem rmove_funds_1 (f0 f1 f2 f3 bo wa bu t n : Int) (w : World) (hg : goodB f0 f1 f2 f3 bo wa bu = true) (hn0 : 0 ≤ n) (hn1 : n ≤ 1125899906842624) (hle : f1 < n) :
    Calls Tryz.prog 156 #[.agg #[.int .i64 f0, .int .i64 f1, .int .i64 f2, .int .i64 f3, .int .i64 bo, .int .i64 wa, .int .i64 bu], .int .i64 1, .int .i64 t, .int .i64 n] w fun e w' => e = .returned (.tuple #[.agg #[.int .i64 f0, .int .i64 f1, .int .i64 f2, .int .i64 f3, .int .i64 bo, .int .i64 wa, .int .i64 bu], .int .i64 7]) ∧ Below w.heap.size w w' := by
  have hG := rgood_any f0 f1 f2 f3 bo wa bu
  rw [hg] at hG
  have hI := rin_any n
  rw [decide_eq_true ⟨hn0, hn1⟩] at hI
  clear hg hn0 hn1
  go_enter Tryz.func156, Tryz.ntmps156
  go_wp2_with fail
  refine (hG _).mono ?_
  rintro e w1 ⟨rfl, hb⟩
  have B1 := ((BAt.new w f0 f1 f2 f3 bo wa bu).alloc (.cells #[.int .i64 0, .int .i64 0, .int .i64 0, .int .i64 0, .int .i64 0, .int .i64 0, .int .i64 0] 24)).later hb (by simp; omega)
  have R1 : BAt w1 (w.heap.size + 1) 0 0 0 0 0 0 0 := by
    have := (BAt.new (w.alloc (.cells #[.int .i64 f0, .int .i64 f1, .int .i64 f2, .int .i64 f3, .int .i64 bo, .int .i64 wa, .int .i64 bu] 24)) 0 0 0 0 0 0 0).later hb (by simp)
    simpa using this
  have HB : Hid (Below w.heap.size w w1) := (((Below.refl _ w).alloc (Nat.le_refl _) _).alloc (by simp) _).trans (hb.mono (by simp; omega))
  clear hb
  obtain ⟨x0, x1, x2, x3, x4, x5, x6⟩ := B1.cells
  go_wp2_with (first
    | (go_at_call 115; refine (hI _).mono ?_; rintro e wI ⟨rfl, rfl⟩)
    | (go_at_call 158; refine (rplaces_any f0 f1 f2 f3 bo wa bu _).mono ?_; rintro e w2 ⟨rfl, h2⟩; have R2 := R1.later h2 R1.lt; have B2 := B1.later h2 B1.lt; have HB2 : Hid (Below w.heap.size w w2) := HB.out.trans (h2.mono HB.out.size); have hz2 : w.heap.size < w2.heap.size := B2.lt; have hz3 : w.heap.size + 1 < w2.heap.size := R2.lt; clear h2; clear x0 x1 x2 x3 x4 x5 x6; obtain ⟨x0, x1, x2, x3, x4, x5, x6⟩ := B2.cells; obtain ⟨u0, u1, u2, u3, u4, u5, u6⟩ := R2.frees; obtain ⟨v0, v1, v2, v3, v4, v5, v6⟩ := R2.cells; have HR2 : Hid (BAt w2 (w.heap.size + 1) 0 0 0 0 0 0 0) := R2; clear B1 R1 HB B2 R2))
  exact rmove_fin (w9 := (set7 w2 (w.heap.size + 1) f0 f1 f2 f3 bo wa bu).alloc _) ((HR2.out.set7 f0 f1 f2 f3 bo wa bu).alloc _) (let h := set7_below (b := w.heap.size + 1) HB2.out (by omega) f0 f1 f2 f3 bo wa bu; h.alloc h.size _) 7 _ rfl rfl rfl
set_option maxHeartbeats 2000000 in
theorem rmove_funds_2 (f0 f1 f2 f3 bo wa bu t n : Int) (w : World) (hg : goodB f0 f1 f2 f3 bo wa bu = true) (hn0 : 0 ≤ n) (hn1 : n ≤ 1125899906842624) (hle : f2 < n) :
    Calls Tryz.prog 156 #[.agg #[.int .i64 f0, .int .i64 f1, .int .i64 f2, .int .i64 f3, .int .i64 bo, .int .i64 wa, .int .i64 bu], .int .i64 2, .int .i64 t, .int .i64 n] w fun e w' => e = .returned (.tuple #[.agg #[.int .i64 f0, .int .i64 f1, .int .i64 f2, .int .i64 f3, .int .i64 bo, .int .i64 wa, .int .i64 bu], .int .i64 7]) ∧ Below w.heap.size w w' := by
  have hG := rgood_any f0 f1 f2 f3 bo wa bu
  rw [hg] at hG
  have hI := rin_any n
  rw [decide_eq_true ⟨hn0, hn1⟩] at hI
  clear hg hn0 hn1
  go_enter Tryz.func156, Tryz.ntmps156
  go_wp2_with fail
  refine (hG _).mono ?_
  rintro e w1 ⟨rfl, hb⟩
  have B1 := ((BAt.new w f0 f1 f2 f3 bo wa bu).alloc (.cells #[.int .i64 0, .int .i64 0, .int .i64 0, .int .i64 0, .int .i64 0, .int .i64 0, .int .i64 0] 24)).later hb (by simp; omega)
  have R1 : BAt w1 (w.heap.size + 1) 0 0 0 0 0 0 0 := by
    have := (BAt.new (w.alloc (.cells #[.int .i64 f0, .int .i64 f1, .int .i64 f2, .int .i64 f3, .int .i64 bo, .int .i64 wa, .int .i64 bu] 24)) 0 0 0 0 0 0 0).later hb (by simp)
    simpa using this
  have HB : Hid (Below w.heap.size w w1) := (((Below.refl _ w).alloc (Nat.le_refl _) _).alloc (by simp) _).trans (hb.mono (by simp; omega))
  clear hb
  obtain ⟨x0, x1, x2, x3, x4, x5, x6⟩ := B1.cells
  go_wp2_with (first
    | (go_at_call 115; refine (hI _).mono ?_; rintro e wI ⟨rfl, rfl⟩)
    | (go_at_call 158; refine (rplaces_any f0 f1 f2 f3 bo wa bu _).mono ?_; rintro e w2 ⟨rfl, h2⟩; have R2 := R1.later h2 R1.lt; have B2 := B1.later h2 B1.lt; have HB2 : Hid (Below w.heap.size w w2) := HB.out.trans (h2.mono HB.out.size); have hz2 : w.heap.size < w2.heap.size := B2.lt; have hz3 : w.heap.size + 1 < w2.heap.size := R2.lt; clear h2; clear x0 x1 x2 x3 x4 x5 x6; obtain ⟨x0, x1, x2, x3, x4, x5, x6⟩ := B2.cells; obtain ⟨u0, u1, u2, u3, u4, u5, u6⟩ := R2.frees; obtain ⟨v0, v1, v2, v3, v4, v5, v6⟩ := R2.cells; have HR2 : Hid (BAt w2 (w.heap.size + 1) 0 0 0 0 0 0 0) := R2; clear B1 R1 HB B2 R2))
  exact rmove_fin (w9 := (set7 w2 (w.heap.size + 1) f0 f1 f2 f3 bo wa bu).alloc _) ((HR2.out.set7 f0 f1 f2 f3 bo wa bu).alloc _) (let h := set7_below (b := w.heap.size + 1) HB2.out (by omega) f0 f1 f2 f3 bo wa bu; h.alloc h.size _) 7 _ rfl rfl rfl
set_option maxHeartbeats 2000000 in
theorem rmove_funds_3 (f0 f1 f2 f3 bo wa bu t n : Int) (w : World) (hg : goodB f0 f1 f2 f3 bo wa bu = true) (hn0 : 0 ≤ n) (hn1 : n ≤ 1125899906842624) (hle : f3 < n) :
    Calls Tryz.prog 156 #[.agg #[.int .i64 f0, .int .i64 f1, .int .i64 f2, .int .i64 f3, .int .i64 bo, .int .i64 wa, .int .i64 bu], .int .i64 3, .int .i64 t, .int .i64 n] w fun e w' => e = .returned (.tuple #[.agg #[.int .i64 f0, .int .i64 f1, .int .i64 f2, .int .i64 f3, .int .i64 bo, .int .i64 wa, .int .i64 bu], .int .i64 7]) ∧ Below w.heap.size w w' := by
  have hG := rgood_any f0 f1 f2 f3 bo wa bu
  rw [hg] at hG
  have hI := rin_any n
  rw [decide_eq_true ⟨hn0, hn1⟩] at hI
  clear hg hn0 hn1
  go_enter Tryz.func156, Tryz.ntmps156
  go_wp2_with fail
  refine (hG _).mono ?_
  rintro e w1 ⟨rfl, hb⟩
  have B1 := ((BAt.new w f0 f1 f2 f3 bo wa bu).alloc (.cells #[.int .i64 0, .int .i64 0, .int .i64 0, .int .i64 0, .int .i64 0, .int .i64 0, .int .i64 0] 24)).later hb (by simp; omega)
  have R1 : BAt w1 (w.heap.size + 1) 0 0 0 0 0 0 0 := by
    have := (BAt.new (w.alloc (.cells #[.int .i64 f0, .int .i64 f1, .int .i64 f2, .int .i64 f3, .int .i64 bo, .int .i64 wa, .int .i64 bu] 24)) 0 0 0 0 0 0 0).later hb (by simp)
    simpa using this
  have HB : Hid (Below w.heap.size w w1) := (((Below.refl _ w).alloc (Nat.le_refl _) _).alloc (by simp) _).trans (hb.mono (by simp; omega))
  clear hb
  obtain ⟨x0, x1, x2, x3, x4, x5, x6⟩ := B1.cells
  go_wp2_with (first
    | (go_at_call 115; refine (hI _).mono ?_; rintro e wI ⟨rfl, rfl⟩)
    | (go_at_call 158; refine (rplaces_any f0 f1 f2 f3 bo wa bu _).mono ?_; rintro e w2 ⟨rfl, h2⟩; have R2 := R1.later h2 R1.lt; have B2 := B1.later h2 B1.lt; have HB2 : Hid (Below w.heap.size w w2) := HB.out.trans (h2.mono HB.out.size); have hz2 : w.heap.size < w2.heap.size := B2.lt; have hz3 : w.heap.size + 1 < w2.heap.size := R2.lt; clear h2; clear x0 x1 x2 x3 x4 x5 x6; obtain ⟨x0, x1, x2, x3, x4, x5, x6⟩ := B2.cells; obtain ⟨u0, u1, u2, u3, u4, u5, u6⟩ := R2.frees; obtain ⟨v0, v1, v2, v3, v4, v5, v6⟩ := R2.cells; have HR2 : Hid (BAt w2 (w.heap.size + 1) 0 0 0 0 0 0 0) := R2; clear B1 R1 HB B2 R2))
  exact rmove_fin (w9 := (set7 w2 (w.heap.size + 1) f0 f1 f2 f3 bo wa bu).alloc _) ((HR2.out.set7 f0 f1 f2 f3 bo wa bu).alloc _) (let h := set7_below (b := w.heap.size + 1) HB2.out (by omega) f0 f1 f2 f3 bo wa bu; h.alloc h.size _) 7 _ rfl rfl rfl
set_option maxHeartbeats 2000000 in
theorem rmove_funds_4 (f0 f1 f2 f3 bo wa bu t n : Int) (w : World) (hg : goodB f0 f1 f2 f3 bo wa bu = true) (hn0 : 0 ≤ n) (hn1 : n ≤ 1125899906842624) (hle : bo < n) :
    Calls Tryz.prog 156 #[.agg #[.int .i64 f0, .int .i64 f1, .int .i64 f2, .int .i64 f3, .int .i64 bo, .int .i64 wa, .int .i64 bu], .int .i64 4, .int .i64 t, .int .i64 n] w fun e w' => e = .returned (.tuple #[.agg #[.int .i64 f0, .int .i64 f1, .int .i64 f2, .int .i64 f3, .int .i64 bo, .int .i64 wa, .int .i64 bu], .int .i64 7]) ∧ Below w.heap.size w w' := by
  have hG := rgood_any f0 f1 f2 f3 bo wa bu
  rw [hg] at hG
  have hI := rin_any n
  rw [decide_eq_true ⟨hn0, hn1⟩] at hI
  clear hg hn0 hn1
  go_enter Tryz.func156, Tryz.ntmps156
  go_wp2_with fail
  refine (hG _).mono ?_
  rintro e w1 ⟨rfl, hb⟩
  have B1 := ((BAt.new w f0 f1 f2 f3 bo wa bu).alloc (.cells #[.int .i64 0, .int .i64 0, .int .i64 0, .int .i64 0, .int .i64 0, .int .i64 0, .int .i64 0] 24)).later hb (by simp; omega)
  have R1 : BAt w1 (w.heap.size + 1) 0 0 0 0 0 0 0 := by
    have := (BAt.new (w.alloc (.cells #[.int .i64 f0, .int .i64 f1, .int .i64 f2, .int .i64 f3, .int .i64 bo, .int .i64 wa, .int .i64 bu] 24)) 0 0 0 0 0 0 0).later hb (by simp)
    simpa using this
  have HB : Hid (Below w.heap.size w w1) := (((Below.refl _ w).alloc (Nat.le_refl _) _).alloc (by simp) _).trans (hb.mono (by simp; omega))
  clear hb
  obtain ⟨x0, x1, x2, x3, x4, x5, x6⟩ := B1.cells
  go_wp2_with (first
    | (go_at_call 115; refine (hI _).mono ?_; rintro e wI ⟨rfl, rfl⟩)
    | (go_at_call 158; refine (rplaces_any f0 f1 f2 f3 bo wa bu _).mono ?_; rintro e w2 ⟨rfl, h2⟩; have R2 := R1.later h2 R1.lt; have B2 := B1.later h2 B1.lt; have HB2 : Hid (Below w.heap.size w w2) := HB.out.trans (h2.mono HB.out.size); have hz2 : w.heap.size < w2.heap.size := B2.lt; have hz3 : w.heap.size + 1 < w2.heap.size := R2.lt; clear h2; clear x0 x1 x2 x3 x4 x5 x6; obtain ⟨x0, x1, x2, x3, x4, x5, x6⟩ := B2.cells; obtain ⟨u0, u1, u2, u3, u4, u5, u6⟩ := R2.frees; obtain ⟨v0, v1, v2, v3, v4, v5, v6⟩ := R2.cells; have HR2 : Hid (BAt w2 (w.heap.size + 1) 0 0 0 0 0 0 0) := R2; clear B1 R1 HB B2 R2))
  exact rmove_fin (w9 := (set7 w2 (w.heap.size + 1) f0 f1 f2 f3 bo wa bu).alloc _) ((HR2.out.set7 f0 f1 f2 f3 bo wa bu).alloc _) (let h := set7_below (b := w.heap.size + 1) HB2.out (by omega) f0 f1 f2 f3 bo wa bu; h.alloc h.size _) 7 _ rfl rfl rfl
set_option maxHeartbeats 2000000 in
theorem rmove_funds_5 (f0 f1 f2 f3 bo wa bu t n : Int) (w : World) (hg : goodB f0 f1 f2 f3 bo wa bu = true) (hn0 : 0 ≤ n) (hn1 : n ≤ 1125899906842624) (hle : wa < n) :
    Calls Tryz.prog 156 #[.agg #[.int .i64 f0, .int .i64 f1, .int .i64 f2, .int .i64 f3, .int .i64 bo, .int .i64 wa, .int .i64 bu], .int .i64 5, .int .i64 t, .int .i64 n] w fun e w' => e = .returned (.tuple #[.agg #[.int .i64 f0, .int .i64 f1, .int .i64 f2, .int .i64 f3, .int .i64 bo, .int .i64 wa, .int .i64 bu], .int .i64 7]) ∧ Below w.heap.size w w' := by
  have hG := rgood_any f0 f1 f2 f3 bo wa bu
  rw [hg] at hG
  have hI := rin_any n
  rw [decide_eq_true ⟨hn0, hn1⟩] at hI
  clear hg hn0 hn1
  go_enter Tryz.func156, Tryz.ntmps156
  go_wp2_with fail
  refine (hG _).mono ?_
  rintro e w1 ⟨rfl, hb⟩
  have B1 := ((BAt.new w f0 f1 f2 f3 bo wa bu).alloc (.cells #[.int .i64 0, .int .i64 0, .int .i64 0, .int .i64 0, .int .i64 0, .int .i64 0, .int .i64 0] 24)).later hb (by simp; omega)
  have R1 : BAt w1 (w.heap.size + 1) 0 0 0 0 0 0 0 := by
    have := (BAt.new (w.alloc (.cells #[.int .i64 f0, .int .i64 f1, .int .i64 f2, .int .i64 f3, .int .i64 bo, .int .i64 wa, .int .i64 bu] 24)) 0 0 0 0 0 0 0).later hb (by simp)
    simpa using this
  have HB : Hid (Below w.heap.size w w1) := (((Below.refl _ w).alloc (Nat.le_refl _) _).alloc (by simp) _).trans (hb.mono (by simp; omega))
  clear hb
  obtain ⟨x0, x1, x2, x3, x4, x5, x6⟩ := B1.cells
  go_wp2_with (first
    | (go_at_call 115; refine (hI _).mono ?_; rintro e wI ⟨rfl, rfl⟩)
    | (go_at_call 158; refine (rplaces_any f0 f1 f2 f3 bo wa bu _).mono ?_; rintro e w2 ⟨rfl, h2⟩; have R2 := R1.later h2 R1.lt; have B2 := B1.later h2 B1.lt; have HB2 : Hid (Below w.heap.size w w2) := HB.out.trans (h2.mono HB.out.size); have hz2 : w.heap.size < w2.heap.size := B2.lt; have hz3 : w.heap.size + 1 < w2.heap.size := R2.lt; clear h2; clear x0 x1 x2 x3 x4 x5 x6; obtain ⟨x0, x1, x2, x3, x4, x5, x6⟩ := B2.cells; obtain ⟨u0, u1, u2, u3, u4, u5, u6⟩ := R2.frees; obtain ⟨v0, v1, v2, v3, v4, v5, v6⟩ := R2.cells; have HR2 : Hid (BAt w2 (w.heap.size + 1) 0 0 0 0 0 0 0) := R2; clear B1 R1 HB B2 R2))
  exact rmove_fin (w9 := (set7 w2 (w.heap.size + 1) f0 f1 f2 f3 bo wa bu).alloc _) ((HR2.out.set7 f0 f1 f2 f3 bo wa bu).alloc _) (let h := set7_below (b := w.heap.size + 1) HB2.out (by omega) f0 f1 f2 f3 bo wa bu; h.alloc h.size _) 7 _ rfl rfl rfl
set_option maxHeartbeats 2000000 in
theorem rmove_range_bad (f0 f1 f2 f3 bo wa bu f t n : Int) (w : World) (hg : goodB f0 f1 f2 f3 bo wa bu = false) :
    Calls Tryz.prog 156 #[.agg #[.int .i64 f0, .int .i64 f1, .int .i64 f2, .int .i64 f3, .int .i64 bo, .int .i64 wa, .int .i64 bu], .int .i64 f, .int .i64 t, .int .i64 n] w fun e w' => e = .returned (.tuple #[.agg #[.int .i64 f0, .int .i64 f1, .int .i64 f2, .int .i64 f3, .int .i64 bo, .int .i64 wa, .int .i64 bu], .int .i64 2]) ∧ Below w.heap.size w w' := by
  have hG := rgood_any f0 f1 f2 f3 bo wa bu
  rw [hg] at hG
  clear hg
  go_enter Tryz.func156, Tryz.ntmps156
  go_wp2_with fail
  refine (hG _).mono ?_
  rintro e w1 ⟨rfl, hb⟩
  have B1 := ((BAt.new w f0 f1 f2 f3 bo wa bu).alloc (.cells #[.int .i64 0, .int .i64 0, .int .i64 0, .int .i64 0, .int .i64 0, .int .i64 0, .int .i64 0] 24)).later hb (by simp; omega)
  have R1 : BAt w1 (w.heap.size + 1) 0 0 0 0 0 0 0 := by
    have := (BAt.new (w.alloc (.cells #[.int .i64 f0, .int .i64 f1, .int .i64 f2, .int .i64 f3, .int .i64 bo, .int .i64 wa, .int .i64 bu] 24)) 0 0 0 0 0 0 0).later hb (by simp)
    simpa using this
  have HB : Hid (Below w.heap.size w w1) := (((Below.refl _ w).alloc (Nat.le_refl _) _).alloc (by simp) _).trans (hb.mono (by simp; omega))
  clear hb
  obtain ⟨x0, x1, x2, x3, x4, x5, x6⟩ := B1.cells
  obtain ⟨u0, u1, u2, u3, u4, u5, u6⟩ := R1.frees
  obtain ⟨v0, v1, v2, v3, v4, v5, v6⟩ := R1.cells
  have HR1 : Hid (BAt w1 (w.heap.size + 1) 0 0 0 0 0 0 0) := R1
  clear B1 R1
  go_wp2
  exact rmove_end HR1.out HB.out f0 f1 f2 f3 bo wa bu 2 _ rfl rfl rfl
set_option maxHeartbeats 2000000 in
theorem rmove_range_in (f0 f1 f2 f3 bo wa bu f t n : Int) (w : World) (hg : goodB f0 f1 f2 f3 bo wa bu = true) (hn : ¬ (0 ≤ n ∧ n ≤ 1125899906842624)) :
    Calls Tryz.prog 156 #[.agg #[.int .i64 f0, .int .i64 f1, .int .i64 f2, .int .i64 f3, .int .i64 bo, .int .i64 wa, .int .i64 bu], .int .i64 f, .int .i64 t, .int .i64 n] w fun e w' => e = .returned (.tuple #[.agg #[.int .i64 f0, .int .i64 f1, .int .i64 f2, .int .i64 f3, .int .i64 bo, .int .i64 wa, .int .i64 bu], .int .i64 2]) ∧ Below w.heap.size w w' := by
  have hG := rgood_any f0 f1 f2 f3 bo wa bu
  rw [hg] at hG
  clear hg
  have hI := rin_any n
  rw [decide_eq_false hn] at hI
  clear hn
  go_enter Tryz.func156, Tryz.ntmps156
  go_wp2_with fail
  refine (hG _).mono ?_
  rintro e w1 ⟨rfl, hb⟩
  have B1 := ((BAt.new w f0 f1 f2 f3 bo wa bu).alloc (.cells #[.int .i64 0, .int .i64 0, .int .i64 0, .int .i64 0, .int .i64 0, .int .i64 0, .int .i64 0] 24)).later hb (by simp; omega)
  have R1 : BAt w1 (w.heap.size + 1) 0 0 0 0 0 0 0 := by
    have := (BAt.new (w.alloc (.cells #[.int .i64 f0, .int .i64 f1, .int .i64 f2, .int .i64 f3, .int .i64 bo, .int .i64 wa, .int .i64 bu] 24)) 0 0 0 0 0 0 0).later hb (by simp)
    simpa using this
  have HB : Hid (Below w.heap.size w w1) := (((Below.refl _ w).alloc (Nat.le_refl _) _).alloc (by simp) _).trans (hb.mono (by simp; omega))
  clear hb
  obtain ⟨x0, x1, x2, x3, x4, x5, x6⟩ := B1.cells
  obtain ⟨u0, u1, u2, u3, u4, u5, u6⟩ := R1.frees
  obtain ⟨v0, v1, v2, v3, v4, v5, v6⟩ := R1.cells
  have HR1 : Hid (BAt w1 (w.heap.size + 1) 0 0 0 0 0 0 0) := R1
  clear B1 R1
  go_wp2_with (go_at_call 115; refine (hI _).mono ?_; rintro e wI ⟨rfl, rfl⟩)
  exact rmove_end HR1.out HB.out f0 f1 f2 f3 bo wa bu 2 _ rfl rfl rfl
end Go.Proofs.YtkhlihpghbhppaaGreat

