/- Parts of the proof: SH G1. -/
import Derived.Test.YtjghbciepinofaaGreatRows
import Derived.Test.YtjghbciepinofaaGreatOK4
import Derived.Test.YtjghbciepinofaaGreatOK6
import Derived.Test.YtjghbciepinofaaGreatOK53
import Derived.BigQuiet
import Derived.Deep.QuietTactic
import Derived.Deep.RegionHeld3
import Derived.WalkKit
set_option maxRecDepth 100000
namespace Go.Proofs.YtjghbciepinofaaGreat
open Go.RowKit
theorem muldiv_any (a b c : Int) (w : World) (a1 : a ≤ 9223372036854775807) (b1 : b ≤ 9223372036854775807) (c1 : c ≤ 9223372036854775807) :
    Calls Tryz.prog 145 #[.int .i64 a, .int .i64 b, .int .i64 c] w fun e w' => e = .returned (.tuple #[.int .i64 (mdN a b c), .int .i64 (mdE a b c)]) ∧ Below w.heap.size w w' := Ra.muldiv a b c a1 b1 c1 w
theorem mdN_bound (a b c : Int) : 0 ≤ mdN a b c ∧ mdN a b c ≤ 1125899906842624 := by
  unfold mdN
  split
  · omega
  · rename_i h
    have h0 : 0 ≤ a * b := Int.mul_nonneg (by omega) (by omega)
    have h1 : 0 ≤ a * b / c := Int.ediv_nonneg h0 (by omega)
    split <;> omega
theorem shN_eq (x : Vd) (n : Int) : shN x n = if x.sh = 0 then n else if x.tok = 0 then 0 else if mdE n x.sh x.tok = 0 ∧ inA (x.sh + mdN n x.sh x.tok) = true then mdN n x.sh x.tok else 0 := rfl
theorem shE_eq (x : Vd) (n : Int) : shE x n = if x.sh = 0 then 0 else if x.tok = 0 then 8 else if mdE n x.sh x.tok = 0 ∧ inA (x.sh + mdN n x.sh x.tok) = true then if mdN n x.sh x.tok = 0 then 8 else 0 else 6 := rfl
set_option maxHeartbeats 1000000 in
theorem sharesFor_any (b o : Nat) (x : Vd) (n : Int) (w : World) (hn : n ≤ 1125899906842624) (hx : vOk x = true) (h0 : w.cell? ⟨b, o, none⟩ = some (.int .i64 x.tok)) (h1 : w.cell? ⟨b, o + 1, none⟩ = some (.int .i64 x.sh)) :
    Calls Tryz.prog 105 #[.pointer (some ⟨b, o, none⟩), .int .i64 n] w fun e w' => e = .returned (.tuple #[.int .i64 (shN x n), .int .i64 (shE x n)]) ∧ Below w.heap.size w w' := by
  obtain ⟨k1, k2, k3⟩ := vOk_amounts hx
  rw [inA_iff] at k1 k2 k3
  have hM := fun w => muldiv_any n x.sh x.tok w (by omega) (by omega) (by omega)
  have hI := inA_any (x.sh + mdN n x.sh x.tok)
  have HN := hide (shN_eq x n)
  have HE := hide (shE_eq x n)
  have hblt : b < w.heap.size := World.block_lt_of_cell? w _ h0
  clear hx
  obtain ⟨xt, xs, xl, xj, xd⟩ := x
  simp only at *
  have hb := mdN_bound n xs xt
  generalize shN ⟨xt, xs, xl, xj, xd⟩ n = rN at *
  generalize shE ⟨xt, xs, xl, xj, xd⟩ n = rE at *
  generalize mdN n xs xt = m at *
  generalize mdE n xs xt = er at *
  generalize inA (xs + m) = t at *
  go_enter Tryz.func105, Tryz.ntmps105
  go_upto_region 5 with fail
  all_goals first
    | (go_ret2; refine ⟨?_, Below.refl _ _⟩; have e1 := HN.out; have e2 := HE.out; simp_all; done)
    | skip
  go_region_held3 (fun wx => wx.cell? ⟨b, o, none⟩ = some (.int .i64 xt) ∧ wx.cell? ⟨b, o + 1, none⟩ = some (.int .i64 xs)) (first | go_keep | (refine ⟨?_, ?_⟩ <;> (rw [hbM.cell hblt]; simp [*])))
    (first | (go_at_call 145; refine (hM _).mono ?_; rintro e w1 ⟨rfl, hbM⟩))
  rename_i hh
  obtain ⟨g0, g1⟩ := hh
  have HB : Hid (Below w.heap.size w w1) := (Below.refl _ w).drew.trans hbM
  clear hbM
  go_wp2_with (go_at_call 121; refine (hI _).mono ?_; rintro e w2 ⟨rfl, rfl⟩)
  all_goals (go_ret2; refine ⟨?_, HB.out⟩; have e1 := HN.out; have e2 := HE.out; clear HN HE hM hI; simp_all)
end Go.Proofs.YtjghbciepinofaaGreat

set_option maxRecDepth 100000
namespace Go.Proofs.YtjghbciepinofaaGreat
open Go.RowKit
set_option maxHeartbeats 2000000 in
theorem move_ok_04 (f0 f1 f2 f3 bo wa bu n : Int) (c : Nat) (w : World) (hc : w.cell? ⟨c, 0, none⟩ = some (.int .i64 0)) (hcl : c < w.heap.size) (hg : goodB f0 f1 f2 f3 bo wa bu = true) (hn0 : 0 ≤ n) (hn1 : n ≤ 1125899906842624) (hle : n ≤ f0) :
    Calls Tryz.prog 114 #[.agg #[.int .i64 f0, .int .i64 f1, .int .i64 f2, .int .i64 f3, .int .i64 bo, .int .i64 wa, .int .i64 bu], (.func (.func 125) #[] #[.pointer (some ⟨c, 0, none⟩)]), (.func (.func 122) #[] #[]), .int .i64 n] w fun e w' => e = .returned (.tuple #[.agg #[.int .i64 (f0 - n), .int .i64 f1, .int .i64 f2, .int .i64 f3, .int .i64 (bo + n), .int .i64 wa, .int .i64 bu], .int .i64 0]) ∧ Below w.heap.size w w' := by
  have hG := good_any f0 f1 f2 f3 bo wa bu
  rw [hg] at hG
  have hI := inn_any n
  rw [decide_eq_true ⟨hn0, hn1⟩] at hI
  unfold goodB at hg
  obtain ⟨g0, g1, g2, g3, g4, g5, g6, gs⟩ := of_decide_eq_true hg
  clear hg
  have k1 : wrap64 (f0 - n) = f0 - n := wrap64_small (by omega) (by omega)
  have k2 : wrap64 (bo + n) = bo + n := wrap64_small (by omega) (by omega)
  clear g0 g1 g2 g3 g4 g5 g6 gs hn0 hn1
  go_enter Tryz.func114, Tryz.ntmps114
  go_wp2_with fail
  refine (hG _).mono ?_
  rintro e w1 ⟨rfl, hb⟩
  have B1 := ((BAt.new w f0 f1 f2 f3 bo wa bu).alloc (.cells #[.int .i64 0, .int .i64 0, .int .i64 0, .int .i64 0, .int .i64 0, .int .i64 0, .int .i64 0] 24)).later hb (by simp; omega)
  have R1 : BAt w1 (w.heap.size + 1) 0 0 0 0 0 0 0 := by
    have := (BAt.new (w.alloc (.cells #[.int .i64 f0, .int .i64 f1, .int .i64 f2, .int .i64 f3, .int .i64 bo, .int .i64 wa, .int .i64 bu] 24)) 0 0 0 0 0 0 0).later hb (by simp)
    simpa using this
  have HB : Hid (Below w.heap.size w w1) := (((Below.refl _ w).alloc (Nat.le_refl _) _).alloc (by simp) _).trans (hb.mono (by simp; omega))
  clear hb
  have hc2 : w1.cell? ⟨c, 0, none⟩ = some (.int .i64 0) := (HB.out.cell hcl).trans hc
  skip
  clear hc hcl
  obtain ⟨x0, x1, x2, x3, x4, x5, x6⟩ := B1.cells
  have y0 := B1.frees.1
  have y1 := B1.frees.2.2.2.2.1
  obtain ⟨u0, u1, u2, u3, u4, u5, u6⟩ := R1.frees
  obtain ⟨v0, v1, v2, v3, v4, v5, v6⟩ := R1.cells
  have HR1 : Hid (BAt w1 (w.heap.size + 1) 0 0 0 0 0 0 0) := R1
  clear B1 R1
  go_wp2_with (first
    | (go_at_call 121; refine (hI _).mono ?_; rintro e w2 ⟨rfl, rfl⟩)
    | (go_at_call 125; refine (free1_at _ c 0 _ (by exact hc2) (by decide) (by decide)).mono ?_; rintro e w2 ⟨rfl, nq, rfl⟩)
    | (go_at_call 122; refine (bonded1_any _ _).mono ?_; rintro e w2 ⟨rfl, rfl⟩))
  exact move_end (wq := ((w1.drewN _).setCell ⟨w.heap.size, 0, none⟩ (.int .i64 (f0 - n))).setCell ⟨w.heap.size, 4, none⟩ (.int .i64 (bo + n))) ((BAt.other (w := w1.drewN _) HR1.out (by omega) _).other (by omega) _) (((below_drewN HB.out _).setCell (by simp) _).setCell (by simp) _) (f0 - n) f1 f2 f3 (bo + n) wa bu 0 _ rfl rfl rfl
set_option maxHeartbeats 2000000 in
theorem move_ok_14 (f0 f1 f2 f3 bo wa bu n : Int) (c : Nat) (w : World) (hc : w.cell? ⟨c, 0, none⟩ = some (.int .i64 1)) (hcl : c < w.heap.size) (hg : goodB f0 f1 f2 f3 bo wa bu = true) (hn0 : 0 ≤ n) (hn1 : n ≤ 1125899906842624) (hle : n ≤ f1) :
    Calls Tryz.prog 114 #[.agg #[.int .i64 f0, .int .i64 f1, .int .i64 f2, .int .i64 f3, .int .i64 bo, .int .i64 wa, .int .i64 bu], (.func (.func 125) #[] #[.pointer (some ⟨c, 0, none⟩)]), (.func (.func 122) #[] #[]), .int .i64 n] w fun e w' => e = .returned (.tuple #[.agg #[.int .i64 f0, .int .i64 (f1 - n), .int .i64 f2, .int .i64 f3, .int .i64 (bo + n), .int .i64 wa, .int .i64 bu], .int .i64 0]) ∧ Below w.heap.size w w' := by
  have hG := good_any f0 f1 f2 f3 bo wa bu
  rw [hg] at hG
  have hI := inn_any n
  rw [decide_eq_true ⟨hn0, hn1⟩] at hI
  unfold goodB at hg
  obtain ⟨g0, g1, g2, g3, g4, g5, g6, gs⟩ := of_decide_eq_true hg
  clear hg
  have k1 : wrap64 (f1 - n) = f1 - n := wrap64_small (by omega) (by omega)
  have k2 : wrap64 (bo + n) = bo + n := wrap64_small (by omega) (by omega)
  clear g0 g1 g2 g3 g4 g5 g6 gs hn0 hn1
  go_enter Tryz.func114, Tryz.ntmps114
  go_wp2_with fail
  refine (hG _).mono ?_
  rintro e w1 ⟨rfl, hb⟩
  have B1 := ((BAt.new w f0 f1 f2 f3 bo wa bu).alloc (.cells #[.int .i64 0, .int .i64 0, .int .i64 0, .int .i64 0, .int .i64 0, .int .i64 0, .int .i64 0] 24)).later hb (by simp; omega)
  have R1 : BAt w1 (w.heap.size + 1) 0 0 0 0 0 0 0 := by
    have := (BAt.new (w.alloc (.cells #[.int .i64 f0, .int .i64 f1, .int .i64 f2, .int .i64 f3, .int .i64 bo, .int .i64 wa, .int .i64 bu] 24)) 0 0 0 0 0 0 0).later hb (by simp)
    simpa using this
  have HB : Hid (Below w.heap.size w w1) := (((Below.refl _ w).alloc (Nat.le_refl _) _).alloc (by simp) _).trans (hb.mono (by simp; omega))
  clear hb
  have hc2 : w1.cell? ⟨c, 0, none⟩ = some (.int .i64 1) := (HB.out.cell hcl).trans hc
  skip
  clear hc hcl
  obtain ⟨x0, x1, x2, x3, x4, x5, x6⟩ := B1.cells
  have y0 := B1.frees.2.1
  have y1 := B1.frees.2.2.2.2.1
  obtain ⟨u0, u1, u2, u3, u4, u5, u6⟩ := R1.frees
  obtain ⟨v0, v1, v2, v3, v4, v5, v6⟩ := R1.cells
  have HR1 : Hid (BAt w1 (w.heap.size + 1) 0 0 0 0 0 0 0) := R1
  clear B1 R1
  go_wp2_with (first
    | (go_at_call 121; refine (hI _).mono ?_; rintro e w2 ⟨rfl, rfl⟩)
    | (go_at_call 125; refine (free1_at _ c 1 _ (by exact hc2) (by decide) (by decide)).mono ?_; rintro e w2 ⟨rfl, nq, rfl⟩)
    | (go_at_call 122; refine (bonded1_any _ _).mono ?_; rintro e w2 ⟨rfl, rfl⟩))
  exact move_end (wq := ((w1.drewN _).setCell ⟨w.heap.size, 1, none⟩ (.int .i64 (f1 - n))).setCell ⟨w.heap.size, 4, none⟩ (.int .i64 (bo + n))) ((BAt.other (w := w1.drewN _) HR1.out (by omega) _).other (by omega) _) (((below_drewN HB.out _).setCell (by simp) _).setCell (by simp) _) f0 (f1 - n) f2 f3 (bo + n) wa bu 0 _ rfl rfl rfl
set_option maxHeartbeats 2000000 in
theorem move_ok_24 (f0 f1 f2 f3 bo wa bu n : Int) (c : Nat) (w : World) (hc : w.cell? ⟨c, 0, none⟩ = some (.int .i64 2)) (hcl : c < w.heap.size) (hg : goodB f0 f1 f2 f3 bo wa bu = true) (hn0 : 0 ≤ n) (hn1 : n ≤ 1125899906842624) (hle : n ≤ f2) :
    Calls Tryz.prog 114 #[.agg #[.int .i64 f0, .int .i64 f1, .int .i64 f2, .int .i64 f3, .int .i64 bo, .int .i64 wa, .int .i64 bu], (.func (.func 125) #[] #[.pointer (some ⟨c, 0, none⟩)]), (.func (.func 122) #[] #[]), .int .i64 n] w fun e w' => e = .returned (.tuple #[.agg #[.int .i64 f0, .int .i64 f1, .int .i64 (f2 - n), .int .i64 f3, .int .i64 (bo + n), .int .i64 wa, .int .i64 bu], .int .i64 0]) ∧ Below w.heap.size w w' := by
  have hG := good_any f0 f1 f2 f3 bo wa bu
  rw [hg] at hG
  have hI := inn_any n
  rw [decide_eq_true ⟨hn0, hn1⟩] at hI
  unfold goodB at hg
  obtain ⟨g0, g1, g2, g3, g4, g5, g6, gs⟩ := of_decide_eq_true hg
  clear hg
  have k1 : wrap64 (f2 - n) = f2 - n := wrap64_small (by omega) (by omega)
  have k2 : wrap64 (bo + n) = bo + n := wrap64_small (by omega) (by omega)
  clear g0 g1 g2 g3 g4 g5 g6 gs hn0 hn1
  go_enter Tryz.func114, Tryz.ntmps114
  go_wp2_with fail
  refine (hG _).mono ?_
  rintro e w1 ⟨rfl, hb⟩
  have B1 := ((BAt.new w f0 f1 f2 f3 bo wa bu).alloc (.cells #[.int .i64 0, .int .i64 0, .int .i64 0, .int .i64 0, .int .i64 0, .int .i64 0, .int .i64 0] 24)).later hb (by simp; omega)
  have R1 : BAt w1 (w.heap.size + 1) 0 0 0 0 0 0 0 := by
    have := (BAt.new (w.alloc (.cells #[.int .i64 f0, .int .i64 f1, .int .i64 f2, .int .i64 f3, .int .i64 bo, .int .i64 wa, .int .i64 bu] 24)) 0 0 0 0 0 0 0).later hb (by simp)
    simpa using this
  have HB : Hid (Below w.heap.size w w1) := (((Below.refl _ w).alloc (Nat.le_refl _) _).alloc (by simp) _).trans (hb.mono (by simp; omega))
  clear hb
  have hc2 : w1.cell? ⟨c, 0, none⟩ = some (.int .i64 2) := (HB.out.cell hcl).trans hc
  skip
  clear hc hcl
  obtain ⟨x0, x1, x2, x3, x4, x5, x6⟩ := B1.cells
  have y0 := B1.frees.2.2.1
  have y1 := B1.frees.2.2.2.2.1
  obtain ⟨u0, u1, u2, u3, u4, u5, u6⟩ := R1.frees
  obtain ⟨v0, v1, v2, v3, v4, v5, v6⟩ := R1.cells
  have HR1 : Hid (BAt w1 (w.heap.size + 1) 0 0 0 0 0 0 0) := R1
  clear B1 R1
  go_wp2_with (first
    | (go_at_call 121; refine (hI _).mono ?_; rintro e w2 ⟨rfl, rfl⟩)
    | (go_at_call 125; refine (free1_at _ c 2 _ (by exact hc2) (by decide) (by decide)).mono ?_; rintro e w2 ⟨rfl, nq, rfl⟩)
    | (go_at_call 122; refine (bonded1_any _ _).mono ?_; rintro e w2 ⟨rfl, rfl⟩))
  exact move_end (wq := ((w1.drewN _).setCell ⟨w.heap.size, 2, none⟩ (.int .i64 (f2 - n))).setCell ⟨w.heap.size, 4, none⟩ (.int .i64 (bo + n))) ((BAt.other (w := w1.drewN _) HR1.out (by omega) _).other (by omega) _) (((below_drewN HB.out _).setCell (by simp) _).setCell (by simp) _) f0 f1 (f2 - n) f3 (bo + n) wa bu 0 _ rfl rfl rfl
set_option maxHeartbeats 2000000 in
theorem move_ok_34 (f0 f1 f2 f3 bo wa bu n : Int) (c : Nat) (w : World) (hc : w.cell? ⟨c, 0, none⟩ = some (.int .i64 3)) (hcl : c < w.heap.size) (hg : goodB f0 f1 f2 f3 bo wa bu = true) (hn0 : 0 ≤ n) (hn1 : n ≤ 1125899906842624) (hle : n ≤ f3) :
    Calls Tryz.prog 114 #[.agg #[.int .i64 f0, .int .i64 f1, .int .i64 f2, .int .i64 f3, .int .i64 bo, .int .i64 wa, .int .i64 bu], (.func (.func 125) #[] #[.pointer (some ⟨c, 0, none⟩)]), (.func (.func 122) #[] #[]), .int .i64 n] w fun e w' => e = .returned (.tuple #[.agg #[.int .i64 f0, .int .i64 f1, .int .i64 f2, .int .i64 (f3 - n), .int .i64 (bo + n), .int .i64 wa, .int .i64 bu], .int .i64 0]) ∧ Below w.heap.size w w' := by
  have hG := good_any f0 f1 f2 f3 bo wa bu
  rw [hg] at hG
  have hI := inn_any n
  rw [decide_eq_true ⟨hn0, hn1⟩] at hI
  unfold goodB at hg
  obtain ⟨g0, g1, g2, g3, g4, g5, g6, gs⟩ := of_decide_eq_true hg
  clear hg
  have k1 : wrap64 (f3 - n) = f3 - n := wrap64_small (by omega) (by omega)
  have k2 : wrap64 (bo + n) = bo + n := wrap64_small (by omega) (by omega)
  clear g0 g1 g2 g3 g4 g5 g6 gs hn0 hn1
  go_enter Tryz.func114, Tryz.ntmps114
  go_wp2_with fail
  refine (hG _).mono ?_
  rintro e w1 ⟨rfl, hb⟩
  have B1 := ((BAt.new w f0 f1 f2 f3 bo wa bu).alloc (.cells #[.int .i64 0, .int .i64 0, .int .i64 0, .int .i64 0, .int .i64 0, .int .i64 0, .int .i64 0] 24)).later hb (by simp; omega)
  have R1 : BAt w1 (w.heap.size + 1) 0 0 0 0 0 0 0 := by
    have := (BAt.new (w.alloc (.cells #[.int .i64 f0, .int .i64 f1, .int .i64 f2, .int .i64 f3, .int .i64 bo, .int .i64 wa, .int .i64 bu] 24)) 0 0 0 0 0 0 0).later hb (by simp)
    simpa using this
  have HB : Hid (Below w.heap.size w w1) := (((Below.refl _ w).alloc (Nat.le_refl _) _).alloc (by simp) _).trans (hb.mono (by simp; omega))
  clear hb
  have hc2 : w1.cell? ⟨c, 0, none⟩ = some (.int .i64 3) := (HB.out.cell hcl).trans hc
  skip
  clear hc hcl
  obtain ⟨x0, x1, x2, x3, x4, x5, x6⟩ := B1.cells
  have y0 := B1.frees.2.2.2.1
  have y1 := B1.frees.2.2.2.2.1
  obtain ⟨u0, u1, u2, u3, u4, u5, u6⟩ := R1.frees
  obtain ⟨v0, v1, v2, v3, v4, v5, v6⟩ := R1.cells
  have HR1 : Hid (BAt w1 (w.heap.size + 1) 0 0 0 0 0 0 0) := R1
  clear B1 R1
  go_wp2_with (first
    | (go_at_call 121; refine (hI _).mono ?_; rintro e w2 ⟨rfl, rfl⟩)
    | (go_at_call 125; refine (free1_at _ c 3 _ (by exact hc2) (by decide) (by decide)).mono ?_; rintro e w2 ⟨rfl, nq, rfl⟩)
    | (go_at_call 122; refine (bonded1_any _ _).mono ?_; rintro e w2 ⟨rfl, rfl⟩))
  exact move_end (wq := ((w1.drewN _).setCell ⟨w.heap.size, 3, none⟩ (.int .i64 (f3 - n))).setCell ⟨w.heap.size, 4, none⟩ (.int .i64 (bo + n))) ((BAt.other (w := w1.drewN _) HR1.out (by omega) _).other (by omega) _) (((below_drewN HB.out _).setCell (by simp) _).setCell (by simp) _) f0 f1 f2 (f3 - n) (bo + n) wa bu 0 _ rfl rfl rfl
end Go.Proofs.YtjghbciepinofaaGreat

