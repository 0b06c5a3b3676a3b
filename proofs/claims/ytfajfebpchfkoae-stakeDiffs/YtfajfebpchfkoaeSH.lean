/- sharesFor, worthOf. -/
import Derived.Test.YtfajfebpchfkoaeSG
import Derived.Test.YtfajfebpchfkoaeRG1
import Derived.BigQuiet
import Derived.Deep.QuietTactic
import Derived.Deep.RegionHeld3
set_option maxRecDepth 100000
namespace Go.Proofs.Ytfajfebpchfkoae
open Go.RowKit
theorem muldiv_any (a b c : Int) (w : World) (a1 : a ≤ 9223372036854775807) (b1 : b ≤ 9223372036854775807) (c1 : c ≤ 9223372036854775807) :
    Calls Try.prog 81 #[.int .i64 a, .int .i64 b, .int .i64 c] w fun e w' => e = .returned (.tuple #[.int .i64 (mdN a b c), .int .i64 (mdE a b c)]) ∧ Below w.heap.size w w' := Ra.muldiv a b c a1 b1 c1 w
theorem mdN_bound (a b c : Int) : 0 ≤ mdN a b c ∧ mdN a b c ≤ 1125899906842624 := by
  unfold mdN
  split
  · omega
  · rename_i h
    have h0 : 0 ≤ a * b := Int.mul_nonneg (by omega) (by omega)
    have h1 : 0 ≤ a * b / c := Int.ediv_nonneg h0 (by omega)
    split <;> omega
theorem shN_eq (x : Vd) (n : Int) : shN x n = if x.sh = 0 then n else if x.tok = 0 then 0 else if mdE n x.sh x.tok = 0 ∧ inA (x.sh + mdN n x.sh x.tok) = true then mdN n x.sh x.tok else 0 := rfl
theorem shE_eq (x : Vd) (n : Int) : shE x n = if x.sh = 0 then 0 else if x.tok = 0 then 8 else if mdE n x.sh x.tok = 0 ∧ inA (x.sh + mdN n x.sh x.tok) = true then if mdN n x.sh x.tok = 0 then 8 else 0 else 6 := rfl
theorem woN_eq (x : Vd) (n : Int) : woN x n = if mdE n x.tok x.sh = 0 then mdN n x.tok x.sh else 0 := rfl
theorem woE_eq (x : Vd) (n : Int) : woE x n = if mdE n x.tok x.sh = 0 then if mdN n x.tok x.sh = 0 then 8 else 0 else mdE n x.tok x.sh := rfl
set_option maxHeartbeats 1000000 in
theorem sharesFor_any (b o : Nat) (x : Vd) (n : Int) (w : World) (hn : n ≤ 1125899906842624) (hx : vOk x = true) (h0 : w.cell? ⟨b, o, none⟩ = some (.int .i64 x.tok)) (h1 : w.cell? ⟨b, o + 1, none⟩ = some (.int .i64 x.sh)) :
    Calls Try.prog 58 #[.pointer (some ⟨b, o, none⟩), .int .i64 n] w fun e w' => e = .returned (.tuple #[.int .i64 (shN x n), .int .i64 (shE x n)]) ∧ Below w.heap.size w w' := by
  obtain ⟨k1, k2, k3⟩ := vOk_amounts hx
  rw [inA_iff] at k1 k2 k3
  have hM := fun w => muldiv_any n x.sh x.tok w (by omega) (by omega) (by omega)
  have hI := inA_any (x.sh + mdN n x.sh x.tok)
  have HN := hide (shN_eq x n)
  have HE := hide (shE_eq x n)
  have hblt : b < w.heap.size := World.block_lt_of_cell? w _ h0
  clear hx
  obtain ⟨xt, xs, xl, xj, xd⟩ := x
  simp only at *
  have hb := mdN_bound n xs xt
  generalize shN ⟨xt, xs, xl, xj, xd⟩ n = rN at *
  generalize shE ⟨xt, xs, xl, xj, xd⟩ n = rE at *
  generalize mdN n xs xt = m at *
  generalize mdE n xs xt = er at *
  generalize inA (xs + m) = t at *
  go_enter Try.func58, Try.ntmps58
  go_upto_region 5 with fail
  all_goals first
    | (go_ret2; refine ⟨?_, Below.refl _ _⟩; have e1 := HN.out; have e2 := HE.out; simp_all; done)
    | skip
  go_region_held3 (fun wx => wx.cell? ⟨b, o, none⟩ = some (.int .i64 xt) ∧ wx.cell? ⟨b, o + 1, none⟩ = some (.int .i64 xs)) (first | go_keep | (refine ⟨?_, ?_⟩ <;> (rw [hbM.cell hblt]; simp [*])))
    (first | (go_at_call 81; refine (hM _).mono ?_; rintro e w1 ⟨rfl, hbM⟩))
  rename_i hh
  obtain ⟨g0, g1⟩ := hh
  have HB : Hid (Below w.heap.size w w1) := (Below.refl _ w).drew.trans hbM
  clear hbM
  go_wp2_with (go_at_call 76; refine (hI _).mono ?_; rintro e w2 ⟨rfl, rfl⟩)
  all_goals (go_ret2; refine ⟨?_, HB.out⟩; have e1 := HN.out; have e2 := HE.out; clear HN HE hM hI; simp_all)
set_option maxHeartbeats 1000000 in
theorem worthOf_any (b o : Nat) (x : Vd) (n : Int) (w : World) (hn : n ≤ 1125899906842624) (hx : vOk x = true) (h0 : w.cell? ⟨b, o, none⟩ = some (.int .i64 x.tok)) (h1 : w.cell? ⟨b, o + 1, none⟩ = some (.int .i64 x.sh)) :
    Calls Try.prog 64 #[.pointer (some ⟨b, o, none⟩), .int .i64 n] w fun e w' => e = .returned (.tuple #[.int .i64 (woN x n), .int .i64 (woE x n)]) ∧ Below w.heap.size w w' := by
  obtain ⟨k1, k2, k3⟩ := vOk_amounts hx
  rw [inA_iff] at k1 k2 k3
  have hM := fun w => muldiv_any n x.tok x.sh w (by omega) (by omega) (by omega)
  have HN := hide (woN_eq x n)
  have HE := hide (woE_eq x n)
  have hblt : b < w.heap.size := World.block_lt_of_cell? w _ h0
  clear hx
  obtain ⟨xt, xs, xl, xj, xd⟩ := x
  simp only at *
  generalize woN ⟨xt, xs, xl, xj, xd⟩ n = rN at *
  generalize woE ⟨xt, xs, xl, xj, xd⟩ n = rE at *
  generalize mdN n xt xs = m at *
  generalize mdE n xt xs = er at *
  go_enter Try.func64, Try.ntmps64
  go_upto_region 1 with fail
  go_region_held3 (fun wx => wx.cell? ⟨b, o, none⟩ = some (.int .i64 xt) ∧ wx.cell? ⟨b, o + 1, none⟩ = some (.int .i64 xs)) (first | go_keep | (refine ⟨?_, ?_⟩ <;> (rw [hbM.cell hblt]; simp [*])))
    (first | (go_at_call 81; refine (hM _).mono ?_; rintro e w1 ⟨rfl, hbM⟩))
  rename_i hh
  have HB : Hid (Below w.heap.size w w1) := (Below.refl _ w).drew.trans hbM
  clear hbM hh
  go_wp2
  all_goals (go_ret2; refine ⟨?_, HB.out⟩; have e1 := HN.out; have e2 := HE.out; clear HN HE hM; simp_all)
end Go.Proofs.Ytfajfebpchfkoae
