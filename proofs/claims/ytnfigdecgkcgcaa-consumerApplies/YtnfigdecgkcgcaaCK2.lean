/- Parts of the proof: CC. -/
import Derived.Test.YtnfigdecgkcgcaaRows
import Derived.Test.YtnfigdecgkcgcaaCK1
import Derived.Maps.AppendAt
set_option maxRecDepth 100000
namespace Go.Proofs.Ytnfigdecgkcgcaa.Cd
open Go.RowKit
theorem info5 : (Try.prog.info? 5).map (fun i => (i.zero, i.size, i.bytes)) = some (some (.int .u8 0), 1, 1) := by kernel_rfl
/-- the bytes of a number, m of them, the highest first -/
def be (n : Int) : Nat → List Int
  | 0 => []
  | m + 1 => (n / 2 ^ (8 * m)) % 256 :: be n m
theorem be_length (n : Int) (m : Nat) : (be n m).length = m := by
  induction m with
  | zero => rfl
  | succ m ih => simp [be, ih]
/-- a row of bytes that the call owns -/
def Row (w : World) (B : Nat) (v : Value) (xs : List Int) : Prop := w.ownsRow B 5 1 v xs.length (xs.map (Value.int .u8))
/-- v' lies where v lay, or in a block that is new since w -/
def At (w : World) (v v' : Value) : Prop := v'.ownBlock = v.ownBlock ∨ ∃ k, v'.ownBlock = some k ∧ w.heap.size ≤ k
theorem grown_trans {w w1 w2 : World} {v v1 : Value} (h : w.grownBy w1 v.ownBlock) (ha : At w v v1) (k : w1.grownBy w2 v1.ownBlock) : w.grownBy w2 v.ownBlock := by
  refine ⟨k.os.trans h.os, k.tape.trans h.tape, k.output.trans h.output, Nat.le_trans h.size k.size, fun i hi hne => ?_⟩
  rw [k.block i (Nat.lt_of_lt_of_le hi h.size) ?_, h.block i hi hne]
  rcases ha with e | ⟨j, e, hj⟩
  · rw [e]; exact hne
  · rw [e]; intro h; cases h; omega
theorem grown_refl (w : World) (r : Option Nat) : w.grownBy w r := ⟨rfl, rfl, rfl, Nat.le_refl _, fun _ _ _ => rfl⟩
theorem At.trans {w w1 : World} {v v1 v2 : Value} (hs : w.heap.size ≤ w1.heap.size) (h : At w v v1) (k : At w1 v1 v2) : At w v v2 := by
  rcases k with e | ⟨j, e, hj⟩
  · rcases h with e1 | ⟨j, e1, hj⟩
    · exact .inl (e.trans e1)
    · exact .inr ⟨j, e.trans e1, hj⟩
  · exact .inr ⟨j, e, Nat.le_trans hs hj⟩
theorem grown_alloc {w w2 : World} {o : Obj} {r : Option Nat} (k : (w.alloc o).grownBy w2 r) : w.grownBy w2 r :=
  ⟨k.os, k.tape, k.output, Nat.le_trans (by simp) k.size, fun i hi hne => (k.block i (by simp; omega) hne).trans (Below.heap_alloc _ _ _ hi)⟩
set_option maxHeartbeats 400000 in
theorem put_any (B : Nat) (v : Value) (xs : List Int) (n : Int) (wd : Nat) (w : World) (hown : Row w B v xs) (hwd : wd ≤ 7) (hlen : xs.length + wd ≤ 1000000) (hB : B ≤ w.heap.size) :
    Calls Try.prog 62 #[v, .int .i64 n, .int .i64 wd] w fun e w' => ∃ v', e = .returned v' ∧ Row w' B v' (xs ++ be n wd) ∧ w.grownBy w' v.ownBlock ∧ At w v v' := by
  obtain ⟨i0, hi, hz0, hz1, hz2⟩ := info_parts info5
  go_enter Try.func62, Try.ntmps62
  go_wp2
  go_loopw [0, 7] (fun u i wl => ∃ (m : Nat) (ys : List Int), m ≤ wd ∧ i = .int .i64 ((m : Int) - 1) ∧ Hid (ys ++ be n m = xs ++ be n wd) ∧ Row wl B u ys ∧ Hid (w.grownBy wl v.ownBlock ∧ At w v u)) (fun _ i _ => (intOf i + 1).toNat)
  case atStart => exact ⟨wd, xs, Nat.le_refl _, rfl, rfl, hown, grown_refl _ _, .inl rfl⟩
  case round =>
    obtain ⟨m, ys, hm, rfl, HE, hown2, HB⟩ := hrel
    clear hown
    match m, HE with
    | 0, HE =>
      go_wp2
      go_ret
      have hE := HE.out
      simp only [be, List.append_nil] at hE
      subst hE
      exact ⟨_, rfl, hown2, HB.out.1, HB.out.2⟩
    | m + 1, HE =>
      have hl : ys.length ≤ 1000000 := by
        have h1 := congrArg List.length HE.out
        simp only [List.length_append, be_length] at h1
        omega
      have hsz : B ≤ wr.heap.size := Nat.le_trans hB HB.out.1.size
      go_wp2_with (at_builtin; refine wpList_append_own_at _ rfl _ _ 89 rfl B 5 i0 (.int .u8 0) 1 1 Try.underlying89 hi hz0 hz1 hz2 rfl (by decide) _ _ _ rfl (World.ownsRow.alloc hown2 _) ⟨wr.heap.size, 0, none⟩ 1 1 [.int .u8 (n / 2 ^ (8 * m) % 256)] rfl rfl (cell_one_new _ _ _) (by intro u hu; simp at hu; subst hu; rfl) (by unfold maxLen; omega) (by omega) (by simp; omega) ?_; intro v' w1 hown' hgrow _ hat)
      have HO : Hid (Row w1 B v' (ys ++ [n / 2 ^ (8 * m) % 256])) := by simpa [Hid, Row] using hown'
      have HB1 : Hid (w.grownBy w1 v.ownBlock ∧ At w v v') := by
        refine ⟨grown_trans HB.out.1 HB.out.2 (grown_alloc hgrow), HB.out.2.trans HB.out.1.size ?_⟩
        rcases hat with h | h
        · exact .inl h
        · exact .inr ⟨_, h, by simp⟩
      clear hown' hgrow hown2 hat
      go_wp2
      go_roundw
      case rel => exact ⟨m, _, by omega, by go_num, by show _ = _; rw [← HE.out]; simp [be], HO.out, HB1⟩
      case measure => simp [intOf]
end Go.Proofs.Ytnfigdecgkcgcaa.Cd

