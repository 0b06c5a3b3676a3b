/- Parts of the proof: CC CD. -/
import Derived.Test.YtkhlihpghbhppabGreatRows
import Derived.Test.YtkhlihpghbhppabGreatProviderRemovesK10
import Derived.Maps.AppendAt
import Derived.Laws.BytesArg
set_option maxRecDepth 100000
namespace Go.Proofs.YtkhlihpghbhppabGreat.Cd
open Go.RowKit
theorem info5 : (Tryz.prog.info? 5).map (fun i => (i.zero, i.size, i.bytes)) = some (some (.int .u8 0), 1, 1) := by kernel_rfl
/-- the bytes of a number, m of them, the highest first -/
def be (n : Int) : Nat → List Int
  | 0 => []
  | m + 1 => (n / 2 ^ (8 * m)) % 256 :: be n m
theorem be_length (n : Int) (m : Nat) : (be n m).length = m := by
  induction m with
  | zero => rfl
  | succ m ih => simp [be, ih]
/-- a row of bytes that the call owns -/
def Row (w : World) (B : Nat) (v : Value) (xs : List Int) : Prop := w.ownsRow B 5 1 v xs.length (xs.map (Value.int .u8))
/-- v' lies where v lay, or in a block that is new since w -/
def At (w : World) (v v' : Value) : Prop := v'.ownBlock = v.ownBlock ∨ ∃ k, v'.ownBlock = some k ∧ w.heap.size ≤ k
theorem grown_trans {w w1 w2 : World} {v v1 : Value} (h : w.grownBy w1 v.ownBlock) (ha : At w v v1) (k : w1.grownBy w2 v1.ownBlock) : w.grownBy w2 v.ownBlock := by
  refine ⟨k.os.trans h.os, k.tape.trans h.tape, k.output.trans h.output, Nat.le_trans h.size k.size, fun i hi hne => ?_⟩
  rw [k.block i (Nat.lt_of_lt_of_le hi h.size) ?_, h.block i hi hne]
  rcases ha with e | ⟨j, e, hj⟩
  · rw [e]; exact hne
  · rw [e]; intro h; cases h; omega
theorem grown_refl (w : World) (r : Option Nat) : w.grownBy w r := ⟨rfl, rfl, rfl, Nat.le_refl _, fun _ _ _ => rfl⟩
theorem At.trans {w w1 : World} {v v1 v2 : Value} (hs : w.heap.size ≤ w1.heap.size) (h : At w v v1) (k : At w1 v1 v2) : At w v v2 := by
  rcases k with e | ⟨j, e, hj⟩
  · rcases h with e1 | ⟨j, e1, hj⟩
    · exact .inl (e.trans e1)
    · exact .inr ⟨j, e.trans e1, hj⟩
  · exact .inr ⟨j, e, Nat.le_trans hs hj⟩
theorem grown_alloc {w w2 : World} {o : Obj} {r : Option Nat} (k : (w.alloc o).grownBy w2 r) : w.grownBy w2 r :=
  ⟨k.os, k.tape, k.output, Nat.le_trans (by simp) k.size, fun i hi hne => (k.block i (by simp; omega) hne).trans (Below.heap_alloc _ _ _ hi)⟩
set_option maxHeartbeats 400000 in
theorem put_any (B : Nat) (v : Value) (xs : List Int) (n : Int) (wd : Nat) (w : World) (hown : Row w B v xs) (hwd : wd ≤ 7) (hlen : xs.length + wd ≤ 1000000) (hB : B ≤ w.heap.size) :
    Calls Tryz.prog 27 #[v, .int .i64 n, .int .i64 wd] w fun e w' => ∃ v', e = .returned v' ∧ Row w' B v' (xs ++ be n wd) ∧ w.grownBy w' v.ownBlock ∧ At w v v' := by
  obtain ⟨i0, hi, hz0, hz1, hz2⟩ := info_parts info5
  go_enter Tryz.func27, Tryz.ntmps27
  go_wp2
  go_loopw [0, 7] (fun u i wl => ∃ (m : Nat) (ys : List Int), m ≤ wd ∧ i = .int .i64 ((m : Int) - 1) ∧ Hid (ys ++ be n m = xs ++ be n wd) ∧ Row wl B u ys ∧ Hid (w.grownBy wl v.ownBlock ∧ At w v u)) (fun _ i _ => (intOf i + 1).toNat)
  case atStart => exact ⟨wd, xs, Nat.le_refl _, rfl, rfl, hown, grown_refl _ _, .inl rfl⟩
  case round =>
    obtain ⟨m, ys, hm, rfl, HE, hown2, HB⟩ := hrel
    clear hown
    match m, HE with
    | 0, HE =>
      go_wp2
      go_ret
      have hE := HE.out
      simp only [be, List.append_nil] at hE
      subst hE
      exact ⟨_, rfl, hown2, HB.out.1, HB.out.2⟩
    | m + 1, HE =>
      have hl : ys.length ≤ 1000000 := by
        have h1 := congrArg List.length HE.out
        simp only [List.length_append, be_length] at h1
        omega
      have hsz : B ≤ wr.heap.size := Nat.le_trans hB HB.out.1.size
      go_wp2_with (at_builtin; refine wpList_append_own_at _ rfl _ _ 86 rfl B 5 i0 (.int .u8 0) 1 1 Tryz.underlying86 hi hz0 hz1 hz2 rfl (by decide) _ _ _ rfl (World.ownsRow.alloc hown2 _) ⟨wr.heap.size, 0, none⟩ 1 1 [.int .u8 (n / 2 ^ (8 * m) % 256)] rfl rfl (cell_one_new _ _ _) (by intro u hu; simp at hu; subst hu; rfl) (by unfold maxLen; omega) (by omega) (by simp; omega) ?_; intro v' w1 hown' hgrow _ hat)
      have HO : Hid (Row w1 B v' (ys ++ [n / 2 ^ (8 * m) % 256])) := by simpa [Hid, Row] using hown'
      have HB1 : Hid (w.grownBy w1 v.ownBlock ∧ At w v v') := by
        refine ⟨grown_trans HB.out.1 HB.out.2 (grown_alloc hgrow), HB.out.2.trans HB.out.1.size ?_⟩
        rcases hat with h | h
        · exact .inl h
        · exact .inr ⟨_, h, by simp⟩
      clear hown' hgrow hown2 hat
      go_wp2
      go_roundw
      case rel => exact ⟨m, _, by omega, by go_num, by show _ = _; rw [← HE.out]; simp [be], HO.out, HB1⟩
      case measure => simp [intOf]
end Go.Proofs.YtkhlihpghbhppabGreat.Cd

set_option maxRecDepth 100000
namespace Go.Proofs.YtkhlihpghbhppabGreat.Cd
open Go.RowKit

/-- a packet lies in a box -/
def PkAt (w : World) (b : Nat) (k i v n : Int) (s d : Value) : Prop :=
  w.cell? ⟨b, 0, none⟩ = some (.int .i64 k) ∧ w.cell? ⟨b, 1, none⟩ = some (.int .i64 i) ∧ w.cell? ⟨b, 2, none⟩ = some (.int .i64 v) ∧
  w.cell? ⟨b, 3, none⟩ = some (.int .i64 n) ∧ w.cell? ⟨b, 4, none⟩ = some s ∧ w.cell? ⟨b, 5, none⟩ = some d
theorem pkAt_new (w : World) (k i v n : Int) (s d : Value) : PkAt (w.alloc (.cells #[.int .i64 k, .int .i64 i, .int .i64 v, .int .i64 n, s, d] 55)) w.heap.size k i v n s d := by
  unfold PkAt
  simp [World.cell?_alloc_at]
theorem PkAt.later {w w' : World} {B b : Nat} {k i v n : Int} {s d : Value} (h : PkAt w b k i v n s d) (hb : Below B w w') (hB : b < B) : PkAt w' b k i v n s d := by
  obtain ⟨h0, h1, h2, h3, h4, h5⟩ := h
  exact ⟨(hb.cell (p := ⟨b, 0, none⟩) hB).trans h0, (hb.cell (p := ⟨b, 1, none⟩) hB).trans h1, (hb.cell (p := ⟨b, 2, none⟩) hB).trans h2, (hb.cell (p := ⟨b, 3, none⟩) hB).trans h3, (hb.cell (p := ⟨b, 4, none⟩) hB).trans h4, (hb.cell (p := ⟨b, 5, none⟩) hB).trans h5⟩
theorem Row.below {W w w' : World} {B : Nat} {v : Value} {xs : List Int} (h : Row w B v xs) (hb : Below B W w) (hB : B ≤ W.heap.size) (hg : w.grownBy w' v.ownBlock) : Below B W w' :=
  hb.grown hg (Nat.le_trans hB hb.size) (fun k hk => (World.ownsRow.lt h k hk).1)

def encP (p : Int × Int) : List Int := be p.1 1 ++ be p.2 7
def encH (k i v n : Int) (ls : Nat) : List Int := be k 1 ++ be i 6 ++ be v 1 ++ be n 7 ++ be ls 1
def enc (k i v n : Int) (S : List (Int × Int)) (D : List Int) : List Int :=
  encH k i v n S.length ++ S.flatMap encP ++ be D.length 1 ++ D.flatMap (be · 1)
theorem cell_of_heap {w w' : World} {b : Nat} (h : w'.heap[b]? = w.heap[b]?) (o : Nat) : w'.cell? ⟨b, o, none⟩ = w.cell? ⟨b, o, none⟩ := World.cell?_of_block (w := w) (a := ⟨b, o, none⟩) h

theorem Row.conv {w : World} {B : Nat} {v : Value} {E : List Int} (h : Row w B v E) : (convert 86 9 v).run Tryz.prog w = .ok (.string (strOfNums E)) w := by
  rcases h.2 with ⟨rfl, h0⟩ | ⟨g, cap, cur, rfl, hb, hh, hn, hm, hs, ht⟩
  · have : E = [] := List.eq_nil_of_length_eq_zero h0
    subst this
    exact run_convert_bytes_nil (P := Tryz.prog) w 86 5 Tryz.underlying86 Tryz.underlying5 0 0 9 Tryz.underlying9
  · refine run_convert_bytes_arg (P := Tryz.prog) w 86 5 Tryz.underlying86 Tryz.underlying5 g 0 E.length cap E rfl (fun j hj => ?_) 9 Tryz.underlying9
    have h' : w.ownsRow B 5 1 (.slice (some ⟨g, 0, none⟩) E.length cap) E.length (E.map (Value.int .u8)) := h
    rw [Nat.zero_add, h'.cellAt j (by omega)]
    simp [List.getD, hj]
theorem PwsAt.laterB {w w' : World} {B b off : Nat} {l : List (Int × Int)} (h : PwsAt w b off l) (hb : Below B w w') (hB : 0 < l.length → b < B) : PwsAt w' b off l := fun i hi =>
  ⟨(hb.cell (p := ⟨b, off + i * 2, none⟩) (hB (by omega))).trans (h i hi).1, (hb.cell (p := ⟨b, off + i * 2 + 1, none⟩) (hB (by omega))).trans (h i hi).2⟩
theorem IntsAt.laterB {w w' : World} {B b off : Nat} {l : List Int} (h : IntsAt w b off l) (hb : Below B w w') (hB : 0 < l.length → b < B) : IntsAt w' b off l := fun i hi =>
  (hb.cell (p := ⟨b, off + i, none⟩) (hB (by omega))).trans (h i hi)
theorem PwsAt.lt {w : World} {b off : Nat} {l : List (Int × Int)} (h : PwsAt w b off l) (hl : 0 < l.length) : b < w.heap.size := World.block_lt_of_cell? w _ (h 0 hl).1
theorem IntsAt.lt {w : World} {b off : Nat} {l : List Int} (h : IntsAt w b off l) (hl : 0 < l.length) : b < w.heap.size := World.block_lt_of_cell? w _ (h 0 hl)
theorem put_at (B : Nat) (v : Value) (xs : List Int) (n wi : Int) (wd : Nat) (w : World) (hwi : wi = (wd : Int)) (hown : Row w B v xs) (hwd : wd ≤ 7) (hlen : xs.length + wd ≤ 1000000) (hB : B ≤ w.heap.size) :
    Calls Tryz.prog 27 #[v, .int .i64 n, .int .i64 wi] w fun e w' => ∃ v', e = .returned v' ∧ Row w' B v' (xs ++ be n wd) ∧ w.grownBy w' v.ownBlock ∧ At w v v' := by
  subst hwi; exact put_any B v xs n wd w hown hwd hlen hB

end Go.Proofs.YtkhlihpghbhppabGreat.Cd

