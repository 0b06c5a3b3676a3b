/- Parts of the proof: DF1. -/
import Derived.Test.YtdkalcnlncjgiaaRows
import Derived.Test.YtdkalcnlncjgiaaBK9
import Derived.Test.YtdkalcnlncjgiaaBK11
import Derived.Test.YtdkalcnlncjgiaaBK53
import Derived.Deep.DeepCutAuto
import Derived.RegionTactic
import Derived.ChangeAlike
set_option maxRecDepth 100000
namespace Go.Proofs.Ytdkalcnlncjgiaa.Df
open Go.RowKit
/-- six numbers in a block -/
def QAt (w : World) (b : Nat) (P : Nat → Int) : Prop := w.heap[b]? = some (.cells #[.int .i64 (P 0), .int .i64 (P 1), .int .i64 (P 2), .int .i64 (P 3), .int .i64 (P 4), .int .i64 (P 5)] 68)
section
variable {w w' : World} {b B : Nat} {P : Nat → Int}
theorem QAt.later (h : QAt w b P) (hb : Below B w w') (hB : b < B) : QAt w' b P := (hb.block b hB).trans h
theorem QAt.new (w : World) (P : Nat → Int) : QAt (w.alloc (.cells #[.int .i64 (P 0), .int .i64 (P 1), .int .i64 (P 2), .int .i64 (P 3), .int .i64 (P 4), .int .i64 (P 5)] 68)) w.heap.size P := heap_alloc_new _ _
theorem QAt.lt (h : QAt w b P) : b < w.heap.size := (Array.getElem?_eq_some_iff.1 h).1
theorem QAt.alloc (h : QAt w b P) (o : Obj) : QAt (w.alloc o) b P := (Below.heap_alloc _ _ _ h.lt).trans h
theorem QAt.facts (h : QAt w b P) : (w.cell? ⟨b, 0, none⟩ = some (.int .i64 (P 0)) ∧ w.cell? ⟨b, 1, none⟩ = some (.int .i64 (P 1)) ∧ w.cell? ⟨b, 2, none⟩ = some (.int .i64 (P 2)) ∧ w.cell? ⟨b, 3, none⟩ = some (.int .i64 (P 3)) ∧ w.cell? ⟨b, 4, none⟩ = some (.int .i64 (P 4)) ∧ w.cell? ⟨b, 5, none⟩ = some (.int .i64 (P 5))) ∧ (∀ k, w.frozen? ⟨b, k, none⟩ = false) := by
  unfold QAt at h
  simp [World.cell?, World.frozen?, h]
theorem QAt.one (h : QAt w b P) {k : Nat} (hk : k < 6) : w.cell? ⟨b, k, none⟩ = some (.int .i64 (P k)) := by
  obtain ⟨⟨h0, h1, h2, h3, h4, h5⟩, -⟩ := h.facts
  rcases (show k = 0 ∨ k = 1 ∨ k = 2 ∨ k = 3 ∨ k = 4 ∨ k = 5 by omega) with rfl | rfl | rfl | rfl | rfl | rfl <;> assumption
theorem QAt.put (h : QAt w b P) {k : Nat} (hk : k < 6) (n : Int) : QAt (w.setCell ⟨b, k, none⟩ (.int .i64 n)) b (putP P ((k : Int), n)) := by
  unfold QAt at *
  simp only [put_at hk]
  rcases (show k = 0 ∨ k = 1 ∨ k = 2 ∨ k = 3 ∨ k = 4 ∨ k = 5 by omega) with rfl | rfl | rfl | rfl | rfl | rfl <;> simp [World.setCell, Array.getElem?_modify, h]
end
theorem grown_set (w : World) (b k : Nat) (u : Value) (o : Obj) : w.grownBy ((w.setCell ⟨b, k, none⟩ u).alloc o).drew (some b) :=
  have h := (Below.refl 0 w).setCell (p := ⟨b, k, none⟩) (Nat.zero_le _) u
  ⟨h.os, h.tape, h.output, by show w.heap.size ≤ ((w.setCell ⟨b, k, none⟩ u).alloc o).heap.size; simp, fun j hj hne => (Below.heap_alloc (w.setCell ⟨b, k, none⟩ u) o j (by simpa using hj)).trans (Below.heap_setCell _ _ _ _ (fun e => hne (by rw [e])))⟩
theorem grown_trans {w w1 w2 : World} {b : Nat} (h : w.grownBy w1 (some b)) (k : w1.grownBy w2 (some b)) : w.grownBy w2 (some b) :=
  ⟨k.os.trans h.os, k.tape.trans h.tape, k.output.trans h.output, Nat.le_trans h.size k.size, fun j hj hne => (k.block j (Nat.lt_of_lt_of_le hj h.size) hne).trans (h.block j hj hne)⟩
theorem grown_below {w w1 : World} {b : Nat} (h : w.grownBy w1 (some b)) {B : Nat} (hB : B ≤ b) (hz : B ≤ w.heap.size) : Below B w w1 := (Below.refl B w).grown h hz (fun k hk => by cases hk; exact hB)
set_option maxHeartbeats 1000000 in
theorem put_any (b : Nat) (v n : Int) (P : Nat → Int) (w : World) (h : QAt w b P) :
    Calls Try.prog 50 #[.pointer (some ⟨b, 0, none⟩), .agg #[.int .i64 v, .int .i64 n]] w fun e w' => e = .returned (.tuple #[]) ∧ QAt w' b (putP P (v, n)) ∧ w.grownBy w' (some b) := by
  have hV := isVal_any v
  have h1 := h.alloc (.cells #[.int .i64 v, .int .i64 n] 64)
  have hg1 := World.grownBy_alloc w (.cells #[.int .i64 v, .int .i64 n] 64) (some b)
  have hlt := h.lt
  by_cases hv : 0 ≤ v ∧ v < 6
  · obtain ⟨k, rfl⟩ := Int.eq_ofNat_of_zero_le hv.1
    have hk : k < 6 := by omega
    have hkI : (k : Int) < 6 := by omega
    rw [show isV (k : Int) = true from isV_iff.2 hv] at hV
    have hc := h.one hk
    have hf := h.facts.2 k
    have HQ := hide (show _ ∧ _ from ⟨(h.put hk n).alloc (.cells #[.int .i64 (k : Int), .int .i64 n] 64), grown_set w b k (.int .i64 n) (.cells #[.int .i64 (k : Int), .int .i64 n] 64)⟩)
    clear h1 hg1 hv h
    go_enter Try.func50, Try.ntmps50
    go_upto_region 2 with (go_at_call 57; refine (hV _).mono ?_; rintro e w1 ⟨rfl, rfl⟩)
    go_region
    all_goals go_end0
    all_goals exact ⟨rfl, HQ.out.1, HQ.out.2⟩
  · rw [show isV v = false by simpa [isV] using hv] at hV
    have hp : putP P (v, n) = P := by unfold putP; rw [if_neg hv]
    rw [hp]
    go_enter Try.func50, Try.ntmps50
    go_wp2_with (go_at_call 57; refine (hV _).mono ?_; rintro e w1 ⟨rfl, rfl⟩)
    go_end0
    exact ⟨rfl, h1, hg1⟩
/-- a list of powers that lies somewhere -/
structure PIn (w : World) (l : List Pw) (ao : Option Addr) (b off : Nat) : Prop where
  len : l.length ≤ 8796093022202
  adr : 0 < l.length → ao = some ⟨b, off, none⟩
  cells : ∀ i, i < l.length → w.cell? ⟨b, off + i * 2, none⟩ = some (.int .i64 (l.getD i (0, 0)).1) ∧ w.cell? ⟨b, off + i * 2 + 1, none⟩ = some (.int .i64 (l.getD i (0, 0)).2)
theorem PIn.ltB {w : World} {l : List Pw} {ao : Option Addr} {b off : Nat} (h : PIn w l ao b off) (h0 : 0 < l.length) : b < w.heap.size := World.block_lt_of_cell? w _ (h.cells 0 h0).1
theorem PIn.later {B : Nat} {w w' : World} {l : List Pw} {ao : Option Addr} {b off : Nat} (h : PIn w l ao b off) (hb : Below B w w') (hB : 0 < l.length → b < B) : PIn w' l ao b off :=
  ⟨h.len, h.adr, fun i hi => ⟨(hb.cell (p := ⟨b, off + i * 2, none⟩) (hB (by omega))).trans (h.cells i hi).1, (hb.cell (p := ⟨b, off + i * 2 + 1, none⟩) (hB (by omega))).trans (h.cells i hi).2⟩⟩
theorem PIn.over {w w' : World} {l : List Pw} {ao : Option Addr} {b off : Nat} (h : PIn w l ao b off) (hb : Below w.heap.size w w') : PIn w' l ao b off := h.later hb h.ltB
/-- six cells of a block, stored one behind the other -/
def set6 (w : World) (b : Nat) (v0 v1 v2 v3 v4 v5 : Value) : World := (((((w.setCell ⟨b, 0, none⟩ v0).setCell ⟨b, 1, none⟩ v1).setCell ⟨b, 2, none⟩ v2).setCell ⟨b, 3, none⟩ v3).setCell ⟨b, 4, none⟩ v4).setCell ⟨b, 5, none⟩ v5
theorem set6_at {w : World} {b : Nat} {R : Nat → Int} (h : QAt w b R) (P : Nat → Int) : QAt (set6 w b (.int .i64 (P 0)) (.int .i64 (P 1)) (.int .i64 (P 2)) (.int .i64 (P 3)) (.int .i64 (P 4)) (.int .i64 (P 5))) b P := by
  unfold QAt set6 at *
  simp [World.setCell, Array.getElem?_modify, h]
theorem set6_below {B : Nat} {w0 w : World} {b : Nat} (v0 v1 v2 v3 v4 v5 : Value) (h : Below B w0 w) (hB : B ≤ b) : Below B w0 (set6 w b v0 v1 v2 v3 v4 v5) := (((((h.setCell hB _).setCell hB _).setCell hB _).setCell hB _).setCell hB _).setCell hB _
end Go.Proofs.Ytdkalcnlncjgiaa.Df

