/- Parts of the proof: CX DF1 OS1 LO. -/
import Derived.Test.YtkhlihpghbhppaaGreatRows
import Derived.Test.YtkhlihpghbhppaaGreatPjK24
import Derived.Test.YtkhlihpghbhppaaGreatPjK25
import Derived.Test.YtkhlihpghbhppaaGreatPjK36
import Derived.Test.YtkhlihpghbhppaaGreatPjK44
import Derived.Test.YtkhlihpghbhppaaGreatPjK46
import Derived.Deep.DeepCutAuto
import Derived.RegionTactic
import Derived.ChangeAlike
import Derived.WalkKit
import Derived.ProofKit
import Derived.OpenShut
import Derived.Deep.Slices
import Derived.SizedLaws
import Derived.Laws.IdiomArrays
import Derived.SliceStrings
set_option maxRecDepth 100000
namespace Go.Proofs.YtkhlihpghbhppaaGreat.Cd
open Go.RowKit
/-- the bytes of a text, as numbers -/
def bs (s : ByteArray) : List Int := s.data.toList.map fun u => (u.toNat : Int)
/-- the taker lies in a block: what is left, and whether bytes were wanting -/
def TAt (w : World) (b : Nat) (r : ByteArray) (sh : Bool) : Prop := w.heap[b]? = some (.cells #[.string r, .bool sh] 134)
theorem TAt.cells {w : World} {b : Nat} {r : ByteArray} {sh : Bool} (h : TAt w b r sh) : w.cell? ⟨b, 0, none⟩ = some (.string r) ∧ w.cell? ⟨b, 1, none⟩ = some (.bool sh) ∧ w.frozen? ⟨b, 0, none⟩ = false ∧ w.frozen? ⟨b, 1, none⟩ = false := by
  unfold TAt at h
  simp [World.cell?, World.frozen?, h]
theorem grown_set (w : World) (b o : Nat) (v : Value) : w.grownBy (w.setCell ⟨b, o, none⟩ v) (some b) :=
  ⟨rfl, rfl, rfl, by simp [World.setCell], fun k _ hk => Below.heap_setCell _ _ _ _ (fun e => hk (by rw [e]))⟩
theorem grown_then {w w1 w2 : World} {r : Option Nat} (h : w.grownBy w1 r) (k : w1.grownBy w2 r) : w.grownBy w2 r :=
  ⟨k.os.trans h.os, k.tape.trans h.tape, k.output.trans h.output, Nat.le_trans h.size k.size, fun i hi hne => (k.block i (Nat.lt_of_lt_of_le hi h.size) hne).trans (h.block i hi hne)⟩
/-- the next number of m bytes, and what is left behind it -/
def tk (m : Nat) (st : List Int × Bool) : Int × (List Int × Bool) := if st.1.length < m then (0, ([], true)) else (numF 0 (st.1.take m), (st.1.drop m, st.2))
/-- the taker's state lies in a block -/
def TS (w : World) (b : Nat) (st : List Int × Bool) : Prop := ∃ r, TAt w b r st.2 ∧ bs r = st.1 ∧ r.size ≤ maxLen

end Go.Proofs.YtkhlihpghbhppaaGreat.Cd

set_option maxRecDepth 100000
namespace Go.Proofs.YtkhlihpghbhppaaGreat.Df
open Go.RowKit
/-- six numbers in a block -/
def QAt (w : World) (b : Nat) (P : Nat → Int) : Prop := w.heap[b]? = some (.cells #[.int .i64 (P 0), .int .i64 (P 1), .int .i64 (P 2), .int .i64 (P 3), .int .i64 (P 4), .int .i64 (P 5)] 28)
section
variable {w w' : World} {b B : Nat} {P : Nat → Int}
theorem QAt.later (h : QAt w b P) (hb : Below B w w') (hB : b < B) : QAt w' b P := (hb.block b hB).trans h
theorem QAt.new (w : World) (P : Nat → Int) : QAt (w.alloc (.cells #[.int .i64 (P 0), .int .i64 (P 1), .int .i64 (P 2), .int .i64 (P 3), .int .i64 (P 4), .int .i64 (P 5)] 28)) w.heap.size P := heap_alloc_new _ _
theorem QAt.lt (h : QAt w b P) : b < w.heap.size := (Array.getElem?_eq_some_iff.1 h).1
theorem QAt.alloc (h : QAt w b P) (o : Obj) : QAt (w.alloc o) b P := (Below.heap_alloc _ _ _ h.lt).trans h
theorem QAt.facts (h : QAt w b P) : (w.cell? ⟨b, 0, none⟩ = some (.int .i64 (P 0)) ∧ w.cell? ⟨b, 1, none⟩ = some (.int .i64 (P 1)) ∧ w.cell? ⟨b, 2, none⟩ = some (.int .i64 (P 2)) ∧ w.cell? ⟨b, 3, none⟩ = some (.int .i64 (P 3)) ∧ w.cell? ⟨b, 4, none⟩ = some (.int .i64 (P 4)) ∧ w.cell? ⟨b, 5, none⟩ = some (.int .i64 (P 5))) ∧ (∀ k, w.frozen? ⟨b, k, none⟩ = false) := by
  unfold QAt at h
  simp [World.cell?, World.frozen?, h]
theorem QAt.one (h : QAt w b P) {k : Nat} (hk : k < 6) : w.cell? ⟨b, k, none⟩ = some (.int .i64 (P k)) := by
  obtain ⟨⟨h0, h1, h2, h3, h4, h5⟩, -⟩ := h.facts
  rcases (show k = 0 ∨ k = 1 ∨ k = 2 ∨ k = 3 ∨ k = 4 ∨ k = 5 by omega) with rfl | rfl | rfl | rfl | rfl | rfl <;> assumption
theorem QAt.put (h : QAt w b P) {k : Nat} (hk : k < 6) (n : Int) : QAt (w.setCell ⟨b, k, none⟩ (.int .i64 n)) b (putP P ((k : Int), n)) := by
  unfold QAt at *
  simp only [put_at hk]
  rcases (show k = 0 ∨ k = 1 ∨ k = 2 ∨ k = 3 ∨ k = 4 ∨ k = 5 by omega) with rfl | rfl | rfl | rfl | rfl | rfl <;> simp [World.setCell, Array.getElem?_modify, h]
end
theorem grown_set (w : World) (b k : Nat) (u : Value) (o : Obj) : w.grownBy ((w.setCell ⟨b, k, none⟩ u).alloc o).drew (some b) :=
  have h := (Below.refl 0 w).setCell (p := ⟨b, k, none⟩) (Nat.zero_le _) u
  ⟨h.os, h.tape, h.output, by show w.heap.size ≤ ((w.setCell ⟨b, k, none⟩ u).alloc o).heap.size; simp, fun j hj hne => (Below.heap_alloc (w.setCell ⟨b, k, none⟩ u) o j (by simpa using hj)).trans (Below.heap_setCell _ _ _ _ (fun e => hne (by rw [e])))⟩
theorem grown_trans {w w1 w2 : World} {b : Nat} (h : w.grownBy w1 (some b)) (k : w1.grownBy w2 (some b)) : w.grownBy w2 (some b) :=
  ⟨k.os.trans h.os, k.tape.trans h.tape, k.output.trans h.output, Nat.le_trans h.size k.size, fun j hj hne => (k.block j (Nat.lt_of_lt_of_le hj h.size) hne).trans (h.block j hj hne)⟩
set_option maxHeartbeats 1000000 in
theorem put_any (b : Nat) (v n : Int) (P : Nat → Int) (w : World) (h : QAt w b P) :
    Calls Tryz.prog 93 #[.pointer (some ⟨b, 0, none⟩), .agg #[.int .i64 v, .int .i64 n]] w fun e w' => e = .returned (.tuple #[]) ∧ QAt w' b (putP P (v, n)) ∧ w.grownBy w' (some b) := by
  have hV := isVal_any v
  have h1 := h.alloc (.cells #[.int .i64 v, .int .i64 n] 104)
  have hg1 := World.grownBy_alloc w (.cells #[.int .i64 v, .int .i64 n] 104) (some b)
  have hlt := h.lt
  by_cases hv : 0 ≤ v ∧ v < 6
  · obtain ⟨k, rfl⟩ := Int.eq_ofNat_of_zero_le hv.1
    have hk : k < 6 := by omega
    have hkI : (k : Int) < 6 := by omega
    rw [show isV (k : Int) = true from isV_iff.2 hv] at hV
    have hc := h.one hk
    have hf := h.facts.2 k
    have HQ := hide (show _ ∧ _ from ⟨(h.put hk n).alloc (.cells #[.int .i64 (k : Int), .int .i64 n] 104), grown_set w b k (.int .i64 n) (.cells #[.int .i64 (k : Int), .int .i64 n] 104)⟩)
    clear h1 hg1 hv h
    go_enter Tryz.func93, Tryz.ntmps93
    go_upto_region 2 with (go_at_call 149; refine (hV _).mono ?_; rintro e w1 ⟨rfl, rfl⟩)
    go_region
    all_goals go_end0
    all_goals exact ⟨rfl, HQ.out.1, HQ.out.2⟩
  · rw [show isV v = false by simpa [isV] using hv] at hV
    have hp : putP P (v, n) = P := by unfold putP; rw [if_neg hv]
    rw [hp]
    go_enter Tryz.func93, Tryz.ntmps93
    go_wp2_with (go_at_call 149; refine (hV _).mono ?_; rintro e w1 ⟨rfl, rfl⟩)
    go_end0
    exact ⟨rfl, h1, hg1⟩
/-- a list of powers that lies somewhere -/
structure PIn (w : World) (l : List Pw) (ao : Option Addr) (b off : Nat) : Prop where
  len : l.length ≤ 8796093022202
  adr : 0 < l.length → ao = some ⟨b, off, none⟩
  cells : ∀ i, i < l.length → w.cell? ⟨b, off + i * 2, none⟩ = some (.int .i64 (l.getD i (0, 0)).1) ∧ w.cell? ⟨b, off + i * 2 + 1, none⟩ = some (.int .i64 (l.getD i (0, 0)).2)
theorem PIn.ltB {w : World} {l : List Pw} {ao : Option Addr} {b off : Nat} (h : PIn w l ao b off) (h0 : 0 < l.length) : b < w.heap.size := World.block_lt_of_cell? w _ (h.cells 0 h0).1
theorem PIn.later {B : Nat} {w w' : World} {l : List Pw} {ao : Option Addr} {b off : Nat} (h : PIn w l ao b off) (hb : Below B w w') (hB : 0 < l.length → b < B) : PIn w' l ao b off :=
  ⟨h.len, h.adr, fun i hi => ⟨(hb.cell (p := ⟨b, off + i * 2, none⟩) (hB (by omega))).trans (h.cells i hi).1, (hb.cell (p := ⟨b, off + i * 2 + 1, none⟩) (hB (by omega))).trans (h.cells i hi).2⟩⟩
theorem PIn.over {w w' : World} {l : List Pw} {ao : Option Addr} {b off : Nat} (h : PIn w l ao b off) (hb : Below w.heap.size w w') : PIn w' l ao b off := h.later hb h.ltB
/-- six cells of a block, stored one behind the other -/
def set6 (w : World) (b : Nat) (v0 v1 v2 v3 v4 v5 : Value) : World := (((((w.setCell ⟨b, 0, none⟩ v0).setCell ⟨b, 1, none⟩ v1).setCell ⟨b, 2, none⟩ v2).setCell ⟨b, 3, none⟩ v3).setCell ⟨b, 4, none⟩ v4).setCell ⟨b, 5, none⟩ v5
theorem set6_below {B : Nat} {w0 w : World} {b : Nat} (v0 v1 v2 v3 v4 v5 : Value) (h : Below B w0 w) (hB : B ≤ b) : Below B w0 (set6 w b v0 v1 v2 v3 v4 v5) := (((((h.setCell hB _).setCell hB _).setCell hB _).setCell hB _).setCell hB _).setCell hB _
end Go.Proofs.YtkhlihpghbhppaaGreat.Df

set_option maxRecDepth 100000
namespace Go.Proofs.YtkhlihpghbhppaaGreat
open Go.ChangeShapes Go.WideShapes Go.ChangeAt Go.RowKit Go.Deep
theorem chunks {α : Type} (k : Nat) : ∀ (n : Nat) (l : List α), l.length = n * k → l = (List.range n).flatMap fun i => (l.drop (i * k)).take k
  | 0, l, h => by simp at h; subst h; rfl
  | n + 1, l, h => by
    rw [List.range_succ, List.flatMap_append]
    have hm : (n + 1) * k = n * k + k := Nat.succ_mul n k
    have h1 := chunks k n (l.take (n * k)) (by rw [List.length_take]; omega)
    have h2 : ((List.range n).flatMap fun i => ((l.take (n * k)).drop (i * k)).take k) = (List.range n).flatMap fun i => (l.drop (i * k)).take k := by
      refine flatMap_congr_range fun i hi => ?_
      have hik : i * k + k ≤ n * k := by rw [← Nat.succ_mul]; exact Nat.mul_le_mul_right k hi
      rw [List.drop_take, List.take_take, Nat.min_eq_left (by omega)]
    rw [← h2, ← h1]
    simp only [List.flatMap_cons, List.flatMap_nil, List.append_nil]
    rw [List.take_of_length_le (l := l.drop (n * k)) (by rw [List.length_drop]; omega), List.take_append_drop]
theorem pick_all {β : Type} {p : Nat → β → Prop} (d : β) {n : Nat} (h : ∀ i, i < n → ∃ y, p i y) : ∃ f : Nat → β, ∀ i, i < n → p i (f i) := by
  refine ⟨fun i => if hi : i < n then Classical.choose (h i hi) else d, fun i hi => ?_⟩
  simp only [dif_pos hi]
  exact Classical.choose_spec (h i hi)
section
variable {H : Type} {enc : TypeId × Value → H} {W : World}
theorem open_arr {β : Type} (d : β) (f : β → List Value) {t e : TypeId} {n fuel : Nat} {cs : List Value} {x : DataW H × List MemPlace} (ht : Tryz.prog.underlying t = some (.array n e)) (hc : Tryz.prog.cellsOf t = n * Tryz.prog.cellsOf e)
    (h : DataW.trod enc Tryz.prog W 0 (fun _ => true) true fuel t cs = some x)
    (he : ∀ {m : Nat} {l : List Value} {y : DataW H × List MemPlace}, DataW.trod enc Tryz.prog W 0 (fun _ => true) true m e l = some y → ∃ b, l = f b) : ∃ g : Nat → β, cs = (List.range n).flatMap fun i => f (g i) := by
  obtain ⟨xs, m, _, _, hl, hxl, hx⟩ := DataW.trod_array ht h
  obtain ⟨g, hg⟩ := pick_all (n := n) (p := fun i b => (cs.drop (i * Tryz.prog.cellsOf e)).take (Tryz.prog.cellsOf e) = f b) d (fun i hi => by
    have := hx i hi
    rw [List.getElem?_eq_getElem (by omega)] at this
    exact he this)
  refine ⟨g, ?_⟩
  rw [chunks (Tryz.prog.cellsOf e) n cs (by rw [hl, hc])]
  exact flatMap_congr_range hg
theorem open_i {m : Nat} {l : List Value} {y : DataW H × List MemPlace} (h : DataW.trod enc Tryz.prog W 0 (fun _ => true) true m 3 l = some y) : ∃ b : Int, l = [.int .i64 b] := by
  obtain ⟨q, e, _⟩ := DataW.trod_int Tryz.underlying3 h
  exact ⟨q, e⟩
theorem open_t {m : Nat} {l : List Value} {y : DataW H × List MemPlace} (h : DataW.trod enc Tryz.prog W 0 (fun _ => true) true m 4 l = some y) : ∃ b : Bool, l = [.bool b] := by
  obtain ⟨q, e, _⟩ := DataW.trod_bool Tryz.underlying4 h
  exact ⟨q, e⟩
theorem cI : Tryz.prog.cellsOf 3 = 1 := by kernel_rfl
theorem cT : Tryz.prog.cellsOf 4 = 1 := by kernel_rfl
theorem cA : Tryz.prog.cellsOf 22 = 4 := by kernel_rfl
theorem cB : Tryz.prog.cellsOf 24 = 7 := by kernel_rfl
theorem cV : Tryz.prog.cellsOf 26 = 5 := by kernel_rfl
theorem cVs : Tryz.prog.cellsOf 27 = 30 := by kernel_rfl
theorem cRow : Tryz.prog.cellsOf 28 = 6 := by kernel_rfl
theorem cSh : Tryz.prog.cellsOf 29 = 24 := by kernel_rfl
theorem cWs : Tryz.prog.cellsOf 30 = 1 := by kernel_rfl
theorem cS : Tryz.prog.cellsOf 32 = 63 := by kernel_rfl
theorem cW : Tryz.prog.cellsOf 98 = 8 := by kernel_rfl
theorem cH : Tryz.prog.cellsOf 96 = 2 := by kernel_rfl
theorem open_row {m : Nat} {l : List Value} {y : DataW H × List MemPlace} (h : DataW.trod enc Tryz.prog W 0 (fun _ => true) true m 28 l = some y) : ∃ r : Nat → Int, l = (rowC r).toList := by
  obtain ⟨g, rfl⟩ := open_arr 0 (fun b : Int => [.int .i64 b]) Tryz.underlying28 (by rw [cRow, cI]) h open_i
  exact ⟨g, rfl⟩
theorem open_shs {m : Nat} {l : List Value} {y : DataW H × List MemPlace} (h : DataW.trod enc Tryz.prog W 0 (fun _ => true) true m 29 l = some y) : ∃ S : Nat → Nat → Int, l = (shC S).toList := by
  obtain ⟨g, rfl⟩ := open_arr (fun _ => 0) (fun r : Nat → Int => (rowC r).toList) Tryz.underlying29 (by rw [cSh, cRow]) h open_row
  exact ⟨g, rfl⟩
theorem open_hs {m : Nat} {l : List Value} {y : DataW H × List MemPlace} (h : DataW.trod enc Tryz.prog W 0 (fun _ => true) true m 96 l = some y) : ∃ a b : Int, l = [.int .i64 a, .int .i64 b] := by
  obtain ⟨g, rfl⟩ := open_arr 0 (fun b : Int => [.int .i64 b]) Tryz.underlying96 (by rw [cH, cI]) h open_i
  exact ⟨g 0, g 1, rfl⟩
theorem open_fr {m : Nat} {l : List Value} {y : DataW H × List MemPlace} (h : DataW.trod enc Tryz.prog W 0 (fun _ => true) true m 22 l = some y) : ∃ g : Nat → Int, l = [.int .i64 (g 0), .int .i64 (g 1), .int .i64 (g 2), .int .i64 (g 3)] := by
  obtain ⟨g, rfl⟩ := open_arr 0 (fun b : Int => [.int .i64 b]) Tryz.underlying22 (by rw [cA, cI]) h open_i
  exact ⟨g, rfl⟩
theorem parts {α : Type} {l : List α} {o n : Nat} : l.drop o = (l.drop o).take n ++ l.drop (o + n) := by
  rw [← List.drop_drop, List.take_append_drop]
theorem open_vd {m : Nat} {l : List Value} {y : DataW H × List MemPlace} (h : DataW.trod enc Tryz.prog W 0 (fun _ => true) true m 26 l = some y) : ∃ x : Vd, l = (vdC x).toList := by
  obtain ⟨xs, n, _, _, hl, hxl, hx⟩ := DataW.trod_struct Tryz.underlying26 h
  rw [cV] at hl
  match l, hl with
  | [a0, a1, a2, a3, a4], _ =>
    match xs, hxl with
    | [y0, y1, y2, y3, y4], _ =>
      have t0 := hx 0 _ rfl
      have t1 := hx 1 _ rfl
      have t2 := hx 2 _ rfl
      have t3 := hx 3 _ rfl
      have t4 := hx 4 _ rfl
      simp [cI, cT] at t0 t1 t2 t3 t4
      obtain ⟨q0, e0⟩ := open_i t0
      obtain ⟨q1, e1⟩ := open_i t1
      obtain ⟨q2, e2⟩ := open_i t2
      obtain ⟨q3, e3⟩ := open_t t3
      obtain ⟨q4, e4⟩ := open_t t4
      simp at e0 e1 e2 e3 e4
      subst e0 e1 e2 e3 e4
      exact ⟨⟨q0, q1, q2, q3, q4⟩, rfl⟩
theorem open_vds {m : Nat} {l : List Value} {y : DataW H × List MemPlace} (h : DataW.trod enc Tryz.prog W 0 (fun _ => true) true m 27 l = some y) : ∃ V : Nat → Vd, l = (vsC V).toList := by
  obtain ⟨g, rfl⟩ := open_arr ⟨0, 0, 0, false, false⟩ (fun x : Vd => (vdC x).toList) Tryz.underlying27 (by rw [cVs, cV]) h open_vd
  exact ⟨g, rfl⟩
theorem open_bk {m : Nat} {l : List Value} {y : DataW H × List MemPlace} (h : DataW.trod enc Tryz.prog W 0 (fun _ => true) true m 24 l = some y) : ∃ b : Bk, l = (bkC b).toList := by
  obtain ⟨xs, n, _, _, hl, hxl, hx⟩ := DataW.trod_struct Tryz.underlying24 h
  rw [cB] at hl
  match l, hl with
  | [a0, a1, a2, a3, a4, a5, a6], _ =>
    match xs, hxl with
    | [y0, y1, y2, y3], _ =>
      have t0 := hx 0 _ rfl
      have t1 := hx 1 _ rfl
      have t2 := hx 2 _ rfl
      have t3 := hx 3 _ rfl
      simp [cI, cA] at t0 t1 t2 t3
      obtain ⟨g, e0⟩ := open_fr t0
      obtain ⟨q1, e1⟩ := open_i t1
      obtain ⟨q2, e2⟩ := open_i t2
      obtain ⟨q3, e3⟩ := open_i t3
      simp at e0 e1 e2 e3
      obtain ⟨e01, e02, e03, e04⟩ := e0
      subst e01 e02 e03 e04 e1 e2 e3
      exact ⟨⟨g 0, g 1, g 2, g 3, q1, q2, q3⟩, rfl⟩
theorem open_wt {m : Nat} {l : List Value} {y : DataW H × List MemPlace} (h : DataW.trod enc Tryz.prog W 0 (fun _ => true) true m 98 l = some y) : ∃ x : Wt, l = (wtC x).toList := by
  obtain ⟨xs, n, _, _, hl, hxl, hx⟩ := DataW.trod_struct Tryz.underlying98 h
  rw [cW] at hl
  match l, hl with
  | [a0, a1, a2, a3, a4, a5, a6, a7], _ =>
    match xs, hxl with
    | [y0, y1, y2, y3, y4, y5, y6], _ =>
      have t0 := hx 0 _ rfl
      have t1 := hx 1 _ rfl
      have t2 := hx 2 _ rfl
      have t3 := hx 3 _ rfl
      have t4 := hx 4 _ rfl
      have t5 := hx 5 _ rfl
      have t6 := hx 6 _ rfl
      simp [cI, cH] at t0 t1 t2 t3 t4 t5 t6
      obtain ⟨q0, e0⟩ := open_i t0
      obtain ⟨q1, e1⟩ := open_i t1
      obtain ⟨q2, e2⟩ := open_i t2
      obtain ⟨q3, e3⟩ := open_i t3
      obtain ⟨q4, e4⟩ := open_i t4
      obtain ⟨q5, e5⟩ := open_i t5
      obtain ⟨q6, q7, e6⟩ := open_hs t6
      simp at e0 e1 e2 e3 e4 e5 e6
      obtain ⟨e6, e7⟩ := e6
      subst e0 e1 e2 e3 e4 e5 e6 e7
      exact ⟨⟨q0, q1, q2, q3, q4, q5, q6, q7⟩, rfl⟩
theorem bytesW : Tryz.prog.bytesOf 98 = 64 := by kernel_rfl
theorem open_num {r : Reach} {b0 : Nat} {v : Value} {d : DataW H} {p : List MemPlace} (hv : Value.okWide Tryz.prog W r b0 3 v) (h : DataW.Trod enc Tryz.prog W 0 (fun _ => true) true 3 v d p) : ∃ n : Int, v = .int .i64 n := by
  obtain ⟨n, e, _⟩ := open_int Tryz.underlying3 hv h
  exact ⟨n, e⟩
end
end Go.Proofs.YtkhlihpghbhppaaGreat

set_option maxRecDepth 100000
namespace Go.Proofs.YtkhlihpghbhppaaGreat.Ln
open Go.ChangeShapes Go.WideShapes Go.ChangeAt Go.RowKit Go.Deep
theorem cI : Tryz.prog.cellsOf 3 = 1 := by kernel_rfl
theorem cT : Tryz.prog.cellsOf 4 = 1 := by kernel_rfl
theorem cStr : Tryz.prog.cellsOf 9 = 1 := by kernel_rfl
theorem cStrs : Tryz.prog.cellsOf 35 = 1 := by kernel_rfl
theorem cIs : Tryz.prog.cellsOf 34 = 1 := by kernel_rfl
theorem cLn : Tryz.prog.cellsOf 37 = 4 := by kernel_rfl
section
variable {H : Type} {enc : TypeId × Value → H} {W : World}
theorem open_num {r : Reach} {b0 : Nat} {v : Value} {d : DataW H} {p : List MemPlace} (hv : Value.okWide Tryz.prog W r b0 3 v) (h : DataW.Trod enc Tryz.prog W 0 (fun _ => true) true 3 v d p) : ∃ n : Int, v = .int .i64 n := by
  obtain ⟨n, e, _⟩ := open_int Tryz.underlying3 hv h
  exact ⟨n, e⟩
end
end Go.Proofs.YtkhlihpghbhppaaGreat.Ln

