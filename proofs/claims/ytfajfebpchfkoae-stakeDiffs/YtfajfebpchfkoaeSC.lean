/- A stake's 63 cells in a block. -/
import Derived.Test.YtfajfebpchfkoaeSB
import Derived.Deep.MidRow
import Derived.Deep.DeepCutAuto
set_option maxRecDepth 100000
namespace Go.Proofs.Ytfajfebpchfkoae
open Go.RowKit
theorem infoS : (Try.prog.info? 43).map (·.size) = some 63 := by kernel_rfl
/-- 63 cells of a stake lie in a block -/
def SAt (w : World) (b : Nat) (cs : Array Value) : Prop := w.heap[b]? = some (.cells cs 43)
theorem SAt.new (w : World) (cs : Array Value) : SAt (w.alloc (.cells cs 43)) w.heap.size cs := heap_alloc_new _ _
theorem SAt.new2 (w : World) (o : Obj) (cs : Array Value) : SAt ((w.alloc o).alloc (.cells cs 43)) (w.heap.size + 1) cs := by
  have h : SAt ((w.alloc o).alloc (.cells cs 43)) (w.alloc o).heap.size cs := SAt.new (w.alloc o) cs
  rwa [show (w.alloc o).heap.size = w.heap.size + 1 by simp] at h
theorem SAt.later {w w' : World} {b B : Nat} {cs : Array Value} (h : SAt w b cs) (hb : Below B w w') (hB : b < B) : SAt w' b cs := (hb.block b hB).trans h
theorem SAt.alloc {w : World} {b : Nat} {cs : Array Value} (h : SAt w b cs) (o : Obj) : SAt (w.alloc o) b cs := (Below.heap_alloc _ _ _ (Array.getElem?_eq_some_iff.1 h).1).trans h
theorem SAt.lt {w : World} {b : Nat} {cs : Array Value} (h : SAt w b cs) : b < w.heap.size := (Array.getElem?_eq_some_iff.1 h).1
theorem SAt.other {w : World} {b c o : Nat} {cs : Array Value} (h : SAt w b cs) (hb : b ≠ c) (v : Value) : SAt (w.setCell ⟨c, o, none⟩ v) b cs := (Below.heap_setCell _ _ _ _ hb).trans h
theorem SAt.cell {w : World} {b : Nat} {cs : Array Value} (h : SAt w b cs) (o : Nat) : w.cell? ⟨b, o, none⟩ = cs[o]? := by
  unfold SAt at h
  simp [World.cell?, h]
theorem SAt.free {w : World} {b : Nat} {cs : Array Value} (h : SAt w b cs) (o : Nat) : w.frozen? ⟨b, o, none⟩ = false := by
  unfold SAt at h
  simp [World.frozen?, h]
theorem SAt.set {w : World} {b : Nat} {cs : Array Value} (h : SAt w b cs) (o : Nat) (v : Value) : SAt (w.setCell ⟨b, o, none⟩ v) b (cs.setIfInBounds o v) := by
  unfold SAt at *
  simp [World.setCell, Array.getElem?_modify, h]
theorem SAt.range {w : World} {b : Nat} {cs : Array Value} (h : SAt w b cs) : w.rangeAt b 0 cs.toList := by
  intro j v hv
  rw [Nat.zero_add, h.cell]
  simpa using hv
theorem SAt.there {w : World} {b : Nat} {cs : Array Value} (h : SAt w b cs) (o n : Nat) (hn : o + n ≤ cs.size) : w.there b o n := by
  intro j hj
  rw [h.cell, h.free]
  have : o + j < cs.size := by omega
  simp [this]
/-- cells with others in their place, from a place on -/
def spl (cs : Array Value) : Nat → List Value → Array Value
  | _, [] => cs
  | o, v :: r => spl (cs.setIfInBounds o v) (o + 1) r
theorem spl_size : ∀ (vs : List Value) (cs : Array Value) (o : Nat), (spl cs o vs).size = cs.size
  | [], _, _ => rfl
  | v :: r, cs, o => by rw [spl, spl_size r]; simp
theorem spl_get : ∀ (vs : List Value) (cs : Array Value) (o i : Nat), o + vs.length ≤ cs.size → (spl cs o vs)[i]? = if o ≤ i ∧ i < o + vs.length then vs[i - o]? else cs[i]?
  | [], cs, o, i, _ => by simp [spl]; intro h1 h2; omega
  | v :: r, cs, o, i, h => by
    simp only [List.length_cons] at h
    rw [spl, spl_get r _ (o + 1) i (by simp; omega)]
    by_cases e : i = o
    · subst e
      have : i < cs.size := by omega
      simp [this]
      intro h1
      omega
    · by_cases h1 : o + 1 ≤ i ∧ i < o + 1 + r.length
      · rw [if_pos h1, if_pos ⟨by omega, by simp; omega⟩]
        obtain ⟨j, rfl⟩ : ∃ j, i = o + 1 + j := ⟨i - (o + 1), by omega⟩
        rw [show o + 1 + j - (o + 1) = j by omega, show o + 1 + j - o = j + 1 by omega]
        simp
      · rw [if_neg h1, if_neg (by simp; omega), Array.getElem?_setIfInBounds_ne (by omega)]
theorem spl_all {cs ds : Array Value} (h : ds.size = cs.size) : spl cs 0 ds.toList = ds := by
  apply Array.ext_getElem?
  intro i
  rw [spl_get _ _ _ _ (by simp; omega)]
  by_cases hi : i < ds.size
  · rw [if_pos ⟨by omega, by simp; omega⟩]; simp
  · rw [if_neg (by simp; omega), Array.getElem?_eq_none (by omega), Array.getElem?_eq_none (by omega)]
theorem SAt.sets {b : Nat} : ∀ (vs : List Value) (o : Nat) (w : World) (cs : Array Value), SAt w b cs → SAt (w.setCells b o vs) b (spl cs o vs)
  | [], _, _, _, h => h
  | v :: r, o, _, _, h => SAt.sets r (o + 1) _ _ (h.set o v)
theorem SAt.setAll {w : World} {b : Nat} {cs ds : Array Value} (h : SAt w b cs) (hd : ds.size = cs.size) : SAt (w.setCells b 0 ds.toList) b ds := by
  have := SAt.sets ds.toList 0 w cs h
  rwa [spl_all hd] at this
theorem below_sets {B b : Nat} {a : World} (hB : B ≤ b) : ∀ (vs : List Value) (o : Nat) (w : World), Below B a w → Below B a (w.setCells b o vs)
  | [], _, _, h => h
  | v :: r, o, _, h => below_sets hB r (o + 1) _ (h.setCell hB v)
theorem heap_sets {b k : Nat} (hk : k ≠ b) : ∀ (vs : List Value) (o : Nat) (w : World), (w.setCells b o vs).heap[k]? = w.heap[k]?
  | [], _, _ => rfl
  | _ :: r, o, _ => (heap_sets hk r (o + 1) _).trans (Below.heap_setCell _ _ _ _ hk)
theorem SAt.load {w : World} {b : Nat} {cs : Array Value} (h : SAt w b cs) (hs : cs.size = 63) : (Instr.loadAt 43 (.pointer (some ⟨b, 0, none⟩))).run Try.prog w = .ok (.agg cs) w := by
  have := run_loadAt_mid (P := Try.prog) w b 0 43 cs.toList _ h.range Try.underlying43 rfl (by rw [infoS]; simp [hs])
  simpa using this
def Z63 : Array Value := #[.int .i64 0, .int .i64 0, .int .i64 0, .int .i64 0, .int .i64 0, .int .i64 0, .int .i64 0, .int .i64 0, .int .i64 0, .int .i64 0, .bool false, .bool false, .int .i64 0, .int .i64 0, .int .i64 0, .bool false, .bool false, .int .i64 0, .int .i64 0, .int .i64 0, .bool false, .bool false, .int .i64 0, .int .i64 0, .int .i64 0, .bool false, .bool false, .int .i64 0, .int .i64 0, .int .i64 0, .bool false, .bool false, .int .i64 0, .int .i64 0, .int .i64 0, .bool false, .bool false, .int .i64 0, .int .i64 0, .int .i64 0, .int .i64 0, .int .i64 0, .int .i64 0, .int .i64 0, .int .i64 0, .int .i64 0, .int .i64 0, .int .i64 0, .int .i64 0, .int .i64 0, .int .i64 0, .int .i64 0, .int .i64 0, .int .i64 0, .int .i64 0, .int .i64 0, .int .i64 0, .int .i64 0, .int .i64 0, .int .i64 0, .int .i64 0, .slice none 0 0, .int .i64 0]
theorem all_set {cs : Array Value} {i : Nat} {v : Value} (h : cs.all (·.oneCell') = true) (hv : v.oneCell' = true) : (cs.setIfInBounds i v).all (·.oneCell') = true := by
  rw [Array.all_eq_true_iff_forall_mem] at *
  intro x hx
  rcases Array.mem_or_eq_of_mem_setIfInBounds hx with h' | rfl
  · exact h x h'
  · exact hv
def vdC (x : Vd) : Array Value := #[.int .i64 (x).tok, .int .i64 (x).sh, .int .i64 (x).lost, .bool (x).jail, .bool (x).dead]
def vsC (V : Nat → Vd) : Array Value := #[.int .i64 (V 0).tok, .int .i64 (V 0).sh, .int .i64 (V 0).lost, .bool (V 0).jail, .bool (V 0).dead, .int .i64 (V 1).tok, .int .i64 (V 1).sh, .int .i64 (V 1).lost, .bool (V 1).jail, .bool (V 1).dead, .int .i64 (V 2).tok, .int .i64 (V 2).sh, .int .i64 (V 2).lost, .bool (V 2).jail, .bool (V 2).dead, .int .i64 (V 3).tok, .int .i64 (V 3).sh, .int .i64 (V 3).lost, .bool (V 3).jail, .bool (V 3).dead, .int .i64 (V 4).tok, .int .i64 (V 4).sh, .int .i64 (V 4).lost, .bool (V 4).jail, .bool (V 4).dead, .int .i64 (V 5).tok, .int .i64 (V 5).sh, .int .i64 (V 5).lost, .bool (V 5).jail, .bool (V 5).dead]
def rowC (r : Nat → Int) : Array Value := #[.int .i64 (r 0), .int .i64 (r 1), .int .i64 (r 2), .int .i64 (r 3), .int .i64 (r 4), .int .i64 (r 5)]
def shC (S : Nat → Nat → Int) : Array Value := #[.int .i64 (S 0 0), .int .i64 (S 0 1), .int .i64 (S 0 2), .int .i64 (S 0 3), .int .i64 (S 0 4), .int .i64 (S 0 5), .int .i64 (S 1 0), .int .i64 (S 1 1), .int .i64 (S 1 2), .int .i64 (S 1 3), .int .i64 (S 1 4), .int .i64 (S 1 5), .int .i64 (S 2 0), .int .i64 (S 2 1), .int .i64 (S 2 2), .int .i64 (S 2 3), .int .i64 (S 2 4), .int .i64 (S 2 5), .int .i64 (S 3 0), .int .i64 (S 3 1), .int .i64 (S 3 2), .int .i64 (S 3 3), .int .i64 (S 3 4), .int .i64 (S 3 5)]
def bkC (b : Bk) : Array Value := #[.int .i64 b.f0, .int .i64 b.f1, .int .i64 b.f2, .int .i64 b.f3, .int .i64 b.bo, .int .i64 b.wa, .int .i64 b.bu]
def stL (b : Bk) (V : Nat → Vd) (S : Nat → Nat → Int) (sl : Value) (next : Int) : List Value := (bkC b).toList ++ ((vsC V).toList ++ ((shC S).toList ++ [sl, .int .i64 next]))
def stC (s : St) (sl : Value) : Array Value := (stL s.b s.V s.S sl s.next).toArray
theorem stC_size (s : St) (sl : Value) : (stC s sl).size = 63 := rfl
theorem st_bank {w : World} {b : Nat} {s : St} {sl : Value} (h : SAt w b (stC s sl)) : w.rangeAt b 0 (bkC s.b).toList := by
  intro j v hv
  have hj : j < 7 := (List.getElem?_eq_some_iff.1 hv).1
  rw [h.cell, Nat.zero_add]
  simp only [stC, stL, List.getElem?_toArray]
  rw [List.getElem?_append_left (show j < (bkC s.b).toList.length from hj)]
  exact hv
theorem st_vals {w : World} {b : Nat} {s : St} {sl : Value} (h : SAt w b (stC s sl)) : w.rangeAt b 7 (vsC s.V).toList := by
  intro j v hv
  have hj : j < 30 := (List.getElem?_eq_some_iff.1 hv).1
  rw [h.cell]
  simp only [stC, stL, List.getElem?_toArray]
  rw [List.getElem?_append_right (by show 7 ≤ 7 + j; omega), show 7 + j - (bkC s.b).toList.length = j from by show 7 + j - 7 = j; omega, List.getElem?_append_left (show j < (vsC s.V).toList.length from hj)]
  exact hv
theorem st_shares {w : World} {b : Nat} {s : St} {sl : Value} (h : SAt w b (stC s sl)) : w.rangeAt b 37 (shC s.S).toList := by
  intro j v hv
  have hj : j < 24 := (List.getElem?_eq_some_iff.1 hv).1
  rw [h.cell]
  simp only [stC, stL, List.getElem?_toArray]
  rw [List.getElem?_append_right (by show 7 ≤ 37 + j; omega), show 37 + j - (bkC s.b).toList.length = 30 + j from by show 37 + j - 7 = 30 + j; omega,
    List.getElem?_append_right (by show 30 ≤ 30 + j; omega), show 30 + j - (vsC s.V).toList.length = j from by show 30 + j - 30 = j; omega, List.getElem?_append_left (show j < (shC s.S).toList.length from hj)]
  exact hv
theorem st_cells {w : World} {b : Nat} {s : St} {sl : Value} (h : SAt w b (stC s sl)) : w.cell? ⟨b, 0, none⟩ = some (.int .i64 s.b.f0) ∧ w.cell? ⟨b, 1, none⟩ = some (.int .i64 s.b.f1) ∧ w.cell? ⟨b, 2, none⟩ = some (.int .i64 s.b.f2) ∧ w.cell? ⟨b, 3, none⟩ = some (.int .i64 s.b.f3) ∧ w.cell? ⟨b, 4, none⟩ = some (.int .i64 s.b.bo) ∧ w.cell? ⟨b, 5, none⟩ = some (.int .i64 s.b.wa) ∧ w.cell? ⟨b, 6, none⟩ = some (.int .i64 s.b.bu) ∧ w.cell? ⟨b, 61, none⟩ = some sl ∧ w.cell? ⟨b, 62, none⟩ = some (.int .i64 s.next) :=
  ⟨(h.cell 0).trans rfl, (h.cell 1).trans rfl, (h.cell 2).trans rfl, (h.cell 3).trans rfl, (h.cell 4).trans rfl, (h.cell 5).trans rfl, (h.cell 6).trans rfl, (h.cell 61).trans rfl, (h.cell 62).trans rfl⟩
theorem infoVs : (Try.prog.info? 38).map (·.size) = some 30 := by kernel_rfl
theorem infoSh : (Try.prog.info? 40).map (·.size) = some 24 := by kernel_rfl
theorem ixV (w : World) (V : Nat → Vd) (k : Nat) (hk : k < 6) : (Instr.index 38 (.agg (vsC V)) (.int .i64 k)).run Try.prog w = .ok (.agg #[.int .i64 (V k).tok, .int .i64 (V k).sh, .int .i64 (V k).lost, .bool (V k).jail, .bool (V k).dead]) w := by
  rcases (show k = 0 ∨ k = 1 ∨ k = 2 ∨ k = 3 ∨ k = 4 ∨ k = 5 by omega) with rfl | rfl | rfl | rfl | rfl | rfl <;> kernel_rfl
theorem ixS (w : World) (S : Nat → Nat → Int) (k : Nat) (hk : k < 4) : (Instr.index 40 (.agg (shC S)) (.int .i64 k)).run Try.prog w = .ok (.agg #[.int .i64 (S k 0), .int .i64 (S k 1), .int .i64 (S k 2), .int .i64 (S k 3), .int .i64 (S k 4), .int .i64 (S k 5)]) w := by
  rcases (show k = 0 ∨ k = 1 ∨ k = 2 ∨ k = 3 by omega) with rfl | rfl | rfl | rfl <;> kernel_rfl
theorem SAt.val {w : World} {b : Nat} {s : St} {sl : Value} (h : SAt w b (stC s sl)) (k : Nat) (hk : k < 6) : w.cell? ⟨b, 7 + k * 5, none⟩ = some (.int .i64 (s.V k).tok) ∧ w.cell? ⟨b, 7 + k * 5 + 1, none⟩ = some (.int .i64 (s.V k).sh) ∧ w.cell? ⟨b, 7 + k * 5 + 2, none⟩ = some (.int .i64 (s.V k).lost) ∧ w.cell? ⟨b, 7 + k * 5 + 3, none⟩ = some (.bool (s.V k).jail) ∧ w.cell? ⟨b, 7 + k * 5 + 4, none⟩ = some (.bool (s.V k).dead) := by
  rcases (show k = 0 ∨ k = 1 ∨ k = 2 ∨ k = 3 ∨ k = 4 ∨ k = 5 by omega) with rfl | rfl | rfl | rfl | rfl | rfl <;> exact ⟨(h.cell _).trans rfl, (h.cell _).trans rfl, (h.cell _).trans rfl, (h.cell _).trans rfl, (h.cell _).trans rfl⟩
theorem SAt.shr {w : World} {b : Nat} {s : St} {sl : Value} (h : SAt w b (stC s sl)) (d v : Nat) (hd : d < 4) (hv : v < 6) : w.cell? ⟨b, 37 + d * 6 + v, none⟩ = some (.int .i64 (s.S d v)) := by
  rcases (show d = 0 ∨ d = 1 ∨ d = 2 ∨ d = 3 by omega) with rfl | rfl | rfl | rfl <;> rcases (show v = 0 ∨ v = 1 ∨ v = 2 ∨ v = 3 ∨ v = 4 ∨ v = 5 by omega) with rfl | rfl | rfl | rfl | rfl | rfl <;> exact (h.cell _).trans rfl
theorem stC_one (s : St) (sa : Option Addr) (n c : Nat) : (stC s (.slice sa n c)).all (·.oneCell') = true := by simp [stC, stL, bkC, vsC, shC, Value.oneCell']
theorem stC_61 (s : St) (sl : Value) : (stC s sl)[61]? = some sl := rfl
end Go.Proofs.Ytfajfebpchfkoae
