/- Parts of the proof: SC. -/
import Derived.Test.YtnamphhchecaeaaGreatRows
import Derived.Test.YtnamphhchecaeaaGreatAK0
import Derived.Test.YtnamphhchecaeaaGreatAK5
import Derived.Deep.MidRow
import Derived.Deep.DeepCutAuto
set_option maxRecDepth 100000
namespace Go.Proofs.YtnamphhchecaeaaGreat
open Go.RowKit
theorem infoS : (Tryz.prog.info? 41).map (·.size) = some 63 := by kernel_rfl
/-- 63 cells of a stake lie in a block -/
def SAt (w : World) (b : Nat) (cs : Array Value) : Prop := w.heap[b]? = some (.cells cs 41)
theorem SAt.new (w : World) (cs : Array Value) : SAt (w.alloc (.cells cs 41)) w.heap.size cs := heap_alloc_new _ _
theorem SAt.new2 (w : World) (o : Obj) (cs : Array Value) : SAt ((w.alloc o).alloc (.cells cs 41)) (w.heap.size + 1) cs := by
  have h : SAt ((w.alloc o).alloc (.cells cs 41)) (w.alloc o).heap.size cs := SAt.new (w.alloc o) cs
  rwa [show (w.alloc o).heap.size = w.heap.size + 1 by simp] at h
theorem SAt.later {w w' : World} {b B : Nat} {cs : Array Value} (h : SAt w b cs) (hb : Below B w w') (hB : b < B) : SAt w' b cs := (hb.block b hB).trans h
theorem SAt.alloc {w : World} {b : Nat} {cs : Array Value} (h : SAt w b cs) (o : Obj) : SAt (w.alloc o) b cs := (Below.heap_alloc _ _ _ (Array.getElem?_eq_some_iff.1 h).1).trans h
theorem SAt.lt {w : World} {b : Nat} {cs : Array Value} (h : SAt w b cs) : b < w.heap.size := (Array.getElem?_eq_some_iff.1 h).1
theorem SAt.other {w : World} {b c o : Nat} {cs : Array Value} (h : SAt w b cs) (hb : b ≠ c) (v : Value) : SAt (w.setCell ⟨c, o, none⟩ v) b cs := (Below.heap_setCell _ _ _ _ hb).trans h
theorem SAt.cell {w : World} {b : Nat} {cs : Array Value} (h : SAt w b cs) (o : Nat) : w.cell? ⟨b, o, none⟩ = cs[o]? := by
  unfold SAt at h
  simp [World.cell?, h]
theorem SAt.free {w : World} {b : Nat} {cs : Array Value} (h : SAt w b cs) (o : Nat) : w.frozen? ⟨b, o, none⟩ = false := by
  unfold SAt at h
  simp [World.frozen?, h]
theorem SAt.set {w : World} {b : Nat} {cs : Array Value} (h : SAt w b cs) (o : Nat) (v : Value) : SAt (w.setCell ⟨b, o, none⟩ v) b (cs.setIfInBounds o v) := by
  unfold SAt at *
  simp [World.setCell, Array.getElem?_modify, h]
theorem SAt.range {w : World} {b : Nat} {cs : Array Value} (h : SAt w b cs) : w.rangeAt b 0 cs.toList := by
  intro j v hv
  rw [Nat.zero_add, h.cell]
  simpa using hv
theorem SAt.there {w : World} {b : Nat} {cs : Array Value} (h : SAt w b cs) (o n : Nat) (hn : o + n ≤ cs.size) : w.there b o n := by
  intro j hj
  rw [h.cell, h.free]
  have : o + j < cs.size := by omega
  simp [this]
theorem SAt.sets {b : Nat} : ∀ (vs : List Value) (o : Nat) (w : World) (cs : Array Value), SAt w b cs → SAt (w.setCells b o vs) b (spl cs o vs)
  | [], _, _, _, h => h
  | v :: r, o, _, _, h => SAt.sets r (o + 1) _ _ (h.set o v)
theorem SAt.setAll {w : World} {b : Nat} {cs ds : Array Value} (h : SAt w b cs) (hd : ds.size = cs.size) : SAt (w.setCells b 0 ds.toList) b ds := by
  have := SAt.sets ds.toList 0 w cs h
  rwa [spl_all hd] at this
theorem SAt.load {w : World} {b : Nat} {cs : Array Value} (h : SAt w b cs) (hs : cs.size = 63) : (Instr.loadAt 41 (.pointer (some ⟨b, 0, none⟩))).run Tryz.prog w = .ok (.agg cs) w := by
  have := run_loadAt_mid (P := Tryz.prog) w b 0 41 cs.toList _ h.range Tryz.underlying41 rfl (by rw [infoS]; simp [hs])
  simpa using this
def vsC (V : Nat → Vd) : Array Value := #[.int .i64 (V 0).tok, .int .i64 (V 0).sh, .int .i64 (V 0).lost, .bool (V 0).jail, .bool (V 0).dead, .int .i64 (V 1).tok, .int .i64 (V 1).sh, .int .i64 (V 1).lost, .bool (V 1).jail, .bool (V 1).dead, .int .i64 (V 2).tok, .int .i64 (V 2).sh, .int .i64 (V 2).lost, .bool (V 2).jail, .bool (V 2).dead, .int .i64 (V 3).tok, .int .i64 (V 3).sh, .int .i64 (V 3).lost, .bool (V 3).jail, .bool (V 3).dead, .int .i64 (V 4).tok, .int .i64 (V 4).sh, .int .i64 (V 4).lost, .bool (V 4).jail, .bool (V 4).dead, .int .i64 (V 5).tok, .int .i64 (V 5).sh, .int .i64 (V 5).lost, .bool (V 5).jail, .bool (V 5).dead]
def shC (S : Nat → Nat → Int) : Array Value := #[.int .i64 (S 0 0), .int .i64 (S 0 1), .int .i64 (S 0 2), .int .i64 (S 0 3), .int .i64 (S 0 4), .int .i64 (S 0 5), .int .i64 (S 1 0), .int .i64 (S 1 1), .int .i64 (S 1 2), .int .i64 (S 1 3), .int .i64 (S 1 4), .int .i64 (S 1 5), .int .i64 (S 2 0), .int .i64 (S 2 1), .int .i64 (S 2 2), .int .i64 (S 2 3), .int .i64 (S 2 4), .int .i64 (S 2 5), .int .i64 (S 3 0), .int .i64 (S 3 1), .int .i64 (S 3 2), .int .i64 (S 3 3), .int .i64 (S 3 4), .int .i64 (S 3 5)]
def bkC (b : Bk) : Array Value := #[.int .i64 b.f0, .int .i64 b.f1, .int .i64 b.f2, .int .i64 b.f3, .int .i64 b.bo, .int .i64 b.wa, .int .i64 b.bu]
def stL (b : Bk) (V : Nat → Vd) (S : Nat → Nat → Int) (sl : Value) (next : Int) : List Value := (bkC b).toList ++ ((vsC V).toList ++ ((shC S).toList ++ [sl, .int .i64 next]))
def stC (s : St) (sl : Value) : Array Value := (stL s.b s.V s.S sl s.next).toArray
theorem stC_size (s : St) (sl : Value) : (stC s sl).size = 63 := rfl
theorem st_vals {w : World} {b : Nat} {s : St} {sl : Value} (h : SAt w b (stC s sl)) : w.rangeAt b 7 (vsC s.V).toList := by
  intro j v hv
  have hj : j < 30 := (List.getElem?_eq_some_iff.1 hv).1
  rw [h.cell]
  simp only [stC, stL, List.getElem?_toArray]
  rw [List.getElem?_append_right (by show 7 ≤ 7 + j; omega), show 7 + j - (bkC s.b).toList.length = j from by show 7 + j - 7 = j; omega, List.getElem?_append_left (show j < (vsC s.V).toList.length from hj)]
  exact hv
theorem st_shares {w : World} {b : Nat} {s : St} {sl : Value} (h : SAt w b (stC s sl)) : w.rangeAt b 37 (shC s.S).toList := by
  intro j v hv
  have hj : j < 24 := (List.getElem?_eq_some_iff.1 hv).1
  rw [h.cell]
  simp only [stC, stL, List.getElem?_toArray]
  rw [List.getElem?_append_right (by show 7 ≤ 37 + j; omega), show 37 + j - (bkC s.b).toList.length = 30 + j from by show 37 + j - 7 = 30 + j; omega,
    List.getElem?_append_right (by show 30 ≤ 30 + j; omega), show 30 + j - (vsC s.V).toList.length = j from by show 30 + j - 30 = j; omega, List.getElem?_append_left (show j < (shC s.S).toList.length from hj)]
  exact hv
theorem st_cells {w : World} {b : Nat} {s : St} {sl : Value} (h : SAt w b (stC s sl)) : w.cell? ⟨b, 0, none⟩ = some (.int .i64 s.b.f0) ∧ w.cell? ⟨b, 1, none⟩ = some (.int .i64 s.b.f1) ∧ w.cell? ⟨b, 2, none⟩ = some (.int .i64 s.b.f2) ∧ w.cell? ⟨b, 3, none⟩ = some (.int .i64 s.b.f3) ∧ w.cell? ⟨b, 4, none⟩ = some (.int .i64 s.b.bo) ∧ w.cell? ⟨b, 5, none⟩ = some (.int .i64 s.b.wa) ∧ w.cell? ⟨b, 6, none⟩ = some (.int .i64 s.b.bu) ∧ w.cell? ⟨b, 61, none⟩ = some sl ∧ w.cell? ⟨b, 62, none⟩ = some (.int .i64 s.next) :=
  ⟨(h.cell 0).trans rfl, (h.cell 1).trans rfl, (h.cell 2).trans rfl, (h.cell 3).trans rfl, (h.cell 4).trans rfl, (h.cell 5).trans rfl, (h.cell 6).trans rfl, (h.cell 61).trans rfl, (h.cell 62).trans rfl⟩
theorem infoVs : (Tryz.prog.info? 36).map (·.size) = some 30 := by kernel_rfl
theorem infoSh : (Tryz.prog.info? 38).map (·.size) = some 24 := by kernel_rfl
end Go.Proofs.YtnamphhchecaeaaGreat

