/- Parts of the proof: CY. -/
import Derived.Test.YtnamphhchecaeaaGreatRows
import Derived.Test.YtnamphhchecaeaaGreatAK18
import Derived.Test.YtnamphhchecaeaaGreatAK45
import Derived.Maps.AppendAt
import Derived.Deep.AppendLies
import Derived.Deep.RegionLaw
set_option maxRecDepth 100000
namespace Go.Proofs.YtnamphhchecaeaaGreat.Cd
open Go.RowKit
/-- a packet's box, whole -/
def BoxAt (w : World) (b : Nat) (k i v n s d : Value) : Prop := w.heap[b]? = some (.cells #[k, i, v, n, s, d] 79)
theorem BoxAt.cells {w : World} {b : Nat} {k i v n s d : Value} (h : BoxAt w b k i v n s d) : w.cell? ⟨b, 0, none⟩ = some k ∧ w.cell? ⟨b, 1, none⟩ = some i ∧ w.cell? ⟨b, 2, none⟩ = some v ∧ w.cell? ⟨b, 3, none⟩ = some n ∧ w.cell? ⟨b, 4, none⟩ = some s ∧ w.cell? ⟨b, 5, none⟩ = some d ∧ (∀ o, w.frozen? ⟨b, o, none⟩ = false) := by
  unfold BoxAt at h
  simp [World.cell?, World.frozen?, h]
theorem BoxAt.set {w : World} {b : Nat} {k i v n s d : Value} (h : BoxAt w b k i v n s d) (u : Value) :
    BoxAt (w.setCell ⟨b, 0, none⟩ u) b u i v n s d ∧ BoxAt (w.setCell ⟨b, 1, none⟩ u) b k u v n s d ∧ BoxAt (w.setCell ⟨b, 2, none⟩ u) b k i u n s d ∧ BoxAt (w.setCell ⟨b, 3, none⟩ u) b k i v u s d ∧ BoxAt (w.setCell ⟨b, 4, none⟩ u) b k i v n u d ∧ BoxAt (w.setCell ⟨b, 5, none⟩ u) b k i v n s u := by
  unfold BoxAt at *
  simp [World.setCell, Array.getElem?_modify, h]
theorem BoxAt.lt {w : World} {b : Nat} {k i v n s d : Value} (h : BoxAt w b k i v n s d) : b < w.heap.size := (Array.getElem?_eq_some_iff.1 h).1
theorem BoxAt.keep {w w' : World} {b : Nat} {k i v n s d : Value} {r : Option Nat} (h : BoxAt w b k i v n s d) (hg : w.grownBy w' r) (hne : some b ≠ r) : BoxAt w' b k i v n s d := (hg.block b h.lt hne).trans h
theorem TS.lt {w : World} {b : Nat} {st : List Int × Bool} (h : TS w b st) : b < w.heap.size := by obtain ⟨r, h, _⟩ := h; exact (Array.getElem?_eq_some_iff.1 h).1
theorem TS.keep {w w' : World} {b : Nat} {st : List Int × Bool} {r : Option Nat} (h : TS w b st) (hg : w.grownBy w' r) (hne : some b ≠ r) : TS w' b st := by
  have hlt := h.lt
  obtain ⟨x, h, h2⟩ := h
  exact ⟨x, (hg.block b hlt hne).trans h, h2⟩
def Row2 (w : World) (B : Nat) (v : Value) (l : List (Int × Int)) : Prop := w.ownsRow B 95 2 v l.length (l.flatMap fun p => [Value.int .i64 p.1, Value.int .i64 p.2])
def Row1 (w : World) (B : Nat) (v : Value) (l : List Int) : Prop := w.ownsRow B 3 1 v l.length (l.map (Value.int .i64))
/-- the next pairs of numbers; the next numbers -/
def tkP : Nat → List Int × Bool → List (Int × Int) × (List Int × Bool)
  | 0, st => ([], st)
  | m + 1, st => (((tk 1 st).1, (tk 7 (tk 1 st).2).1) :: (tkP m (tk 7 (tk 1 st).2).2).1, (tkP m (tk 7 (tk 1 st).2).2).2)
theorem grown_any {w w1 w2 : World} {r : Option Nat} (h : w.grownBy w1 r) (k : ∀ i, i < w.heap.size → some i ≠ r → w2.heap[i]? = w1.heap[i]?) (ho : w2.os = w1.os) (ht : w2.tape = w1.tape) (hu : w2.output = w1.output) (hs : w1.heap.size ≤ w2.heap.size) : w.grownBy w2 r :=
  ⟨ho.trans h.os, ht.trans h.tape, hu.trans h.output, Nat.le_trans h.size hs, fun i hi hne => (k i hi hne).trans (h.block i hi hne)⟩
theorem grown_box {w w1 : World} {r : Option Nat} {b o : Nat} {u : Value} (h : w.grownBy w1 r) (hb : w.heap.size ≤ b) : w.grownBy (w1.setCell ⟨b, o, none⟩ u) r :=
  grown_any h (fun i hi _ => Below.heap_setCell _ _ _ _ (by simp; omega)) rfl rfl rfl (by simp [World.setCell])
/-- where the method packet stands: the taker, the packet's box, the result's box; nothing else of old memory has turned -/
structure PSt (w wl : World) (b : Nat) (st : List Int × Bool) (k i v n s d : Value) : Prop where
  T : TS wl b st
  Bx : BoxAt wl (w.heap.size + 1) k i v n s d
  Rs : BoxAt wl w.heap.size (.int .i64 0) (.int .i64 0) (.int .i64 0) (.int .i64 0) (.slice none 0 0) (.slice none 0 0)
  G : w.grownBy wl (some b)
  hb : b < w.heap.size
theorem PSt.num {w wl wl' : World} {b : Nat} {st st' : List Int × Bool} {k i v n s d : Value} (h : PSt w wl b st k i v n s d) (T' : TS wl' b st') (g : wl.grownBy wl' (some b)) : PSt w wl' b st' k i v n s d :=
  ⟨T', h.Bx.keep g (by intro e; cases e; have := h.hb; omega), h.Rs.keep g (by intro e; cases e; have := h.hb; omega), grown_then h.G g, h.hb⟩
theorem TS.other {w : World} {b : Nat} {st : List Int × Bool} (h : TS w b st) {c o : Nat} {u : Value} (hc : b ≠ c) : TS (w.setCell ⟨c, o, none⟩ u) b st := by
  obtain ⟨x, h, h2⟩ := h
  exact ⟨x, (Below.heap_setCell _ _ _ _ hc).trans h, h2⟩
theorem PSt.set {w wl : World} {b : Nat} {st : List Int × Bool} {k i v n s d : Value} (h : PSt w wl b st k i v n s d) (u : Value) :
    PSt w (wl.setCell ⟨w.heap.size + 1, 0, none⟩ u) b st u i v n s d ∧ PSt w (wl.setCell ⟨w.heap.size + 1, 1, none⟩ u) b st k u v n s d ∧ PSt w (wl.setCell ⟨w.heap.size + 1, 2, none⟩ u) b st k i u n s d ∧
    PSt w (wl.setCell ⟨w.heap.size + 1, 3, none⟩ u) b st k i v u s d ∧ PSt w (wl.setCell ⟨w.heap.size + 1, 4, none⟩ u) b st k i v n u d ∧ PSt w (wl.setCell ⟨w.heap.size + 1, 5, none⟩ u) b st k i v n s u := by
  have hb := h.hb
  obtain ⟨x0, x1, x2, x3, x4, x5⟩ := h.Bx.set u
  have hr : ∀ o, BoxAt (wl.setCell ⟨w.heap.size + 1, o, none⟩ u) w.heap.size (.int .i64 0) (.int .i64 0) (.int .i64 0) (.int .i64 0) (.slice none 0 0) (.slice none 0 0) := fun o => (Below.heap_setCell _ _ _ _ (by simp)).trans h.Rs
  have ht : ∀ o, TS (wl.setCell ⟨w.heap.size + 1, o, none⟩ u) b st := fun o => h.T.other (by omega)
  have hg : ∀ o, w.grownBy (wl.setCell ⟨w.heap.size + 1, o, none⟩ u) (some b) := fun o => grown_box h.G (Nat.le_succ _)
  exact ⟨⟨ht _, x0, hr _, hg _, hb⟩, ⟨ht _, x1, hr _, hg _, hb⟩, ⟨ht _, x2, hr _, hg _, hb⟩, ⟨ht _, x3, hr _, hg _, hb⟩, ⟨ht _, x4, hr _, hg _, hb⟩, ⟨ht _, x5, hr _, hg _, hb⟩⟩
theorem PSt.alloc {w wl : World} {b : Nat} {st : List Int × Bool} {k i v n s d : Value} (h : PSt w wl b st k i v n s d) (o : Obj) : PSt w (wl.alloc o) b st k i v n s d :=
  have g := World.grownBy_alloc wl o none
  ⟨h.T.keep g (by simp), h.Bx.keep g (by simp), h.Rs.keep g (by simp), grown_then h.G (World.grownBy_alloc wl o _), h.hb⟩
theorem PSt.own {w wl wl' : World} {b : Nat} {st : List Int × Bool} {k i v n s d : Value} {r : Option Nat} (h : PSt w wl b st k i v n s d) (g : wl.grownBy wl' r) (hr : ∀ j, r = some j → w.heap.size + 2 ≤ j) : PSt w wl' b st k i v n s d := by
  have hb := h.hb
  have ne : ∀ c, c < w.heap.size + 2 → some c ≠ r := fun c hc e => by have := hr c e.symm; omega
  exact ⟨h.T.keep g (ne _ (by omega)), h.Bx.keep g (ne _ (by omega)), h.Rs.keep g (ne _ (by omega)), grown_any h.G (fun j hj _ => g.block j (Nat.lt_of_lt_of_le hj h.G.size) (ne j (by omega))) g.os g.tape g.output g.size, h.hb⟩
theorem PSt.drew {w wl : World} {b : Nat} {st : List Int × Bool} {k i v n s d : Value} (h : PSt w wl b st k i v n s d) : PSt w wl.drew b st k i v n s d :=
  ⟨h.T, h.Bx, h.Rs, ⟨h.G.os, h.G.tape, h.G.output, h.G.size, h.G.block⟩, h.hb⟩
end Go.Proofs.YtnamphhchecaeaaGreat.Cd

