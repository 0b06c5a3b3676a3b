/- Parts of the proof: LD LF. -/
import Derived.Test.YtkhlihpghbhppabGreatRows
import Derived.Test.YtkhlihpghbhppabGreatProviderRemovesK54
import Derived.Deep.DeepCutAuto
import Derived.Deep.RegionLaw
import Derived.Laws.OwnMore
import Derived.OneCell
set_option maxRecDepth 100000
namespace Go.Proofs.YtkhlihpghbhppabGreat.Ln
open Go.RowKit
/-- four cells of a block -/
def FAt (w : World) (b : Nat) (v0 v1 v2 v3 : Value) : Prop := w.heap[b]? = some (.cells #[v0, v1, v2, v3] 37)
section
variable {w w' : World} {b B : Nat} {v0 v1 v2 v3 : Value}
theorem FAt.later (h : FAt w b v0 v1 v2 v3) (hb : Below B w w') (hB : b < B) : FAt w' b v0 v1 v2 v3 := (hb.block b hB).trans h
theorem FAt.new (w : World) (v0 v1 v2 v3 : Value) : FAt (w.alloc (.cells #[v0, v1, v2, v3] 37)) w.heap.size v0 v1 v2 v3 := heap_alloc_new _ _
theorem FAt.lt (h : FAt w b v0 v1 v2 v3) : b < w.heap.size := (Array.getElem?_eq_some_iff.1 h).1
theorem FAt.alloc (h : FAt w b v0 v1 v2 v3) (o : Obj) : FAt (w.alloc o) b v0 v1 v2 v3 := (Below.heap_alloc _ _ _ h.lt).trans h
theorem FAt.other {c o : Nat} (h : FAt w b v0 v1 v2 v3) (hb : b ≠ c) (v : Value) : FAt (w.setCell ⟨c, o, none⟩ v) b v0 v1 v2 v3 := (Below.heap_setCell _ _ _ _ hb).trans h
theorem FAt.facts (h : FAt w b v0 v1 v2 v3) : (w.cell? ⟨b, 0, none⟩ = some v0 ∧ w.cell? ⟨b, 1, none⟩ = some v1 ∧ w.cell? ⟨b, 2, none⟩ = some v2 ∧ w.cell? ⟨b, 3, none⟩ = some v3) ∧ (w.frozen? ⟨b, 0, none⟩ = false ∧ w.frozen? ⟨b, 1, none⟩ = false ∧ w.frozen? ⟨b, 2, none⟩ = false ∧ w.frozen? ⟨b, 3, none⟩ = false) := by
  unfold FAt at h
  simp [World.cell?, World.frozen?, h]
theorem FAt.set_0 (h : FAt w b v0 v1 v2 v3) (v : Value) : FAt (w.setCell ⟨b, 0, none⟩ v) b v v1 v2 v3 := by
  unfold FAt at *
  simp [World.setCell, Array.getElem?_modify, h]
theorem FAt.set_1 (h : FAt w b v0 v1 v2 v3) (v : Value) : FAt (w.setCell ⟨b, 1, none⟩ v) b v0 v v2 v3 := by
  unfold FAt at *
  simp [World.setCell, Array.getElem?_modify, h]
theorem FAt.set_2 (h : FAt w b v0 v1 v2 v3) (v : Value) : FAt (w.setCell ⟨b, 2, none⟩ v) b v0 v1 v v3 := by
  unfold FAt at *
  simp [World.setCell, Array.getElem?_modify, h]
theorem FAt.set_3 (h : FAt w b v0 v1 v2 v3) (v : Value) : FAt (w.setCell ⟨b, 3, none⟩ v) b v0 v1 v2 v := by
  unfold FAt at *
  simp [World.setCell, Array.getElem?_modify, h]
end
theorem cell_of_heap {w w' : World} {b : Nat} (h : w'.heap[b]? = w.heap[b]?) (o : Nat) : w'.cell? ⟨b, o, none⟩ = w.cell? ⟨b, o, none⟩ := World.cell?_of_block (w := w) (a := ⟨b, o, none⟩) h
/-- a line's lists in a world that has changed in one block alone -/
theorem LAt.set {w w' : World} {x : Line} {sa da : Option Addr} {cs cd sb so db dO : Nat} (h : LAt w x sa da cs cd sb so db dO) (hS : 0 < x.S.length → w'.heap[sb]? = w.heap[sb]?) (hD : 0 < x.D.length → w'.heap[db]? = w.heap[db]?) : LAt w' x sa da cs cd sb so db dO :=
  ⟨h.hls, h.hld, h.hsa, h.hda, h.ncs, h.ncd, fun i hi => (cell_of_heap (hS (by omega)) _).trans (h.PS i hi), fun i hi => (cell_of_heap (hD (by omega)) _).trans (h.PD i hi)⟩
theorem FAt.new2 (w : World) (o : Obj) (v0 v1 v2 v3 : Value) : FAt ((w.alloc o).alloc (.cells #[v0, v1, v2, v3] 37)) (w.heap.size + 1) v0 v1 v2 v3 := by
  have := FAt.new (w.alloc o) v0 v1 v2 v3
  rwa [show (w.alloc o).heap.size = w.heap.size + 1 by simp] at this
/-- what is known once the line lies in a block, and a block for the answer is there -/
structure Begun (w w0 : World) (x : Line) (sa da : Option Addr) (cs cd sb so db dO : Nat) : Prop where
  F1 : FAt w0 w.heap.size (.slice sa x.S.length cs) (.slice da x.D.length cd) (.int .i64 x.g) (.bool x.cl)
  F2 : FAt w0 (w.heap.size + 1) (.slice none 0 0) (.slice none 0 0) (.int .i64 0) (.bool false)
  L : LAt w0 x sa da cs cd sb so db dO
  ltS : 0 < x.S.length → sb < w.heap.size
  ltD : 0 < x.D.length → db < w.heap.size
  below : Below w.heap.size w w0
  size : w.heap.size + 2 ≤ w0.heap.size
theorem Begun.over {w w0 w1 : World} {x : Line} {sa da : Option Addr} {cs cd sb so db dO : Nat} (h : Begun w w0 x sa da cs cd sb so db dO) (hb : Below w0.heap.size w0 w1) : Begun w w1 x sa da cs cd sb so db dO :=
  ⟨h.F1.later hb h.F1.lt, h.F2.later hb h.F2.lt, h.L.later hb, h.ltS, h.ltD, below_then h.below hb, Nat.le_trans h.size hb.size⟩
end Go.Proofs.YtkhlihpghbhppabGreat.Ln

set_option maxRecDepth 100000
namespace Go.Proofs.YtkhlihpghbhppabGreat.Ln
open Go.RowKit
/-- texts lie in a row of the call's own -/
def OwnS (B : Nat) (w : World) (A : Option Addr) (C : Nat) (l : List ByteArray) : Prop := w.ownsRow B 9 1 (.slice A l.length C) l.length (l.map .string)
/-- numbers lie in a row of the call's own -/
def OwnI (B : Nat) (w : World) (A : Option Addr) (C : Nat) (l : List Int) : Prop := w.ownsRow B 3 1 (.slice A l.length C) l.length (l.map (.int .i64))
theorem own_of {w w' : World} {b e z n : Nat} {v : Value} {xs : List Value} (h : w.ownsRow b e z v n xs) (hk : ∀ k, v.ownBlock = some k → w'.heap[k]? = w.heap[k]?) : w'.ownsRow b e z v n xs := by
  refine ⟨h.1, ?_⟩
  rcases h.2 with hn | ⟨g, cap, cur, rfl, hb, hg, rest⟩
  · exact .inl hn
  · exact .inr ⟨g, cap, cur, rfl, hb, (hk g rfl).trans hg, rest⟩
theorem own_base {w : World} {b b' e z n : Nat} {v : Value} {xs : List Value} (h : w.ownsRow b e z v n xs) (hb : b' ≤ b) : w.ownsRow b' e z v n xs := by
  refine ⟨h.1, ?_⟩
  rcases h.2 with hn | ⟨g, cap, cur, hv, h2, h3⟩
  · exact .inl hn
  · exact .inr ⟨g, cap, cur, hv, Nat.le_trans hb h2, h3⟩
theorem own_over {w w' : World} {b e z n : Nat} {v : Value} {xs : List Value} (h : w.ownsRow b e z v n xs) (hb : Below w.heap.size w w') : w'.ownsRow b e z v n xs := own_of h fun k hk => hb.block k (World.ownsRow.lt h k hk).2
theorem own_form {w : World} {b e z n : Nat} {v : Value} {xs : List Value} (h : w.ownsRow b e z v n xs) : ∃ A C, v = .slice A n C := by
  rcases h.2 with ⟨hv, hn⟩ | ⟨g, cap, cur, hv, _⟩
  · subst hn; exact ⟨_, _, hv⟩
  · exact ⟨_, _, hv⟩
theorem OwnS.facts {B : Nat} {w : World} {A : Option Addr} {C : Nat} {l : List ByteArray} (h : OwnS B w A C l) : (A = none → C = 0) ∧ ∃ g, (0 < l.length → A = some ⟨g, 0, none⟩ ∧ B ≤ g ∧ g < w.heap.size) ∧ StrsAt w g 0 l := by
  rcases h.2 with ⟨hv, hn⟩ | ⟨g, cap, cur, hv, hb, hg, _⟩
  · simp at hv
    exact ⟨fun _ => hv.2.2, 0, fun h0 => by omega, fun i hi => by omega⟩
  · cases hv
    obtain ⟨o1, o2, o3⟩ := own_strs h
    exact ⟨fun h => (by cases h), g, fun _ => ⟨rfl, o1, o2⟩, o3⟩
theorem OwnI.facts {B : Nat} {w : World} {A : Option Addr} {C : Nat} {l : List Int} (h : OwnI B w A C l) : (A = none → C = 0) ∧ ∃ g, (0 < l.length → A = some ⟨g, 0, none⟩ ∧ B ≤ g ∧ g < w.heap.size) ∧ IntsAt w g 0 l := by
  rcases h.2 with ⟨hv, hn⟩ | ⟨g, cap, cur, hv, hb, hg, _⟩
  · simp at hv
    exact ⟨fun _ => hv.2.2, 0, fun h0 => by omega, fun i hi => by omega⟩
  · cases hv
    obtain ⟨o1, o2, o3⟩ := own_ints h
    exact ⟨fun h => (by cases h), g, fun _ => ⟨rfl, o1, o2⟩, o3⟩
/-- a line whose lists are rows of the call's own -/
structure OwnL (B : Nat) (w : World) (x : Line) (A1 A2 : Option Addr) (C1 C2 : Nat) : Prop where
  oS : OwnS B w A1 C1 x.S
  oD : OwnI B w A2 C2 x.D
  apart : ∀ k, (Value.slice A1 x.S.length C1).ownBlock = some k → (Value.slice A2 x.D.length C2).ownBlock ≠ some k
theorem OwnL.at {B : Nat} {w : World} {x : Line} {A1 A2 : Option Addr} {C1 C2 : Nat} (h : OwnL B w x A1 A2 C1 C2) (h1 : x.S.length * 16 ≤ 140737488351232) (h2 : x.D.length * 8 ≤ 140737488351232) : ∃ g1 g2, LAt w x A1 A2 C1 C2 g1 0 g2 0 ∧ (0 < x.S.length → B ≤ g1 ∧ g1 < w.heap.size) ∧ (0 < x.D.length → B ≤ g2 ∧ g2 < w.heap.size) := by
  obtain ⟨n1, g1, f1, p1⟩ := h.oS.facts
  obtain ⟨n2, g2, f2, p2⟩ := h.oD.facts
  exact ⟨g1, g2, ⟨h1, h2, fun h => (f1 h).1, fun h => (f2 h).1, n1, n2, p1, p2⟩, fun h => (f1 h).2, fun h => (f2 h).2⟩
theorem OwnL.over {B : Nat} {w w' : World} {x : Line} {A1 A2 : Option Addr} {C1 C2 : Nat} (h : OwnL B w x A1 A2 C1 C2) (hb : Below w.heap.size w w') : OwnL B w' x A1 A2 C1 C2 := ⟨own_over h.oS hb, own_over h.oD hb, h.apart⟩
/-- stores below the base change no own row -/
theorem OwnL.set {B : Nat} {w : World} {x : Line} {A1 A2 : Option Addr} {C1 C2 : Nat} (h : OwnL B w x A1 A2 C1 C2) {w' : World} (hk : ∀ k, B ≤ k → k < w.heap.size → w'.heap[k]? = w.heap[k]?) : OwnL B w' x A1 A2 C1 C2 :=
  ⟨own_of h.oS fun k e => hk k (World.ownsRow.lt h.oS k e).1 (World.ownsRow.lt h.oS k e).2, own_of h.oD fun k e => hk k (World.ownsRow.lt h.oD k e).1 (World.ownsRow.lt h.oD k e).2, h.apart⟩
end Go.Proofs.YtkhlihpghbhppabGreat.Ln

