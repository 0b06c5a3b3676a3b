/- Parts of the proof: SP. -/
import Derived.Test.YtdkalcnlncjgiaaRows
import Derived.Test.YtdkalcnlncjgiaaBK9
import Derived.BigQuiet
import Derived.Deep.QuietTactic
import Derived.Deep.RegionHeld3
import Derived.Deep.RegionWith
import Derived.Deep.DeepCutAuto
import Derived.WalkKit
import Derived.WalkSmall
import Derived.Below
import Derived.Test.YtdkalcnlncjgiaaProg
import Derived.ProofKit
import Derived.Laws.MathBits
set_option maxRecDepth 100000
namespace Go.Proofs.Ytdkalcnlncjgiaa
open Go.RowKit
abbrev Pw := Int × Int
def pz : Pw := (0, 0)
/-- a row of powers lies at a block's beginning -/
def RowAt (w : World) (g : Nat) (l : List Pw) : Prop := ∃ cur, w.heap[g]? = some (.cells cur 64 (0, 0)) ∧ ∀ i x, l[i]? = some x → cur[i * 2]? = some (.int .i64 x.1) ∧ cur[i * 2 + 1]? = some (.int .i64 x.2)
/-- blocks that were there are as they were, but for one -/
structure ButB (g : Nat) (w w' : World) : Prop where
  os : w'.os = w.os
  tape : w'.tape = w.tape
  output : w'.output = w.output
  size : w.heap.size ≤ w'.heap.size
  block : ∀ k, k < w.heap.size → k ≠ g → w'.heap[k]? = w.heap[k]?
theorem ButB.refl (g : Nat) (w : World) : ButB g w w := ⟨rfl, rfl, rfl, Nat.le_refl _, fun _ _ _ => rfl⟩
theorem ButB.trans {g : Nat} {a b c : World} (h : ButB g a b) (k : ButB g b c) : ButB g a c :=
  ⟨k.os.trans h.os, k.tape.trans h.tape, k.output.trans h.output, Nat.le_trans h.size k.size, fun i hi hg => (k.block i (Nat.lt_of_lt_of_le hi h.size) hg).trans (h.block i hi hg)⟩
theorem ButB.set {g : Nat} {w w' : World} (h : ButB g w w') (o : Nat) (v : Value) : ButB g w (w'.setCell ⟨g, o, none⟩ v) :=
  ⟨h.os, h.tape, h.output, (by simp [World.setCell]; exact h.size), fun k hk hg => (Below.heap_setCell _ _ _ _ hg).trans (h.block k hk hg)⟩
theorem ButB.drew {g : Nat} {w w' : World} (h : ButB g w w') : ButB g w w'.drew := ⟨h.os, h.tape, h.output, h.size, h.block⟩
theorem ButB.drewN {g : Nat} {w w' : World} (h : ButB g w w') (n : Nat) : ButB g w (w'.drewN n) := ⟨h.os, h.tape, h.output, h.size, h.block⟩
theorem ButB.below {g B : Nat} {w w' : World} (h : ButB g w w') (hB : B ≤ g) (hs : B ≤ w.heap.size) : Below B w w' := ⟨h.os, h.tape, h.output, h.size, fun k hk => h.block k (by omega) (by omega)⟩
theorem RowAt.later {w w' : World} {g : Nat} {l : List Pw} (h : RowAt w g l) (hb : Below w.heap.size w w') : RowAt w' g l := by
  obtain ⟨cur, hc, hx⟩ := h
  exact ⟨cur, (hb.block g (Array.getElem?_eq_some_iff.1 hc).1).trans hc, hx⟩
theorem RowAt.cell {w : World} {g : Nat} {l : List Pw} (h : RowAt w g l) {i : Nat} (hi : i < l.length) : w.cell? ⟨g, i * 2, none⟩ = some (.int .i64 (l.getD i pz).1) ∧ w.cell? ⟨g, i * 2 + 1, none⟩ = some (.int .i64 (l.getD i pz).2) := by
  obtain ⟨cur, hc, hx⟩ := h
  have e : l[i]? = some (l.getD i pz) := by simp [List.getD, hi]
  obtain ⟨h1, h2⟩ := hx i _ e
  simp only [World.cell?, hc]
  simp [h1, h2]
theorem RowAt.free {w : World} {g : Nat} {l : List Pw} (h : RowAt w g l) (o : Nat) : w.frozen? ⟨g, o, none⟩ = false := by
  obtain ⟨cur, hc, _⟩ := h
  simp [World.frozen?, hc]
theorem RowAt.lt {w : World} {g : Nat} {l : List Pw} (h : RowAt w g l) : g < w.heap.size := by
  obtain ⟨cur, hc, _⟩ := h
  exact (Array.getElem?_eq_some_iff.1 hc).1
/-- an element is written -/
theorem RowAt.put {w : World} {g : Nat} {l : List Pw} (h : RowAt w g l) {i : Nat} (hi : i < l.length) (x : Pw) : RowAt ((w.setCell ⟨g, i * 2, none⟩ (.int .i64 x.1)).setCell ⟨g, i * 2 + 1, none⟩ (.int .i64 x.2)) g (l.set i x) := by
  have hc0 := h.cell hi
  obtain ⟨cur, hc, hx⟩ := h
  have s1 : i * 2 < cur.size := by
    have := (hx i _ (List.getElem?_eq_getElem hi)).1
    exact (Array.getElem?_eq_some_iff.1 this).1
  have s2 : i * 2 + 1 < cur.size := by
    have := (hx i _ (List.getElem?_eq_getElem hi)).2
    exact (Array.getElem?_eq_some_iff.1 this).1
  refine ⟨(cur.setIfInBounds (i * 2) (.int .i64 x.1)).setIfInBounds (i * 2 + 1) (.int .i64 x.2), ?_, fun j y hy => ?_⟩
  · simp [World.setCell, Array.getElem?_modify, hc]
  · rw [List.getElem?_set] at hy
    by_cases hj : i = j
    · subst hj
      rw [if_pos rfl, if_pos hi] at hy
      simp at hy
      subst hy
      simp [s1, s2]
    · rw [if_neg hj] at hy
      obtain ⟨h1, h2⟩ := hx j y hy
      simp only [Array.getElem?_setIfInBounds]
      rw [if_neg (by omega), if_neg (by omega), if_neg (by omega), if_neg (by omega)]
      exact ⟨h1, h2⟩
end Go.Proofs.Ytdkalcnlncjgiaa

