/- Parts of the proof: LH. -/
import Derived.Test.YtnamphhchecaeaaGreatRows
import Derived.Test.YtnamphhchecaeaaGreatAK11
import Derived.Test.YtnamphhchecaeaaGreatAK26
set_option maxRecDepth 100000
namespace Go.Proofs.YtnamphhchecaeaaGreat.Ln
open Go.RowKit
/-- a row's block is none that holds cells of another type -/
theorem own_ne {w : World} {b e e' z n k : Nat} {v : Value} {xs : List Value} {cs : Array Value} {f : Nat × Nat} (h : w.ownsRow b e z v n xs) (hf : w.heap[k]? = some (.cells cs e' f)) (he : e ≠ e') : some k ≠ v.ownBlock := by
  rcases h.2 with ⟨rfl, _⟩ | ⟨g, cap, cur, rfl, hb, hg, rest⟩
  · simp [Value.ownBlock]
  · intro h2
    have e2 : k = g := by simpa [Value.ownBlock] using h2
    subst e2
    rw [hg] at hf
    cases hf
    exact he rfl
/-- the copy lies in a block, and its two lists are rows of their own -/
structure Mid (w wq : World) (b8 : Nat) (v0 v1 : Value) (g : Int) (cl : Bool) (S : List ByteArray) (A1 : Option Addr) (C1 : Nat) (D : List Int) (A2 : Option Addr) (C2 : Nat) : Prop where
  F8 : FAt wq b8 v0 v1 (.int .i64 g) (.bool cl)
  F2 : FAt wq (w.heap.size + 1) (.slice none 0 0) (.slice none 0 0) (.int .i64 0) (.bool false)
  oS : OwnS (w.heap.size + 2) wq A1 C1 S
  oD : OwnI (w.heap.size + 2) wq A2 C2 D
  below : Below w.heap.size w wq
  hb8 : w.heap.size + 2 ≤ b8
section
variable {w wq : World} {b8 : Nat} {v0 v1 : Value} {g : Int} {cl : Bool} {S : List ByteArray} {A1 : Option Addr} {C1 : Nat} {D : List Int} {A2 : Option Addr} {C2 : Nat}
theorem Mid.alloc (h : Mid w wq b8 v0 v1 g cl S A1 C1 D A2 C2) (o : Obj) : Mid w (wq.alloc o) b8 v0 v1 g cl S A1 C1 D A2 C2 :=
  ⟨h.F8.alloc o, h.F2.alloc o, World.ownsRow.alloc h.oS o, World.ownsRow.alloc h.oD o, h.below.alloc h.below.size o, h.hb8⟩
theorem Mid.drew (h : Mid w wq b8 v0 v1 g cl S A1 C1 D A2 C2) : Mid w wq.drew b8 v0 v1 g cl S A1 C1 D A2 C2 := ⟨h.F8, h.F2, h.oS, h.oD, h.below.drew, h.hb8⟩
theorem Mid.set {v0' v1' : Value} {g' : Int} {cl' : Bool} (h : Mid w wq b8 v0 v1 g cl S A1 C1 D A2 C2) {w' : World} (hF : FAt w' b8 v0' v1' (.int .i64 g') (.bool cl')) (hk : ∀ k, k ≠ b8 → w'.heap[k]? = wq.heap[k]?) (hb : Below w.heap.size w w') : Mid w w' b8 v0' v1' g' cl' S A1 C1 D A2 C2 :=
  ⟨hF, (hk _ (by have := h.hb8; omega)).trans h.F2, own_of h.oS fun k e => hk k (fun e2 => own_ne h.oS h.F8 (by decide) (e2 ▸ e).symm), own_of h.oD fun k e => hk k (fun e2 => own_ne h.oD h.F8 (by decide) (e2 ▸ e).symm), hb, h.hb8⟩
end
section
variable {w wq : World} {b8 : Nat} {v0 v1 : Value} {g : Int} {cl : Bool} {S : List ByteArray} {A1 : Option Addr} {C1 : Nat} {D : List Int} {A2 : Option Addr} {C2 : Nat}
end
end Go.Proofs.YtnamphhchecaeaaGreat.Ln

