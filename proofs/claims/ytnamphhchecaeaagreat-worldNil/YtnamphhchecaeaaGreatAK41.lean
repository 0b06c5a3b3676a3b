/- Parts of the proof: PGR. -/
import Derived.Test.YtnamphhchecaeaaGreatRows
import Derived.Test.YtnamphhchecaeaaGreatAK19
set_option maxRecDepth 100000
namespace Go.Proofs.YtnamphhchecaeaaGreat.Pv
open Go.RowKit
/-- but for one block and new ones the world is as it was -/
structure Alt (g : Nat) (w w' : World) : Prop where
  os : w'.os = w.os
  tape : w'.tape = w.tape
  output : w'.output = w.output
  size : w.heap.size ≤ w'.heap.size
  block : ∀ k, k < w.heap.size → k ≠ g → w'.heap[k]? = w.heap[k]?
theorem Alt.refl (g : Nat) (w : World) : Alt g w w := ⟨rfl, rfl, rfl, Nat.le_refl _, fun _ _ _ => rfl⟩
theorem Alt.trans {g : Nat} {w w1 w2 : World} (h : Alt g w w1) (k : Alt g w1 w2) : Alt g w w2 := ⟨k.os.trans h.os, k.tape.trans h.tape, k.output.trans h.output, Nat.le_trans h.size k.size, fun i hi hn => (k.block i (Nat.lt_of_lt_of_le hi h.size) hn).trans (h.block i hi hn)⟩
theorem Alt.of {g : Nat} {w w' : World} (h : Below w.heap.size w w') : Alt g w w' := ⟨h.os, h.tape, h.output, h.size, fun k hk _ => h.block k hk⟩
theorem Alt.below {g B : Nat} {w w' : World} (h : Alt g w w') (hB : B ≤ g) (hw : B ≤ w.heap.size) : Below B w w' := ⟨h.os, h.tape, h.output, h.size, fun k hk => h.block k (by omega) (by omega)⟩
theorem Alt.set {g : Nat} {w w' : World} (h : Alt g w w') (o : Nat) (v : Value) : Alt g w (w'.setCell ⟨g, o, none⟩ v) :=
  ⟨h.os, h.tape, h.output, (by simp [World.setCell]; exact h.size), fun k hk hn => (Below.heap_setCell _ _ _ _ hn).trans (h.block k hk hn)⟩
theorem Alt.sets {g : Nat} : ∀ (vs : List Value) {w w' : World} (_ : Alt g w w') (o : Nat), Alt g w (w'.setCells g o vs)
  | [], _, _, h, _ => h
  | _ :: r, _, _, h, o => Alt.sets r (h.set o _) (o + 1)
theorem Alt.rep {g : Nat} {w w' : World} (h : Alt g w w') {P : Nat → Prop} (hP : ¬ P g) {v : Value} {sz bts : Nat} {cs : List Value} (hp : Rep P w v sz bts cs) : Rep P w' v sz bts cs := hp.keep fun b hb hlt => h.block b hlt (fun e => hP (e ▸ hb))
end Go.Proofs.YtnamphhchecaeaaGreat.Pv

