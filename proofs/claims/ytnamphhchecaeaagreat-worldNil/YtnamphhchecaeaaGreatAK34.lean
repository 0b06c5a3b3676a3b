/- Parts of the proof: B. -/
import Derived.Test.YtnamphhchecaeaaGreatRows
import Derived.WalkKit
import Derived.Maps.AppendAt
import Derived.Test.YtnamphhchecaeaaGreatProg
import Derived.Below
import Derived.BigQuiet
import Derived.Deep.QuietTactic
set_option maxRecDepth 100000
namespace Go.Proofs.YtnamphhchecaeaaGreat
open Go.RowKit
/-- the seven places lie in a row, each as a function that points to its field -/
structure PL (w : World) (B g c0 c1 c2 c3 : Nat) : Prop where
  p0 : w.cell? ⟨g, 0, none⟩ = some (.func (.func 156) #[] #[])
  p1 : w.cell? ⟨g, 1, none⟩ = some (.func (.func 157) #[] #[])
  p2 : w.cell? ⟨g, 2, none⟩ = some (.func (.func 180) #[] #[])
  p3 : w.cell? ⟨g, 3, none⟩ = some (.func (.func 155) #[] #[.pointer (some ⟨c0, 0, none⟩)])
  p4 : w.cell? ⟨g, 4, none⟩ = some (.func (.func 155) #[] #[.pointer (some ⟨c1, 0, none⟩)])
  p5 : w.cell? ⟨g, 5, none⟩ = some (.func (.func 155) #[] #[.pointer (some ⟨c2, 0, none⟩)])
  p6 : w.cell? ⟨g, 6, none⟩ = some (.func (.func 155) #[] #[.pointer (some ⟨c3, 0, none⟩)])
  q0 : w.cell? ⟨c0, 0, none⟩ = some (.int .i64 0)
  q1 : w.cell? ⟨c1, 0, none⟩ = some (.int .i64 1)
  q2 : w.cell? ⟨c2, 0, none⟩ = some (.int .i64 2)
  q3 : w.cell? ⟨c3, 0, none⟩ = some (.int .i64 3)
  bg : B ≤ g
  b0 : B ≤ c0
  b1 : B ≤ c1
  b2 : B ≤ c2
  b3 : B ≤ c3
theorem PL.later {w w' : World} {B g c0 c1 c2 c3 : Nat} (h : PL w B g c0 c1 c2 c3) (hb : ∀ k, B ≤ k → w'.heap[k]? = w.heap[k]?) : PL w' B g c0 c1 c2 c3 := by
  have k : ∀ (b o : Nat), B ≤ b → w'.cell? ⟨b, o, none⟩ = w.cell? ⟨b, o, none⟩ := fun b o hB => World.cell?_of_block (w := w) (hb b hB)
  exact ⟨(k _ _ h.bg).trans h.p0, (k _ _ h.bg).trans h.p1, (k _ _ h.bg).trans h.p2, (k _ _ h.bg).trans h.p3, (k _ _ h.bg).trans h.p4, (k _ _ h.bg).trans h.p5, (k _ _ h.bg).trans h.p6,
    (k _ _ h.b0).trans h.q0, (k _ _ h.b1).trans h.q1, (k _ _ h.b2).trans h.q2, (k _ _ h.b3).trans h.q3, h.bg, h.b0, h.b1, h.b2, h.b3⟩
end Go.Proofs.YtnamphhchecaeaaGreat

