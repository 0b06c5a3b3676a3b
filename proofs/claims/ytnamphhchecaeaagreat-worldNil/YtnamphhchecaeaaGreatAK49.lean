/- Parts of the proof: KG2. -/
import Derived.Test.YtnamphhchecaeaaGreatRows
import Derived.Test.YtnamphhchecaeaaGreatAK3
import Derived.Test.YtnamphhchecaeaaGreatAK9
import Derived.Test.YtnamphhchecaeaaGreatAK11
import Derived.Test.YtnamphhchecaeaaGreatAK14
import Derived.Test.YtnamphhchecaeaaGreatAK48
set_option maxRecDepth 100000
namespace Go.Proofs.YtnamphhchecaeaaGreat.Kc
open Go.RowKit Pv
theorem cs_facts {w : World} {g : Nat} {c : Cs} {v : CsV} (h : CAt 63 w g (csC c v)) : (w.cell? ⟨g, 0, none⟩ = some (.bool c.on) ∧ w.cell? ⟨g, 1, none⟩ = some (.bool c.gone) ∧ w.cell? ⟨g, 2, none⟩ = some (.int .i64 c.h) ∧ w.cell? ⟨g, 3, none⟩ = some (.int .i64 c.t) ∧ w.cell? ⟨g, 4, none⟩ = some (.int .i64 c.id)) ∧ (w.cell? ⟨g, 5, none⟩ = some v.set ∧ w.cell? ⟨g, 6, none⟩ = some v.pd ∧ w.cell? ⟨g, 7, none⟩ = some v.rp) ∧ (w.cell? ⟨g, 14, none⟩ = some v.said ∧ w.cell? ⟨g, 15, none⟩ = some v.due ∧ w.cell? ⟨g, 16, none⟩ = some (.int .i64 c.out.g) ∧ w.cell? ⟨g, 17, none⟩ = some (.bool c.out.cl)) :=
  ⟨⟨h.cell 0, h.cell 1, h.cell 2, h.cell 3, h.cell 4⟩, ⟨h.cell 5, h.cell 6, h.cell 7⟩, ⟨h.cell 14, h.cell 15, h.cell 16, h.cell 17⟩⟩
attribute [local go_sem ↓] loadC_eq
end Go.Proofs.YtnamphhchecaeaaGreat.Kc

