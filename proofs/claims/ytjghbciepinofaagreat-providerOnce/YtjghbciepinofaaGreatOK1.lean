/- Parts of the proof: PVSA PVSM. -/
import Derived.Test.YtjghbciepinofaaGreatRows
import Derived.Test.YtjghbciepinofaaGreatOK0
import Derived.Test.YtjghbciepinofaaGreatOK41
import Derived.Test.YtjghbciepinofaaGreatOK43
import Derived.Test.YtjghbciepinofaaGreatOK44
import Derived.Test.YtjghbciepinofaaGreatOK49
import Derived.Test.YtjghbciepinofaaGreatOK50
import Derived.Test.YtjghbciepinofaaGreatOK52
import Derived.Deep.QuietTactic
import Derived.BigQuiet
import Derived.WalkSmall
import Derived.WalkKit
import Derived.ChangeKeysEq
set_option maxRecDepth 100000
namespace Go.Proofs.YtjghbciepinofaaGreat.Pv
open Go.RowKit
def loadLk (v : Value) : Sem Value := Instr.loadAt 41 v
theorem loadLk_eq (v : Value) : Instr.loadAt 41 v = loadLk v := rfl
theorem pr_loadS {w : World} {b : Nat} {p : Pr} {v : PrV} (h : CAt 47 w b (prC p v)) : (loadS (.pointer (some ⟨b, 2, none⟩))).run Tryz.prog w = .ok (.agg (stC p.s v.ws)) w := by
  have := run_loadAt_mid (P := Tryz.prog) w b 2 32 _ _ (pr_stake h) Tryz.underlying32 rfl (by rw [infoS]; rfl)
  change (Instr.loadAt 32 _).run Tryz.prog w = _
  simpa using this
attribute [local go_sem ↓] loadLk_eq
end Go.Proofs.YtjghbciepinofaaGreat.Pv

set_option maxRecDepth 100000
namespace Go.Proofs.YtjghbciepinofaaGreat.Pv
open Go.RowKit
/-- what a walk reads of a provider in a block -/
theorem pr_facts {w : World} {b : Nat} {p : Pr} {v : PrV} (h : CAt 47 w b (prC p v)) : (w.cell? ⟨b, 0, none⟩ = some (.int .i64 p.h) ∧ w.cell? ⟨b, 1, none⟩ = some (.int .i64 p.t) ∧ w.cell? ⟨b, 65, none⟩ = some v.set ∧ w.cell? ⟨b, 94, none⟩ = some (.int .i64 p.ml) ∧ w.cell? ⟨b, 95, none⟩ = some (.int .i64 p.mn) ∧ w.cell? ⟨b, 96, none⟩ = some v.q) ∧ (loadS (.pointer (some ⟨b, 2, none⟩))).run Tryz.prog w = .ok (.agg (stC p.s v.ws)) w :=
  ⟨⟨h.cell 0, h.cell 1, h.cell 65, h.cell 94, h.cell 95, h.cell 96⟩, pr_loadS h⟩
attribute [local go_sem ↓] loadS_eq
end Go.Proofs.YtjghbciepinofaaGreat.Pv

