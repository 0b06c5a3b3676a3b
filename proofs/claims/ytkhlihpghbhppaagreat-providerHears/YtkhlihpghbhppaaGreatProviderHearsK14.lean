/- Parts of the proof: PDB. -/
import Derived.Test.YtkhlihpghbhppaaGreatRows
import Derived.Test.YtkhlihpghbhppaaGreatProviderHearsK12
import Derived.Test.YtkhlihpghbhppaaGreatProviderHearsK13
set_option maxRecDepth 100000
namespace Go.Proofs.YtkhlihpghbhppaaGreat.Pv
open Go.RowKit
theorem Rep.sets {P : Nat → Prop} {w : World} {v : Value} {sz bts : Nat} {cs : List Value} (h : Rep P w v sz bts cs) {g : Nat} (hg : ¬ P g) (o : Nat) (vs : List Value) : Rep P (w.setCells g o vs) v sz bts cs := h.keep fun b hb _ => heap_sets (show b ≠ g from fun e => hg (by rw [← e]; exact hb)) vs o w
attribute [local go_sem ↓] loadS_eq loadP_eq storeP_eq storeS_eq
end Go.Proofs.YtkhlihpghbhppaaGreat.Pv

