/- Parts of the proof: SV SSW. -/
import Derived.Test.YtkhlihpghbhppaaGreatRows
import Derived.Test.YtkhlihpghbhppaaGreatProviderHearsK25
import Derived.Test.YtkhlihpghbhppaaGreatProviderHearsK36
import Derived.Test.YtkhlihpghbhppaaGreatProviderHearsK48
import Derived.Laws.Cover3
import Derived.ChangeKeysEq
set_option maxRecDepth 100000
namespace Go.Proofs.YtkhlihpghbhppaaGreat
open Go.RowKit
/-- a validator is jailed or not, dead or not -/
def setJ (s : St) (v : Nat) (j d : Bool) : St := { s with V := setV s.V v { s.V v with jail := j, dead := d } }
end Go.Proofs.YtkhlihpghbhppaaGreat

set_option maxRecDepth 100000
namespace Go.Proofs.YtkhlihpghbhppaaGreat
open Go.RowKit
theorem wsL_set : ∀ (W : List Wt) (k : Nat) (x : Wt) (y : Int), W[k]? = some x → wsL (W.set k { x with amt := y }) = (wsL W).set (k * 8 + 3) (.int .i64 y)
  | [], k, x, y, h => by simp at h
  | z :: W, 0, x, y, h => by
    simp at h
    subst h
    rfl
  | z :: W, k + 1, x, y, h => by
    have ih := wsL_set W k x y (by simpa using h)
    show wtL z ++ wsL (W.set k _) = (wtL z ++ wsL W).set _ _
    rw [List.set_append_right _ _ (by rw [wtL_length]; omega), wtL_length, ih]
    congr 2
    omega
theorem OwnW.amt {B : Nat} {w : World} {g C : Nat} {W : List Wt} (h : OwnW B w (some ⟨g, 0, none⟩) C W) {k : Nat} {x : Wt} (hx : W[k]? = some x) (y : Int) : OwnW B (w.setCell ⟨g, k * 8 + 3, none⟩ (.int .i64 y)) (some ⟨g, 0, none⟩) C (W.set k { x with amt := y }) := by
  have h1 := (World.ownsRow.stored h (k * 8 + 3) (.int .i64 y)).1
  unfold OwnW
  rw [wsL_set W k x y hx, List.length_set]
  exact h1
end Go.Proofs.YtkhlihpghbhppaaGreat

