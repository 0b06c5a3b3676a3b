/- Parts of the proof: LC. -/
import Derived.Test.YtnamphhchecaeaaGreatRows
import Derived.Test.YtnamphhchecaeaaGreatAK9
import Derived.OwnWalk
import Derived.Deep.OwnRows
set_option maxRecDepth 100000
namespace Go.Proofs.YtnamphhchecaeaaGreat.Ln
open Go.RowKit
/-- what an own row holds lies there -/
theorem own_strs {B : Nat} {w : World} {g n c e : Nat} {l : List ByteArray} (h : w.ownsRow B e 1 (.slice (some ⟨g, 0, none⟩) n c) n (l.map .string)) : B ≤ g ∧ g < w.heap.size ∧ StrsAt w g 0 l := by
  rcases h.2 with ⟨h1, _⟩ | ⟨g', cap, cur, hv, hb, hg, hn, hm, hs, ht⟩
  · cases h1
  · cases hv
    refine ⟨hb, (Array.getElem?_eq_some_iff.1 hg).1, fun i hi => ?_⟩
    have hl : l.length = n := by have := h.1; simpa using this
    have : (cur.toList.take (n * 1))[i]? = some (.string (l.getD i ByteArray.empty)) := by rw [ht]; simp [List.getD, hi]
    rw [List.getElem?_take_of_lt (by omega)] at this
    simp only [World.cell?, hg, Nat.zero_add]
    simpa using this
theorem own_ints {B : Nat} {w : World} {g n c e : Nat} {l : List Int} (h : w.ownsRow B e 1 (.slice (some ⟨g, 0, none⟩) n c) n (l.map (.int .i64))) : B ≤ g ∧ g < w.heap.size ∧ IntsAt w g 0 l := by
  rcases h.2 with ⟨h1, _⟩ | ⟨g', cap, cur, hv, hb, hg, hn, hm, hs, ht⟩
  · cases h1
  · cases hv
    refine ⟨hb, (Array.getElem?_eq_some_iff.1 hg).1, fun i hi => ?_⟩
    have hl : l.length = n := by have := h.1; simpa using this
    have : (cur.toList.take (n * 1))[i]? = some (.int .i64 (l.getD i 0)) := by rw [ht]; simp [List.getD, hi]
    rw [List.getElem?_take_of_lt (by omega)] at this
    simp only [World.cell?, hg, Nat.zero_add]
    simpa using this
end Go.Proofs.YtnamphhchecaeaaGreat.Ln

