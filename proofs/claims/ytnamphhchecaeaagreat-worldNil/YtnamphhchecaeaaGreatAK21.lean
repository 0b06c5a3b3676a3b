/- Parts of the proof: PVK. -/
import Derived.Test.YtnamphhchecaeaaGreatRows
import Derived.Test.YtnamphhchecaeaaGreatAK13
import Derived.Test.YtnamphhchecaeaaGreatAK19
import Derived.Test.YtnamphhchecaeaaGreatAK20
set_option maxRecDepth 100000
namespace Go.Proofs.YtnamphhchecaeaaGreat.Pv
open Go.RowKit
section
variable {P : Nat → Prop} {w w' : World} {v : Value} {sz bts : Nat} {cs : List Value}
theorem Rep.wsAt {W : List Wt} (h : Rep P w v 8 64 (wsL W)) : ∃ A C b o, v = .slice A W.length C ∧ WsAt w A b o W ∧ (A = none → C = 0) ∧ (0 < W.length → P b) := by
  obtain ⟨A, n, C, h1, h2, h3, h4, h5⟩ := h
  rw [wsL_length] at h2
  have e : n = W.length := by omega
  subst e
  rcases Nat.eq_zero_or_pos W.length with h0 | h0
  · refine ⟨A, C, 0, 0, h1, ⟨fun h => by omega, h3, fun i x hx => ?_⟩, h4.1, fun h => by omega⟩
    have := (List.getElem?_eq_some_iff.1 hx).1
    omega
  · obtain ⟨b, off, rfl, hp, _, hc⟩ := h5 h0
    refine ⟨_, C, b, off, h1, ⟨fun _ => rfl, h3, fun i x hx => ?_⟩, h4.1, fun _ => hp⟩
    have k : ∀ j, j < 8 → ∀ u, (wtL x)[j]? = some u → w.cell? ⟨b, off + i * 8 + j, none⟩ = some u := fun j hj u hu => by
      rw [Nat.add_assoc]
      exact hc _ _ ((wsL_get W i x j hx hj).trans hu)
    exact ⟨k 0 (by omega) _ rfl, k 1 (by omega) _ rfl, k 2 (by omega) _ rfl, k 3 (by omega) _ rfl, k 4 (by omega) _ rfl, k 5 (by omega) _ rfl, k 6 (by omega) _ rfl, k 7 (by omega) _ rfl⟩
end
end Go.Proofs.YtnamphhchecaeaaGreat.Pv

