/- Parts of the proof: SW3 MR1. -/
import Derived.Test.YtjghbciepinofaaGreatRows
import Derived.Test.YtjghbciepinofaaGreatPK5
import Derived.Test.YtjghbciepinofaaGreatPK52
import Derived.Test.YtjghbciepinofaaGreatPK53
import Derived.Deep.RegionLaw
set_option maxRecDepth 100000
namespace Go.Proofs.YtjghbciepinofaaGreat
open Go.RowKit
theorem step_wanted {ops : Array Oper} {o : Oper} {a : Act} {w : World} {K : Act → World → Prop} {Q : Exit → Act → World → Prop} {E : Prop} (hg : o.guard = none) (h : Oper.wp Tryz.prog o a w K Q) :
    if Region.wanted o (yielded ops a.tmps) = true then Oper.wp Tryz.prog o a w K Q else E := by
  have hw : Region.wanted o (yielded ops a.tmps) = true := by simp [Region.wanted, hg]
  rw [if_pos hw]; exact h
theorem wt_new (w : World) (x : Wt) (e : TypeId) : ∀ j v, (wtL x)[j]? = some v → (w.alloc (.cells #[.int .i64 x.num, .int .i64 x.d, .int .i64 x.v, .int .i64 x.amt, .int .i64 x.hei, .int .i64 x.due, .int .i64 x.h0, .int .i64 x.h1] e)).cell? ⟨w.heap.size, j, none⟩ = some v := by
  intro j v hj
  rw [World.cell?_alloc_at _ _ _ _ rfl]
  simpa [wtL] using hj
theorem YAt.set4 {w : World} {b : Nat} {x : Wt} (h : YAt w b x) (a1 a2 a3 a4 : Int) : YAt ((((w.setCell ⟨b, 0, none⟩ (.int .i64 a1)).setCell ⟨b, 1, none⟩ (.int .i64 a2)).setCell ⟨b, 2, none⟩ (.int .i64 a3)).setCell ⟨b, 3, none⟩ (.int .i64 a4)) b { x with num := a1, d := a2, v := a3, amt := a4 } := by
  unfold YAt at *
  simp [World.setCell, Array.getElem?_modify, h]
theorem YAt.free {w : World} {b : Nat} {x : Wt} (h : YAt w b x) (o : Nat) : w.frozen? ⟨b, o, none⟩ = false := by
  unfold YAt at h
  simp [World.frozen?, h]
end Go.Proofs.YtjghbciepinofaaGreat

set_option maxRecDepth 100000
namespace Go.Proofs.YtjghbciepinofaaGreat
theorem goodS_iff (s : St) : goodS s = true ↔ s.b.good = true ∧ 1 ≤ s.next ∧ s.next ≤ 1125899906842624 ∧ s.W.length ≤ 60 ∧ wOk s.next 0 s.W = true ∧ (∀ k, k < 6 → vOk (s.V k) = true ∧ pshOk s.S k 4 = true ∧ psh s.S k 4 = (s.V k).sh) ∧ ptok s.V 6 = s.b.bo ∧ amts s.W = s.b.wa ∧ plost s.V 6 = s.b.bu := by
  have hp : pvs s 6 = true ↔ ∀ k, k < 6 → vOk (s.V k) = true ∧ pshOk s.S k 4 = true ∧ psh s.S k 4 = (s.V k).sh := by
    constructor
    · intro h k hk
      have := pvs_at h hk
      simp only [vsOk, shOk, Bool.and_eq_true, decide_eq_true_eq] at this
      exact ⟨this.1, this.2.1, this.2.2⟩
    · intro h
      simp only [pvs, vsOk, shOk, Bool.and_eq_true, decide_eq_true_eq, true_and]
      exact ⟨⟨⟨⟨⟨h 0 (by omega), h 1 (by omega)⟩, h 2 (by omega)⟩, h 3 (by omega)⟩, h 4 (by omega)⟩, h 5 (by omega)⟩
  unfold goodS bal
  simp only [Bool.and_eq_true, decide_eq_true_eq, hp]
  constructor
  · rintro ⟨⟨⟨⟨⟨⟨h1, h2⟩, h3⟩, h4⟩, h5⟩, h6⟩, ⟨h7, h8⟩, h9⟩
    exact ⟨h1, h2, h3, h4, h5, h6, h7, h8, h9⟩
  · rintro ⟨h1, h2, h3, h4, h5, h6, h7, h8, h9⟩
    exact ⟨⟨⟨⟨⟨⟨h1, h2⟩, h3⟩, h4⟩, h5⟩, h6⟩, ⟨h7, h8⟩, h9⟩
theorem vOk_iff (x : Vd) : vOk x = true ↔ (0 ≤ x.tok ∧ x.tok ≤ 1125899906842624) ∧ (0 ≤ x.sh ∧ x.sh ≤ 1125899906842624) ∧ (0 ≤ x.lost ∧ x.lost ≤ 1125899906842624) ∧ (0 < x.tok → x.sh ≠ 0) ∧ (x.dead = true → x.jail = true) := by
  unfold vOk
  simp only [Bool.and_eq_true, inA_iff, Bool.not_eq_true', Bool.and_eq_false_iff, decide_eq_false_iff_not, Bool.or_eq_true]
  constructor
  · rintro ⟨⟨⟨⟨h1, h2⟩, h3⟩, h4⟩, h5⟩
    refine ⟨h1, h2, h3, fun h => h4.resolve_left (fun h' => h' h), fun h => ?_⟩
    rcases h5 with h5 | h5
    · exact h5
    · rw [h] at h5; cases h5
  · rintro ⟨h1, h2, h3, h4, h5⟩
    refine ⟨⟨⟨⟨h1, h2⟩, h3⟩, ?_⟩, ?_⟩
    · by_cases h : 0 < x.tok
      · exact .inr (h4 h)
      · exact .inl h
    · cases hd : x.dead
      · exact .inr rfl
      · exact .inl (h5 hd)
theorem six {v : Nat} (h : v < 6) : v = 0 ∨ v = 1 ∨ v = 2 ∨ v = 3 ∨ v = 4 ∨ v = 5 := by omega
theorem four {v : Nat} (h : v < 4) : v = 0 ∨ v = 1 ∨ v = 2 ∨ v = 3 := by omega
theorem ptok_set (V : Nat → Vd) (v : Nat) (x : Vd) (hv : v < 6) : ptok (setV V v x) 6 = ptok V 6 + x.tok - (V v).tok := by
  rcases six hv with rfl | rfl | rfl | rfl | rfl | rfl <;> simp [ptok, setV] <;> omega
theorem plost_set (V : Nat → Vd) (v : Nat) (x : Vd) (hv : v < 6) : plost (setV V v x) 6 = plost V 6 + x.lost - (V v).lost := by
  rcases six hv with rfl | rfl | rfl | rfl | rfl | rfl <;> simp [plost, setV] <;> omega
theorem ptok_ge {V : Nat → Vd} (h : ∀ k, k < 6 → 0 ≤ (V k).tok) {v : Nat} (hv : v < 6) : (V v).tok ≤ ptok V 6 := by
  have h0 := h 0 (by omega); have h1 := h 1 (by omega); have h2 := h 2 (by omega); have h3 := h 3 (by omega); have h4 := h 4 (by omega); have h5 := h 5 (by omega)
  simp only [ptok]
  rcases six hv with rfl | rfl | rfl | rfl | rfl | rfl <;> omega
end Go.Proofs.YtjghbciepinofaaGreat

