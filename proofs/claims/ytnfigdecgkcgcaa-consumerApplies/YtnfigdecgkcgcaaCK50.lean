/- Parts of the proof: KO. -/
import Derived.Test.YtnfigdecgkcgcaaRows
import Derived.Test.YtnfigdecgkcgcaaCK19
import Derived.Test.YtnfigdecgkcgcaaCK49
set_option maxRecDepth 100000
namespace Go.Proofs.Ytnfigdecgkcgcaa.Kc
open Go.ChangeShapes Go.WideShapes Go.ChangeAt Go.RowKit Go.Deep Pv
section
variable {H : Type} {enc : TypeId × Value → H} {W : World}
theorem open_intl {r : Reach} {b0 : Nat} {v : Value} {d : DataW H} {p : List MemPlace} (hv : Value.okWide Try.prog W r b0 27 v) (h : DataW.Trod enc Try.prog W 0 (fun _ => true) true 27 v d p) (hw : ∀ x ∈ DataW.weights Try.prog 27 d, x ≤ reachBytes) : ∃ L : List Int, Rep (fun _ => True) W v 1 8 (inC L) := by
  obtain ⟨a0, len, cap, rfl⟩ := okWide_slice Try.underlying27 hv
  obtain ⟨fuel, hf⟩ := h
  obtain ⟨L, u, e, r⟩ := rep_ints hf hw
  simp [Value.cells] at e
  subst e
  exact ⟨L, r⟩
theorem cIs1 : Try.prog.cellsOf 27 = 1 := by kernel_rfl
theorem yIs : Try.prog.bytesOf 27 = 24 := by kernel_rfl
/-- a list of lists -/
theorem open_intll {r : Reach} {b0 : Nat} {v : Value} {d : DataW H} {p : List MemPlace} (hv : Value.okWide Try.prog W r b0 50 v) (h : DataW.Trod enc Try.prog W 0 (fun _ => true) true 50 v d p) (hw : ∀ x ∈ DataW.weights Try.prog 50 d, x ≤ reachBytes) : ∃ (L : List (List Int)) (z : List Value), z.length = L.length ∧ Rep (fun _ => True) W v 1 24 z ∧ ∀ (i : Nat) (x : List Int) (y : Value), L[i]? = some x → z[i]? = some y → Rep (fun _ => True) W y 1 8 (inC x) := by
  obtain ⟨a0, len, cap, rfl⟩ := okWide_slice Try.underlying50 hv
  obtain ⟨fuel, hf⟩ := h
  obtain ⟨L, u, e, hr, hq, -⟩ := open_rep (([] : List Int), (.slice none 0 0 : Value)) (fun b : List Int × Value => [b.2]) (fun b => Rep (fun _ => True) W b.2 1 8 (inC b.1)) Try.underlying50 cIs1 yIs (fun _ => rfl) (by decide) hf hw (fun h hw => by obtain ⟨L, u, e, r⟩ := rep_ints h hw; exact ⟨(L, u), e, r⟩)
  simp [Value.cells] at e
  subst e
  rw [flat_one] at hr
  refine ⟨L.map (·.1), L.map (·.2), by simp, hr, fun i x y hx hy => ?_⟩
  rw [List.getElem?_map] at hx hy
  rcases hb : L[i]? with _ | b
  · rw [hb] at hx; simp at hx
  · rw [hb] at hx hy
    simp at hx hy
    subst hx hy
    exact hq b (List.mem_of_getElem? hb)
end
end Go.Proofs.Ytnfigdecgkcgcaa.Kc

