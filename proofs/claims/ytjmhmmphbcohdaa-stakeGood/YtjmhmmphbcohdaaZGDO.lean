/- A list of orders that came in, opened. -/
import Derived.Test.YtjmhmmphbcohdaaZFOB
import Derived.ProofKit
import Derived.OpenShut
import Derived.Deep.Slices
set_option maxRecDepth 100000
namespace Go.Proofs.Ytjmhmmphbcohdaa.Gd
open Go.ChangeShapes Go.WideShapes Go.ChangeAt Go.RowKit Go.Deep
structure Or where
  k : Int
  d : Int
  v : Int
  n : Int
  h : Int
def orL (x : Or) : List Value := [.int .i64 x.k, .int .i64 x.d, .int .i64 x.v, .int .i64 x.n, .int .i64 x.h]
/-- orders lie in memory, five cells each -/
structure OrsAt (w : World) (ao : Option Addr) (b off : Nat) (l : List Or) : Prop where
  adr : 0 < l.length → ao = some ⟨b, off, none⟩
  len : l.length ≤ maxLen
  cells : ∀ i x, l[i]? = some x → w.cell? ⟨b, off + i * 5, none⟩ = some (.int .i64 x.k) ∧ w.cell? ⟨b, off + i * 5 + 1, none⟩ = some (.int .i64 x.d) ∧ w.cell? ⟨b, off + i * 5 + 2, none⟩ = some (.int .i64 x.v) ∧ w.cell? ⟨b, off + i * 5 + 3, none⟩ = some (.int .i64 x.n) ∧ w.cell? ⟨b, off + i * 5 + 4, none⟩ = some (.int .i64 x.h)
theorem OrsAt.later {w w' : World} {ao : Option Addr} {b off : Nat} {l : List Or} (h : OrsAt w ao b off l) (hb : Below w.heap.size w w') : OrsAt w' ao b off l := ⟨h.adr, h.len, fun i x hx => by
  obtain ⟨h0, h1, h2, h3, h4⟩ := h.cells i x hx
  have hlt : b < w.heap.size := World.block_lt_of_cell? w _ h0
  exact ⟨(hb.cell (p := ⟨b, off + i * 5, none⟩) hlt).trans h0, (hb.cell (p := ⟨b, off + i * 5 + 1, none⟩) hlt).trans h1, (hb.cell (p := ⟨b, off + i * 5 + 2, none⟩) hlt).trans h2, (hb.cell (p := ⟨b, off + i * 5 + 3, none⟩) hlt).trans h3, (hb.cell (p := ⟨b, off + i * 5 + 4, none⟩) hlt).trans h4⟩⟩
theorem pick_all {β : Type} {p : Nat → β → Prop} (d : β) {n : Nat} (h : ∀ i, i < n → ∃ y, p i y) : ∃ f : Nat → β, ∀ i, i < n → p i (f i) := by
  refine ⟨fun i => if hi : i < n then Classical.choose (h i hi) else d, fun i hi => ?_⟩
  simp only [dif_pos hi]
  exact Classical.choose_spec (h i hi)
theorem cI : Try.prog.cellsOf 3 = 1 := by kernel_rfl
theorem cOr : Try.prog.cellsOf 40 = 5 := by kernel_rfl
section
variable {H : Type} {enc : TypeId × Value → H} {W : World}
theorem open_or {m : Nat} {l : List Value} {y : DataW H × List MemPlace} (h : DataW.trod enc Try.prog W 0 (fun _ => true) true m 40 l = some y) : ∃ x : Or, l = orL x := by
  obtain ⟨xs, n, _, _, hl, hxl, hx⟩ := DataW.trod_struct Try.underlying40 h
  rw [cOr] at hl
  match l, hl with
  | [a0, a1, a2, a3, a4], _ =>
    match xs, hxl with
    | [y0, y1, y2, y3, y4], _ =>
      have t0 := hx 0 _ rfl
      have t1 := hx 1 _ rfl
      have t2 := hx 2 _ rfl
      have t3 := hx 3 _ rfl
      have t4 := hx 4 _ rfl
      simp [cI] at t0 t1 t2 t3 t4
      obtain ⟨q0, e0, _⟩ := DataW.trod_int Try.underlying3 t0
      obtain ⟨q1, e1, _⟩ := DataW.trod_int Try.underlying3 t1
      obtain ⟨q2, e2, _⟩ := DataW.trod_int Try.underlying3 t2
      obtain ⟨q3, e3, _⟩ := DataW.trod_int Try.underlying3 t3
      obtain ⟨q4, e4, _⟩ := DataW.trod_int Try.underlying3 t4
      simp at e0 e1 e2 e3 e4
      subst e0 e1 e2 e3 e4
      exact ⟨⟨q0, q1, q2, q3, q4⟩, rfl⟩
theorem open_orders {r : Reach} {b0 : Nat} {v : Value} {d : DataW H} {p : List MemPlace} (hv : Value.okWide Try.prog W r b0 22 v) (h : DataW.Trod enc Try.prog W 0 (fun _ => true) true 22 v d p) :
    ∃ (l : List Or) (ao : Option Addr) (c b off : Nat), v = .slice ao l.length c ∧ OrsAt W ao b off l := by
  obtain ⟨a, len, cap, rfl⟩ := okWide_slice Try.underlying22 hv
  obtain ⟨fuel, hf⟩ := h
  rcases open_slice Try.underlying22 hf with ⟨h0, _⟩ | ⟨a, len', cap', k, n, D, Pl, hcs, _, hlc, hmx, hk, hy, hx⟩
  · simp [Value.cells] at h0
    obtain ⟨rfl, rfl, rfl⟩ := h0
    exact ⟨[], none, 0, 0, 0, rfl, fun h => absurd h (by simp), by simp, fun i x h => by simp at h⟩
  simp [Value.cells] at hcs
  obtain ⟨rfl, rfl, rfl⟩ := hcs
  simp only [if_true] at hk
  subst hk
  rw [cOr] at hx
  obtain ⟨g, hg⟩ := pick_all (n := k) (p := fun i (x : Or) => W.cells? 0 (a.add (i * 5)) 5 = some (orL x)) ⟨0, 0, 0, 0, 0⟩ (fun i hi => by
    obtain ⟨cs', h1, h2⟩ := hx i hi
    obtain ⟨x, rfl⟩ := open_or h2
    exact ⟨x, h1⟩)
  have hlen : ((List.range len).map g).length = len := by simp
  by_cases h0 : len = 0
  · subst h0
    exact ⟨[], some a, k, 0, 0, rfl, fun h => absurd h (by simp), by simp, fun i x h => by simp at h⟩
  have hcell : ∀ i, i < k → ∀ j v, (orL (g i))[j]? = some v → W.cell? ((a.add (i * 5)).add j) = some v := fun i hi j v hv => by
    obtain ⟨_, hlen', hc⟩ := World.cells?_some (hg i hi)
    have hj : j < 5 := by have := (List.getElem?_eq_some_iff.1 hv).1; simpa [orL] using this
    rw [hc j hj]
    exact hv
  obtain ⟨b, off, spot⟩ := a
  have hspot : spot = none := by
    have := hcell 0 (by omega) 0 _ rfl
    simpa [Addr.add] using World.cell?_spot this
  subst hspot
  refine ⟨(List.range len).map g, some ⟨b, off, none⟩, k, b, off, by rw [hlen], fun _ => rfl, by rw [hlen]; omega, fun i x hi => ?_⟩
  have hil : i < len := by have := (List.getElem?_eq_some_iff.1 hi).1; simpa using this
  obtain rfl : g i = x := by simpa [hil] using hi
  have hc := hcell i (by omega)
  simp only [Addr.add_lit] at hc
  exact ⟨hc 0 _ rfl, hc 1 _ rfl, hc 2 _ rfl, hc 3 _ rfl, hc 4 _ rfl⟩
end
end Go.Proofs.Ytjmhmmphbcohdaa.Gd
