/- A packet that came in, opened, with the bound on the bytes of its two lists that every row says by itself. -/
import Derived.Test.YtjakacpfodkjaaaO
import Derived.SizedLaws
namespace Go.Proofs.Ytjakacpfodkjaaa
open Go.ChangeShapes Go.WideShapes Go.ChangeAt Go.RowKit Go.Deep
theorem bytes42 : Try.prog.bytesOf 42 = 16 := by kernel_rfl
theorem bytes3 : Try.prog.bytesOf 3 = 8 := by kernel_rfl
section
variable {H : Type} {enc : TypeId × Value → H} {W : World}
theorem len_nums {n l c : Nat} {a : Option Addr} {y : DataW H × List MemPlace} (hf : DataW.trod enc Try.prog W 0 (fun _ => true) true n 23 [.slice a l c] = some y) (hw : ∀ x ∈ DataW.weights Try.prog 23 y.1, x ≤ reachBytes) : l * 8 ≤ reachBytes := by
  rcases open_ints Try.underlying23 Try.underlying3 (by kernel_rfl) hf with ⟨hcs, _⟩ | ⟨x, l', c', zs, hcs, _, hl, hm, hz, hx, hcell, hwz⟩
  · simp at hcs; omega
  · simp at hcs hz
    obtain ⟨_, rfl, rfl⟩ := hcs
    subst hx
    have := hw ((l + (zs.length - l)) * 8) (by simp [DataW.weights, Try.underlying23, bytes3, lits]; left; omega)
    omega
theorem len_pws {n l c : Nat} {a : Option Addr} {y : DataW H × List MemPlace} (hf : DataW.trod enc Try.prog W 0 (fun _ => true) true n 22 [.slice a l c] = some y) (hw : ∀ x ∈ DataW.weights Try.prog 22 y.1, x ≤ reachBytes) : l * 16 ≤ reachBytes := by
  rcases open_slice_pairs Try.underlying22 Try.underlying42 (by kernel_rfl) rfl rfl (by kernel_rfl) (by kernel_rfl) hf with ⟨hcs, _⟩ | ⟨x, l', c', m, n', V0, V1, D0, D1, P0, P1, hcs, _, hl, hm, hmm, hx, hcell⟩
  · simp at hcs; omega
  · simp at hcs
    obtain ⟨_, rfl, rfl⟩ := hcs
    subst hx
    have := hw ((l + (m - l)) * 16) (by simp [DataW.weights, Try.underlying22, bytes42])
    omega
theorem open_packet2 {r : Reach} {b0 : Nat} {v : Value} {d : DataW H} {p : List MemPlace} (hv : Value.okWide Try.prog W r b0 25 v) (h : DataW.Trod enc Try.prog W 0 (fun _ => true) true 25 v d p) (hw : ∀ x ∈ DataW.weights Try.prog 25 d, x ≤ reachBytes) :
    ∃ (k i x n : Int) (S : List (Int × Int)) (D : List Int) (sa da : Option Addr) (cs cd sb so db dO : Nat),
      v = .agg #[.int .i64 k, .int .i64 i, .int .i64 x, .int .i64 n, .slice sa S.length cs, .slice da D.length cd] ∧ Lies W S D sa da sb so db dO ∧ S.length * 16 ≤ reachBytes ∧ D.length * 8 ≤ reachBytes := by
  obtain ⟨cs, rfl, hsz⟩ := okWide_struct Try.underlying25 hv
  have hc6 : Try.prog.cellsOf 25 = 6 := by kernel_rfl
  have c3 : Try.prog.cellsOf 3 = 1 := by kernel_rfl
  have c22 : Try.prog.cellsOf 22 = 1 := by kernel_rfl
  have c23 : Try.prog.cellsOf 23 = 1 := by kernel_rfl
  rw [hc6] at hsz
  obtain ⟨cs⟩ := cs
  match cs, hsz with
  | [a0, a1, a2, a3, a4, a5], _ =>
    obtain ⟨fuel, hf⟩ := h
    obtain ⟨xs, n, _, hxs, _, hxl, hx⟩ := DataW.trod_struct Try.underlying25 hf
    match xs, hxl with
    | [y0, y1, y2, y3, y4, y5], _ =>
      have t0 := hx 0 _ rfl
      have t1 := hx 1 _ rfl
      have t2 := hx 2 _ rfl
      have t3 := hx 3 _ rfl
      have t4 := hx 4 _ rfl
      have t5 := hx 5 _ rfl
      simp [Value.cells, c3, c22, c23] at t0 t1 t2 t3 t4 t5
      simp only [Prod.mk.injEq] at hxs
      obtain ⟨rfl, _⟩ := hxs
      have w4 : ∀ x ∈ DataW.weights Try.prog 22 y4.1, x ≤ reachBytes := fun x hx => hw x (by simp [DataW.weights, Try.underlying25, DataW.weightsEach, hx])
      have w5 : ∀ x ∈ DataW.weights Try.prog 23 y5.1, x ≤ reachBytes := fun x hx => hw x (by simp [DataW.weights, Try.underlying25, DataW.weightsEach, hx])
      obtain ⟨q0, e0, _, _⟩ := DataW.trod_int Try.underlying3 t0
      obtain ⟨q1, e1, _, _⟩ := DataW.trod_int Try.underlying3 t1
      obtain ⟨q2, e2, _, _⟩ := DataW.trod_int Try.underlying3 t2
      obtain ⟨q3, e3, _, _⟩ := DataW.trod_int Try.underlying3 t3
      simp at e0 e1 e2 e3
      obtain ⟨S, sa, cs, sb, so, e4, h1, h2, h3⟩ := open_pws t4
      obtain ⟨D, da, cd, db, dO, e5, h4, h5, h6⟩ := open_nums t5
      subst e0 e1 e2 e3 e4 e5
      exact ⟨q0, q1, q2, q3, S, D, sa, da, cs, cd, sb, so, db, dO, rfl, ⟨h1, h4, h2, h5, h3, h6⟩, len_pws t4 w4, len_nums t5 w5⟩
end
end Go.Proofs.Ytjakacpfodkjaaa
