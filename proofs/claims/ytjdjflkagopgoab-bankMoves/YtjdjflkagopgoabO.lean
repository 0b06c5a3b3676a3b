/- How a bank that came in is opened: its seven numbers. -/
import Derived.Test.YtjdjflkagopgoabRows
import Derived.WalkKit
import Derived.ProofKit
import Derived.OpenShut
import Derived.Laws.IdiomArrays
namespace Go.Proofs.Ytjdjflkagopgoab
open Go.ChangeShapes Go.WideShapes Go.ChangeAt Go.RowKit
theorem open_bank {H : Type} {enc : TypeId × Value → H} {W : World} {r : Reach} {b0 : Nat} {v : Value} {d : DataW H} {p : List MemPlace} (hv : Value.okWide Try.prog W r b0 33 v) (h : DataW.Trod enc Try.prog W 0 (fun _ => true) true 33 v d p) :
    ∃ (f0 f1 f2 f3 bo wa bu : Int), v = .agg #[.int .i64 f0, .int .i64 f1, .int .i64 f2, .int .i64 f3, .int .i64 bo, .int .i64 wa, .int .i64 bu] := by
  obtain ⟨cs, rfl, hsz⟩ := okWide_struct Try.underlying33 hv
  have hc7 : Try.prog.cellsOf 33 = 7 := by kernel_rfl
  have c3 : Try.prog.cellsOf 3 = 1 := by kernel_rfl
  have c22 : Try.prog.cellsOf 31 = 4 := by kernel_rfl
  rw [hc7] at hsz
  obtain ⟨cs⟩ := cs
  match cs, hsz with
  | [a0, a1, a2, a3, a4, a5, a6], _ =>
    obtain ⟨fuel, hf⟩ := h
    obtain ⟨xs, n, _, _, _, hxl, hx⟩ := DataW.trod_struct Try.underlying33 hf
    match xs, hxl with
    | [y0, y1, y2, y3], _ =>
      have t0 := hx 0 _ rfl
      have t1 := hx 1 _ rfl
      have t2 := hx 2 _ rfl
      have t3 := hx 3 _ rfl
      simp [Value.cells, c3, c22] at t0 t1 t2 t3
      obtain ⟨z0, z1, z2, z3, m, _, s0, s1, s2, s3⟩ := trod_array4 Try.underlying31 c3 t0
      obtain ⟨q0, e0, _, _⟩ := DataW.trod_int Try.underlying3 s0
      obtain ⟨q1, e1, _, _⟩ := DataW.trod_int Try.underlying3 s1
      obtain ⟨q2, e2, _, _⟩ := DataW.trod_int Try.underlying3 s2
      obtain ⟨q3, e3, _, _⟩ := DataW.trod_int Try.underlying3 s3
      obtain ⟨q4, e4, _, _⟩ := DataW.trod_int Try.underlying3 t1
      obtain ⟨q5, e5, _, _⟩ := DataW.trod_int Try.underlying3 t2
      obtain ⟨q6, e6, _, _⟩ := DataW.trod_int Try.underlying3 t3
      simp at e0 e1 e2 e3 e4 e5 e6
      subst e0 e1 e2 e3 e4 e5 e6
      exact ⟨q0, q1, q2, q3, q4, q5, q6, rfl⟩
theorem open_num {H : Type} {enc : TypeId × Value → H} {W : World} {r : Reach} {b0 : Nat} {v : Value} {d : DataW H} {p : List MemPlace} (hv : Value.okWide Try.prog W r b0 3 v) (h : DataW.Trod enc Try.prog W 0 (fun _ => true) true 3 v d p) : ∃ n : Int, v = .int .i64 n := by
  obtain ⟨n, e, _⟩ := open_int Try.underlying3 hv h
  exact ⟨n, e⟩
end Go.Proofs.Ytjdjflkagopgoab
