/- Parts of the proof: WO. -/
import Derived.Test.YtnamphhchecaeaaGreatRows
import Derived.WalkKit
import Derived.ProofKit
import Derived.OpenShut
import Derived.Deep.Slices
import Derived.SizedLaws
set_option maxRecDepth 100000
namespace Go.Proofs.YtnamphhchecaeaaGreat.Wd
open Go.ChangeShapes Go.WideShapes Go.ChangeAt Go.RowKit Go.Deep
section
variable {H : Type} {enc : TypeId × Value → H} {W : World}
structure Dd where
  k : Int
  c : Int
  d : Int
  v : Int
  n : Int
  b : Bool
  f : Bool
def ddC (x : Dd) : Array Value := #[.int .i64 x.k, .int .i64 x.c, .int .i64 x.d, .int .i64 x.v, .int .i64 x.n, .bool x.b, .bool x.f]
theorem open_deed {r : Reach} {b0 : Nat} {v : Value} {d : DataW H} {p : List MemPlace} (hv : Value.okWide Tryz.prog W r b0 23 v) (h : DataW.Trod enc Tryz.prog W 0 (fun _ => true) true 23 v d p) : ∃ x : Dd, v = .agg (ddC x) := by
  obtain ⟨cs, rfl, hsz⟩ := okWide_struct Tryz.underlying23 hv
  have hc2 : Tryz.prog.cellsOf 23 = 7 := by kernel_rfl
  have c3 : Tryz.prog.cellsOf 3 = 1 := by kernel_rfl
  have c4 : Tryz.prog.cellsOf 4 = 1 := by kernel_rfl
  rw [hc2] at hsz
  obtain ⟨cs⟩ := cs
  match cs, hsz with
  | [a0, a1, a2, a3, a4, a5, a6], _ =>
    obtain ⟨fuel, hf⟩ := h
    obtain ⟨xs, n, _, _, _, hxl, hx⟩ := DataW.trod_struct Tryz.underlying23 hf
    match xs, hxl with
    | [y0, y1, y2, y3, y4, y5, y6], _ =>
      have t0 := hx 0 _ rfl
      have t1 := hx 1 _ rfl
      have t2 := hx 2 _ rfl
      have t3 := hx 3 _ rfl
      have t4 := hx 4 _ rfl
      have t5 := hx 5 _ rfl
      have t6 := hx 6 _ rfl
      simp [Value.cells, c3, c4] at t0 t1 t2 t3 t4 t5 t6
      obtain ⟨q0, e0, _, _⟩ := DataW.trod_int Tryz.underlying3 t0
      obtain ⟨q1, e1, _, _⟩ := DataW.trod_int Tryz.underlying3 t1
      obtain ⟨q2, e2, _, _⟩ := DataW.trod_int Tryz.underlying3 t2
      obtain ⟨q3, e3, _, _⟩ := DataW.trod_int Tryz.underlying3 t3
      obtain ⟨q4, e4, _, _⟩ := DataW.trod_int Tryz.underlying3 t4
      obtain ⟨q5, e5, _, _⟩ := DataW.trod_bool Tryz.underlying4 t5
      obtain ⟨q6, e6, _, _⟩ := DataW.trod_bool Tryz.underlying4 t6
      simp at e0 e1 e2 e3 e4 e5 e6
      subst e0 e1 e2 e3 e4 e5 e6
      exact ⟨⟨q0, q1, q2, q3, q4, q5, q6⟩, rfl⟩
theorem open_numb {r : Reach} {b0 : Nat} {v : Value} {d : DataW H} {p : List MemPlace} (hv : Value.okWide Tryz.prog W r b0 3 v) (h : DataW.Trod enc Tryz.prog W 0 (fun _ => true) true 3 v d p) : ∃ n : Int, v = .int .i64 n ∧ -9223372036854775808 ≤ n ∧ n ≤ 9223372036854775807 := by
  obtain ⟨n, e, _, _, wf⟩ := open_int Tryz.underlying3 hv h
  exact ⟨n, e, bounds_i64 wf⟩
end
end Go.Proofs.YtnamphhchecaeaaGreat.Wd

