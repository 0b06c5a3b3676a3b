/- A line that came in, opened. -/
import Derived.Test.YtpocbkgkgpflaaaLA
import Derived.ProofKit
import Derived.OpenShut
import Derived.Deep.Slices
import Derived.SliceStrings
import Derived.SizedLaws
set_option maxRecDepth 100000
namespace Go.Proofs.Ytpocbkgkgpflaaa.Ln
open Go.ChangeShapes Go.WideShapes Go.ChangeAt Go.RowKit Go.Deep
theorem cI : Try.prog.cellsOf 3 = 1 := by kernel_rfl
theorem cT : Try.prog.cellsOf 4 = 1 := by kernel_rfl
theorem cStr : Try.prog.cellsOf 9 = 1 := by kernel_rfl
theorem cStrs : Try.prog.cellsOf 22 = 1 := by kernel_rfl
theorem cIs : Try.prog.cellsOf 23 = 1 := by kernel_rfl
theorem cLn : Try.prog.cellsOf 25 = 4 := by kernel_rfl
theorem bytesI : Try.prog.bytesOf 3 = 8 := by kernel_rfl
theorem bytesStr : Try.prog.bytesOf 9 = 16 := by kernel_rfl
section
variable {H : Type} {enc : TypeId × Value → H} {W : World}
theorem open_nums {n : Nat} {v : Value} {y : DataW H × List MemPlace} (hf : DataW.trod enc Try.prog W 0 (fun _ => true) true n 23 [v] = some y) (hw : ∀ x ∈ DataW.weights Try.prog 23 y.1, x ≤ reachBytes) :
    ∃ (D : List Int) (da : Option Addr) (cd db dO : Nat), v = .slice da D.length cd ∧ D.length * 8 ≤ 140737488351232 ∧ (0 < D.length → da = some ⟨db, dO, none⟩) ∧ (da = none → cd = 0) ∧ IntsAt W db dO D := by
  rcases open_ints Try.underlying23 Try.underlying3 cI hf with ⟨hcs, _⟩ | ⟨x, l, c, zs, hcs, _, hl, hm, hz, hx, hcell, hwz⟩
  · simp at hcs
    subst hcs
    exact ⟨[], none, 0, 0, 0, rfl, by simp, by simp, fun _ => rfl, fun i hi => absurd hi (by simp)⟩
  · simp at hcs
    subst hcs
    simp at hz
    have hlz : (zs.take l).length = l := by simp; omega
    subst hx
    have hb := hw ((l + (zs.length - l)) * 8) (by simp [DataW.weights, Try.underlying23, bytesI, lits]; left; omega)
    have e : reachBytes = 140737488351232 := rfl
    by_cases h0 : l = 0
    · subst h0
      exact ⟨[], some x, c, 0, 0, by simp, by simp, by simp, fun h => (by cases h), fun i hi => absurd hi (by simp)⟩
    · obtain ⟨b, off, spot⟩ := x
      have hc := hcell 0 (by omega)
      have hspot : spot = none := by simpa [Addr.add] using World.cell?_spot hc
      subst hspot
      refine ⟨zs.take l, some ⟨b, off, none⟩, c, b, off, by rw [hlz], by omega, fun _ => rfl, fun h => (by cases h), fun i hi => ?_⟩
      have := hcell i (by omega)
      rw [Addr.add_lit] at this
      rw [this]
      have hi' : i < l := by omega
      simp [List.getD, hi']
theorem open_txts {n : Nat} {v : Value} {y : DataW H × List MemPlace} (hf : DataW.trod enc Try.prog W 0 (fun _ => true) true n 22 [v] = some y) (hw : ∀ x ∈ DataW.weights Try.prog 22 y.1, x ≤ reachBytes) :
    ∃ (S : List ByteArray) (sa : Option Addr) (cs sb so : Nat), v = .slice sa S.length cs ∧ S.length * 16 ≤ 140737488351232 ∧ (0 < S.length → sa = some ⟨sb, so, none⟩) ∧ (sa = none → cs = 0) ∧ StrsAt W sb so S := by
  rcases open_strings Try.underlying22 Try.underlying9 cStr hf with ⟨hcs, _⟩ | ⟨x, l, c, zs, hcs, _, hl, hm, hz, hx, hcell, hwz⟩
  · simp at hcs
    subst hcs
    exact ⟨[], none, 0, 0, 0, rfl, by simp, by simp, fun _ => rfl, fun i hi => absurd hi (by simp)⟩
  · simp at hcs
    subst hcs
    simp at hz
    have hlz : (zs.take l).length = l := by simp; omega
    subst hx
    have hb := hw ((l + (zs.length - l)) * 16) (by simp [DataW.weights, Try.underlying22, bytesStr, strs]; left; omega)
    have e : reachBytes = 140737488351232 := rfl
    by_cases h0 : l = 0
    · subst h0
      exact ⟨[], some x, c, 0, 0, by simp, by simp, by simp, fun h => (by cases h), fun i hi => absurd hi (by simp)⟩
    · obtain ⟨b, off, spot⟩ := x
      have hc := hcell 0 (by omega)
      have hspot : spot = none := by simpa [Addr.add] using World.cell?_spot hc
      subst hspot
      refine ⟨zs.take l, some ⟨b, off, none⟩, c, b, off, by rw [hlz], by omega, fun _ => rfl, fun h => (by cases h), fun i hi => ?_⟩
      have := hcell i (by omega)
      rw [Addr.add_lit] at this
      rw [this]
      have hi' : i < l := by omega
      simp [List.getD, hi']
theorem open_line {r : Reach} {b0 : Nat} {v : Value} {d : DataW H} {p : List MemPlace} (hv : Value.okWide Try.prog W r b0 25 v) (h : DataW.Trod enc Try.prog W 0 (fun _ => true) true 25 v d p) (hw : ∀ x ∈ DataW.weights Try.prog 25 d, x ≤ reachBytes) :
    ∃ x : Line, LV W.heap.size W x v := by
  obtain ⟨cs, rfl, hsz⟩ := okWide_struct Try.underlying25 hv
  rw [cLn] at hsz
  obtain ⟨cs⟩ := cs
  match cs, hsz with
  | [a0, a1, a2, a3], _ =>
    obtain ⟨fuel, hf⟩ := h
    obtain ⟨xs, n, _, hxs, _, hxl, hx⟩ := DataW.trod_struct Try.underlying25 hf
    match xs, hxl with
    | [y0, y1, y2, y3], _ =>
      have t0 := hx 0 _ rfl
      have t1 := hx 1 _ rfl
      have t2 := hx 2 _ rfl
      have t3 := hx 3 _ rfl
      simp [Value.cells, cI, cT, cStrs, cIs] at t0 t1 t2 t3
      simp only [Prod.mk.injEq] at hxs
      obtain ⟨rfl, _⟩ := hxs
      have w0 : ∀ x ∈ DataW.weights Try.prog 22 y0.1, x ≤ reachBytes := fun x hx => hw x (by simp [DataW.weights, Try.underlying25, DataW.weightsEach, hx])
      have w1 : ∀ x ∈ DataW.weights Try.prog 23 y1.1, x ≤ reachBytes := fun x hx => hw x (by simp [DataW.weights, Try.underlying25, DataW.weightsEach, hx])
      obtain ⟨S, sa, cs, sb, so, e0, h1, h2, n2, h3⟩ := open_txts t0 w0
      obtain ⟨D, da, cd, db, dO, e1, h4, h5, n5, h6⟩ := open_nums t1 w1
      obtain ⟨q2, e2, _, _⟩ := DataW.trod_int Try.underlying3 t2
      obtain ⟨q3, e3, _⟩ := DataW.trod_bool Try.underlying4 t3
      simp at e2 e3
      subst e0 e1 e2 e3
      have L : LAt W ⟨S, D, q2, q3⟩ sa da cs cd sb so db dO := ⟨h1, h4, h2, h5, n2, n5, h3, h6⟩
      exact ⟨⟨S, D, q2, q3⟩, sa, da, cs, cd, sb, so, db, dO, rfl, L, L.ltS, L.ltD⟩
theorem open_num {r : Reach} {b0 : Nat} {v : Value} {d : DataW H} {p : List MemPlace} (hv : Value.okWide Try.prog W r b0 3 v) (h : DataW.Trod enc Try.prog W 0 (fun _ => true) true 3 v d p) : ∃ n : Int, v = .int .i64 n := by
  obtain ⟨n, e, _⟩ := open_int Try.underlying3 hv h
  exact ⟨n, e⟩
theorem open_numb {r : Reach} {b0 : Nat} {v : Value} {d : DataW H} {p : List MemPlace} (hv : Value.okWide Try.prog W r b0 3 v) (h : DataW.Trod enc Try.prog W 0 (fun _ => true) true 3 v d p) : ∃ n : Int, v = .int .i64 n ∧ -9223372036854775808 ≤ n ∧ n ≤ 9223372036854775807 := by
  obtain ⟨n, e, _, _, wf⟩ := open_int Try.underlying3 hv h
  exact ⟨n, e, bounds_i64 wf⟩
theorem open_txt {r : Reach} {b0 : Nat} {v : Value} {d : DataW H} {p : List MemPlace} (hv : Value.okWide Try.prog W r b0 9 v) (h : DataW.Trod enc Try.prog W 0 (fun _ => true) true 9 v d p) : ∃ s : ByteArray, v = .string s := by
  obtain ⟨s, e, _⟩ := Go.ChangeMaps.open_string Try.underlying9 hv h
  exact ⟨s, e⟩
end
end Go.Proofs.Ytpocbkgkgpflaaa.Ln
