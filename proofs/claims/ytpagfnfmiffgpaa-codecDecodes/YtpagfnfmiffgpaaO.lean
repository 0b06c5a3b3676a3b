/- How a packet that came in is opened: its four numbers, and its two lists as they lie in memory. -/
import Derived.Test.YtpagfnfmiffgpaaD
import Derived.ProofKit
import Derived.Deep.SlicePairs
namespace Go.Proofs.Ytpagfnfmiffgpaa
open Go.ChangeShapes Go.WideShapes Go.ChangeAt Go.RowKit Go.Deep

/-- the two lists of a packet lie in memory -/
structure Lies (w : World) (S : List (Int × Int)) (D : List Int) (sa da : Option Addr) (sb so db dO : Nat) : Prop where
  hls : S.length ≤ maxLen
  hld : D.length ≤ maxLen
  hsa : 0 < S.length → sa = some ⟨sb, so, none⟩
  hda : 0 < D.length → da = some ⟨db, dO, none⟩
  PS : PwsAt w sb so S
  PD : IntsAt w db dO D
theorem Lies.later {w w' : World} {S : List (Int × Int)} {D : List Int} {sa da : Option Addr} {sb so db dO : Nat} (h : Lies w S D sa da sb so db dO) (hb : Below w.heap.size w w') : Lies w' S D sa da sb so db dO :=
  ⟨h.hls, h.hld, h.hsa, h.hda, h.PS.later hb, h.PD.later hb⟩

section
variable {H : Type} {enc : TypeId × Value → H} {W : World}
theorem open_nums {n : Nat} {v : Value} {y : DataW H × List MemPlace} (hf : DataW.trod enc Try.prog W 0 (fun _ => true) true n 23 [v] = some y) :
    ∃ (D : List Int) (da : Option Addr) (cd db dO : Nat), v = .slice da D.length cd ∧ D.length ≤ maxLen ∧ (0 < D.length → da = some ⟨db, dO, none⟩) ∧ IntsAt W db dO D := by
  rcases open_ints Try.underlying23 Try.underlying3 (by kernel_rfl) hf with ⟨hcs, _⟩ | ⟨x, l, c, zs, hcs, _, hl, hm, hz, _, hcell, hwz⟩
  · simp at hcs
    subst hcs
    exact ⟨[], none, 0, 0, 0, rfl, by simp, by simp, fun i hi => absurd hi (by simp)⟩
  · simp at hcs
    subst hcs
    simp at hz
    have hlz : (zs.take l).length = l := by simp; omega
    by_cases h0 : l = 0
    · subst h0
      exact ⟨[], some x, c, 0, 0, by simp, by simp, by simp, fun i hi => absurd hi (by simp)⟩
    · obtain ⟨b, off, spot⟩ := x
      have hc := hcell 0 (by omega)
      have hspot : spot = none := by simpa [Addr.add] using World.cell?_spot hc
      subst hspot
      refine ⟨zs.take l, some ⟨b, off, none⟩, c, b, off, by rw [hlz], by omega, fun _ => rfl, fun i hi => ?_⟩
      have := hcell i (by omega)
      rw [add_plain] at this
      rw [this]
      have hi' : i < l := by omega
      simp [List.getD, hi']
theorem open_pws {n : Nat} {v : Value} {y : DataW H × List MemPlace} (hf : DataW.trod enc Try.prog W 0 (fun _ => true) true n 22 [v] = some y) :
    ∃ (S : List (Int × Int)) (sa : Option Addr) (cs sb so : Nat), v = .slice sa S.length cs ∧ S.length ≤ maxLen ∧ (0 < S.length → sa = some ⟨sb, so, none⟩) ∧ PwsAt W sb so S := by
  rcases open_slice_pairs Try.underlying22 Try.underlying42 (by kernel_rfl) rfl rfl (by kernel_rfl) (by kernel_rfl) hf with ⟨hcs, _⟩ | ⟨x, l, c, m, n', V0, V1, D0, D1, P0, P1, hcs, _, hl, hm, hmm, _, hcell⟩
  · simp at hcs
    subst hcs
    exact ⟨[], none, 0, 0, 0, rfl, by simp, by simp, fun i hi => absurd hi (by simp)⟩
  · simp at hcs
    subst hcs
    simp at hmm
    subst hmm
    by_cases h0 : l = 0
    · subst h0
      exact ⟨[], some x, m, 0, 0, by simp, by simp, by simp, fun i hi => absurd hi (by simp)⟩
    · obtain ⟨b, off, spot⟩ := x
      have hc := (hcell 0 (by omega)).1
      have hspot : spot = none := by simpa [Addr.add] using World.cell?_spot hc
      subst hspot
      have hlen : ((List.range l).map fun i => (intOf (V0 i), intOf (V1 i))).length = l := by simp
      refine ⟨(List.range l).map fun i => (intOf (V0 i), intOf (V1 i)), some ⟨b, off, none⟩, m, b, off, by rw [hlen], by omega, fun _ => rfl, fun i hi => ?_⟩
      rw [hlen] at hi
      obtain ⟨g0, g1, t0, t1⟩ := hcell i (by omega)
      obtain ⟨q0, e0, _, _⟩ := DataW.trod_int Try.underlying3 t0
      obtain ⟨q1, e1, _, _⟩ := DataW.trod_int Try.underlying3 t1
      simp at e0 e1
      rw [add_plain] at g0 g1
      have e : ((List.range l).map fun i => (intOf (V0 i), intOf (V1 i))).getD i (0, 0) = (q0, q1) := by simp [List.getD, hi, e0, e1, intOf]
      rw [e, g0, ← Nat.add_assoc] at *
      rw [e0, g1, e1]
      exact ⟨rfl, rfl⟩
theorem open_packet {r : Reach} {b0 : Nat} {v : Value} {d : DataW H} {p : List MemPlace} (hv : Value.okWide Try.prog W r b0 25 v) (h : DataW.Trod enc Try.prog W 0 (fun _ => true) true 25 v d p) :
    ∃ (k i x n : Int) (S : List (Int × Int)) (D : List Int) (sa da : Option Addr) (cs cd sb so db dO : Nat),
      v = .agg #[.int .i64 k, .int .i64 i, .int .i64 x, .int .i64 n, .slice sa S.length cs, .slice da D.length cd] ∧ Lies W S D sa da sb so db dO := by
  obtain ⟨cs, rfl, hsz⟩ := okWide_struct Try.underlying25 hv
  have hc6 : Try.prog.cellsOf 25 = 6 := by kernel_rfl
  have c3 : Try.prog.cellsOf 3 = 1 := by kernel_rfl
  have c22 : Try.prog.cellsOf 22 = 1 := by kernel_rfl
  have c23 : Try.prog.cellsOf 23 = 1 := by kernel_rfl
  rw [hc6] at hsz
  obtain ⟨cs⟩ := cs
  match cs, hsz with
  | [a0, a1, a2, a3, a4, a5], _ =>
    obtain ⟨fuel, hf⟩ := h
    obtain ⟨xs, n, _, _, _, hxl, hx⟩ := DataW.trod_struct Try.underlying25 hf
    match xs, hxl with
    | [y0, y1, y2, y3, y4, y5], _ =>
      have t0 := hx 0 _ rfl
      have t1 := hx 1 _ rfl
      have t2 := hx 2 _ rfl
      have t3 := hx 3 _ rfl
      have t4 := hx 4 _ rfl
      have t5 := hx 5 _ rfl
      simp [Value.cells, c3, c22, c23] at t0 t1 t2 t3 t4 t5
      obtain ⟨q0, e0, _, _⟩ := DataW.trod_int Try.underlying3 t0
      obtain ⟨q1, e1, _, _⟩ := DataW.trod_int Try.underlying3 t1
      obtain ⟨q2, e2, _, _⟩ := DataW.trod_int Try.underlying3 t2
      obtain ⟨q3, e3, _, _⟩ := DataW.trod_int Try.underlying3 t3
      simp at e0 e1 e2 e3
      obtain ⟨S, sa, cs, sb, so, e4, h1, h2, h3⟩ := open_pws t4
      obtain ⟨D, da, cd, db, dO, e5, h4, h5, h6⟩ := open_nums t5
      subst e0 e1 e2 e3 e4 e5
      exact ⟨q0, q1, q2, q3, S, D, sa, da, cs, cd, sb, so, db, dO, rfl, h1, h4, h2, h5, h3, h6⟩
end
end Go.Proofs.Ytpagfnfmiffgpaa
