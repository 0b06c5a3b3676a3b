/- Parts of the proof: KO. -/
import Derived.Test.YtdkalcnlncjgiaaRows
import Derived.Test.YtdkalcnlncjgiaaBK0
import Derived.Test.YtdkalcnlncjgiaaBK38
set_option maxRecDepth 100000
namespace Go.Proofs.Ytdkalcnlncjgiaa.Kc
open Go.ChangeShapes Go.WideShapes Go.ChangeAt Go.RowKit Go.Deep Pv
section
variable {H : Type} {enc : TypeId × Value → H} {W : World}
theorem cRp : Try.prog.cellsOf 53 = 2 := by kernel_rfl
theorem cRps : Try.prog.cellsOf 24 = 1 := by kernel_rfl
theorem cPks : Try.prog.cellsOf 23 = 1 := by kernel_rfl
theorem cF6 : Try.prog.cellsOf 25 = 6 := by kernel_rfl
theorem cCs : Try.prog.cellsOf 33 = 22 := by kernel_rfl
theorem yRp : Try.prog.bytesOf 53 = 16 := by kernel_rfl
theorem yPk : Try.prog.bytesOf 46 = 80 := by kernel_rfl
theorem open_rp {m : Nat} {l : List Value} {y : DataW H × List MemPlace} (h : DataW.trod enc Try.prog W 0 (fun _ => true) true m 53 l = some y) : ∃ b : Int × Int, l = [.int .i64 b.1, .int .i64 b.2] := by
  obtain ⟨xs, n, _, hxs, hl, hxl, hx⟩ := DataW.trod_struct Try.underlying53 h
  rw [cRp] at hl
  match l, hl with
  | [a0, a1], _ =>
    match xs, hxl with
    | [y0, y1], _ =>
      have t0 := hx 0 _ rfl
      have t1 := hx 1 _ rfl
      simp [cI] at t0 t1
      obtain ⟨q0, e0⟩ := open_i t0
      obtain ⟨q1, e1⟩ := open_i t1
      simp at e0 e1
      subst e0 e1
      exact ⟨(q0, q1), rfl⟩
theorem rep_ripes {m : Nat} {l : List Value} {y : DataW H × List MemPlace} (h : DataW.trod enc Try.prog W 0 (fun _ => true) true m 24 l = some y) (hw : ∀ x ∈ DataW.weights Try.prog 24 y.1, x ≤ reachBytes) : ∃ (L : List (Int × Int)) (v : Value), l = [v] ∧ Rep (fun _ => True) W v 2 8 (pwC L) ∧ L.length * 16 ≤ 140737488351232 := by
  obtain ⟨L, v, e, hr, -, hl⟩ := open_rep (0, 0) (fun b : Int × Int => [.int .i64 b.1, .int .i64 b.2]) (fun _ => True) Try.underlying24 cRp yRp (fun _ => rfl) (by decide) h hw (fun h _ => by obtain ⟨b, e⟩ := open_rp h; exact ⟨b, e, trivial⟩)
  refine ⟨L, v, e, ?_, hl⟩
  obtain ⟨A, n, C, h1, h2, h3, h4, h5⟩ := hr
  exact ⟨A, n, C, h1, h2, by omega, h4, h5⟩
theorem pdL_flat : ∀ L : List (Pkt × (Value × Value)), L.flatMap (fun b => pkL b.1 b.2) = pdL (L.map (·.1)) (L.map (·.2))
  | [] => rfl
  | b :: L => by rw [List.flatMap_cons, pdL_flat L]; rfl
theorem rep_pending {m : Nat} {l : List Value} {y : DataW H × List MemPlace} (h : DataW.trod enc Try.prog W 0 (fun _ => true) true m 23 l = some y) (hw : ∀ x ∈ DataW.weights Try.prog 23 y.1, x ≤ reachBytes) : ∃ (q : List Pkt) (v : Value), l = [v] ∧ KRep (fun _ => True) W v q ∧ q.length * 80 ≤ 140737488351232 := by
  obtain ⟨L, v, e, hr, hq, hl⟩ := open_rep ((⟨0, 0, 0, 0, [], []⟩ : Pkt), ((.slice none 0 0, .slice none 0 0) : Value × Value)) (fun b : Pkt × (Value × Value) => pkL b.1 b.2) (fun b => Rep (fun _ => True) W b.2.1 2 16 (pwC b.1.S) ∧ Rep (fun _ => True) W b.2.2 1 8 (inC b.1.D)) Try.underlying23 cPk yPk (fun _ => rfl) (by decide) h hw (fun h hw => by obtain ⟨x, u, e, r1, r2⟩ := open_pk h hw; exact ⟨(x, u), e, r1, r2⟩)
  rw [pdL_flat] at hr
  refine ⟨L.map (·.1), v, e, ⟨L.map (·.2), by simp, ?_, fun i x y hx hy => ?_⟩, by simpa using hl⟩
  · obtain ⟨A, n, C, h1, h2, h3, h4, h5⟩ := hr
    exact ⟨A, n, C, h1, h2, by omega, h4, h5⟩
  · rw [List.getElem?_map] at hx hy
    rcases hb : L[i]? with _ | b
    · rw [hb] at hx; simp at hx
    · rw [hb] at hx hy
      simp at hx hy
      subst hx hy
      exact hq b (List.mem_of_getElem? hb)
theorem open_fl {m : Nat} {l : List Value} {y : DataW H × List MemPlace} (h : DataW.trod enc Try.prog W 0 (fun _ => true) true m 25 l = some y) : ∃ f : Nat → Bool, l = [.bool (f 0), .bool (f 1), .bool (f 2), .bool (f 3), .bool (f 4), .bool (f 5)] := by
  obtain ⟨g, rfl⟩ := open_arr false (fun b : Bool => [.bool b]) Try.underlying25 (by rw [cF6, cT]) h open_t
  exact ⟨g, rfl⟩
theorem open_cons {r : Reach} {b0 : Nat} {v : Value} {d : DataW H} {p : List MemPlace} (hv : Value.okWide Try.prog W r b0 33 v) (h : DataW.Trod enc Try.prog W 0 (fun _ => true) true 33 v d p) (hw : ∀ x ∈ DataW.weights Try.prog 33 d, x ≤ reachBytes) :
    ∃ (x : Cs) (u : CsV), v = .agg (csC x u) ∧ CIn (fun _ => True) W x u ∧ x.pd.length * 80 ≤ 140737488351232 ∧ x.rp.length * 16 ≤ 140737488351232 := by
  obtain ⟨cs, rfl, hsz⟩ := okWide_struct Try.underlying33 hv
  rw [cCs] at hsz
  obtain ⟨cs⟩ := cs
  obtain ⟨fuel, hf⟩ := h
  obtain ⟨xs, n, _, hxs, hl, hxl, hx⟩ := DataW.trod_struct Try.underlying33 hf
  simp only [Value.cells] at hl hx hsz
  rw [cCs] at hl
  match cs, hl with
  | [a0, a1, a2, a3, a4, a5, a6, a7, a8, a9, a10, a11, a12, a13, a14, a15, a16, a17, a18, a19, a20, a21], _ =>
    match xs, hxl with
    | [y0, y1, y2, y3, y4, y5, y6, y7, y8, y9, y10], _ =>
      have t0 := hx 0 _ rfl
      have t1 := hx 1 _ rfl
      have t2 := hx 2 _ rfl
      have t3 := hx 3 _ rfl
      have t4 := hx 4 _ rfl
      have t5 := hx 5 _ rfl
      have t6 := hx 6 _ rfl
      have t7 := hx 7 _ rfl
      have t8 := hx 8 _ rfl
      have t9 := hx 9 _ rfl
      have t10 := hx 10 _ rfl
      simp [cI, cT, cPws, cPks, cRps, cF6, cLn, cHd] at t0 t1 t2 t3 t4 t5 t6 t7 t8 t9 t10
      simp only [Prod.mk.injEq] at hxs
      obtain ⟨rfl, _⟩ := hxs
      have w5 : ∀ x ∈ DataW.weights Try.prog 22 y5.1, x ≤ reachBytes := fun x hx => hw x (by simp [DataW.weights, Try.underlying33, DataW.weightsEach, hx])
      have w6 : ∀ x ∈ DataW.weights Try.prog 23 y6.1, x ≤ reachBytes := fun x hx => hw x (by simp [DataW.weights, Try.underlying33, DataW.weightsEach, hx])
      have w7 : ∀ x ∈ DataW.weights Try.prog 24 y7.1, x ≤ reachBytes := fun x hx => hw x (by simp [DataW.weights, Try.underlying33, DataW.weightsEach, hx])
      have w9 : ∀ x ∈ DataW.weights Try.prog 29 y9.1, x ≤ reachBytes := fun x hx => hw x (by simp [DataW.weights, Try.underlying33, DataW.weightsEach, hx])
      obtain ⟨q0, e0⟩ := open_t t0
      obtain ⟨q1, e1⟩ := open_t t1
      obtain ⟨q2, e2⟩ := open_i t2
      obtain ⟨q3, e3⟩ := open_i t3
      obtain ⟨q4, e4⟩ := open_i t4
      obtain ⟨S, u5, e5, r5⟩ := rep_pws t5 w5
      obtain ⟨K, u6, e6, r6, s6⟩ := rep_pending t6 w6
      obtain ⟨R, u7, e7, r7, s7⟩ := rep_ripes t7 w7
      obtain ⟨f, e8⟩ := open_fl t8
      obtain ⟨x9, u9, e9, r9, r9'⟩ := open_ln t9 w9
      obtain ⟨h0, h1, h2, h3, e10⟩ := open_hd t10
      simp at e0 e1 e2 e3 e4 e5 e6 e7 e8 e9 e10
      obtain ⟨f0, f1, f2, f3, f4, f5⟩ := e8
      obtain ⟨g6, g7, g8, g9⟩ := e9
      obtain ⟨g0, g1, g2, g3⟩ := e10
      subst e0 e1 e2 e3 e4 e5 e6 e7 f0 f1 f2 f3 f4 f5 g6 g7 g8 g9 g0 g1 g2 g3
      exact ⟨⟨q0, q1, q2, q3, q4, S, K, R, f, x9, h0, h1, h2, h3⟩, ⟨_, _, _, u9.1, u9.2⟩, rfl, ⟨r5, r6, r7, r9.c, r9'.c⟩, s6, s7⟩
end
end Go.Proofs.Ytdkalcnlncjgiaa.Kc

