/- Parts of the proof: PVOR OS1. -/
import Derived.Test.YtjghbciepinofaaGreatRows
import Derived.Test.YtjghbciepinofaaGreatPEK20
import Derived.Test.YtjghbciepinofaaGreatPEK23
import Derived.Test.YtjghbciepinofaaGreatPEK29
import Derived.Test.YtjghbciepinofaaGreatPEK40
import Derived.Deep.Slices
import Derived.SizedLaws
import Derived.WalkKit
import Derived.ProofKit
import Derived.OpenShut
import Derived.Laws.IdiomArrays
set_option maxRecDepth 100000
namespace Go.Proofs.YtjghbciepinofaaGreat.Pv
open Go.ChangeShapes Go.WideShapes Go.ChangeAt Go.RowKit Go.Deep
section
variable {H : Type} {enc : TypeId × Value → H} {W : World}
theorem flat_at {β : Type} (g : β → List Value) (sz : Nat) (hg : ∀ b, (g b).length = sz) : ∀ (L : List β) (i : Nat) (x : β) (j : Nat), L[i]? = some x → j < sz → (L.flatMap g)[i * sz + j]? = (g x)[j]?
  | [], i, x, j, h, _ => by simp at h
  | a :: L, 0, x, j, h, hj => by
    simp at h
    subst h
    rw [List.flatMap_cons, Nat.zero_mul, Nat.zero_add, List.getElem?_append_left (by rw [hg]; exact hj)]
  | a :: L, i + 1, x, j, h, hj => by
    rw [List.flatMap_cons, List.getElem?_append_right (by rw [hg, Nat.succ_mul]; omega), hg, show (i + 1) * sz + j - sz = i * sz + j by rw [Nat.succ_mul]; omega]
    exact flat_at g sz hg L i x j (by simpa using h) hj
theorem flat_len {β : Type} (g : β → List Value) (sz : Nat) (hg : ∀ b, (g b).length = sz) : ∀ (L : List β), (L.flatMap g).length = L.length * sz
  | [] => by simp
  | a :: L => by rw [List.flatMap_cons, List.length_append, hg, flat_len g sz hg L, List.length_cons, Nat.succ_mul]; omega
theorem weights_all {P : Program} {e : TypeId} : ∀ {l : List (DataW H)} {d : DataW H}, d ∈ l → ∀ x ∈ DataW.weights P e d, x ∈ DataW.weightsAll P e l
  | a :: l, d, hd, x, hx => by
    rw [DataW.weightsAll, List.mem_append]
    rcases List.mem_cons.1 hd with rfl | hd
    · exact .inl hx
    · exact .inr (weights_all hd x hx)
/-- a slice that came in -/
theorem open_rep {β : Type} (d0 : β) (g : β → List Value) (Q : β → Prop) {t e : TypeId} {sz bts : Nat} (ht : Tryz.prog.underlying t = some (.slice e)) (hc : Tryz.prog.cellsOf e = sz) (hbt : Tryz.prog.bytesOf e = bts) (hg : ∀ b, (g b).length = sz) (hs : 0 < sz) {m : Nat} {l : List Value} {y : DataW H × List MemPlace}
    (h : DataW.trod enc Tryz.prog W 0 (fun _ => true) true m t l = some y) (hw : ∀ x ∈ DataW.weights Tryz.prog t y.1, x ≤ reachBytes)
    (he : ∀ {m' : Nat} {l' : List Value} {y' : DataW H × List MemPlace}, DataW.trod enc Tryz.prog W 0 (fun _ => true) true m' e l' = some y' → (∀ x ∈ DataW.weights Tryz.prog e y'.1, x ≤ reachBytes) → ∃ b, l' = g b ∧ Q b) :
    ∃ (L : List β) (v : Value), l = [v] ∧ Rep (fun _ => True) W v sz bts (L.flatMap g) ∧ (∀ b ∈ L, Q b) ∧ L.length * bts ≤ 140737488351232 := by
  rcases open_slice ht h with ⟨h0, _⟩ | ⟨a, len, cap, k, n, D, Pl, rfl, _, hlc, hmx, hk, hy, hx⟩
  · exact ⟨[], .slice none 0 0, h0, Rep.nil _ _ _ _, fun b hb => by simp at hb, by simp⟩
  simp only [if_true] at hk
  subst hk
  rw [hc] at hx
  have hwe : ∀ i, i < len → ∀ x ∈ DataW.weights Tryz.prog e (D i), x ≤ reachBytes := fun i hi x hx => hw x (by
    subst hy
    simp only [DataW.weights, ht]
    refine List.mem_cons_of_mem _ (List.mem_append_left _ (weights_all (d := D i) ?_ x hx))
    exact List.mem_map.2 ⟨i, List.mem_range.2 hi, rfl⟩)
  obtain ⟨f, hf⟩ := pick_all (n := len) (p := fun i (b : β) => W.cells? 0 (a.add (i * sz)) sz = some (g b) ∧ Q b) d0 (fun i hi => by
    obtain ⟨cs', h1, h2⟩ := hx i (by omega)
    obtain ⟨b, rfl, hq⟩ := he h2 (hwe i hi)
    exact ⟨b, h1, hq⟩)
  have hlen : ((List.range len).map f).length = len := by simp
  have hb : len * bts ≤ 140737488351232 := by
    subst hy
    have := hw ((len + (k - len)) * bts) (by simp [DataW.weights, ht, hbt])
    have e : reachBytes = 140737488351232 := rfl
    have := Nat.mul_le_mul_right bts (show len ≤ len + (k - len) by omega)
    omega
  refine ⟨(List.range len).map f, .slice (some a) len k, rfl, ⟨some a, len, k, rfl, by rw [flat_len g sz hg, hlen], hb, ⟨fun h => (by cases h), hlc⟩, fun h0 => ?_⟩, fun b hb' => ?_, by rw [hlen]; exact hb⟩
  · have hcell : ∀ i, i < len → ∀ j v, (g (f i))[j]? = some v → W.cell? ((a.add (i * sz)).add j) = some v := fun i hi j v hv => by
      obtain ⟨_, hlen', hc'⟩ := World.cells?_some (hf i hi).1
      have hj : j < sz := by have := (List.getElem?_eq_some_iff.1 hv).1; rwa [hg] at this
      rw [hc' j hj]
      exact hv
    obtain ⟨b, off, spot⟩ := a
    have hspot : spot = none := by
      have := hcell 0 h0 0 _ (List.getElem?_eq_getElem (by rw [hg]; exact hs))
      simpa [Addr.add] using World.cell?_spot this
    subst hspot
    have hall : ∀ j u, (((List.range len).map f).flatMap g)[j]? = some u → W.cell? ⟨b, off + j, none⟩ = some u := fun j u hu => by
      have hj : j < len * sz := by have := (List.getElem?_eq_some_iff.1 hu).1; rwa [flat_len g sz hg, hlen] at this
      have hi : j / sz < len := (Nat.div_lt_iff_lt_mul hs).2 hj
      have hm : j % sz < sz := Nat.mod_lt _ hs
      have ej : j / sz * sz + j % sz = j := by rw [Nat.mul_comm]; exact Nat.div_add_mod j sz
      have hat := flat_at g sz hg ((List.range len).map f) (j / sz) (f (j / sz)) (j % sz) (by simp [hi]) hm
      rw [ej, hu] at hat
      have := hcell (j / sz) hi (j % sz) u hat.symm
      rw [Addr.add_lit, Addr.add_lit, Nat.add_assoc, ej] at this
      exact this
    have h1 : 0 < (((List.range len).map f).flatMap g).length := by rw [flat_len g sz hg, hlen]; exact Nat.mul_pos h0 hs
    exact ⟨b, off, rfl, trivial, World.block_lt_of_cell? W _ (hall 0 _ (List.getElem?_eq_getElem h1)), hall⟩
  · obtain ⟨i, hi, rfl⟩ := List.mem_map.1 hb'
    exact (hf i (List.mem_range.1 hi)).2
theorem cPw : Tryz.prog.cellsOf 74 = 2 := by kernel_rfl
theorem cPws : Tryz.prog.cellsOf 33 = 1 := by kernel_rfl
theorem cIs : Tryz.prog.cellsOf 34 = 1 := by kernel_rfl
theorem cStr : Tryz.prog.cellsOf 9 = 1 := by kernel_rfl
theorem cStrs : Tryz.prog.cellsOf 35 = 1 := by kernel_rfl
theorem cLn : Tryz.prog.cellsOf 37 = 4 := by kernel_rfl
theorem cPk : Tryz.prog.cellsOf 49 = 6 := by kernel_rfl
theorem cHd : Tryz.prog.cellsOf 39 = 4 := by kernel_rfl
theorem yI : Tryz.prog.bytesOf 3 = 8 := by kernel_rfl
theorem yPw : Tryz.prog.bytesOf 74 = 16 := by kernel_rfl
theorem yStr : Tryz.prog.bytesOf 9 = 16 := by kernel_rfl
theorem open_pw {m : Nat} {l : List Value} {y : DataW H × List MemPlace} (h : DataW.trod enc Tryz.prog W 0 (fun _ => true) true m 74 l = some y) : ∃ b : Int × Int, l = [.int .i64 b.1, .int .i64 b.2] := by
  obtain ⟨xs, n, _, _, hl, hxl, hx⟩ := DataW.trod_struct Tryz.underlying74 h
  rw [cPw] at hl
  match l, hl with
  | [a0, a1], _ =>
    match xs, hxl with
    | [y0, y1], _ =>
      have t0 := hx 0 _ rfl
      have t1 := hx 1 _ rfl
      simp [cI] at t0 t1
      obtain ⟨q0, e0⟩ := open_i t0
      obtain ⟨q1, e1⟩ := open_i t1
      simp at e0 e1
      subst e0 e1
      exact ⟨(q0, q1), rfl⟩
theorem open_s {m : Nat} {l : List Value} {y : DataW H × List MemPlace} (h : DataW.trod enc Tryz.prog W 0 (fun _ => true) true m 9 l = some y) : ∃ b : ByteArray, l = [.string b] := by
  obtain ⟨q, e, _⟩ := DataW.trod_string Tryz.underlying9 h
  exact ⟨q, e⟩
theorem rep_pws {m : Nat} {l : List Value} {y : DataW H × List MemPlace} (h : DataW.trod enc Tryz.prog W 0 (fun _ => true) true m 33 l = some y) (hw : ∀ x ∈ DataW.weights Tryz.prog 33 y.1, x ≤ reachBytes) : ∃ (L : List (Int × Int)) (v : Value), l = [v] ∧ Rep (fun _ => True) W v 2 16 (pwC L) := by
  obtain ⟨L, v, e, hr, -, -⟩ := open_rep (0, 0) (fun b : Int × Int => [.int .i64 b.1, .int .i64 b.2]) (fun _ => True) Tryz.underlying33 cPw yPw (fun _ => rfl) (by decide) h hw (fun h _ => by obtain ⟨b, e⟩ := open_pw h; exact ⟨b, e, trivial⟩)
  exact ⟨L, v, e, hr⟩
theorem flat_one {β : Type} (f : β → Value) : ∀ L : List β, L.flatMap (fun b => [f b]) = L.map f
  | [] => rfl
  | a :: L => by rw [List.flatMap_cons, flat_one f L]; rfl
theorem rep_ints {m : Nat} {l : List Value} {y : DataW H × List MemPlace} (h : DataW.trod enc Tryz.prog W 0 (fun _ => true) true m 34 l = some y) (hw : ∀ x ∈ DataW.weights Tryz.prog 34 y.1, x ≤ reachBytes) : ∃ (L : List Int) (v : Value), l = [v] ∧ Rep (fun _ => True) W v 1 8 (inC L) := by
  obtain ⟨L, v, e, hr, -, -⟩ := open_rep 0 (fun b : Int => [.int .i64 b]) (fun _ => True) Tryz.underlying34 cI yI (fun _ => rfl) (by decide) h hw (fun h _ => by obtain ⟨b, e⟩ := open_i h; exact ⟨b, e, trivial⟩)
  rw [flat_one] at hr
  exact ⟨L, v, e, hr⟩
theorem rep_txts {m : Nat} {l : List Value} {y : DataW H × List MemPlace} (h : DataW.trod enc Tryz.prog W 0 (fun _ => true) true m 35 l = some y) (hw : ∀ x ∈ DataW.weights Tryz.prog 35 y.1, x ≤ reachBytes) : ∃ (L : List ByteArray) (v : Value), l = [v] ∧ Rep (fun _ => True) W v 1 16 (txC L) := by
  obtain ⟨L, v, e, hr, -, -⟩ := open_rep ByteArray.empty (fun b : ByteArray => [.string b]) (fun _ => True) Tryz.underlying35 cStr yStr (fun _ => rfl) (by decide) h hw (fun h _ => by obtain ⟨b, e⟩ := open_s h; exact ⟨b, e, trivial⟩)
  rw [flat_one] at hr
  exact ⟨L, v, e, hr⟩
theorem open_pk {m : Nat} {l : List Value} {y : DataW H × List MemPlace} (h : DataW.trod enc Tryz.prog W 0 (fun _ => true) true m 49 l = some y) (hw : ∀ x ∈ DataW.weights Tryz.prog 49 y.1, x ≤ reachBytes) : ∃ (x : Pkt) (u : Value × Value), l = [.int .i64 x.k, .int .i64 x.i, .int .i64 x.v, .int .i64 x.n, u.1, u.2] ∧ Rep (fun _ => True) W u.1 2 16 (pwC x.S) ∧ Rep (fun _ => True) W u.2 1 8 (inC x.D) := by
  obtain ⟨xs, n, _, hxs, hl, hxl, hx⟩ := DataW.trod_struct Tryz.underlying49 h
  rw [cPk] at hl
  match l, hl with
  | [a0, a1, a2, a3, a4, a5], _ =>
    match xs, hxl with
    | [y0, y1, y2, y3, y4, y5], _ =>
      have t0 := hx 0 _ rfl
      have t1 := hx 1 _ rfl
      have t2 := hx 2 _ rfl
      have t3 := hx 3 _ rfl
      have t4 := hx 4 _ rfl
      have t5 := hx 5 _ rfl
      simp [cI, cPws, cIs] at t0 t1 t2 t3 t4 t5
      subst hxs
      have w4 : ∀ x ∈ DataW.weights Tryz.prog 33 y4.1, x ≤ reachBytes := fun x hx => hw x (by simp [DataW.weights, Tryz.underlying49, DataW.weightsEach, hx])
      have w5 : ∀ x ∈ DataW.weights Tryz.prog 34 y5.1, x ≤ reachBytes := fun x hx => hw x (by simp [DataW.weights, Tryz.underlying49, DataW.weightsEach, hx])
      obtain ⟨q0, e0⟩ := open_i t0
      obtain ⟨q1, e1⟩ := open_i t1
      obtain ⟨q2, e2⟩ := open_i t2
      obtain ⟨q3, e3⟩ := open_i t3
      obtain ⟨S, u4, e4, r4⟩ := rep_pws t4 w4
      obtain ⟨D, u5, e5, r5⟩ := rep_ints t5 w5
      simp at e0 e1 e2 e3 e4 e5
      subst e0 e1 e2 e3 e4 e5
      exact ⟨⟨q0, q1, q2, q3, S, D⟩, (a4, a5), rfl, r4, r5⟩
theorem open_ln {m : Nat} {l : List Value} {y : DataW H × List MemPlace} (h : DataW.trod enc Tryz.prog W 0 (fun _ => true) true m 37 l = some y) (hw : ∀ x ∈ DataW.weights Tryz.prog 37 y.1, x ≤ reachBytes) : ∃ (x : Ln.Line) (u : Value × Value), l = [u.1, u.2, .int .i64 x.g, .bool x.cl] ∧ Rep (fun _ => True) W u.1 1 16 (txC x.S) ∧ Rep (fun _ => True) W u.2 1 8 (inC x.D) := by
  obtain ⟨xs, n, _, hxs, hl, hxl, hx⟩ := DataW.trod_struct Tryz.underlying37 h
  rw [cLn] at hl
  match l, hl with
  | [a0, a1, a2, a3], _ =>
    match xs, hxl with
    | [y0, y1, y2, y3], _ =>
      have t0 := hx 0 _ rfl
      have t1 := hx 1 _ rfl
      have t2 := hx 2 _ rfl
      have t3 := hx 3 _ rfl
      simp [cI, cT, cStrs, cIs] at t0 t1 t2 t3
      subst hxs
      have w0 : ∀ x ∈ DataW.weights Tryz.prog 35 y0.1, x ≤ reachBytes := fun x hx => hw x (by simp [DataW.weights, Tryz.underlying37, DataW.weightsEach, hx])
      have w1 : ∀ x ∈ DataW.weights Tryz.prog 34 y1.1, x ≤ reachBytes := fun x hx => hw x (by simp [DataW.weights, Tryz.underlying37, DataW.weightsEach, hx])
      obtain ⟨S, u0, e0, r0⟩ := rep_txts t0 w0
      obtain ⟨D, u1, e1, r1⟩ := rep_ints t1 w1
      obtain ⟨q2, e2⟩ := open_i t2
      obtain ⟨q3, e3⟩ := open_t t3
      simp at e0 e1 e2 e3
      subst e0 e1 e2 e3
      exact ⟨⟨S, D, q2, q3⟩, (a0, a1), rfl, r0, r1⟩
theorem open_hd {m : Nat} {l : List Value} {y : DataW H × List MemPlace} (h : DataW.trod enc Tryz.prog W 0 (fun _ => true) true m 39 l = some y) : ∃ a b c d : Int, l = [.int .i64 a, .int .i64 b, .int .i64 c, .int .i64 d] := by
  obtain ⟨xs, n, _, _, hl, hxl, hx⟩ := DataW.trod_struct Tryz.underlying39 h
  rw [cHd] at hl
  match l, hl with
  | [a0, a1, a2, a3], _ =>
    match xs, hxl with
    | [y0, y1, y2, y3], _ =>
      have t0 := hx 0 _ rfl
      have t1 := hx 1 _ rfl
      have t2 := hx 2 _ rfl
      have t3 := hx 3 _ rfl
      simp [cI] at t0 t1 t2 t3
      obtain ⟨q0, e0⟩ := open_i t0
      obtain ⟨q1, e1⟩ := open_i t1
      obtain ⟨q2, e2⟩ := open_i t2
      obtain ⟨q3, e3⟩ := open_i t3
      simp at e0 e1 e2 e3
      subst e0 e1 e2 e3
      exact ⟨q0, q1, q2, q3, rfl⟩
end
end Go.Proofs.YtjghbciepinofaaGreat.Pv

set_option maxRecDepth 100000
namespace Go.Proofs.YtjghbciepinofaaGreat
open Go.ChangeShapes Go.WideShapes Go.ChangeAt Go.RowKit Go.Deep
section
variable {H : Type} {enc : TypeId × Value → H} {W : World}
theorem cA : Tryz.prog.cellsOf 22 = 4 := by kernel_rfl
theorem cB : Tryz.prog.cellsOf 24 = 7 := by kernel_rfl
theorem cV : Tryz.prog.cellsOf 26 = 5 := by kernel_rfl
theorem cVs : Tryz.prog.cellsOf 27 = 30 := by kernel_rfl
theorem cRow : Tryz.prog.cellsOf 28 = 6 := by kernel_rfl
theorem cSh : Tryz.prog.cellsOf 29 = 24 := by kernel_rfl
theorem cWs : Tryz.prog.cellsOf 30 = 1 := by kernel_rfl
theorem cS : Tryz.prog.cellsOf 32 = 63 := by kernel_rfl
theorem cW : Tryz.prog.cellsOf 127 = 8 := by kernel_rfl
theorem cH : Tryz.prog.cellsOf 125 = 2 := by kernel_rfl
theorem open_row {m : Nat} {l : List Value} {y : DataW H × List MemPlace} (h : DataW.trod enc Tryz.prog W 0 (fun _ => true) true m 28 l = some y) : ∃ r : Nat → Int, l = (rowC r).toList := by
  obtain ⟨g, rfl⟩ := open_arr 0 (fun b : Int => [.int .i64 b]) Tryz.underlying28 (by rw [cRow, cI]) h open_i
  exact ⟨g, rfl⟩
theorem open_shs {m : Nat} {l : List Value} {y : DataW H × List MemPlace} (h : DataW.trod enc Tryz.prog W 0 (fun _ => true) true m 29 l = some y) : ∃ S : Nat → Nat → Int, l = (shC S).toList := by
  obtain ⟨g, rfl⟩ := open_arr (fun _ => 0) (fun r : Nat → Int => (rowC r).toList) Tryz.underlying29 (by rw [cSh, cRow]) h open_row
  exact ⟨g, rfl⟩
theorem open_hs {m : Nat} {l : List Value} {y : DataW H × List MemPlace} (h : DataW.trod enc Tryz.prog W 0 (fun _ => true) true m 125 l = some y) : ∃ a b : Int, l = [.int .i64 a, .int .i64 b] := by
  obtain ⟨g, rfl⟩ := open_arr 0 (fun b : Int => [.int .i64 b]) Tryz.underlying125 (by rw [cH, cI]) h open_i
  exact ⟨g 0, g 1, rfl⟩
theorem open_fr {m : Nat} {l : List Value} {y : DataW H × List MemPlace} (h : DataW.trod enc Tryz.prog W 0 (fun _ => true) true m 22 l = some y) : ∃ g : Nat → Int, l = [.int .i64 (g 0), .int .i64 (g 1), .int .i64 (g 2), .int .i64 (g 3)] := by
  obtain ⟨g, rfl⟩ := open_arr 0 (fun b : Int => [.int .i64 b]) Tryz.underlying22 (by rw [cA, cI]) h open_i
  exact ⟨g, rfl⟩
theorem parts {α : Type} {l : List α} {o n : Nat} : l.drop o = (l.drop o).take n ++ l.drop (o + n) := by
  rw [← List.drop_drop, List.take_append_drop]
theorem open_vd {m : Nat} {l : List Value} {y : DataW H × List MemPlace} (h : DataW.trod enc Tryz.prog W 0 (fun _ => true) true m 26 l = some y) : ∃ x : Vd, l = (vdC x).toList := by
  obtain ⟨xs, n, _, _, hl, hxl, hx⟩ := DataW.trod_struct Tryz.underlying26 h
  rw [cV] at hl
  match l, hl with
  | [a0, a1, a2, a3, a4], _ =>
    match xs, hxl with
    | [y0, y1, y2, y3, y4], _ =>
      have t0 := hx 0 _ rfl
      have t1 := hx 1 _ rfl
      have t2 := hx 2 _ rfl
      have t3 := hx 3 _ rfl
      have t4 := hx 4 _ rfl
      simp [cI, cT] at t0 t1 t2 t3 t4
      obtain ⟨q0, e0⟩ := open_i t0
      obtain ⟨q1, e1⟩ := open_i t1
      obtain ⟨q2, e2⟩ := open_i t2
      obtain ⟨q3, e3⟩ := open_t t3
      obtain ⟨q4, e4⟩ := open_t t4
      simp at e0 e1 e2 e3 e4
      subst e0 e1 e2 e3 e4
      exact ⟨⟨q0, q1, q2, q3, q4⟩, rfl⟩
theorem open_vds {m : Nat} {l : List Value} {y : DataW H × List MemPlace} (h : DataW.trod enc Tryz.prog W 0 (fun _ => true) true m 27 l = some y) : ∃ V : Nat → Vd, l = (vsC V).toList := by
  obtain ⟨g, rfl⟩ := open_arr ⟨0, 0, 0, false, false⟩ (fun x : Vd => (vdC x).toList) Tryz.underlying27 (by rw [cVs, cV]) h open_vd
  exact ⟨g, rfl⟩
theorem open_bk {m : Nat} {l : List Value} {y : DataW H × List MemPlace} (h : DataW.trod enc Tryz.prog W 0 (fun _ => true) true m 24 l = some y) : ∃ b : Bk, l = (bkC b).toList := by
  obtain ⟨xs, n, _, _, hl, hxl, hx⟩ := DataW.trod_struct Tryz.underlying24 h
  rw [cB] at hl
  match l, hl with
  | [a0, a1, a2, a3, a4, a5, a6], _ =>
    match xs, hxl with
    | [y0, y1, y2, y3], _ =>
      have t0 := hx 0 _ rfl
      have t1 := hx 1 _ rfl
      have t2 := hx 2 _ rfl
      have t3 := hx 3 _ rfl
      simp [cI, cA] at t0 t1 t2 t3
      obtain ⟨g, e0⟩ := open_fr t0
      obtain ⟨q1, e1⟩ := open_i t1
      obtain ⟨q2, e2⟩ := open_i t2
      obtain ⟨q3, e3⟩ := open_i t3
      simp at e0 e1 e2 e3
      obtain ⟨e01, e02, e03, e04⟩ := e0
      subst e01 e02 e03 e04 e1 e2 e3
      exact ⟨⟨g 0, g 1, g 2, g 3, q1, q2, q3⟩, rfl⟩
theorem open_wt {m : Nat} {l : List Value} {y : DataW H × List MemPlace} (h : DataW.trod enc Tryz.prog W 0 (fun _ => true) true m 127 l = some y) : ∃ x : Wt, l = (wtC x).toList := by
  obtain ⟨xs, n, _, _, hl, hxl, hx⟩ := DataW.trod_struct Tryz.underlying127 h
  rw [cW] at hl
  match l, hl with
  | [a0, a1, a2, a3, a4, a5, a6, a7], _ =>
    match xs, hxl with
    | [y0, y1, y2, y3, y4, y5, y6], _ =>
      have t0 := hx 0 _ rfl
      have t1 := hx 1 _ rfl
      have t2 := hx 2 _ rfl
      have t3 := hx 3 _ rfl
      have t4 := hx 4 _ rfl
      have t5 := hx 5 _ rfl
      have t6 := hx 6 _ rfl
      simp [cI, cH] at t0 t1 t2 t3 t4 t5 t6
      obtain ⟨q0, e0⟩ := open_i t0
      obtain ⟨q1, e1⟩ := open_i t1
      obtain ⟨q2, e2⟩ := open_i t2
      obtain ⟨q3, e3⟩ := open_i t3
      obtain ⟨q4, e4⟩ := open_i t4
      obtain ⟨q5, e5⟩ := open_i t5
      obtain ⟨q6, q7, e6⟩ := open_hs t6
      simp at e0 e1 e2 e3 e4 e5 e6
      obtain ⟨e6, e7⟩ := e6
      subst e0 e1 e2 e3 e4 e5 e6 e7
      exact ⟨⟨q0, q1, q2, q3, q4, q5, q6, q7⟩, rfl⟩
theorem bytesW : Tryz.prog.bytesOf 127 = 64 := by kernel_rfl
theorem open_num {r : Reach} {b0 : Nat} {v : Value} {d : DataW H} {p : List MemPlace} (hv : Value.okWide Tryz.prog W r b0 3 v) (h : DataW.Trod enc Tryz.prog W 0 (fun _ => true) true 3 v d p) : ∃ n : Int, v = .int .i64 n := by
  obtain ⟨n, e, _⟩ := open_int Tryz.underlying3 hv h
  exact ⟨n, e⟩
end
end Go.Proofs.YtjghbciepinofaaGreat

