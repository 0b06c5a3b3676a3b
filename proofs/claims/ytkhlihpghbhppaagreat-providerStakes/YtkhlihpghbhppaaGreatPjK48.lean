/- Parts of the proof: PVO RF2 PDD RG3. -/
import Derived.Test.YtkhlihpghbhppaaGreatRows
import Derived.Test.YtkhlihpghbhppaaGreatPjK16
import Derived.Test.YtkhlihpghbhppaaGreatPjK20
import Derived.Test.YtkhlihpghbhppaaGreatPjK26
import Derived.Test.YtkhlihpghbhppaaGreatPjK29
import Derived.Test.YtkhlihpghbhppaaGreatPjK33
import Derived.Test.YtkhlihpghbhppaaGreatPjK47
import Derived.Test.YtkhlihpghbhppaaGreatPjK53
import Derived.Deep.Slices
import Derived.SizedLaws
set_option maxRecDepth 100000
namespace Go.Proofs.YtkhlihpghbhppaaGreat.Pv
open Go.ChangeShapes Go.WideShapes Go.ChangeAt Go.RowKit Go.Deep
section
variable {H : Type} {enc : TypeId × Value → H} {W : World}
theorem flat_at {β : Type} (g : β → List Value) (sz : Nat) (hg : ∀ b, (g b).length = sz) : ∀ (L : List β) (i : Nat) (x : β) (j : Nat), L[i]? = some x → j < sz → (L.flatMap g)[i * sz + j]? = (g x)[j]?
  | [], i, x, j, h, _ => by simp at h
  | a :: L, 0, x, j, h, hj => by
    simp at h
    subst h
    rw [List.flatMap_cons, Nat.zero_mul, Nat.zero_add, List.getElem?_append_left (by rw [hg]; exact hj)]
  | a :: L, i + 1, x, j, h, hj => by
    rw [List.flatMap_cons, List.getElem?_append_right (by rw [hg, Nat.succ_mul]; omega), hg, show (i + 1) * sz + j - sz = i * sz + j by rw [Nat.succ_mul]; omega]
    exact flat_at g sz hg L i x j (by simpa using h) hj
theorem flat_len {β : Type} (g : β → List Value) (sz : Nat) (hg : ∀ b, (g b).length = sz) : ∀ (L : List β), (L.flatMap g).length = L.length * sz
  | [] => by simp
  | a :: L => by rw [List.flatMap_cons, List.length_append, hg, flat_len g sz hg L, List.length_cons, Nat.succ_mul]; omega
theorem weights_all {P : Program} {e : TypeId} : ∀ {l : List (DataW H)} {d : DataW H}, d ∈ l → ∀ x ∈ DataW.weights P e d, x ∈ DataW.weightsAll P e l
  | a :: l, d, hd, x, hx => by
    rw [DataW.weightsAll, List.mem_append]
    rcases List.mem_cons.1 hd with rfl | hd
    · exact .inl hx
    · exact .inr (weights_all hd x hx)
/-- a slice that came in -/
theorem open_rep {β : Type} (d0 : β) (g : β → List Value) (Q : β → Prop) {t e : TypeId} {sz bts : Nat} (ht : Tryz.prog.underlying t = some (.slice e)) (hc : Tryz.prog.cellsOf e = sz) (hbt : Tryz.prog.bytesOf e = bts) (hg : ∀ b, (g b).length = sz) (hs : 0 < sz) {m : Nat} {l : List Value} {y : DataW H × List MemPlace}
    (h : DataW.trod enc Tryz.prog W 0 (fun _ => true) true m t l = some y) (hw : ∀ x ∈ DataW.weights Tryz.prog t y.1, x ≤ reachBytes)
    (he : ∀ {m' : Nat} {l' : List Value} {y' : DataW H × List MemPlace}, DataW.trod enc Tryz.prog W 0 (fun _ => true) true m' e l' = some y' → (∀ x ∈ DataW.weights Tryz.prog e y'.1, x ≤ reachBytes) → ∃ b, l' = g b ∧ Q b) :
    ∃ (L : List β) (v : Value), l = [v] ∧ Rep (fun _ => True) W v sz bts (L.flatMap g) ∧ (∀ b ∈ L, Q b) ∧ L.length * bts ≤ 140737488351232 := by
  rcases open_slice ht h with ⟨h0, _⟩ | ⟨a, len, cap, k, n, D, Pl, rfl, _, hlc, hmx, hk, hy, hx⟩
  · exact ⟨[], .slice none 0 0, h0, Rep.nil _ _ _ _, fun b hb => by simp at hb, by simp⟩
  simp only [if_true] at hk
  subst hk
  rw [hc] at hx
  have hwe : ∀ i, i < len → ∀ x ∈ DataW.weights Tryz.prog e (D i), x ≤ reachBytes := fun i hi x hx => hw x (by
    subst hy
    simp only [DataW.weights, ht]
    refine List.mem_cons_of_mem _ (List.mem_append_left _ (weights_all (d := D i) ?_ x hx))
    exact List.mem_map.2 ⟨i, List.mem_range.2 hi, rfl⟩)
  obtain ⟨f, hf⟩ := pick_all (n := len) (p := fun i (b : β) => W.cells? 0 (a.add (i * sz)) sz = some (g b) ∧ Q b) d0 (fun i hi => by
    obtain ⟨cs', h1, h2⟩ := hx i (by omega)
    obtain ⟨b, rfl, hq⟩ := he h2 (hwe i hi)
    exact ⟨b, h1, hq⟩)
  have hlen : ((List.range len).map f).length = len := by simp
  have hb : len * bts ≤ 140737488351232 := by
    subst hy
    have := hw ((len + (k - len)) * bts) (by simp [DataW.weights, ht, hbt])
    have e : reachBytes = 140737488351232 := rfl
    have := Nat.mul_le_mul_right bts (show len ≤ len + (k - len) by omega)
    omega
  refine ⟨(List.range len).map f, .slice (some a) len k, rfl, ⟨some a, len, k, rfl, by rw [flat_len g sz hg, hlen], hb, ⟨fun h => (by cases h), hlc⟩, fun h0 => ?_⟩, fun b hb' => ?_, by rw [hlen]; exact hb⟩
  · have hcell : ∀ i, i < len → ∀ j v, (g (f i))[j]? = some v → W.cell? ((a.add (i * sz)).add j) = some v := fun i hi j v hv => by
      obtain ⟨_, hlen', hc'⟩ := World.cells?_some (hf i hi).1
      have hj : j < sz := by have := (List.getElem?_eq_some_iff.1 hv).1; rwa [hg] at this
      rw [hc' j hj]
      exact hv
    obtain ⟨b, off, spot⟩ := a
    have hspot : spot = none := by
      have := hcell 0 h0 0 _ (List.getElem?_eq_getElem (by rw [hg]; exact hs))
      simpa [Addr.add] using World.cell?_spot this
    subst hspot
    have hall : ∀ j u, (((List.range len).map f).flatMap g)[j]? = some u → W.cell? ⟨b, off + j, none⟩ = some u := fun j u hu => by
      have hj : j < len * sz := by have := (List.getElem?_eq_some_iff.1 hu).1; rwa [flat_len g sz hg, hlen] at this
      have hi : j / sz < len := (Nat.div_lt_iff_lt_mul hs).2 hj
      have hm : j % sz < sz := Nat.mod_lt _ hs
      have ej : j / sz * sz + j % sz = j := by rw [Nat.mul_comm]; exact Nat.div_add_mod j sz
      have hat := flat_at g sz hg ((List.range len).map f) (j / sz) (f (j / sz)) (j % sz) (by simp [hi]) hm
      rw [ej, hu] at hat
      have := hcell (j / sz) hi (j % sz) u hat.symm
      rw [Addr.add_lit, Addr.add_lit, Nat.add_assoc, ej] at this
      exact this
    have h1 : 0 < (((List.range len).map f).flatMap g).length := by rw [flat_len g sz hg, hlen]; exact Nat.mul_pos h0 hs
    exact ⟨b, off, rfl, trivial, World.block_lt_of_cell? W _ (hall 0 _ (List.getElem?_eq_getElem h1)), hall⟩
  · obtain ⟨i, hi, rfl⟩ := List.mem_map.1 hb'
    exact (hf i (List.mem_range.1 hi)).2
theorem cPw : Tryz.prog.cellsOf 104 = 2 := by kernel_rfl
theorem cPws : Tryz.prog.cellsOf 33 = 1 := by kernel_rfl
theorem cIs : Tryz.prog.cellsOf 34 = 1 := by kernel_rfl
theorem cStr : Tryz.prog.cellsOf 9 = 1 := by kernel_rfl
theorem cStrs : Tryz.prog.cellsOf 35 = 1 := by kernel_rfl
theorem cLn : Tryz.prog.cellsOf 37 = 4 := by kernel_rfl
theorem cPk : Tryz.prog.cellsOf 72 = 6 := by kernel_rfl
theorem cAs : Tryz.prog.cellsOf 82 = 7 := by kernel_rfl
theorem cAss : Tryz.prog.cellsOf 45 = 1 := by kernel_rfl
theorem cHd : Tryz.prog.cellsOf 39 = 4 := by kernel_rfl
theorem cMe : Tryz.prog.cellsOf 44 = 2 := by kernel_rfl
theorem cLk : Tryz.prog.cellsOf 41 = 14 := by kernel_rfl
theorem cLks : Tryz.prog.cellsOf 42 = 28 := by kernel_rfl
theorem cPv : Tryz.prog.cellsOf 47 = 97 := by kernel_rfl
theorem yI : Tryz.prog.bytesOf 3 = 8 := by kernel_rfl
theorem yPw : Tryz.prog.bytesOf 104 = 16 := by kernel_rfl
theorem yStr : Tryz.prog.bytesOf 9 = 16 := by kernel_rfl
theorem yAs : Tryz.prog.bytesOf 82 = 88 := by kernel_rfl
theorem open_pw {m : Nat} {l : List Value} {y : DataW H × List MemPlace} (h : DataW.trod enc Tryz.prog W 0 (fun _ => true) true m 104 l = some y) : ∃ b : Int × Int, l = [.int .i64 b.1, .int .i64 b.2] := by
  obtain ⟨xs, n, _, _, hl, hxl, hx⟩ := DataW.trod_struct Tryz.underlying104 h
  rw [cPw] at hl
  match l, hl with
  | [a0, a1], _ =>
    match xs, hxl with
    | [y0, y1], _ =>
      have t0 := hx 0 _ rfl
      have t1 := hx 1 _ rfl
      simp [cI] at t0 t1
      obtain ⟨q0, e0⟩ := open_i t0
      obtain ⟨q1, e1⟩ := open_i t1
      simp at e0 e1
      subst e0 e1
      exact ⟨(q0, q1), rfl⟩
theorem open_s {m : Nat} {l : List Value} {y : DataW H × List MemPlace} (h : DataW.trod enc Tryz.prog W 0 (fun _ => true) true m 9 l = some y) : ∃ b : ByteArray, l = [.string b] := by
  obtain ⟨q, e, _⟩ := DataW.trod_string Tryz.underlying9 h
  exact ⟨q, e⟩
theorem rep_pws {m : Nat} {l : List Value} {y : DataW H × List MemPlace} (h : DataW.trod enc Tryz.prog W 0 (fun _ => true) true m 33 l = some y) (hw : ∀ x ∈ DataW.weights Tryz.prog 33 y.1, x ≤ reachBytes) : ∃ (L : List (Int × Int)) (v : Value), l = [v] ∧ Rep (fun _ => True) W v 2 16 (pwC L) := by
  obtain ⟨L, v, e, hr, -, -⟩ := open_rep (0, 0) (fun b : Int × Int => [.int .i64 b.1, .int .i64 b.2]) (fun _ => True) Tryz.underlying33 cPw yPw (fun _ => rfl) (by decide) h hw (fun h _ => by obtain ⟨b, e⟩ := open_pw h; exact ⟨b, e, trivial⟩)
  exact ⟨L, v, e, hr⟩
theorem flat_one {β : Type} (f : β → Value) : ∀ L : List β, L.flatMap (fun b => [f b]) = L.map f
  | [] => rfl
  | a :: L => by rw [List.flatMap_cons, flat_one f L]; rfl
theorem rep_ints {m : Nat} {l : List Value} {y : DataW H × List MemPlace} (h : DataW.trod enc Tryz.prog W 0 (fun _ => true) true m 34 l = some y) (hw : ∀ x ∈ DataW.weights Tryz.prog 34 y.1, x ≤ reachBytes) : ∃ (L : List Int) (v : Value), l = [v] ∧ Rep (fun _ => True) W v 1 8 (inC L) := by
  obtain ⟨L, v, e, hr, -, -⟩ := open_rep 0 (fun b : Int => [.int .i64 b]) (fun _ => True) Tryz.underlying34 cI yI (fun _ => rfl) (by decide) h hw (fun h _ => by obtain ⟨b, e⟩ := open_i h; exact ⟨b, e, trivial⟩)
  rw [flat_one] at hr
  exact ⟨L, v, e, hr⟩
theorem rep_txts {m : Nat} {l : List Value} {y : DataW H × List MemPlace} (h : DataW.trod enc Tryz.prog W 0 (fun _ => true) true m 35 l = some y) (hw : ∀ x ∈ DataW.weights Tryz.prog 35 y.1, x ≤ reachBytes) : ∃ (L : List ByteArray) (v : Value), l = [v] ∧ Rep (fun _ => True) W v 1 16 (txC L) := by
  obtain ⟨L, v, e, hr, -, -⟩ := open_rep ByteArray.empty (fun b : ByteArray => [.string b]) (fun _ => True) Tryz.underlying35 cStr yStr (fun _ => rfl) (by decide) h hw (fun h _ => by obtain ⟨b, e⟩ := open_s h; exact ⟨b, e, trivial⟩)
  rw [flat_one] at hr
  exact ⟨L, v, e, hr⟩
theorem open_pk {m : Nat} {l : List Value} {y : DataW H × List MemPlace} (h : DataW.trod enc Tryz.prog W 0 (fun _ => true) true m 72 l = some y) (hw : ∀ x ∈ DataW.weights Tryz.prog 72 y.1, x ≤ reachBytes) : ∃ (x : Pkt) (u : Value × Value), l = [.int .i64 x.k, .int .i64 x.i, .int .i64 x.v, .int .i64 x.n, u.1, u.2] ∧ Rep (fun _ => True) W u.1 2 16 (pwC x.S) ∧ Rep (fun _ => True) W u.2 1 8 (inC x.D) := by
  obtain ⟨xs, n, _, hxs, hl, hxl, hx⟩ := DataW.trod_struct Tryz.underlying72 h
  rw [cPk] at hl
  match l, hl with
  | [a0, a1, a2, a3, a4, a5], _ =>
    match xs, hxl with
    | [y0, y1, y2, y3, y4, y5], _ =>
      have t0 := hx 0 _ rfl
      have t1 := hx 1 _ rfl
      have t2 := hx 2 _ rfl
      have t3 := hx 3 _ rfl
      have t4 := hx 4 _ rfl
      have t5 := hx 5 _ rfl
      simp [cI, cPws, cIs] at t0 t1 t2 t3 t4 t5
      subst hxs
      have w4 : ∀ x ∈ DataW.weights Tryz.prog 33 y4.1, x ≤ reachBytes := fun x hx => hw x (by simp [DataW.weights, Tryz.underlying72, DataW.weightsEach, hx])
      have w5 : ∀ x ∈ DataW.weights Tryz.prog 34 y5.1, x ≤ reachBytes := fun x hx => hw x (by simp [DataW.weights, Tryz.underlying72, DataW.weightsEach, hx])
      obtain ⟨q0, e0⟩ := open_i t0
      obtain ⟨q1, e1⟩ := open_i t1
      obtain ⟨q2, e2⟩ := open_i t2
      obtain ⟨q3, e3⟩ := open_i t3
      obtain ⟨S, u4, e4, r4⟩ := rep_pws t4 w4
      obtain ⟨D, u5, e5, r5⟩ := rep_ints t5 w5
      simp at e0 e1 e2 e3 e4 e5
      subst e0 e1 e2 e3 e4 e5
      exact ⟨⟨q0, q1, q2, q3, S, D⟩, (a4, a5), rfl, r4, r5⟩
theorem open_as {m : Nat} {l : List Value} {y : DataW H × List MemPlace} (h : DataW.trod enc Tryz.prog W 0 (fun _ => true) true m 82 l = some y) (hw : ∀ x ∈ DataW.weights Tryz.prog 82 y.1, x ≤ reachBytes) : ∃ b : (Int × Pkt) × (Value × Value), l = akL b.1 b.2 ∧ (Rep (fun _ => True) W b.2.1 2 16 (pwC b.1.2.S) ∧ Rep (fun _ => True) W b.2.2 1 8 (inC b.1.2.D)) := by
  obtain ⟨xs, n, _, hxs, hl, hxl, hx⟩ := DataW.trod_struct Tryz.underlying82 h
  rw [cAs] at hl
  match l, hl with
  | [a0, a1, a2, a3, a4, a5, a6], _ =>
    match xs, hxl with
    | [y0, y1], _ =>
      have t0 := hx 0 _ rfl
      have t1 := hx 1 _ rfl
      simp [cI, cPk] at t0 t1
      subst hxs
      have w1 : ∀ x ∈ DataW.weights Tryz.prog 72 y1.1, x ≤ reachBytes := fun x hx => hw x (by simp [DataW.weights, Tryz.underlying82, DataW.weightsEach, hx])
      obtain ⟨q0, e0⟩ := open_i t0
      obtain ⟨x, u, e1, r1, r2⟩ := open_pk t1 w1
      simp at e0 e1
      obtain ⟨f1, f2, f3, f4, f5, f6⟩ := e1
      subst e0 f1 f2 f3 f4 f5 f6
      exact ⟨((q0, x), u), rfl, r1, r2⟩
theorem quL_flat : ∀ L : List ((Int × Pkt) × (Value × Value)), L.flatMap (fun b => akL b.1 b.2) = quL (L.map (·.1)) (L.map (·.2))
  | [] => rfl
  | a :: L => by rw [List.flatMap_cons, quL_flat L]; rfl
theorem rep_queue {m : Nat} {l : List Value} {y : DataW H × List MemPlace} (h : DataW.trod enc Tryz.prog W 0 (fun _ => true) true m 45 l = some y) (hw : ∀ x ∈ DataW.weights Tryz.prog 45 y.1, x ≤ reachBytes) : ∃ (q : List (Int × Pkt)) (v : Value), l = [v] ∧ QRep (fun _ => True) W v q ∧ q.length * 88 ≤ 140737488351232 := by
  obtain ⟨L, v, e, hr, hq, hl⟩ := open_rep ((0, ⟨0, 0, 0, 0, [], []⟩), (.slice none 0 0, .slice none 0 0)) (fun b : (Int × Pkt) × (Value × Value) => akL b.1 b.2) (fun b => Rep (fun _ => True) W b.2.1 2 16 (pwC b.1.2.S) ∧ Rep (fun _ => True) W b.2.2 1 8 (inC b.1.2.D)) Tryz.underlying45 cAs yAs (fun _ => rfl) (by decide) h hw (fun h hw => open_as h hw)
  rw [quL_flat] at hr
  refine ⟨L.map (·.1), v, e, ⟨L.map (·.2), by simp, ?_, fun i x y hx hy => ?_⟩, by simpa using hl⟩
  · obtain ⟨A, n, C, h1, h2, h3, h4, h5⟩ := hr
    exact ⟨A, n, C, h1, h2, by omega, h4, h5⟩
  · rw [List.getElem?_map] at hx hy
    rcases hb : L[i]? with _ | b
    · rw [hb] at hx; simp at hx
    · rw [hb] at hx hy
      simp at hx hy
      subst hx hy
      exact hq b (List.mem_of_getElem? hb)
theorem open_ln {m : Nat} {l : List Value} {y : DataW H × List MemPlace} (h : DataW.trod enc Tryz.prog W 0 (fun _ => true) true m 37 l = some y) (hw : ∀ x ∈ DataW.weights Tryz.prog 37 y.1, x ≤ reachBytes) : ∃ (x : Ln.Line) (u : Value × Value), l = [u.1, u.2, .int .i64 x.g, .bool x.cl] ∧ Rep (fun _ => True) W u.1 1 16 (txC x.S) ∧ Rep (fun _ => True) W u.2 1 8 (inC x.D) := by
  obtain ⟨xs, n, _, hxs, hl, hxl, hx⟩ := DataW.trod_struct Tryz.underlying37 h
  rw [cLn] at hl
  match l, hl with
  | [a0, a1, a2, a3], _ =>
    match xs, hxl with
    | [y0, y1, y2, y3], _ =>
      have t0 := hx 0 _ rfl
      have t1 := hx 1 _ rfl
      have t2 := hx 2 _ rfl
      have t3 := hx 3 _ rfl
      simp [cI, cT, cStrs, cIs] at t0 t1 t2 t3
      subst hxs
      have w0 : ∀ x ∈ DataW.weights Tryz.prog 35 y0.1, x ≤ reachBytes := fun x hx => hw x (by simp [DataW.weights, Tryz.underlying37, DataW.weightsEach, hx])
      have w1 : ∀ x ∈ DataW.weights Tryz.prog 34 y1.1, x ≤ reachBytes := fun x hx => hw x (by simp [DataW.weights, Tryz.underlying37, DataW.weightsEach, hx])
      obtain ⟨S, u0, e0, r0⟩ := rep_txts t0 w0
      obtain ⟨D, u1, e1, r1⟩ := rep_ints t1 w1
      obtain ⟨q2, e2⟩ := open_i t2
      obtain ⟨q3, e3⟩ := open_t t3
      simp at e0 e1 e2 e3
      subst e0 e1 e2 e3
      exact ⟨⟨S, D, q2, q3⟩, (a0, a1), rfl, r0, r1⟩
theorem open_hd {m : Nat} {l : List Value} {y : DataW H × List MemPlace} (h : DataW.trod enc Tryz.prog W 0 (fun _ => true) true m 39 l = some y) : ∃ a b c d : Int, l = [.int .i64 a, .int .i64 b, .int .i64 c, .int .i64 d] := by
  obtain ⟨xs, n, _, _, hl, hxl, hx⟩ := DataW.trod_struct Tryz.underlying39 h
  rw [cHd] at hl
  match l, hl with
  | [a0, a1, a2, a3], _ =>
    match xs, hxl with
    | [y0, y1, y2, y3], _ =>
      have t0 := hx 0 _ rfl
      have t1 := hx 1 _ rfl
      have t2 := hx 2 _ rfl
      have t3 := hx 3 _ rfl
      simp [cI] at t0 t1 t2 t3
      obtain ⟨q0, e0⟩ := open_i t0
      obtain ⟨q1, e1⟩ := open_i t1
      obtain ⟨q2, e2⟩ := open_i t2
      obtain ⟨q3, e3⟩ := open_i t3
      simp at e0 e1 e2 e3
      subst e0 e1 e2 e3
      exact ⟨q0, q1, q2, q3, rfl⟩
theorem open_lk {m : Nat} {l : List Value} {y : DataW H × List MemPlace} (h : DataW.trod enc Tryz.prog W 0 (fun _ => true) true m 41 l = some y) (hw : ∀ x ∈ DataW.weights Tryz.prog 41 y.1, x ≤ reachBytes) : ∃ (x : Lk) (u : LkV), l = lkL x u ∧ LkIn (fun _ => True) W x u := by
  obtain ⟨xs, n, _, hxs, hl, hxl, hx⟩ := DataW.trod_struct Tryz.underlying41 h
  rw [cLk] at hl
  match l, hl with
  | [a0, a1, a2, a3, a4, a5, a6, a7, a8, a9, a10, a11, a12, a13], _ =>
    match xs, hxl with
    | [y0, y1, y2, y3, y4, y5, y6, y7], _ =>
      have t0 := hx 0 _ rfl
      have t1 := hx 1 _ rfl
      have t2 := hx 2 _ rfl
      have t3 := hx 3 _ rfl
      have t4 := hx 4 _ rfl
      have t5 := hx 5 _ rfl
      have t6 := hx 6 _ rfl
      have t7 := hx 7 _ rfl
      simp [cI, cT, cPws, cIs, cLn, cHd] at t0 t1 t2 t3 t4 t5 t6 t7
      subst hxs
      have w3 : ∀ x ∈ DataW.weights Tryz.prog 33 y3.1, x ≤ reachBytes := fun x hx => hw x (by simp [DataW.weights, Tryz.underlying41, DataW.weightsEach, hx])
      have w5 : ∀ x ∈ DataW.weights Tryz.prog 34 y5.1, x ≤ reachBytes := fun x hx => hw x (by simp [DataW.weights, Tryz.underlying41, DataW.weightsEach, hx])
      have w6 : ∀ x ∈ DataW.weights Tryz.prog 37 y6.1, x ≤ reachBytes := fun x hx => hw x (by simp [DataW.weights, Tryz.underlying41, DataW.weightsEach, hx])
      obtain ⟨q0, e0⟩ := open_t t0
      obtain ⟨q1, e1⟩ := open_t t1
      obtain ⟨q2, e2⟩ := open_i t2
      obtain ⟨T, u3, e3, r3⟩ := rep_pws t3 w3
      obtain ⟨q4, e4⟩ := open_t t4
      obtain ⟨D, u5, e5, r5⟩ := rep_ints t5 w5
      obtain ⟨x6, u6, e6, r6, r7⟩ := open_ln t6 w6
      obtain ⟨h0, h1, h2, h3, e7⟩ := open_hd t7
      simp at e0 e1 e2 e3 e4 e5 e6 e7
      obtain ⟨f6, f7, f8, f9⟩ := e6
      obtain ⟨g0, g1, g2, g3⟩ := e7
      subst e0 e1 e2 e3 e4 e5 f6 f7 f8 f9 g0 g1 g2 g3
      exact ⟨⟨q0, q1, q2, T, q4, D, x6, h0, h1, h2, h3⟩, ⟨_, _, u6.1, u6.2⟩, rfl, r3, r5, r6, r7⟩
theorem rep_waits {m : Nat} {l : List Value} {y : DataW H × List MemPlace} (h : DataW.trod enc Tryz.prog W 0 (fun _ => true) true m 30 l = some y) (hw : ∀ x ∈ DataW.weights Tryz.prog 30 y.1, x ≤ reachBytes) : ∃ (L : List Wt) (v : Value), l = [v] ∧ Rep (fun _ => True) W v 8 64 (wsL L) := by
  obtain ⟨L, v, e, hr, -, -⟩ := open_rep ⟨0, 0, 0, 0, 0, 0, 0, 0⟩ wtL (fun _ => True) Tryz.underlying30 cW bytesW (fun _ => rfl) (by decide) h hw (fun h _ => by obtain ⟨b, e⟩ := open_wt h; exact ⟨b, e, trivial⟩)
  exact ⟨L, v, e, hr⟩
theorem open_st {m : Nat} {l : List Value} {y : DataW H × List MemPlace} (h : DataW.trod enc Tryz.prog W 0 (fun _ => true) true m 32 l = some y) (hw : ∀ x ∈ DataW.weights Tryz.prog 32 y.1, x ≤ reachBytes) : ∃ (s : St) (v : Value), l = (stC s v).toList ∧ Rep (fun _ => True) W v 8 64 (wsL s.W) := by
  obtain ⟨xs, n, _, hxs, hl, hxl, hx⟩ := DataW.trod_struct Tryz.underlying32 h
  rw [cS] at hl
  match xs, hxl with
  | [y0, y1, y2, y3, y4], _ =>
    have t0 := hx 0 _ rfl
    have t1 := hx 1 _ rfl
    have t2 := hx 2 _ rfl
    have t3 := hx 3 _ rfl
    have t4 := hx 4 _ rfl
    simp [cI, cB, cVs, cSh, cWs] at t0 t1 t2 t3 t4
    subst hxs
    have w3 : ∀ x ∈ DataW.weights Tryz.prog 30 y3.1, x ≤ reachBytes := fun x hx => hw x (by simp [DataW.weights, Tryz.underlying32, DataW.weightsEach, hx])
    obtain ⟨b, e0⟩ := open_bk t0
    obtain ⟨V, e1⟩ := open_vds t1
    obtain ⟨S, e2⟩ := open_shs t2
    obtain ⟨L, v, e3, r3⟩ := rep_waits t3 w3
    obtain ⟨q, e4⟩ := open_i t4
    have hcs : l = l.take 7 ++ ((l.drop 7).take 30 ++ ((l.drop 37).take 24 ++ ((l.drop 61).take 1 ++ (l.drop 62).take 1))) := by
      have a1 := parts (l := l) (o := 7) (n := 30)
      have a2 := parts (l := l) (o := 37) (n := 24)
      have a3 := parts (l := l) (o := 61) (n := 1)
      have a4 : l.drop 62 = (l.drop 62).take 1 := by rw [List.take_of_length_le]; rw [List.length_drop]; omega
      rw [← a4, ← a3, ← a2, ← a1]
      simp
    rw [e0, e1, e2, e3, e4] at hcs
    exact ⟨⟨b, V, S, L, q⟩, v, by rw [hcs]; rfl, r3⟩
theorem open_me {m : Nat} {l : List Value} {y : DataW H × List MemPlace} (h : DataW.trod enc Tryz.prog W 0 (fun _ => true) true m 44 l = some y) : ∃ a b : Int, l = [.int .i64 a, .int .i64 b] := by
  obtain ⟨xs, n, _, _, hl, hxl, hx⟩ := DataW.trod_struct Tryz.underlying44 h
  rw [cMe] at hl
  match l, hl with
  | [a0, a1], _ =>
    match xs, hxl with
    | [y0, y1], _ =>
      have t0 := hx 0 _ rfl
      have t1 := hx 1 _ rfl
      simp [cI] at t0 t1
      obtain ⟨q0, e0⟩ := open_i t0
      obtain ⟨q1, e1⟩ := open_i t1
      simp at e0 e1
      subst e0 e1
      exact ⟨q0, q1, rfl⟩
theorem open_lks {m : Nat} {l : List Value} {y : DataW H × List MemPlace} (h : DataW.trod enc Tryz.prog W 0 (fun _ => true) true m 42 l = some y) (hw : ∀ x ∈ DataW.weights Tryz.prog 42 y.1, x ≤ reachBytes) : ∃ (L : Nat → Lk) (u : Nat → LkV), l = lkL (L 0) (u 0) ++ lkL (L 1) (u 1) ∧ ∀ c, c < 2 → LkIn (fun _ => True) W (L c) (u c) := by
  obtain ⟨xs, n, _, hxs, hl, hxl, hx⟩ := DataW.trod_array Tryz.underlying42 h
  rw [cLks] at hl
  subst hxs
  have hwe : ∀ i, i < 2 → ∀ d, xs[i]? = some d → ∀ x ∈ DataW.weights Tryz.prog 41 d.1, x ≤ reachBytes := fun i hi d hd x hx => hw x (by
    simp only [DataW.weights, Tryz.underlying42]
    exact weights_all (d := d.1) (List.mem_map.2 ⟨d, List.mem_of_getElem? hd, rfl⟩) x hx)
  obtain ⟨f, hf⟩ := pick_all (n := 2) (p := fun i (b : Lk × LkV) => (l.drop (i * 14)).take 14 = lkL b.1 b.2 ∧ LkIn (fun _ => True) W b.1 b.2) (⟨false, false, 0, [], false, [], ⟨[], [], 0, false⟩, 0, 0, 0, 0⟩, ⟨.slice none 0 0, .slice none 0 0, .slice none 0 0, .slice none 0 0⟩) (fun i hi => by
    have := hx i hi
    rw [cLk, List.getElem?_eq_getElem (by omega)] at this
    obtain ⟨x, u, e, r⟩ := open_lk this (hwe i hi _ (List.getElem?_eq_getElem (by omega)))
    exact ⟨(x, u), e, r⟩)
  refine ⟨fun i => (f i).1, fun i => (f i).2, ?_, fun c hc => (hf c hc).2⟩
  rw [← (hf 0 (by omega)).1, ← (hf 1 (by omega)).1]
  have a1 := parts (l := l) (o := 0) (n := 14)
  have a2 : l.drop 14 = (l.drop 14).take 14 := by rw [List.take_of_length_le]; rw [List.length_drop]; omega
  simp only [Nat.zero_mul, Nat.one_mul, Nat.zero_add] at a1 ⊢
  rw [← a2, ← a1, List.drop_zero]
/-- a provider that came in -/
theorem open_prov {r : Reach} {b0 : Nat} {v : Value} {d : DataW H} {p : List MemPlace} (hv : Value.okWide Tryz.prog W r b0 47 v) (h : DataW.Trod enc Tryz.prog W 0 (fun _ => true) true 47 v d p) (hw : ∀ x ∈ DataW.weights Tryz.prog 47 d, x ≤ reachBytes) :
    ∃ (x : Pr) (u : PrV), v = .agg (prC x u) ∧ PIn (fun _ => True) W x u ∧ x.q.length * 88 ≤ 140737488351232 := by
  obtain ⟨cs, rfl, hsz⟩ := okWide_struct Tryz.underlying47 hv
  rw [cPv] at hsz
  obtain ⟨cs⟩ := cs
  obtain ⟨fuel, hf⟩ := h
  obtain ⟨xs, n, _, hxs, hl, hxl, hx⟩ := DataW.trod_struct Tryz.underlying47 hf
  match xs, hxl with
  | [y0, y1, y2, y3, y4, y5, y6], _ =>
    have t0 := hx 0 _ rfl
    have t1 := hx 1 _ rfl
    have t2 := hx 2 _ rfl
    have t3 := hx 3 _ rfl
    have t4 := hx 4 _ rfl
    have t5 := hx 5 _ rfl
    have t6 := hx 6 _ rfl
    simp [Value.cells, cI, cS, cPws, cLks, cMe, cAss] at t0 t1 t2 t3 t4 t5 t6 hsz
    simp only [Prod.mk.injEq] at hxs
    obtain ⟨rfl, _⟩ := hxs
    have w2 : ∀ x ∈ DataW.weights Tryz.prog 32 y2.1, x ≤ reachBytes := fun x hx => hw x (by simp [DataW.weights, Tryz.underlying47, DataW.weightsEach, hx])
    have w3 : ∀ x ∈ DataW.weights Tryz.prog 33 y3.1, x ≤ reachBytes := fun x hx => hw x (by simp [DataW.weights, Tryz.underlying47, DataW.weightsEach, hx])
    have w4 : ∀ x ∈ DataW.weights Tryz.prog 42 y4.1, x ≤ reachBytes := fun x hx => hw x (by simp [DataW.weights, Tryz.underlying47, DataW.weightsEach, hx])
    have w6 : ∀ x ∈ DataW.weights Tryz.prog 45 y6.1, x ≤ reachBytes := fun x hx => hw x (by simp [DataW.weights, Tryz.underlying47, DataW.weightsEach, hx])
    obtain ⟨q0, e0⟩ := open_i t0
    obtain ⟨q1, e1⟩ := open_i t1
    obtain ⟨s, us, e2, r2⟩ := open_st t2 w2
    obtain ⟨set, ut, e3, r3⟩ := rep_pws t3 w3
    obtain ⟨L, ul, e4, r4⟩ := open_lks t4 w4
    obtain ⟨ml, mn, e5⟩ := open_me t5
    obtain ⟨q, uq, e6, r6, hq⟩ := rep_queue t6 w6
    have hcs : cs = cs.take 1 ++ (cs.tail.take 1 ++ ((cs.drop 2).take 63 ++ ((cs.drop 65).take 1 ++ ((cs.drop 66).take 28 ++ ((cs.drop 94).take 2 ++ (cs.drop 96).take 1))))) := by
      have a1 := parts (l := cs) (o := 1) (n := 1)
      have a2 := parts (l := cs) (o := 2) (n := 63)
      have a3 := parts (l := cs) (o := 65) (n := 1)
      have a4 := parts (l := cs) (o := 66) (n := 28)
      have a5 := parts (l := cs) (o := 94) (n := 2)
      have a6 : cs.drop 96 = (cs.drop 96).take 1 := by rw [List.take_of_length_le]; rw [List.length_drop]; omega
      rw [← List.drop_one, ← a6, ← a5, ← a4, ← a3, ← a2, ← a1]
      exact (List.take_append_drop 1 cs).symm
    rw [e0, e1, e2, e3, e4, e5, e6] at hcs
    refine ⟨⟨q0, q1, s, set, L, ml, mn, q⟩, ⟨us, ut, ul, uq⟩, ?_, ⟨r2, r3, r4, r6⟩, hq⟩
    rw [hcs]
    simp [prC]
end
end Go.Proofs.YtkhlihpghbhppaaGreat.Pv


set_option maxRecDepth 100000
namespace Go.Proofs.YtkhlihpghbhppaaGreat
open Go.RowKit
theorem bset_heap (w : World) {b k : Nat} (x : Bk) (h : k ≠ b) : (bset w b x).heap[k]? = w.heap[k]? := by
  unfold bset
  rw [Below.heap_setCell _ _ _ _ h, Below.heap_setCell _ _ _ _ h, Below.heap_setCell _ _ _ _ h, Below.heap_setCell _ _ _ _ h, Below.heap_setCell _ _ _ _ h, Below.heap_setCell _ _ _ _ h, Below.heap_setCell _ _ _ _ h]
/-- what Delegate answers: where it is granted, with a list of its own -/
def AnswersN (B : Nat) (w : World) (r : St × Int) (e : Ending) (w' : World) : Prop := ∃ A C, e = .returned (.tuple #[.agg (stC r.1 (.slice A r.1.W.length C)), .int .i64 r.2]) ∧ (r.2 = 0 → OwnW B w' A C r.1.W) ∧ Below B w w'
theorem stake_endN {f : Func} {p q : Tmp} (hres : f.results = #[.cell p 32, .tmp q]) {B g : Nat} {w wq : World} {zs : Array Value} (R : SAt wq g zs) (hz : zs.size = 63) (H : Below B w wq) (hB : B ≤ g) (s' : St) (A : Option Addr) (C : Nat) (er : Int) (r : St × Int) (hr : r = (s', er)) (hO : er = 0 → OwnW B wq A C s'.W ∧ ∀ k, (Value.slice A s'.W.length C).ownBlock = some k → k ≠ g) (act : Act)
    (h8 : act.tmps.getD p undef = .pointer (some ⟨g, 0, none⟩)) (h9 : act.tmps.getD q undef = .int .i64 er) (hd : act.defers = []) :
    bodyPost Tryz.prog f (fun e w' => AnswersN B w r e w') Exit.ret act (wq.setCells g 0 (stC s' (.slice A s'.W.length C)).toList) := by
  subst hr
  have R3 := R.setAll (ds := stC s' (.slice A s'.W.length C)) (by rw [hz]; rfl)
  exact bodyPost_ret (v := .tuple #[.agg (stC s' (.slice A s'.W.length C)), .int .i64 er]) (results_stake2 hres _ _ g _ _ h8 h9 R3 rfl) hd ⟨A, C, rfl, fun h => own_of (hO h).1 fun k hk => heap_sets ((hO h).2 k hk) _ _ _, below_sets hB _ _ _ H⟩
set_option maxHeartbeats 4000000 in
theorem rdeleg_no2 (s : St) (ao : Option Addr) (sb so c : Nat) (d v n : Int) (w : World) (hW : WsAt w ao sb so s.W) (r : St × Int) (h0 : refOfE s d v ≠ 0) (hr : r = (s, refOfE s d v)) :
    Calls Tryz.prog 41 #[.agg (stC s (.slice ao s.W.length c)), .int .i64 d, .int .i64 v, .int .i64 n] w fun e w' => AnswersN w.heap.size w r e w' := by
  have SS := (SAt.new w (stC s (.slice ao s.W.length c))).alloc (.cells Z63 32)
  have RR := SAt.new2 w (.cells (stC s (.slice ao s.W.length c)) 32) Z63
  have HB : Hid (Below w.heap.size w ((w.alloc (.cells (stC s (.slice ao s.W.length c)) 32)).alloc (.cells Z63 32))) := ((Below.refl _ w).alloc (Nat.le_refl _) _).alloc (by simp) _
  have HW := hide hW
  have HR := hide hr
  have HNE := hide h0
  have hsm := fun w h => some_any s ao sb so c d v w h
  clear hW hr
  go_enter Tryz.func41, Tryz.ntmps41
  go_upto_region 1 with fail
  change Code.wp Tryz.prog _ _ _ ((w.alloc (.cells (stC s (.slice ao s.W.length c)) 32)).alloc (.cells Z63 32))
  generalize (w.alloc (.cells (stC s (.slice ao s.W.length c)) 32)).alloc (.cells Z63 32) = w0 at *
  apply wp_region_lit
  refine wpList_load_mid rfl 32 _ rfl _ 0 rfl _ _ SS.range Tryz.underlying32 rfl (by rw [infoS]; rfl) ?_
  go_upto_region 3 with (go_at_call 99; refine (hsm _ (by exact HW.out.over HB.out)).mono ?_; rintro e w1 ⟨rfl, h1⟩)
  have HB1 := hide (HB.out.trans (h1.mono HB.out.size))
  have S1 := SS.later h1 SS.lt
  have R1 := RR.later h1 RR.lt
  apply wp_region_lit
  refine wpList_load_mid rfl 32 _ rfl _ 0 rfl _ _ S1.range Tryz.underlying32 rfl (by rw [infoS]; rfl) ?_
  refine wpList_mv rfl _ rfl ?_
  refine wpList_store_mid rfl 32 _ _ rfl _ 0 (stC s (.slice ao s.W.length c)) rfl rfl (R1.there 0 _ (by rw [Z63_size, stC_size]; omega)) (by rw [infoS]; rfl) (stC_one _ _ _ _) ?_
  go_wp2
  exact stake_endN Tryz.results41 R1 rfl HB1.out (by omega) s ao c _ r HR.out (fun h => absurd h (by first | decide | omega | exact HNE.out | (simpa using ‹(er != 0) = true›))) _ rfl rfl rfl
set_option maxHeartbeats 4000000 in
theorem rdeleg_yes2 (s : St) (ao : Option Addr) (sb so c d v : Nat) (n : Int) (w : World) (hW : WsAt w ao sb so s.W) (r : St × Int) (hg : goodS s = true) (hd : d < 4) (hv : v < 6) (B : Bk) (er : Int)
    (hBond : ∀ w : World, Calls Tryz.prog 101 #[.agg #[.int .i64 s.b.f0, .int .i64 s.b.f1, .int .i64 s.b.f2, .int .i64 s.b.f3, .int .i64 s.b.bo, .int .i64 s.b.wa, .int .i64 s.b.bu], .int .i64 (d : Int), .int .i64 n] w fun e w' => e = .returned (.tuple #[.agg #[.int .i64 B.f0, .int .i64 B.f1, .int .i64 B.f2, .int .i64 B.f3, .int .i64 B.bo, .int .i64 B.wa, .int .i64 B.bu], .int .i64 er]) ∧ Below w.heap.size w w')
    (h1 : (s.V v).dead = true → r = (s, 15)) (h2 : (s.V v).dead = false → (decide (0 < n) && inA n) = false → r = (s, 2))
    (h3 : (s.V v).dead = false → (decide (0 < n) && inA n) = true → shE (s.V v) n ≠ 0 → r = (s, shE (s.V v) n))
    (h4 : (s.V v).dead = false → (decide (0 < n) && inA n) = true → shE (s.V v) n = 0 → er ≠ 0 → r = (s, er))
    (h5 : (s.V v).dead = false → (decide (0 < n) && inA n) = true → shE (s.V v) n = 0 → er = 0 → r = (addS { s with b := B } d v n (shN (s.V v) n), 0)) :
    Calls Tryz.prog 41 #[.agg (stC s (.slice ao s.W.length c)), .int .i64 (d : Int), .int .i64 (v : Int), .int .i64 n] w fun e w' => AnswersN w.heap.size w r e w' := by
  have SS := (SAt.new w (stC s (.slice ao s.W.length c))).alloc (.cells Z63 32)
  have RR := SAt.new2 w (.cells (stC s (.slice ao s.W.length c)) 32) Z63
  have HB : Hid (Below w.heap.size w ((w.alloc (.cells (stC s (.slice ao s.W.length c)) 32)).alloc (.cells Z63 32))) := ((Below.refl _ w).alloc (Nat.le_refl _) _).alloc (by simp) _
  have HW := hide hW
  have H1 := hide h1
  have H2 := hide h2
  have H3 := hide h3
  have H4 := hide h4
  have H5 := hide h5
  obtain ⟨hvo, hps⟩ := good_vals hg v hv
  obtain ⟨k1, k2, _⟩ := vOk_amounts hvo
  rw [inA_iff] at k1 k2
  have hRf := ref_of_good hg hd hv
  have hd' : (d : Int) < 4 := by omega
  have hv' : (v : Int) < 6 := by omega
  have hd0 : (0 : Int) ≤ (d : Int) := by omega
  have hv0 : (0 : Int) ≤ (v : Int) := by omega
  have hsm := fun w h => some_any s ao sb so c d v w h
  clear hW h1 h2 h3 h4 h5
  go_enter Tryz.func41, Tryz.ntmps41
  go_upto_region 1 with fail
  change Code.wp Tryz.prog _ _ _ ((w.alloc (.cells (stC s (.slice ao s.W.length c)) 32)).alloc (.cells Z63 32))
  generalize (w.alloc (.cells (stC s (.slice ao s.W.length c)) 32)).alloc (.cells Z63 32) = w0 at *
  apply wp_region_lit
  refine wpList_load_mid rfl 32 _ rfl _ 0 rfl _ _ SS.range Tryz.underlying32 rfl (by rw [infoS]; rfl) ?_
  go_upto_region 4 with (go_at_call 99; refine (hsm _ (by exact HW.out.over HB.out)).mono ?_; rintro e w1 ⟨rfl, h1⟩)
  have HB1 := hide (HB.out.trans (h1.mono HB.out.size))
  have S1 := SS.later h1 SS.lt
  have R1 := RR.later h1 RR.lt
  have hz1 : w.heap.size + 1 < w1.heap.size := R1.lt
  obtain ⟨c0, c1, c2, c3, c4⟩ := S1.val v hv
  clear SS RR h1 HB hsm hRf
  go_upto_region 5 with fail
  have V2 : VAt (w1.alloc (.cells #[.int .i64 (s.V v).tok, .int .i64 (s.V v).sh, .int .i64 (s.V v).lost, .bool (s.V v).jail, .bool (s.V v).dead] 26)) w1.heap.size (s.V v) := heap_alloc_new _ _
  have S2 := S1.alloc (.cells #[.int .i64 (s.V v).tok, .int .i64 (s.V v).sh, .int .i64 (s.V v).lost, .bool (s.V v).jail, .bool (s.V v).dead] 26)
  have R2 := R1.alloc (.cells #[.int .i64 (s.V v).tok, .int .i64 (s.V v).sh, .int .i64 (s.V v).lost, .bool (s.V v).jail, .bool (s.V v).dead] 26)
  have HB2 := hide (HB1.out.alloc (by omega) (.cells #[.int .i64 (s.V v).tok, .int .i64 (s.V v).sh, .int .i64 (s.V v).lost, .bool (s.V v).jail, .bool (s.V v).dead] 26))
  generalize w1.alloc (.cells #[.int .i64 (s.V v).tok, .int .i64 (s.V v).sh, .int .i64 (s.V v).lost, .bool (s.V v).jail, .bool (s.V v).dead] 26) = w2 at *
  clear S1 R1 HB1 c0 c1 c2 c3 c4
  obtain ⟨x0, x1, x2, x3, x4, x5, x6, _, _⟩ := st_cells S2
  obtain ⟨e0, e1, e2, e3, e4⟩ := V2.cells
  have hz2 : w.heap.size + 1 < w2.heap.size := R2.lt
  have hy2 : w1.heap.size < w2.heap.size := V2.lt
  have HN := hide (shN_eq (s.V v) n)
  have HE := hide (shE_eq (s.V v) n)
  have hM := fun w (hn : n ≤ 1125899906842624) => rmuldiv_any n (s.V v).sh (s.V v).tok w (by omega) (by omega) (by omega)
  have hmb := mdN_bound n (s.V v).sh (s.V v).tok
  have HT : Hid ((decide (0 < n) && inA n) = true ↔ (1 ≤ n ∧ n ≤ 1125899906842624)) := by constructor <;> intro h <;> simp only [Bool.and_eq_true, decide_eq_true_eq, inA_iff] at * <;> omega
  have HI : Hid (inA ((s.V v).sh + mdN n (s.V v).sh (s.V v).tok) = true ↔ (s.V v).sh + mdN n (s.V v).sh (s.V v).tok ≤ 1125899906842624) := by rw [inA_iff]; exact ⟨fun h => h.2, fun h => ⟨by omega, h⟩⟩
  generalize (decide (0 < n) && inA n) = t at *
  generalize mdN n (s.V v).sh (s.V v).tok = m at *
  generalize mdE n (s.V v).sh (s.V v).tok = me at *
  generalize inA ((s.V v).sh + m) = ti at *
  generalize hsn : shN (s.V v) n = sN at *
  generalize hse : shE (s.V v) n = sE at *
  generalize hxd : (s.V v).dead = dd at *
  generalize hxs : (s.V v).sh = xs at *
  generalize hxt : (s.V v).tok = xt at *
  have HXS := hide hxs
  have HXT := hide hxt
  clear hsn hse hxd hxs hxt e2 e3
  go_upto_region 22 with (first
    | (go_at_call 100; refine (hM _ (by omega)).mono ?_; rintro e w3 ⟨rfl, h3⟩; have HB3 := hide (HB2.out.trans (h3.mono (by omega))); have S3 := S2.later h3 S2.lt; have R3 := R2.later h3 R2.lt; have V3 := V2.later h3 V2.lt; have hz3 : w.heap.size + 1 < w3.heap.size := R3.lt; have hy3 : w1.heap.size < w3.heap.size := V3.lt; have g1 := V3.cells.2.1; rw [HXS.out] at g1; clear x0 x1 x2 x3 x4 x5 x6; obtain ⟨x0, x1, x2, x3, x4, x5, x6, _, _⟩ := st_cells S3; clear h3 V3)
    | (go_at_call 101; refine (hBond _).mono ?_; rintro e w4 ⟨rfl, h4⟩; (first | (have HB4 := hide (HB3.out.trans (h4.mono (by omega))); have S4 := S3.later h4 S3.lt; have R4 := R3.later h4 R3.lt) | (have HB4 := hide (HB2.out.trans (h4.mono (by omega))); have S4 := S2.later h4 S2.lt; have R4 := R2.later h4 R2.lt)); have hz4 : w.heap.size + 1 < w4.heap.size := R4.lt; have S5 := S4.alloc (.cells #[.int .i64 B.f0, .int .i64 B.f1, .int .i64 B.f2, .int .i64 B.f3, .int .i64 B.bo, .int .i64 B.wa, .int .i64 B.bu] 24); have R5 := R4.alloc (.cells #[.int .i64 B.f0, .int .i64 B.f1, .int .i64 B.f2, .int .i64 B.f3, .int .i64 B.bo, .int .i64 B.wa, .int .i64 B.bu] 24); have HB5 := hide (HB4.out.alloc (by omega) (.cells #[.int .i64 B.f0, .int .i64 B.f1, .int .i64 B.f2, .int .i64 B.f3, .int .i64 B.bo, .int .i64 B.wa, .int .i64 B.bu] 24)); have B5 := BAt.new w4 B.f0 B.f1 B.f2 B.f3 B.bo B.wa B.bu; clear h4 x0 x1 x2 x3 x4 x5 x6 S4 R4)
    | ((fail_if_success (go_not_at_region 6)); apply wp_region_lit; refine wpList_load_mid rfl 32 _ rfl _ 0 rfl _ _ S2.range Tryz.underlying32 rfl (by rw [infoS]; rfl) ?_; refine wpList_store_mid rfl 32 _ _ rfl _ 0 (stC s (.slice ao s.W.length c)) rfl rfl (R2.there 0 _ (by rw [Z63_size, stC_size]; omega)) (by rw [infoS]; rfl) (stC_one _ _ _ _) ?_)
    | ((fail_if_success (go_not_at_region 8)); apply wp_region_lit; refine wpList_load_mid rfl 32 _ rfl _ 0 rfl _ _ S2.range Tryz.underlying32 rfl (by rw [infoS]; rfl) ?_; refine wpList_store_mid rfl 32 _ _ rfl _ 0 (stC s (.slice ao s.W.length c)) rfl rfl (R2.there 0 _ (by rw [Z63_size, stC_size]; omega)) (by rw [infoS]; rfl) (stC_one _ _ _ _) ?_)
    | ((fail_if_success (go_not_at_region 12)); apply wp_region_lit; refine wpList_load_mid rfl 32 _ rfl _ 0 rfl _ _ S2.range Tryz.underlying32 rfl (by rw [infoS]; rfl) ?_; refine wpList_store_mid rfl 32 _ _ rfl _ 0 (stC s (.slice ao s.W.length c)) rfl rfl (R2.there 0 _ (by rw [Z63_size, stC_size]; omega)) (by rw [infoS]; rfl) (stC_one _ _ _ _) ?_)
    | ((fail_if_success (go_not_at_region 16)); apply wp_region_lit; refine wpList_load_mid rfl 32 _ rfl _ 0 rfl _ _ S3.range Tryz.underlying32 rfl (by rw [infoS]; rfl) ?_; refine wpList_store_mid rfl 32 _ _ rfl _ 0 (stC s (.slice ao s.W.length c)) rfl rfl (R3.there 0 _ (by rw [Z63_size, stC_size]; omega)) (by rw [infoS]; rfl) (stC_one _ _ _ _) ?_)
    | ((fail_if_success (go_not_at_region 18)); apply wp_region_lit; refine wpList_load_mid rfl 32 _ rfl _ 0 rfl _ _ S3.range Tryz.underlying32 rfl (by rw [infoS]; rfl) ?_; refine wpList_store_mid rfl 32 _ _ rfl _ 0 (stC s (.slice ao s.W.length c)) rfl rfl (R3.there 0 _ (by rw [Z63_size, stC_size]; omega)) (by rw [infoS]; rfl) (stC_one _ _ _ _) ?_)
    | ((fail_if_success (go_not_at_region 18)); apply wp_region_lit; refine wpList_load_mid rfl 32 _ rfl _ 0 rfl _ _ S2.range Tryz.underlying32 rfl (by rw [infoS]; rfl) ?_; refine wpList_store_mid rfl 32 _ _ rfl _ 0 (stC s (.slice ao s.W.length c)) rfl rfl (R2.there 0 _ (by rw [Z63_size, stC_size]; omega)) (by rw [infoS]; rfl) (stC_one _ _ _ _) ?_)
    | ((fail_if_success (go_not_at_region 21)); apply wp_region_lit; refine wpList_load_mid rfl 32 _ rfl _ 0 rfl _ _ S5.range Tryz.underlying32 rfl (by rw [infoS]; rfl) ?_; refine wpList_mv rfl _ rfl ?_; refine wpList_store_mid rfl 32 _ _ rfl _ 0 (stC s (.slice ao s.W.length c)) rfl rfl (R5.there 0 _ (by rw [Z63_size, stC_size]; omega)) (by rw [infoS]; rfl) (stC_one _ _ _ _) ?_))
  · exact stake_endN Tryz.results41 R2 rfl HB2.out (by omega) s ao c _ r (H1.out ‹dd = true›) (fun h => absurd h (by first | decide | omega | exact HNE.out | (simpa using ‹(er != 0) = true›))) _ rfl rfl rfl
  · have ht : t = false := Bool.eq_false_iff.2 (fun h => by have := HT.out.1 h; omega)
    exact stake_endN Tryz.results41 R2 rfl HB2.out (by omega) s ao c _ r (H2.out ‹dd = false› ht) (fun h => absurd h (by first | decide | omega | exact HNE.out | (simpa using ‹(er != 0) = true›))) _ rfl rfl rfl
  · have ht : t = true := HT.out.2 (by omega)
    have hE : sE = 8 := by have n1 : ¬ xs = 0 := (by simpa using ‹(xs != 0) = true›); rw [HE.out, if_neg n1, if_pos (by simpa using ‹(xt == 0) = true›)]
    exact stake_endN Tryz.results41 R2 rfl HB2.out (by omega) s ao c _ r (by rw [H3.out ‹dd = false› ht (by omega), hE]) (fun h => absurd h (by first | decide | omega | exact HNE.out | (simpa using ‹(er != 0) = true›))) _ rfl rfl rfl
  · have ht : t = true := HT.out.2 (by omega)
    have hE : sE = 6 := by have n1 : ¬ xs = 0 := (by simpa using ‹(xs != 0) = true›); have n2 : ¬ xt = 0 := (by simpa using ‹(xt == 0) = false›); rw [HE.out, if_neg n1, if_neg n2, if_neg (fun h => by have := HI.out.1 h.2; omega)]
    exact stake_endN Tryz.results41 R3 rfl HB3.out (by omega) s ao c _ r (by rw [H3.out ‹dd = false› ht (by omega), hE]) (fun h => absurd h (by first | decide | omega | exact HNE.out | (simpa using ‹(er != 0) = true›))) _ rfl rfl rfl
  · have ht : t = true := HT.out.2 (by omega)
    have hE : sE = 8 := by have n1 : ¬ xs = 0 := (by simpa using ‹(xs != 0) = true›); have n2 : ¬ xt = 0 := (by simpa using ‹(xt == 0) = false›); rw [HE.out, if_neg n1, if_neg n2, if_pos ⟨by omega, HI.out.2 (by omega)⟩, if_pos (by omega)]
    exact stake_endN Tryz.results41 R3 rfl HB3.out (by omega) s ao c _ r (by rw [H3.out ‹dd = false› ht (by omega), hE]) (fun h => absurd h (by first | decide | omega | exact HNE.out | (simpa using ‹(er != 0) = true›))) _ rfl rfl rfl
  · have ht : t = true := HT.out.2 (by omega)
    have hE : sE = 0 := by have n1 : ¬ xs = 0 := (by simpa using ‹(xs != 0) = true›); have n2 : ¬ xt = 0 := (by simpa using ‹(xt == 0) = false›); rw [HE.out, if_neg n1, if_neg n2, if_pos ⟨by omega, HI.out.2 (by omega)⟩, if_neg (by omega)]
    exact stake_endN Tryz.results41 R5 rfl HB5.out (by omega) s ao c _ r (H4.out ‹dd = false› ht hE (by simpa using ‹(er != 0) = true›)) (fun h => absurd h (by first | decide | omega | exact HNE.out | (simpa using ‹(er != 0) = true›))) _ rfl rfl rfl
  · have ht : t = true := HT.out.2 (by omega)
    have hE : sE = 0 := by have n1 : ¬ xs = 0 := (by simpa using ‹(xs != 0) = true›); have n2 : ¬ xt = 0 := (by simpa using ‹(xt == 0) = false›); rw [HE.out, if_neg n1, if_neg n2, if_pos ⟨by omega, HI.out.2 (by omega)⟩, if_neg (by omega)]
    have hN : sN = m := by have n1 : ¬ xs = 0 := (by simpa using ‹(xs != 0) = true›); have n2 : ¬ xt = 0 := (by simpa using ‹(xt == 0) = false›); rw [HN.out, if_neg n1, if_neg n2, if_pos ⟨by omega, HI.out.2 (by omega)⟩]
    have hr := H5.out ‹dd = false› ht hE (by simpa using ‹(er != 0) = false›)
    rw [hN] at hr
    have HR := hide hr
    clear hr
    have k4 := psh_at hps hd
    rw [inA_iff] at k4
    have k1' := k1
    have k2' := k2
    rw [← HXT.out] at k1'
    rw [← HXS.out] at k2'
    clear H1 H2 H3 H4 H5 hM HN HE HT HI hBond
    apply wp_region_lit
    refine wpList_load_mid rfl 32 _ rfl _ 0 rfl _ _ S5.range Tryz.underlying32 rfl (by rw [infoS]; rfl) ?_
    go_step
    go_step
    refine (copy_st3 s ao sb so c _ (by exact HW.out.over HB5.out)).mono ?_
    rintro e w6 ⟨A, C, rfl, hOw, h6⟩
    dsimp only
    have R6 := R5.later h6 R5.lt
    have B6 := B5.later h6 B5.lt
    have HB6 := hide (HB5.out.trans (h6.mono HB5.out.size))
    have hz6 : w.heap.size + 1 < w6.heap.size := R6.lt
    have hq6 : w4.heap.size < w6.heap.size := B6.lt
    have hW6 := fun k hk => World.ownsRow.lt hOw k hk
    go_step
    go_step
    go_step
    go_step
    refine wpList_store_mid rfl 32 _ _ rfl _ 0 (stC s (.slice A s.W.length C)) rfl rfl ((SAt.new w6 Z63).there 0 _ (by rw [Z63_size, stC_size]; omega)) (by rw [infoS]; rfl) (stC_one _ _ _ _) ?_
    change wpList Tryz.prog _ _ _ _ ((w6.alloc (.cells Z63 32)).setCells w6.heap.size 0 (stC s (.slice A s.W.length C)).toList)
    have S7 := (SAt.new w6 Z63).setAll (ds := stC s (.slice A s.W.length C)) rfl
    have R7 : SAt ((w6.alloc (.cells Z63 32)).setCells w6.heap.size 0 (stC s (.slice A s.W.length C)).toList) (w.heap.size + 1) Z63 := (heap_sets (by omega) _ _ _).trans (R6.alloc _)
    have B7 : BAt ((w6.alloc (.cells Z63 32)).setCells w6.heap.size 0 (stC s (.slice A s.W.length C)).toList) w4.heap.size B.f0 B.f1 B.f2 B.f3 B.bo B.wa B.bu := (heap_sets (by omega) _ _ _).trans (B6.alloc _)
    have HB7 := hide (below_sets (b := w6.heap.size) (by omega) (stC s (.slice A s.W.length C)).toList 0 _ (HB6.out.alloc (by omega) (.cells Z63 32)))
    have W7 : OwnW _ ((w6.alloc (.cells Z63 32)).setCells w6.heap.size 0 (stC s (.slice A s.W.length C)).toList) A C s.W := own_of hOw fun k hk => (heap_sets (by have := (hW6 k hk).2; omega) _ _ _).trans (Below.heap_alloc _ _ _ (hW6 k hk).2)
    generalize (w6.alloc (.cells Z63 32)).setCells w6.heap.size 0 (stC s (.slice A s.W.length C)).toList = w7 at *
    clear S5 R5 B5 R6 B6 HB5 HB6 h6
    obtain ⟨x0, x1, x2, x3, x4, x5, x6, _, _⟩ := st_cells S7
    obtain ⟨y0, y1, y2, y3, y4, y5, y6⟩ := B7.cells
    have f0 := S7.free 0
    have f1 := S7.free 1
    have f2 := S7.free 2
    have f3 := S7.free 3
    have f4 := S7.free 4
    have f5 := S7.free 5
    have f6 := S7.free 6
    have hne : w4.heap.size ≠ w6.heap.size := by omega
    go_upto_region 24 with fail
    change Code.wp Tryz.prog _ _ _ (bset w7 w6.heap.size B)
    have S8 := set_bank S7 B
    have R8 := R7.bset (b := w6.heap.size) (by omega) B
    have HB8 := hide (bset_below (b := w6.heap.size) HB7.out (by omega) B)
    have W8 := own_of W7 fun k hk => bset_heap w7 B (show k ≠ w6.heap.size by have := (hW6 k hk).2; omega)
    generalize bset w7 w6.heap.size B = w8 at *
    clear x0 x1 x2 x3 x4 x5 x6 y0 y1 y2 y3 y4 y5 y6 f0 f1 f2 f3 f4 f5 f6 S7 R7 B7 HB7 W7
    have HBut0 := hide (But.refl w6.heap.size w8)
    obtain ⟨c0, c1, _, _, _⟩ := S8.val v hv
    have f0 := S8.free (7 + v * 5)
    have HXT2 : Hid (xt = (s.V v).tok) := HXT.out.symm
    simp only at c0 c1
    go_upto_region 25 with fail
    have S9 := S8.set (7 + v * 5) (.int .i64 ((s.V v).tok + n))
    rw [set_tok _ _ v hv] at S9
    have HBut1 := hide (HBut0.out.set (7 + v * 5) (.int .i64 ((s.V v).tok + n)))
    generalize w8.setCell ⟨w6.heap.size, 7 + v * 5, none⟩ (.int .i64 ((s.V v).tok + n)) = w9 at *
    clear c0 c1 f0
    obtain ⟨_, c1, _, _, _⟩ := S9.val v hv
    simp only [setV_at] at c1
    have f0 := S9.free (7 + v * 5 + 1)
    go_upto_region 26 with fail
    have S10 := S9.set (7 + v * 5 + 1) (.int .i64 ((s.V v).sh + m))
    rw [set_sh _ _ v hv] at S10
    have HBut2 := hide (HBut1.out.set (7 + v * 5 + 1) (.int .i64 ((s.V v).sh + m)))
    generalize w9.setCell ⟨w6.heap.size, 7 + v * 5 + 1, none⟩ (.int .i64 ((s.V v).sh + m)) = w10 at *
    clear c1 f0 S9 HBut1
    have c0 := S10.shr d v hd hv
    have f0 := S10.free (37 + d * 6 + v)
    have S11 := S10.set (37 + d * 6 + v) (.int .i64 (s.S d v + m))
    rw [set_shr _ _ d v hd hv] at S11
    have HS11 : Hid (SAt (w10.setCell ⟨w6.heap.size, 37 + d * 6 + v, none⟩ (.int .i64 (s.S d v + m))) w6.heap.size (stC (addS { s with b := B } d v n m) (.slice A s.W.length C))) := by rw [add_eq]; exact S11
    have HBut3 := hide (HBut2.out.set (37 + d * 6 + v) (.int .i64 (s.S d v + m)))
    clear S10 S11 HBut2
    simp only at c0
    go_region
    have S12 : SAt (w10.setCell ⟨w6.heap.size, 37 + d * 6 + v, none⟩ (.int .i64 (s.S d v + m))).drew w6.heap.size (stC (addS { s with b := B } d v n m) (.slice A s.W.length C)) := HS11.out
    have hBut := HBut3.out.drew
    have R12 := hBut.stake (by omega) R8
    have W12 := own_of W8 fun k hk => hBut.block k (show k ≠ w6.heap.size by have := (hW6 k hk).2; omega)
    have HB12 := hide (HB8.out.trans (hBut.below (by omega)))
    generalize (w10.setCell ⟨w6.heap.size, 37 + d * 6 + v, none⟩ (.int .i64 (s.S d v + m))).drew = w12 at *
    clear c0 f0
    go_upto_region 27 with fail
    apply wp_region_lit
    refine wpList_load_mid rfl 32 _ rfl _ 0 rfl _ _ S12.range Tryz.underlying32 rfl (by rw [infoS]; rfl) ?_
    refine wpList_store_mid rfl 32 _ _ rfl _ 0 (stC (addS { s with b := B } d v n m) (.slice A s.W.length C)) rfl rfl (R12.there 0 _ (by rw [Z63_size, stC_size]; omega)) (by rw [infoS]; rfl) (stC_one _ _ _ _) ?_
    go_wp2
    exact stake_endN Tryz.results41 R12 rfl HB12.out (by omega) (addS { s with b := B } d v n m) A C _ r HR.out (fun _ => ⟨Ln.own_base W12 (by simp; omega), fun k hk => by have := (hW6 k hk).1; simp at this; omega⟩) _ rfl rfl rfl
  · have ht : t = true := HT.out.2 (by omega)
    have hE : sE = 6 := by have n1 : ¬ xs = 0 := (by simpa using ‹(xs != 0) = true›); have n2 : ¬ xt = 0 := (by simpa using ‹(xt == 0) = false›); rw [HE.out, if_neg n1, if_neg n2, if_neg (fun h => absurd h.1 ‹¬ me = 0›)]
    exact stake_endN Tryz.results41 R3 rfl HB3.out (by omega) s ao c _ r (by rw [H3.out ‹dd = false› ht (by omega), hE]) (fun h => absurd h (by first | decide | omega | exact HNE.out | (simpa using ‹(er != 0) = true›))) _ rfl rfl rfl
  · have ht : t = true := HT.out.2 (by omega)
    have hE : sE = 0 := by rw [HE.out, if_pos (by simpa using ‹(xs != 0) = false›)]
    exact stake_endN Tryz.results41 R5 rfl HB5.out (by omega) s ao c _ r (H4.out ‹dd = false› ht hE (by simpa using ‹(er != 0) = true›)) (fun h => absurd h (by first | decide | omega | exact HNE.out | (simpa using ‹(er != 0) = true›))) _ rfl rfl rfl
  · have ht : t = true := HT.out.2 (by omega)
    have hE : sE = 0 := by rw [HE.out, if_pos (by simpa using ‹(xs != 0) = false›)]
    have hN : sN = n := by rw [HN.out, if_pos (by simpa using ‹(xs != 0) = false›)]
    have hr := H5.out ‹dd = false› ht hE (by simpa using ‹(er != 0) = false›)
    rw [hN] at hr
    have HR := hide hr
    clear hr
    have k4 := psh_at hps hd
    rw [inA_iff] at k4
    have k1' := k1
    have k2' := k2
    rw [← HXT.out] at k1'
    rw [← HXS.out] at k2'
    clear H1 H2 H3 H4 H5 hM HN HE HT HI hBond
    apply wp_region_lit
    refine wpList_load_mid rfl 32 _ rfl _ 0 rfl _ _ S5.range Tryz.underlying32 rfl (by rw [infoS]; rfl) ?_
    go_step
    go_step
    refine (copy_st3 s ao sb so c _ (by exact HW.out.over HB5.out)).mono ?_
    rintro e w6 ⟨A, C, rfl, hOw, h6⟩
    dsimp only
    have R6 := R5.later h6 R5.lt
    have B6 := B5.later h6 B5.lt
    have HB6 := hide (HB5.out.trans (h6.mono HB5.out.size))
    have hz6 : w.heap.size + 1 < w6.heap.size := R6.lt
    have hq6 : w4.heap.size < w6.heap.size := B6.lt
    have hW6 := fun k hk => World.ownsRow.lt hOw k hk
    go_step
    go_step
    go_step
    go_step
    refine wpList_store_mid rfl 32 _ _ rfl _ 0 (stC s (.slice A s.W.length C)) rfl rfl ((SAt.new w6 Z63).there 0 _ (by rw [Z63_size, stC_size]; omega)) (by rw [infoS]; rfl) (stC_one _ _ _ _) ?_
    change wpList Tryz.prog _ _ _ _ ((w6.alloc (.cells Z63 32)).setCells w6.heap.size 0 (stC s (.slice A s.W.length C)).toList)
    have S7 := (SAt.new w6 Z63).setAll (ds := stC s (.slice A s.W.length C)) rfl
    have R7 : SAt ((w6.alloc (.cells Z63 32)).setCells w6.heap.size 0 (stC s (.slice A s.W.length C)).toList) (w.heap.size + 1) Z63 := (heap_sets (by omega) _ _ _).trans (R6.alloc _)
    have B7 : BAt ((w6.alloc (.cells Z63 32)).setCells w6.heap.size 0 (stC s (.slice A s.W.length C)).toList) w4.heap.size B.f0 B.f1 B.f2 B.f3 B.bo B.wa B.bu := (heap_sets (by omega) _ _ _).trans (B6.alloc _)
    have HB7 := hide (below_sets (b := w6.heap.size) (by omega) (stC s (.slice A s.W.length C)).toList 0 _ (HB6.out.alloc (by omega) (.cells Z63 32)))
    have W7 : OwnW _ ((w6.alloc (.cells Z63 32)).setCells w6.heap.size 0 (stC s (.slice A s.W.length C)).toList) A C s.W := own_of hOw fun k hk => (heap_sets (by have := (hW6 k hk).2; omega) _ _ _).trans (Below.heap_alloc _ _ _ (hW6 k hk).2)
    generalize (w6.alloc (.cells Z63 32)).setCells w6.heap.size 0 (stC s (.slice A s.W.length C)).toList = w7 at *
    clear S5 R5 B5 R6 B6 HB5 HB6 h6
    obtain ⟨x0, x1, x2, x3, x4, x5, x6, _, _⟩ := st_cells S7
    obtain ⟨y0, y1, y2, y3, y4, y5, y6⟩ := B7.cells
    have f0 := S7.free 0
    have f1 := S7.free 1
    have f2 := S7.free 2
    have f3 := S7.free 3
    have f4 := S7.free 4
    have f5 := S7.free 5
    have f6 := S7.free 6
    have hne : w4.heap.size ≠ w6.heap.size := by omega
    go_upto_region 24 with fail
    change Code.wp Tryz.prog _ _ _ (bset w7 w6.heap.size B)
    have S8 := set_bank S7 B
    have R8 := R7.bset (b := w6.heap.size) (by omega) B
    have HB8 := hide (bset_below (b := w6.heap.size) HB7.out (by omega) B)
    have W8 := own_of W7 fun k hk => bset_heap w7 B (show k ≠ w6.heap.size by have := (hW6 k hk).2; omega)
    generalize bset w7 w6.heap.size B = w8 at *
    clear x0 x1 x2 x3 x4 x5 x6 y0 y1 y2 y3 y4 y5 y6 f0 f1 f2 f3 f4 f5 f6 S7 R7 B7 HB7 W7
    have HBut0 := hide (But.refl w6.heap.size w8)
    obtain ⟨c0, c1, _, _, _⟩ := S8.val v hv
    have f0 := S8.free (7 + v * 5)
    have HXT2 : Hid (xt = (s.V v).tok) := HXT.out.symm
    simp only at c0 c1
    go_upto_region 25 with fail
    have S9 := S8.set (7 + v * 5) (.int .i64 ((s.V v).tok + n))
    rw [set_tok _ _ v hv] at S9
    have HBut1 := hide (HBut0.out.set (7 + v * 5) (.int .i64 ((s.V v).tok + n)))
    generalize w8.setCell ⟨w6.heap.size, 7 + v * 5, none⟩ (.int .i64 ((s.V v).tok + n)) = w9 at *
    clear c0 c1 f0
    obtain ⟨_, c1, _, _, _⟩ := S9.val v hv
    simp only [setV_at] at c1
    have f0 := S9.free (7 + v * 5 + 1)
    go_upto_region 26 with fail
    have S10 := S9.set (7 + v * 5 + 1) (.int .i64 ((s.V v).sh + n))
    rw [set_sh _ _ v hv] at S10
    have HBut2 := hide (HBut1.out.set (7 + v * 5 + 1) (.int .i64 ((s.V v).sh + n)))
    generalize w9.setCell ⟨w6.heap.size, 7 + v * 5 + 1, none⟩ (.int .i64 ((s.V v).sh + n)) = w10 at *
    clear c1 f0 S9 HBut1
    have c0 := S10.shr d v hd hv
    have f0 := S10.free (37 + d * 6 + v)
    have S11 := S10.set (37 + d * 6 + v) (.int .i64 (s.S d v + n))
    rw [set_shr _ _ d v hd hv] at S11
    have HS11 : Hid (SAt (w10.setCell ⟨w6.heap.size, 37 + d * 6 + v, none⟩ (.int .i64 (s.S d v + n))) w6.heap.size (stC (addS { s with b := B } d v n n) (.slice A s.W.length C))) := by rw [add_eq]; exact S11
    have HBut3 := hide (HBut2.out.set (37 + d * 6 + v) (.int .i64 (s.S d v + n)))
    clear S10 S11 HBut2
    simp only at c0
    go_region
    have S12 : SAt (w10.setCell ⟨w6.heap.size, 37 + d * 6 + v, none⟩ (.int .i64 (s.S d v + n))).drew w6.heap.size (stC (addS { s with b := B } d v n n) (.slice A s.W.length C)) := HS11.out
    have hBut := HBut3.out.drew
    have R12 := hBut.stake (by omega) R8
    have W12 := own_of W8 fun k hk => hBut.block k (show k ≠ w6.heap.size by have := (hW6 k hk).2; omega)
    have HB12 := hide (HB8.out.trans (hBut.below (by omega)))
    generalize (w10.setCell ⟨w6.heap.size, 37 + d * 6 + v, none⟩ (.int .i64 (s.S d v + n))).drew = w12 at *
    clear c0 f0
    go_upto_region 27 with fail
    apply wp_region_lit
    refine wpList_load_mid rfl 32 _ rfl _ 0 rfl _ _ S12.range Tryz.underlying32 rfl (by rw [infoS]; rfl) ?_
    refine wpList_store_mid rfl 32 _ _ rfl _ 0 (stC (addS { s with b := B } d v n n) (.slice A s.W.length C)) rfl rfl (R12.there 0 _ (by rw [Z63_size, stC_size]; omega)) (by rw [infoS]; rfl) (stC_one _ _ _ _) ?_
    go_wp2
    exact stake_endN Tryz.results41 R12 rfl HB12.out (by omega) (addS { s with b := B } d v n n) A C _ r HR.out (fun _ => ⟨Ln.own_base W12 (by simp; omega), fun k hk => by have := (hW6 k hk).1; simp at this; omega⟩) _ rfl rfl rfl
  · have ht : t = false := Bool.eq_false_iff.2 (fun h => by have := HT.out.1 h; omega)
    exact stake_endN Tryz.results41 R2 rfl HB2.out (by omega) s ao c _ r (H2.out ‹dd = false› ht) (fun h => absurd h (by first | decide | omega | exact HNE.out | (simpa using ‹(er != 0) = true›))) _ rfl rfl rfl
theorem rdeleg_own (s : St) (ao : Option Addr) (sb so c : Nat) (d v n : Int) (w : World) (hW : WsAt w ao sb so s.W) :
    Calls Tryz.prog 41 #[.agg (stC s (.slice ao s.W.length c)), .int .i64 d, .int .i64 v, .int .i64 n] w fun e w' => AnswersN w.heap.size w (delegS s d v n) e w' := by
  by_cases h : refOfE s d v = 0
  · obtain ⟨hg, ⟨v0, v1⟩, d0, d1⟩ := ref_zero h
    obtain ⟨v, rfl⟩ := Int.eq_ofNat_of_zero_le v0
    obtain ⟨d, rfl⟩ := Int.eq_ofNat_of_zero_le d0
    exact rdeleg_yes2 s ao sb so c d v n w hW _ hg (by omega) (by omega) _ _ (rbond_any s.b d n) (deleg_dead h) (deleg_range h) (deleg_shE h) (deleg_bond h) (deleg_ok h)
  · exact rdeleg_no2 s ao sb so c d v n w hW _ h (deleg_ref h)
end Go.Proofs.YtkhlihpghbhppaaGreat

set_option maxRecDepth 100000
namespace Go.Proofs.YtkhlihpghbhppaaGreat.Pv
open Go.RowKit
/-- a provider's cells, parted around a link that may be another one -/
theorem pr_split2 (p : Pr) (v : PrV) (k : Nat) (hk : k < 2) : ∃ a c : List Value, a.length = 66 + k * 14 ∧ prC p v = (a ++ (lkL (p.L k) (v.l k) ++ c)).toArray ∧ ∀ x u, prC { p with L := updL p.L k x } (v.upd k u) = (a ++ (lkL x u ++ c)).toArray := by
  have h0 : ([.int .i64 p.h, .int .i64 p.t] ++ ((stC p.s v.ws).toList ++ [v.set]) : List Value).length = 66 := by simp [stC_size]
  match k, hk with
  | 0, _ =>
    refine ⟨[.int .i64 p.h, .int .i64 p.t] ++ ((stC p.s v.ws).toList ++ [v.set]), lkL (p.L 1) (v.l 1) ++ [.int .i64 p.ml, .int .i64 p.mn, v.q], h0, ?_, fun x u => ?_⟩
    · simp [prC]
    · simp [prC, PrV.upd, updL]
  | 1, _ =>
    refine ⟨[.int .i64 p.h, .int .i64 p.t] ++ ((stC p.s v.ws).toList ++ [v.set]) ++ lkL (p.L 0) (v.l 0), [.int .i64 p.ml, .int .i64 p.mn, v.q], ?_, ?_, fun x u => ?_⟩
    · rw [List.length_append, h0]; rfl
    · simp [prC]
    · simp [prC, PrV.upd, updL]
theorem upd_same (v : PrV) (k : Nat) : v.upd k (v.l k) = v := by
  unfold PrV.upd
  have : (fun i => if i = k then v.l k else v.l i) = v.l := by funext i; by_cases h : i = k <;> simp [h]
  rw [this]
/-- one cell of a link is set -/
theorem pr_setLk {p : Pr} {v : PrV} (k : Nat) (hk : k < 2) (j : Nat) (y : Value) (x : Lk) (u : LkV) (hj : j < 14) (h : lkL x u = (lkL (p.L k) (v.l k)).set j y) : (prC p v).setIfInBounds (66 + k * 14 + j) y = prC { p with L := updL p.L k x } (v.upd k u) := by
  obtain ⟨a, c, ha, h1, h2⟩ := pr_split2 p v k hk
  rw [h1, h2, set_mid _ _ _ _ _ _ ha (by exact hj), h]
/-- the first links are fresh -/
def frL (L : Nat → Lk) (k : Nat) : Nat → Lk := fun c => if c < k then freshL L c else L c
theorem frL_off {L : Nat → Lk} {k : Nat} (h : (L k).on = false) : frL L (k + 1) = frL L k := by
  funext c
  unfold frL freshL
  by_cases h1 : c < k
  · rw [if_pos h1, if_pos (by omega)]
  · by_cases h2 : c = k
    · subst h2
      rw [if_neg h1, if_pos (by omega), if_neg (by simp [h])]
    · rw [if_neg h1, if_neg (by omega)]
theorem frL_on {L : Nat → Lk} {k : Nat} (h : (L k).on = true) : updL (frL L k) k { L k with fresh := true } = frL L (k + 1) := by
  funext c
  show (if c = k then _ else (if c < k then freshL L c else L c)) = (if c < k + 1 then freshL L c else L c)
  by_cases h2 : c = k
  · subst h2
    rw [if_pos rfl, if_pos (by omega)]
    show _ = (if (L c).on = true then _ else _)
    rw [if_pos h]
  · rw [if_neg h2]
    by_cases h1 : c < k
    · rw [if_pos h1, if_pos (by omega)]
    · rw [if_neg h1, if_neg (by omega)]
theorem frL_at {L : Nat → Lk} {k : Nat} : frL L k k = L k := if_neg (Nat.lt_irrefl k)
theorem prC_frL (p : Pr) (s : St) (v : PrV) : prC { p with s := s, L := frL p.L 2 } v = prC { p with s := s, L := freshL p.L } v := rfl
def hk0 (p : Pr) (k : Nat) : Int := if 0 < k then holdOf p 0 else 0
def hk1 (p : Pr) (k : Nat) : Int := if 1 < k then holdOf p 1 else 0
def YC (w : World) (y : Nat) (h d a b : Int) : Prop := CAt 98 w y #[.int .i64 0, .int .i64 0, .int .i64 0, .int .i64 0, .int .i64 h, .int .i64 d, .int .i64 a, .int .i64 b]
theorem YC.hold {w : World} {y k : Nat} {a b : Int} {p : Pr} (h : YC w y a b (hk0 p k) (hk1 p k)) (hk : k < 2) (hon : (p.L k).on = true) : YC (w.setCell ⟨y, 6 + k, none⟩ (.int .i64 (p.h + 1))) y a b (hk0 p (k + 1)) (hk1 p (k + 1)) := by
  have := CAt.set h (6 + k) (.int .i64 (p.h + 1))
  match k, hk with
  | 0, _ => simpa [YC, hk0, hk1, holdOf, hon] using this
  | 1, _ => simpa [YC, hk0, hk1, holdOf, hon] using this
theorem YC.skip {w : World} {y k : Nat} {a b : Int} {p : Pr} (h : YC w y a b (hk0 p k) (hk1 p k)) (hk : k < 2) (hoff : (p.L k).on = false) : YC w y a b (hk0 p (k + 1)) (hk1 p (k + 1)) := by
  match k, hk with
  | 0, _ => simpa [YC, hk0, hk1, holdOf, hoff] using h
  | 1, _ => simpa [YC, hk0, hk1, holdOf, hoff] using h
theorem YC.at {w : World} {y k : Nat} {a b c d : Int} (h : YC w y a b c d) (hk : k < 2) : ∃ e : Int, w.cell? ⟨y, 6 + k, none⟩ = some (.int .i64 e) := by
  match k, hk with
  | 0, _ => exact ⟨c, CAt.cell h 6⟩
  | 1, _ => exact ⟨d, CAt.cell h 7⟩
attribute [local go_sem ↓] loadS_eq loadP_eq storeP_eq storeS_eq
set_option maxHeartbeats 8000000 in
theorem pundel_any (p : Pr) (v : PrV) (P : Nat → Prop) (w : World) (d x n now : Int) (hp : PIn P w p v) :
    Calls Tryz.prog 15 #[.agg (prC p v), .int .i64 d, .int .i64 x, .int .i64 n, .int .i64 now] w (AnsP P w (undelP p d x n now)) := by
  have hD : undelP p d x n now = if goodP p = true ∧ isT now = true then if (undelS p.s d x n (newWt p now)).2 = 0 then ({ p with s := (undelS p.s d x n (newWt p now)).1, L := freshL p.L }, 0) else (p, (undelS p.s d x n (newWt p now)).2) else (p, 2) := rfl
  generalize undelP p d x n now = D at *
  have HD := hide hD
  clear hD
  have hone := pr_one hp
  have HGD := hide (fun (wx : World) (hb : Below w.heap.size w wx) => pgood_any p v P wx (hp.over hb))
  have HN := hide (fun (wx : World) (hb : Below w.heap.size w wx) => hp.ofNew hb 2)
  have HU := hide (fun (wx : World) (hb : Below w.heap.size w wx) => st_undel ((hp.ws.mono (P' := fun b => P b ∧ b < w.heap.size) fun _ hl hP => ⟨hP, hl⟩).over hb) d x n (newWt p now))
  have HP := hide hp
  clear hp
  have HGH : Hid (goodP p = true → 0 ≤ p.h ∧ p.h ≤ 1099511627775) := fun h => by
    unfold goodP at h
    simp only [Bool.and_eq_true, decide_eq_true_eq] at h
    exact ⟨h.1.1.1.1.1.1.2, h.1.1.1.1.1.2⟩
  have HTI : Hid (isT now = true → 0 ≤ now ∧ now ≤ 1099511627776) := fun h => by
    unfold isT at h
    simp only [Bool.and_eq_true, decide_eq_true_eq] at h
    exact h
  generalize goodP p = G at *
  go_enter Tryz.func15, Tryz.ntmps15
  go_upto_region 1 with fail
  change Code.wp Tryz.prog _ _ _ ((w.alloc (.cells (prC p v) 47)).alloc (.cells Tryz.zeroCells47 47))
  have C0 : CAt 47 ((w.alloc (.cells (prC p v) 47)).alloc (.cells Tryz.zeroCells47 47)) w.heap.size (prC p v) := (CAt.new _ w _).alloc _
  have R0 : CAt 47 ((w.alloc (.cells (prC p v) 47)).alloc (.cells Tryz.zeroCells47 47)) (w.heap.size + 1) Tryz.zeroCells47 := CAt.new2 _ w _ _
  have B0 : Below w.heap.size w ((w.alloc (.cells (prC p v) 47)).alloc (.cells Tryz.zeroCells47 47)) := ((Below.refl _ w).alloc (Nat.le_refl _) _).alloc (by simp) _
  generalize (w.alloc (.cells (prC p v) 47)).alloc (.cells Tryz.zeroCells47 47) = w0 at *
  have l0 := pr_loadP C0 (prC_size _ _)
  have H0 := hide (show _ ∧ _ ∧ _ from ⟨C0, R0, B0⟩)
  clear C0 R0 B0
  by_cases hok : G = true ∧ isT now = true
  · obtain ⟨rfl, hti⟩ := hok
    replace HD := hide (HD.out.trans (if_pos ⟨rfl, hti⟩))
    obtain ⟨hh0, hh1⟩ := HGH.out rfl
    obtain ⟨ht0, ht1⟩ := HTI.out hti
    have hh2 : p.h ≤ 1099511627776 := by omega
    clear HGH HTI
    go_upto_region 3 with (first
      | (go_at_call 13; refine (HGD.out _ H0.out.2.2).mono ?_; rintro e w1 ⟨rfl, hb1⟩; clear l0)
      | (go_at_call 47; refine (ptime_any _ _).mono ?_; rintro e w' ⟨rfl, rfl⟩))
    have C1 := H0.out.1.over hb1
    have R1 := H0.out.2.1.over hb1
    have B1 := H0.out.2.2.trans (hb1.mono H0.out.2.2.size)
    have HOP := hide (popen_any w.heap.size p v w1 C1 hh0 hh2)
    have H1 := hide (show _ ∧ _ ∧ _ from ⟨C1, R1, B1⟩)
    have hz1 := R1.lt
    clear C1 R1 B1 hb1 H0 HGD
    go_upto_region 4 with (go_at_call 56; refine HOP.out.mono ?_; rintro e w' ⟨rfl, rfl⟩)
    have Y2 : YC (w1.alloc (.cells #[.int .i64 0, .int .i64 0, .int .i64 0, .int .i64 0, .int .i64 (p.h + 1), .int .i64 (now + 20), .int .i64 0, .int .i64 0] 98)) w1.heap.size (p.h + 1) (now + 20) 0 0 := CAt.new _ w1 _
    have b2 : Below w1.heap.size w1 (w1.alloc (.cells #[.int .i64 0, .int .i64 0, .int .i64 0, .int .i64 0, .int .i64 (p.h + 1), .int .i64 (now + 20), .int .i64 0, .int .i64 0] 98)) := (Below.refl _ w1).alloc (Nat.le_refl _) _
    have C2 := H1.out.1.over b2
    have R2 := H1.out.2.1.over b2
    have B2 := H1.out.2.2.trans (b2.mono H1.out.2.2.size)
    clear b2 H1 HOP
    generalize w1.alloc (.cells #[.int .i64 0, .int .i64 0, .int .i64 0, .int .i64 0, .int .i64 (p.h + 1), .int .i64 (now + 20), .int .i64 0, .int .i64 0] 98) = w2 at *
    generalize w1.heap.size = yb at *
    have hz2 := CAt.lt Y2
    have H2 := hide (show _ ∧ _ ∧ _ ∧ _ from ⟨Y2, C2, R2, B2⟩)
    clear Y2 C2 R2 B2
    go_upto_region 5 with fail
    go_loopw [31] (fun i wl => ∃ (k : Nat), k ≤ 2 ∧ i = .int .i64 (k : Int) ∧ Hid (YC wl yb (p.h + 1) (now + 20) (hk0 p k) (hk1 p k) ∧ Alt yb w2 wl)) (fun i _ => (2 - intOf i).toNat)
    case atStart => exact ⟨0, by omega, rfl, H2.out.1, Alt.refl _ _⟩
    case round =>
      obtain ⟨k, hk, rfl, HR⟩ := hrel
      by_cases hk2 : k < 2
      · have hkk : (k : Int) < 2 := by omega
        have hkz : (0 : Int) ≤ (k : Int) := by omega
        have o1 : wr.cell? ⟨w.heap.size, 66 + k * 14, none⟩ = some (.bool (p.L k).on) := (CAt.lk (HR.out.2.cat (by omega) H2.out.2.1) hk2).facts.1
        obtain ⟨e6, c6⟩ := HR.out.1.at hk2
        have f6 := CAt.free HR.out.1 (6 + k)
        have c4 : wr.cell? ⟨yb, 4, none⟩ = some (.int .i64 (p.h + 1)) := CAt.cell HR.out.1 4
        have hzr := CAt.lt HR.out.1
        cases hon : (p.L k).on
        · rw [hon] at o1
          have HF := hide (show _ ∧ _ from ⟨HR.out.1.skip hk2 hon, HR.out.2⟩)
          clear HR
          go_wp2
          first | exact ⟨⟨k + 1, by omega, by go_num, HF⟩, by simp [intOf]; omega⟩ | ((repeat apply Exists.intro); exact ⟨⟨k + 1, by omega, by go_num, HF⟩, rfl⟩)
        · rw [hon] at o1
          have HF := hide (show _ ∧ _ from ⟨HR.out.1.hold hk2 hon, HR.out.2.set (6 + k) (.int .i64 (p.h + 1))⟩)
          clear HR
          go_upto_region 9 with fail
          generalize wr.setCell ⟨yb, 6 + k, none⟩ (.int .i64 (p.h + 1)) = w3 at *
          clear o1 c6 f6 c4
          go_wp2
          first | exact ⟨⟨k + 1, by omega, by go_num, HF⟩, by simp [intOf]; omega⟩ | ((repeat apply Exists.intro); exact ⟨⟨k + 1, by omega, by go_num, HF⟩, rfl⟩)
      · obtain rfl : k = 2 := by omega
        have Y4 : YC wr yb (p.h + 1) (now + 20) (holdOf p 0) (holdOf p 1) := HR.out.1
        have A4 := HR.out.2
        have C4 := A4.cat (b := w.heap.size) (by omega) H2.out.2.1
        have R4 := A4.cat (b := w.heap.size + 1) (by omega) H2.out.2.2.1
        have B4 := H2.out.2.2.2.trans (A4.below (by omega) H2.out.2.2.2.size)
        have m4 := pr_loadS C4
        have y0 : wr.cell? ⟨yb, 0, none⟩ = some (.int .i64 0) := CAt.cell Y4 0
        have y1 : wr.cell? ⟨yb, 1, none⟩ = some (.int .i64 0) := CAt.cell Y4 1
        have y2 : wr.cell? ⟨yb, 2, none⟩ = some (.int .i64 0) := CAt.cell Y4 2
        have y3 : wr.cell? ⟨yb, 3, none⟩ = some (.int .i64 0) := CAt.cell Y4 3
        have y4 : wr.cell? ⟨yb, 4, none⟩ = some (.int .i64 (p.h + 1)) := CAt.cell Y4 4
        have y5 : wr.cell? ⟨yb, 5, none⟩ = some (.int .i64 (now + 20)) := CAt.cell Y4 5
        have y6 : wr.cell? ⟨yb, 6, none⟩ = some (.int .i64 (holdOf p 0)) := CAt.cell Y4 6
        have y7 : wr.cell? ⟨yb, 7, none⟩ = some (.int .i64 (holdOf p 1)) := CAt.cell Y4 7
        have hz4 := CAt.lt Y4
        have hu := HU.out wr B4
        have HUN := hide hu
        have H4 := hide (show _ ∧ _ ∧ _ from ⟨C4, R4, B4⟩)
        clear Y4 A4 C4 R4 B4 HR H2 hu HU
        have HNW : Hid (newWt p now = ⟨0, 0, 0, 0, p.h + 1, now + 20, holdOf p 0, holdOf p 1⟩) := rfl
        rw [HNW.out] at HUN HD
        dsimp only at HUN
        generalize holdOf p 0 = ho0 at *
        generalize holdOf p 1 = ho1 at *
        generalize undelS p.s d x n ⟨0, 0, 0, 0, p.h + 1, now + 20, ho0, ho1⟩ = r at *
        obtain ⟨s', er⟩ := r
        dsimp only at HUN HD
        clear HNW
        go_upto_region 11 with (go_at_call 57; refine HUN.out.mono ?_; rintro e w5 ⟨A5, m5, D5, rfl, U5, hb5⟩; clear m4; have sS5 := st_storeS (CAt.new 32 w5 Z63) rfl (stC_size s' (.slice A5 m5 D5)) (stC_one _ _ _ _); unfold Z63 at sS5)
        change Code.wp Tryz.prog _ _ _ ((w5.alloc (.cells Z63 32)).setCells w5.heap.size 0 (stC s' (.slice A5 m5 D5)).toList)
        have bS : Below w5.heap.size w5 ((w5.alloc (.cells Z63 32)).setCells w5.heap.size 0 (stC s' (.slice A5 m5 D5)).toList) := below_sets (Nat.le_refl _) _ _ _ ((Below.refl _ w5).alloc (Nat.le_refl _) _)
        have T6 : CAt 32 ((w5.alloc (.cells Z63 32)).setCells w5.heap.size 0 (stC s' (.slice A5 m5 D5)).toList) w5.heap.size (stC s' (.slice A5 m5 D5)) := (CAt.new 32 w5 Z63).setAll rfl
        have b6 := hb5.trans (bS.mono hb5.size)
        have C6 := H4.out.1.over b6
        have R6 := H4.out.2.1.over b6
        have B6 := H4.out.2.2.trans (b6.mono H4.out.2.2.size)
        have U6 : er = 0 → Rep (fun b => New (fun b => P b ∧ b < w.heap.size) wr 0 b ∧ b < w5.heap.size) _ (.slice A5 m5 D5) 8 64 (wsL s'.W) := fun h => ((U5 h).mono (P' := fun b => New (fun b => P b ∧ b < w.heap.size) wr 0 b ∧ b < w5.heap.size) fun b hl hb => ⟨hb, hl⟩).over bS
        have hs5 := hb5.size
        clear sS5 hb5 bS b6 U5 HUN H4 y0 y1 y2 y3 y4 y5 y6 y7
        generalize (w5.alloc (.cells Z63 32)).setCells w5.heap.size 0 (stC s' (.slice A5 m5 D5)).toList = w6 at *
        generalize w5.heap.size = tb at *
        have hzt := T6.lt
        by_cases he : er = 0
        · subst he
          have HR := hide (HD.out.trans (if_pos rfl))
          have mS := st_loadS T6 (stC_size _ _)
          have sS := pr_storeS C6 (prC_size _ _) (stC_size s' (.slice A5 m5 D5)) (stC_one _ _ _ _)
          have C7 := C6.stake s' (.slice A5 m5 D5)
          have R7 := R6.others (c := w.heap.size) (o := 2) (by omega) (stC s' (.slice A5 m5 D5)).toList
          have B7 := below_sets (b := w.heap.size) (Nat.le_refl _) (stC s' (.slice A5 m5 D5)).toList 2 _ B6
          have N7 : PIn (New P w 2) (w6.setCells w.heap.size 2 (stC s' (.slice A5 m5 D5)).toList) { p with s := s', L := frL p.L 0 } { v with ws := .slice A5 m5 D5 } := by
            have h1 := (HN.out _ B6).sets (g := w.heap.size) (new_no (j := 0) (by omega)) 2 (stC s' (.slice A5 m5 D5)).toList
            have h2 := (U6 rfl).sets (g := w.heap.size) (fun h => by
              rcases h.1 with ⟨h, _⟩ | h
              · have := h.2; omega
              · omega) 2 (stC s' (.slice A5 m5 D5)).toList
            exact ⟨h2.mono fun b _ hb => by
              rcases hb.1 with ⟨h, _⟩ | h
              · exact .inl h
              · exact .inr (by omega), h1.set, h1.lk, h1.q⟩
          have C7' : CAt 47 (w6.setCells w.heap.size 2 (stC s' (.slice A5 m5 D5)).toList) w.heap.size (prC { p with s := s', L := frL p.L 0 } { v with ws := .slice A5 m5 D5 }) := C7
          have H7 := hide (show _ ∧ _ ∧ _ ∧ _ from ⟨C7', R7, B7, N7⟩)
          have hz7 := R7.lt
          clear C6 R6 B6 C7 C7' R7 B7 N7 T6 hone U6
          go_upto_region 15 with fail
          clear mS sS
          generalize w6.setCells w.heap.size 2 (stC s' (.slice A5 m5 D5)).toList = w7 at *
          generalize ({ v with ws := .slice A5 m5 D5 } : PrV) = v7 at *
          go_loopw [61] (fun i wl => ∃ (k : Nat), k ≤ 2 ∧ i = .int .i64 (k : Int) ∧ Hid (CAt 47 wl w.heap.size (prC { p with s := s', L := frL p.L k } v7) ∧ Alt w.heap.size w7 wl)) (fun i _ => (2 - intOf i).toNat)
          case atStart => exact ⟨0, by omega, rfl, H7.out.1, Alt.refl _ _⟩
          case round =>
            obtain ⟨k, hk, rfl, HK⟩ := hrel
            by_cases hk3 : k < 2
            · have hkk : (k : Int) < 2 := by omega
              have hkz : (0 : Int) ≤ (k : Int) := by omega
              have hlk := CAt.lk HK.out.1 hk3
              have o1 : wr.cell? ⟨w.heap.size, 66 + k * 14, none⟩ = some (.bool (p.L k).on) := by
                have := hlk.facts.1
                rwa [show ({ p with s := s', L := frL p.L k } : Pr).L k = p.L k from frL_at] at this
              obtain ⟨-, -, -, -, o5, -⟩ := hlk.facts
              have f5 := HK.out.1.free (66 + k * 14 + 4)
              have hzr := HK.out.1.lt
              clear hlk
              cases hon : (p.L k).on
              · rw [hon] at o1
                have HF : Hid (CAt 47 wr w.heap.size (prC { p with s := s', L := frL p.L (k + 1) } v7) ∧ Alt w.heap.size w7 wr) := by rw [frL_off hon]; exact HK.out
                clear HK
                go_wp2
                first | exact ⟨⟨k + 1, by omega, by go_num, HF⟩, by simp [intOf]; omega⟩ | ((repeat apply Exists.intro); exact ⟨⟨k + 1, by omega, by go_num, HF⟩, rfl⟩)
              · rw [hon] at o1
                have C8 := HK.out.1.set (66 + k * 14 + 4) (.bool true)
                rw [pr_setLk k hk3 4 (.bool true) { p.L k with fresh := true } (v7.l k) (by omega) (by rw [show ({ p with s := s', L := frL p.L k } : Pr).L k = p.L k from frL_at]; rfl), upd_same, show updL ({ p with s := s', L := frL p.L k } : Pr).L k { p.L k with fresh := true } = frL p.L (k + 1) from frL_on hon] at C8
                have HF := hide (show _ ∧ _ from ⟨C8, HK.out.2.set (66 + k * 14 + 4) (.bool true)⟩)
                clear HK C8
                go_upto_region 20 with fail
                generalize wr.setCell ⟨w.heap.size, 66 + k * 14 + 4, none⟩ (.bool true) = w8 at *
                clear o1 o5 f5
                go_wp2
                first | exact ⟨⟨k + 1, by omega, by go_num, HF⟩, by simp [intOf]; omega⟩ | ((repeat apply Exists.intro); exact ⟨⟨k + 1, by omega, by go_num, HF⟩, rfl⟩)
            · obtain rfl : k = 2 := by omega
              have C9 : CAt 47 wr w.heap.size (prC { p with s := s', L := freshL p.L } v7) := by rw [← prC_frL]; exact HK.out.1
              have A9 := HK.out.2
              have R9 := A9.cat (b := w.heap.size + 1) (by omega) H7.out.2.1
              have B9 := H7.out.2.2.1.trans (A9.below (Nat.le_refl _) H7.out.2.2.1.size)
              have N8 := A9.pin (new_no (P := P) (w := w) (k := 2) (j := 0) (by omega)) H7.out.2.2.2
              have N9 : PIn (New P w 2) wr { p with s := s', L := freshL p.L } v7 := ⟨N8.ws, N8.set, fun c hc => by
                have h := N8.lk c hc
                have e0 : ({ p with s := s', L := frL p.L 0 } : Pr).L c = p.L c := by
                  show (if c < 0 then freshL p.L c else p.L c) = p.L c
                  exact if_neg (by omega)
                rw [e0] at h
                show LkIn _ _ (freshL p.L c) _
                unfold freshL
                split
                · exact ⟨h.told, h.done, h.said, h.due⟩
                · exact h, N8.q⟩
              have l9 := pr_loadP C9 (prC_size _ _)
              have s9 := pr_storeP R9 Z97_size (prC_size { p with s := s', L := freshL p.L } v7) (pr_one N9)
              have HZ := hide (show _ ∧ _ ∧ _ from ⟨R9, B9, N9⟩)
              clear C9 A9 R9 B9 N8 N9 HK H7
              go_wp2
              exact prov_end2 Tryz.results15 HZ.out.1 Z97_size HZ.out.2.1 { p with s := s', L := freshL p.L } v7 0 D HR.out HZ.out.2.2 _ rfl rfl rfl
        · have HR := hide (HD.out.trans (if_neg he))
          have l6 := pr_loadP C6 (prC_size _ _)
          have s6 := pr_storeP R6 Z97_size (prC_size p v) hone
          have heb : (er != 0) = true := by simpa using he
          have HZ := hide (show _ ∧ _ from ⟨R6, B6⟩)
          clear C6 R6 B6 T6 hone U6
          go_wp2
          exact prov_end2 Tryz.results15 HZ.out.1 Z97_size HZ.out.2 p v er D HR.out (HN.out _ HZ.out.2) _ rfl rfl rfl
  · replace HD := hide (HD.out.trans (if_neg hok))
    have hcs : G = false ∨ (G = true ∧ isT now = false) := by
      cases G
      · exact .inl rfl
      · cases h : isT now
        · exact .inr ⟨rfl, rfl⟩
        · exact absurd ⟨rfl, h⟩ hok
    clear hok HGH HTI HU
    rcases hcs with rfl | ⟨rfl, h1⟩
    all_goals
      go_upto_region 2 with (first
        | (go_at_call 13; refine (HGD.out _ H0.out.2.2).mono ?_; rintro e w1 ⟨rfl, hb1⟩; clear l0)
        | (go_at_call 47; refine (ptime_any _ _).mono ?_; rintro e w' ⟨rfl, rfl⟩))
      have R1 := H0.out.2.1.over hb1
      have l1 := pr_loadP (H0.out.1.over hb1) (prC_size _ _)
      have s1 := pr_storeP R1 Z97_size (prC_size p v) hone
      have B1 := H0.out.2.2.trans (hb1.mono H0.out.2.2.size)
      have HZ := hide (show _ ∧ _ from ⟨R1, B1⟩)
      clear R1 B1 hb1 hone H0 HGD
      go_wp2
      exact prov_end2 Tryz.results15 HZ.out.1 Z97_size HZ.out.2 p v 2 D HD.out (HN.out _ HZ.out.2) _ rfl rfl rfl
end Go.Proofs.YtkhlihpghbhppaaGreat.Pv

set_option maxRecDepth 100000
namespace Go.Proofs.YtkhlihpghbhppaaGreat
open Go.RowKit
set_option maxHeartbeats 4000000 in
theorem rnews_any (w : World) : Calls Tryz.prog 61 #[] w fun e w' => e = .returned (.agg (stC newS (.slice none 0 0))) ∧ Below w.heap.size w w' := by
  have R0 := SAt.new w Z63
  have HB0 : Hid (Below w.heap.size w (w.alloc (.cells Z63 32))) := (Below.refl _ w).alloc (Nat.le_refl _) _
  have hN := rnew_any
  go_enter Tryz.func61, Tryz.ntmps61
  go_upto_region 1 with fail
  change Code.wp Tryz.prog _ _ _ (w.alloc (.cells Z63 32))
  generalize w.alloc (.cells Z63 32) = w0 at *
  apply wp_region_lit
  go_step
  go_step
  refine (hN _).mono ?_
  rintro e w1 ⟨rfl, h1⟩
  have R1 := R0.later h1 R0.lt
  have HB1 := hide (HB0.out.trans (h1.mono HB0.out.size))
  clear h1 R0 HB0 hN
  dsimp only
  go_step
  go_step
  go_step
  go_step
  refine wpList_store_mid rfl 32 _ _ rfl _ 0 (stC newS (.slice none 0 0)) rfl rfl (R1.there 0 _ (by rw [Z63_size, stC_size]; omega)) (by rw [infoS]; rfl) (stC_one _ _ _ _) ?_
  go_wp2
  have R3 := R1.setAll (ds := stC newS (.slice none 0 0)) (by rw [stC_size]; rfl)
  exact bodyPost_ret (v := .agg (stC newS (.slice none 0 0))) (results_stake1 Tryz.results61 _ _ _ _ rfl R3 rfl) rfl ⟨rfl, below_sets (Nat.le_refl _) _ _ _ HB1.out⟩
end Go.Proofs.YtkhlihpghbhppaaGreat

