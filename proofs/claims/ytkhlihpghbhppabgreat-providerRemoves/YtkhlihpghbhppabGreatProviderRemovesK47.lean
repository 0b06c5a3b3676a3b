/- Parts of the proof: PDD LO PVO. -/
import Derived.Test.YtkhlihpghbhppabGreatRows
import Derived.Test.YtkhlihpghbhppabGreatProviderRemovesK9
import Derived.Test.YtkhlihpghbhppabGreatProviderRemovesK44
import Derived.Test.YtkhlihpghbhppabGreatProviderRemovesK50
import Derived.Test.YtkhlihpghbhppabGreatProviderRemovesK52
import Derived.ProofKit
import Derived.OpenShut
import Derived.Deep.Slices
import Derived.SliceStrings
import Derived.SizedLaws
set_option maxRecDepth 100000
namespace Go.Proofs.YtkhlihpghbhppabGreat.Pv
open Go.RowKit
/-- a provider's cells, parted around a link that may be another one -/
theorem pr_split2 (p : Pr) (v : PrV) (k : Nat) (hk : k < 2) : ∃ a c : List Value, a.length = 66 + k * 14 ∧ prC p v = (a ++ (lkL (p.L k) (v.l k) ++ c)).toArray ∧ ∀ x u, prC { p with L := updL p.L k x } (v.upd k u) = (a ++ (lkL x u ++ c)).toArray := by
  have h0 : ([.int .i64 p.h, .int .i64 p.t] ++ ((stC p.s v.ws).toList ++ [v.set]) : List Value).length = 66 := by simp [stC_size]
  match k, hk with
  | 0, _ =>
    refine ⟨[.int .i64 p.h, .int .i64 p.t] ++ ((stC p.s v.ws).toList ++ [v.set]), lkL (p.L 1) (v.l 1) ++ [.int .i64 p.ml, .int .i64 p.mn, v.q], h0, ?_, fun x u => ?_⟩
    · simp [prC]
    · simp [prC, PrV.upd, updL]
  | 1, _ =>
    refine ⟨[.int .i64 p.h, .int .i64 p.t] ++ ((stC p.s v.ws).toList ++ [v.set]) ++ lkL (p.L 0) (v.l 0), [.int .i64 p.ml, .int .i64 p.mn, v.q], ?_, ?_, fun x u => ?_⟩
    · rw [List.length_append, h0]; rfl
    · simp [prC]
    · simp [prC, PrV.upd, updL]
def hk0 (p : Pr) (k : Nat) : Int := if 0 < k then holdOf p 0 else 0
def hk1 (p : Pr) (k : Nat) : Int := if 1 < k then holdOf p 1 else 0
def YC (w : World) (y : Nat) (h d a b : Int) : Prop := CAt 53 w y #[.int .i64 0, .int .i64 0, .int .i64 0, .int .i64 0, .int .i64 h, .int .i64 d, .int .i64 a, .int .i64 b]
theorem YC.hold {w : World} {y k : Nat} {a b : Int} {p : Pr} (h : YC w y a b (hk0 p k) (hk1 p k)) (hk : k < 2) (hon : (p.L k).on = true) : YC (w.setCell ⟨y, 6 + k, none⟩ (.int .i64 (p.h + 1))) y a b (hk0 p (k + 1)) (hk1 p (k + 1)) := by
  have := CAt.set h (6 + k) (.int .i64 (p.h + 1))
  match k, hk with
  | 0, _ => simpa [YC, hk0, hk1, holdOf, hon] using this
  | 1, _ => simpa [YC, hk0, hk1, holdOf, hon] using this
theorem YC.skip {w : World} {y k : Nat} {a b : Int} {p : Pr} (h : YC w y a b (hk0 p k) (hk1 p k)) (hk : k < 2) (hoff : (p.L k).on = false) : YC w y a b (hk0 p (k + 1)) (hk1 p (k + 1)) := by
  match k, hk with
  | 0, _ => simpa [YC, hk0, hk1, holdOf, hoff] using h
  | 1, _ => simpa [YC, hk0, hk1, holdOf, hoff] using h
theorem YC.at {w : World} {y k : Nat} {a b c d : Int} (h : YC w y a b c d) (hk : k < 2) : ∃ e : Int, w.cell? ⟨y, 6 + k, none⟩ = some (.int .i64 e) := by
  match k, hk with
  | 0, _ => exact ⟨c, CAt.cell h 6⟩
  | 1, _ => exact ⟨d, CAt.cell h 7⟩
attribute [local go_sem ↓] loadS_eq loadP_eq storeP_eq storeS_eq
end Go.Proofs.YtkhlihpghbhppabGreat.Pv

set_option maxRecDepth 100000
namespace Go.Proofs.YtkhlihpghbhppabGreat.Ln
open Go.ChangeShapes Go.WideShapes Go.ChangeAt Go.RowKit Go.Deep
theorem cI : Tryz.prog.cellsOf 3 = 1 := by kernel_rfl
theorem cT : Tryz.prog.cellsOf 4 = 1 := by kernel_rfl
theorem cStr : Tryz.prog.cellsOf 9 = 1 := by kernel_rfl
theorem cStrs : Tryz.prog.cellsOf 35 = 1 := by kernel_rfl
theorem cIs : Tryz.prog.cellsOf 34 = 1 := by kernel_rfl
theorem cLn : Tryz.prog.cellsOf 37 = 4 := by kernel_rfl
section
variable {H : Type} {enc : TypeId × Value → H} {W : World}
theorem open_num {r : Reach} {b0 : Nat} {v : Value} {d : DataW H} {p : List MemPlace} (hv : Value.okWide Tryz.prog W r b0 3 v) (h : DataW.Trod enc Tryz.prog W 0 (fun _ => true) true 3 v d p) : ∃ n : Int, v = .int .i64 n := by
  obtain ⟨n, e, _⟩ := open_int Tryz.underlying3 hv h
  exact ⟨n, e⟩
end
end Go.Proofs.YtkhlihpghbhppabGreat.Ln

set_option maxRecDepth 100000
namespace Go.Proofs.YtkhlihpghbhppabGreat.Pv
open Go.ChangeShapes Go.WideShapes Go.ChangeAt Go.RowKit Go.Deep
section
variable {H : Type} {enc : TypeId × Value → H} {W : World}
theorem flat_at {β : Type} (g : β → List Value) (sz : Nat) (hg : ∀ b, (g b).length = sz) : ∀ (L : List β) (i : Nat) (x : β) (j : Nat), L[i]? = some x → j < sz → (L.flatMap g)[i * sz + j]? = (g x)[j]?
  | [], i, x, j, h, _ => by simp at h
  | a :: L, 0, x, j, h, hj => by
    simp at h
    subst h
    rw [List.flatMap_cons, Nat.zero_mul, Nat.zero_add, List.getElem?_append_left (by rw [hg]; exact hj)]
  | a :: L, i + 1, x, j, h, hj => by
    rw [List.flatMap_cons, List.getElem?_append_right (by rw [hg, Nat.succ_mul]; omega), hg, show (i + 1) * sz + j - sz = i * sz + j by rw [Nat.succ_mul]; omega]
    exact flat_at g sz hg L i x j (by simpa using h) hj
theorem flat_len {β : Type} (g : β → List Value) (sz : Nat) (hg : ∀ b, (g b).length = sz) : ∀ (L : List β), (L.flatMap g).length = L.length * sz
  | [] => by simp
  | a :: L => by rw [List.flatMap_cons, List.length_append, hg, flat_len g sz hg L, List.length_cons, Nat.succ_mul]; omega
theorem weights_all {P : Program} {e : TypeId} : ∀ {l : List (DataW H)} {d : DataW H}, d ∈ l → ∀ x ∈ DataW.weights P e d, x ∈ DataW.weightsAll P e l
  | a :: l, d, hd, x, hx => by
    rw [DataW.weightsAll, List.mem_append]
    rcases List.mem_cons.1 hd with rfl | hd
    · exact .inl hx
    · exact .inr (weights_all hd x hx)
/-- a slice that came in -/
theorem open_rep {β : Type} (d0 : β) (g : β → List Value) (Q : β → Prop) {t e : TypeId} {sz bts : Nat} (ht : Tryz.prog.underlying t = some (.slice e)) (hc : Tryz.prog.cellsOf e = sz) (hbt : Tryz.prog.bytesOf e = bts) (hg : ∀ b, (g b).length = sz) (hs : 0 < sz) {m : Nat} {l : List Value} {y : DataW H × List MemPlace}
    (h : DataW.trod enc Tryz.prog W 0 (fun _ => true) true m t l = some y) (hw : ∀ x ∈ DataW.weights Tryz.prog t y.1, x ≤ reachBytes)
    (he : ∀ {m' : Nat} {l' : List Value} {y' : DataW H × List MemPlace}, DataW.trod enc Tryz.prog W 0 (fun _ => true) true m' e l' = some y' → (∀ x ∈ DataW.weights Tryz.prog e y'.1, x ≤ reachBytes) → ∃ b, l' = g b ∧ Q b) :
    ∃ (L : List β) (v : Value), l = [v] ∧ Rep (fun _ => True) W v sz bts (L.flatMap g) ∧ (∀ b ∈ L, Q b) ∧ L.length * bts ≤ 140737488351232 := by
  rcases open_slice ht h with ⟨h0, _⟩ | ⟨a, len, cap, k, n, D, Pl, rfl, _, hlc, hmx, hk, hy, hx⟩
  · exact ⟨[], .slice none 0 0, h0, Rep.nil _ _ _ _, fun b hb => by simp at hb, by simp⟩
  simp only [if_true] at hk
  subst hk
  rw [hc] at hx
  have hwe : ∀ i, i < len → ∀ x ∈ DataW.weights Tryz.prog e (D i), x ≤ reachBytes := fun i hi x hx => hw x (by
    subst hy
    simp only [DataW.weights, ht]
    refine List.mem_cons_of_mem _ (List.mem_append_left _ (weights_all (d := D i) ?_ x hx))
    exact List.mem_map.2 ⟨i, List.mem_range.2 hi, rfl⟩)
  obtain ⟨f, hf⟩ := pick_all (n := len) (p := fun i (b : β) => W.cells? 0 (a.add (i * sz)) sz = some (g b) ∧ Q b) d0 (fun i hi => by
    obtain ⟨cs', h1, h2⟩ := hx i (by omega)
    obtain ⟨b, rfl, hq⟩ := he h2 (hwe i hi)
    exact ⟨b, h1, hq⟩)
  have hlen : ((List.range len).map f).length = len := by simp
  have hb : len * bts ≤ 140737488351232 := by
    subst hy
    have := hw ((len + (k - len)) * bts) (by simp [DataW.weights, ht, hbt])
    have e : reachBytes = 140737488351232 := rfl
    have := Nat.mul_le_mul_right bts (show len ≤ len + (k - len) by omega)
    omega
  refine ⟨(List.range len).map f, .slice (some a) len k, rfl, ⟨some a, len, k, rfl, by rw [flat_len g sz hg, hlen], hb, ⟨fun h => (by cases h), hlc⟩, fun h0 => ?_⟩, fun b hb' => ?_, by rw [hlen]; exact hb⟩
  · have hcell : ∀ i, i < len → ∀ j v, (g (f i))[j]? = some v → W.cell? ((a.add (i * sz)).add j) = some v := fun i hi j v hv => by
      obtain ⟨_, hlen', hc'⟩ := World.cells?_some (hf i hi).1
      have hj : j < sz := by have := (List.getElem?_eq_some_iff.1 hv).1; rwa [hg] at this
      rw [hc' j hj]
      exact hv
    obtain ⟨b, off, spot⟩ := a
    have hspot : spot = none := by
      have := hcell 0 h0 0 _ (List.getElem?_eq_getElem (by rw [hg]; exact hs))
      simpa [Addr.add] using World.cell?_spot this
    subst hspot
    have hall : ∀ j u, (((List.range len).map f).flatMap g)[j]? = some u → W.cell? ⟨b, off + j, none⟩ = some u := fun j u hu => by
      have hj : j < len * sz := by have := (List.getElem?_eq_some_iff.1 hu).1; rwa [flat_len g sz hg, hlen] at this
      have hi : j / sz < len := (Nat.div_lt_iff_lt_mul hs).2 hj
      have hm : j % sz < sz := Nat.mod_lt _ hs
      have ej : j / sz * sz + j % sz = j := by rw [Nat.mul_comm]; exact Nat.div_add_mod j sz
      have hat := flat_at g sz hg ((List.range len).map f) (j / sz) (f (j / sz)) (j % sz) (by simp [hi]) hm
      rw [ej, hu] at hat
      have := hcell (j / sz) hi (j % sz) u hat.symm
      rw [Addr.add_lit, Addr.add_lit, Nat.add_assoc, ej] at this
      exact this
    have h1 : 0 < (((List.range len).map f).flatMap g).length := by rw [flat_len g sz hg, hlen]; exact Nat.mul_pos h0 hs
    exact ⟨b, off, rfl, trivial, World.block_lt_of_cell? W _ (hall 0 _ (List.getElem?_eq_getElem h1)), hall⟩
  · obtain ⟨i, hi, rfl⟩ := List.mem_map.1 hb'
    exact (hf i (List.mem_range.1 hi)).2
theorem cPw : Tryz.prog.cellsOf 82 = 2 := by kernel_rfl
theorem cPws : Tryz.prog.cellsOf 33 = 1 := by kernel_rfl
theorem cIs : Tryz.prog.cellsOf 34 = 1 := by kernel_rfl
theorem cStr : Tryz.prog.cellsOf 9 = 1 := by kernel_rfl
theorem cStrs : Tryz.prog.cellsOf 35 = 1 := by kernel_rfl
theorem cLn : Tryz.prog.cellsOf 37 = 4 := by kernel_rfl
theorem cPk : Tryz.prog.cellsOf 55 = 6 := by kernel_rfl
theorem cAs : Tryz.prog.cellsOf 57 = 7 := by kernel_rfl
theorem cAss : Tryz.prog.cellsOf 45 = 1 := by kernel_rfl
theorem cHd : Tryz.prog.cellsOf 39 = 4 := by kernel_rfl
theorem cMe : Tryz.prog.cellsOf 44 = 2 := by kernel_rfl
theorem cLk : Tryz.prog.cellsOf 41 = 14 := by kernel_rfl
theorem cLks : Tryz.prog.cellsOf 42 = 28 := by kernel_rfl
theorem cPv : Tryz.prog.cellsOf 47 = 97 := by kernel_rfl
theorem yI : Tryz.prog.bytesOf 3 = 8 := by kernel_rfl
theorem yPw : Tryz.prog.bytesOf 82 = 16 := by kernel_rfl
theorem yStr : Tryz.prog.bytesOf 9 = 16 := by kernel_rfl
theorem yAs : Tryz.prog.bytesOf 57 = 88 := by kernel_rfl
theorem open_pw {m : Nat} {l : List Value} {y : DataW H × List MemPlace} (h : DataW.trod enc Tryz.prog W 0 (fun _ => true) true m 82 l = some y) : ∃ b : Int × Int, l = [.int .i64 b.1, .int .i64 b.2] := by
  obtain ⟨xs, n, _, _, hl, hxl, hx⟩ := DataW.trod_struct Tryz.underlying82 h
  rw [cPw] at hl
  match l, hl with
  | [a0, a1], _ =>
    match xs, hxl with
    | [y0, y1], _ =>
      have t0 := hx 0 _ rfl
      have t1 := hx 1 _ rfl
      simp [cI] at t0 t1
      obtain ⟨q0, e0⟩ := open_i t0
      obtain ⟨q1, e1⟩ := open_i t1
      simp at e0 e1
      subst e0 e1
      exact ⟨(q0, q1), rfl⟩
theorem open_s {m : Nat} {l : List Value} {y : DataW H × List MemPlace} (h : DataW.trod enc Tryz.prog W 0 (fun _ => true) true m 9 l = some y) : ∃ b : ByteArray, l = [.string b] := by
  obtain ⟨q, e, _⟩ := DataW.trod_string Tryz.underlying9 h
  exact ⟨q, e⟩
theorem rep_pws {m : Nat} {l : List Value} {y : DataW H × List MemPlace} (h : DataW.trod enc Tryz.prog W 0 (fun _ => true) true m 33 l = some y) (hw : ∀ x ∈ DataW.weights Tryz.prog 33 y.1, x ≤ reachBytes) : ∃ (L : List (Int × Int)) (v : Value), l = [v] ∧ Rep (fun _ => True) W v 2 16 (pwC L) := by
  obtain ⟨L, v, e, hr, -, -⟩ := open_rep (0, 0) (fun b : Int × Int => [.int .i64 b.1, .int .i64 b.2]) (fun _ => True) Tryz.underlying33 cPw yPw (fun _ => rfl) (by decide) h hw (fun h _ => by obtain ⟨b, e⟩ := open_pw h; exact ⟨b, e, trivial⟩)
  exact ⟨L, v, e, hr⟩
theorem flat_one {β : Type} (f : β → Value) : ∀ L : List β, L.flatMap (fun b => [f b]) = L.map f
  | [] => rfl
  | a :: L => by rw [List.flatMap_cons, flat_one f L]; rfl
theorem rep_ints {m : Nat} {l : List Value} {y : DataW H × List MemPlace} (h : DataW.trod enc Tryz.prog W 0 (fun _ => true) true m 34 l = some y) (hw : ∀ x ∈ DataW.weights Tryz.prog 34 y.1, x ≤ reachBytes) : ∃ (L : List Int) (v : Value), l = [v] ∧ Rep (fun _ => True) W v 1 8 (inC L) := by
  obtain ⟨L, v, e, hr, -, -⟩ := open_rep 0 (fun b : Int => [.int .i64 b]) (fun _ => True) Tryz.underlying34 cI yI (fun _ => rfl) (by decide) h hw (fun h _ => by obtain ⟨b, e⟩ := open_i h; exact ⟨b, e, trivial⟩)
  rw [flat_one] at hr
  exact ⟨L, v, e, hr⟩
theorem rep_txts {m : Nat} {l : List Value} {y : DataW H × List MemPlace} (h : DataW.trod enc Tryz.prog W 0 (fun _ => true) true m 35 l = some y) (hw : ∀ x ∈ DataW.weights Tryz.prog 35 y.1, x ≤ reachBytes) : ∃ (L : List ByteArray) (v : Value), l = [v] ∧ Rep (fun _ => True) W v 1 16 (txC L) := by
  obtain ⟨L, v, e, hr, -, -⟩ := open_rep ByteArray.empty (fun b : ByteArray => [.string b]) (fun _ => True) Tryz.underlying35 cStr yStr (fun _ => rfl) (by decide) h hw (fun h _ => by obtain ⟨b, e⟩ := open_s h; exact ⟨b, e, trivial⟩)
  rw [flat_one] at hr
  exact ⟨L, v, e, hr⟩
theorem open_pk {m : Nat} {l : List Value} {y : DataW H × List MemPlace} (h : DataW.trod enc Tryz.prog W 0 (fun _ => true) true m 55 l = some y) (hw : ∀ x ∈ DataW.weights Tryz.prog 55 y.1, x ≤ reachBytes) : ∃ (x : Pkt) (u : Value × Value), l = [.int .i64 x.k, .int .i64 x.i, .int .i64 x.v, .int .i64 x.n, u.1, u.2] ∧ Rep (fun _ => True) W u.1 2 16 (pwC x.S) ∧ Rep (fun _ => True) W u.2 1 8 (inC x.D) := by
  obtain ⟨xs, n, _, hxs, hl, hxl, hx⟩ := DataW.trod_struct Tryz.underlying55 h
  rw [cPk] at hl
  match l, hl with
  | [a0, a1, a2, a3, a4, a5], _ =>
    match xs, hxl with
    | [y0, y1, y2, y3, y4, y5], _ =>
      have t0 := hx 0 _ rfl
      have t1 := hx 1 _ rfl
      have t2 := hx 2 _ rfl
      have t3 := hx 3 _ rfl
      have t4 := hx 4 _ rfl
      have t5 := hx 5 _ rfl
      simp [cI, cPws, cIs] at t0 t1 t2 t3 t4 t5
      subst hxs
      have w4 : ∀ x ∈ DataW.weights Tryz.prog 33 y4.1, x ≤ reachBytes := fun x hx => hw x (by simp [DataW.weights, Tryz.underlying55, DataW.weightsEach, hx])
      have w5 : ∀ x ∈ DataW.weights Tryz.prog 34 y5.1, x ≤ reachBytes := fun x hx => hw x (by simp [DataW.weights, Tryz.underlying55, DataW.weightsEach, hx])
      obtain ⟨q0, e0⟩ := open_i t0
      obtain ⟨q1, e1⟩ := open_i t1
      obtain ⟨q2, e2⟩ := open_i t2
      obtain ⟨q3, e3⟩ := open_i t3
      obtain ⟨S, u4, e4, r4⟩ := rep_pws t4 w4
      obtain ⟨D, u5, e5, r5⟩ := rep_ints t5 w5
      simp at e0 e1 e2 e3 e4 e5
      subst e0 e1 e2 e3 e4 e5
      exact ⟨⟨q0, q1, q2, q3, S, D⟩, (a4, a5), rfl, r4, r5⟩
theorem open_as {m : Nat} {l : List Value} {y : DataW H × List MemPlace} (h : DataW.trod enc Tryz.prog W 0 (fun _ => true) true m 57 l = some y) (hw : ∀ x ∈ DataW.weights Tryz.prog 57 y.1, x ≤ reachBytes) : ∃ b : (Int × Pkt) × (Value × Value), l = akL b.1 b.2 ∧ (Rep (fun _ => True) W b.2.1 2 16 (pwC b.1.2.S) ∧ Rep (fun _ => True) W b.2.2 1 8 (inC b.1.2.D)) := by
  obtain ⟨xs, n, _, hxs, hl, hxl, hx⟩ := DataW.trod_struct Tryz.underlying57 h
  rw [cAs] at hl
  match l, hl with
  | [a0, a1, a2, a3, a4, a5, a6], _ =>
    match xs, hxl with
    | [y0, y1], _ =>
      have t0 := hx 0 _ rfl
      have t1 := hx 1 _ rfl
      simp [cI, cPk] at t0 t1
      subst hxs
      have w1 : ∀ x ∈ DataW.weights Tryz.prog 55 y1.1, x ≤ reachBytes := fun x hx => hw x (by simp [DataW.weights, Tryz.underlying57, DataW.weightsEach, hx])
      obtain ⟨q0, e0⟩ := open_i t0
      obtain ⟨x, u, e1, r1, r2⟩ := open_pk t1 w1
      simp at e0 e1
      obtain ⟨f1, f2, f3, f4, f5, f6⟩ := e1
      subst e0 f1 f2 f3 f4 f5 f6
      exact ⟨((q0, x), u), rfl, r1, r2⟩
theorem quL_flat : ∀ L : List ((Int × Pkt) × (Value × Value)), L.flatMap (fun b => akL b.1 b.2) = quL (L.map (·.1)) (L.map (·.2))
  | [] => rfl
  | a :: L => by rw [List.flatMap_cons, quL_flat L]; rfl
theorem rep_queue {m : Nat} {l : List Value} {y : DataW H × List MemPlace} (h : DataW.trod enc Tryz.prog W 0 (fun _ => true) true m 45 l = some y) (hw : ∀ x ∈ DataW.weights Tryz.prog 45 y.1, x ≤ reachBytes) : ∃ (q : List (Int × Pkt)) (v : Value), l = [v] ∧ QRep (fun _ => True) W v q ∧ q.length * 88 ≤ 140737488351232 := by
  obtain ⟨L, v, e, hr, hq, hl⟩ := open_rep ((0, ⟨0, 0, 0, 0, [], []⟩), (.slice none 0 0, .slice none 0 0)) (fun b : (Int × Pkt) × (Value × Value) => akL b.1 b.2) (fun b => Rep (fun _ => True) W b.2.1 2 16 (pwC b.1.2.S) ∧ Rep (fun _ => True) W b.2.2 1 8 (inC b.1.2.D)) Tryz.underlying45 cAs yAs (fun _ => rfl) (by decide) h hw (fun h hw => open_as h hw)
  rw [quL_flat] at hr
  refine ⟨L.map (·.1), v, e, ⟨L.map (·.2), by simp, ?_, fun i x y hx hy => ?_⟩, by simpa using hl⟩
  · obtain ⟨A, n, C, h1, h2, h3, h4, h5⟩ := hr
    exact ⟨A, n, C, h1, h2, by omega, h4, h5⟩
  · rw [List.getElem?_map] at hx hy
    rcases hb : L[i]? with _ | b
    · rw [hb] at hx; simp at hx
    · rw [hb] at hx hy
      simp at hx hy
      subst hx hy
      exact hq b (List.mem_of_getElem? hb)
theorem open_ln {m : Nat} {l : List Value} {y : DataW H × List MemPlace} (h : DataW.trod enc Tryz.prog W 0 (fun _ => true) true m 37 l = some y) (hw : ∀ x ∈ DataW.weights Tryz.prog 37 y.1, x ≤ reachBytes) : ∃ (x : Ln.Line) (u : Value × Value), l = [u.1, u.2, .int .i64 x.g, .bool x.cl] ∧ Rep (fun _ => True) W u.1 1 16 (txC x.S) ∧ Rep (fun _ => True) W u.2 1 8 (inC x.D) := by
  obtain ⟨xs, n, _, hxs, hl, hxl, hx⟩ := DataW.trod_struct Tryz.underlying37 h
  rw [cLn] at hl
  match l, hl with
  | [a0, a1, a2, a3], _ =>
    match xs, hxl with
    | [y0, y1, y2, y3], _ =>
      have t0 := hx 0 _ rfl
      have t1 := hx 1 _ rfl
      have t2 := hx 2 _ rfl
      have t3 := hx 3 _ rfl
      simp [cI, cT, cStrs, cIs] at t0 t1 t2 t3
      subst hxs
      have w0 : ∀ x ∈ DataW.weights Tryz.prog 35 y0.1, x ≤ reachBytes := fun x hx => hw x (by simp [DataW.weights, Tryz.underlying37, DataW.weightsEach, hx])
      have w1 : ∀ x ∈ DataW.weights Tryz.prog 34 y1.1, x ≤ reachBytes := fun x hx => hw x (by simp [DataW.weights, Tryz.underlying37, DataW.weightsEach, hx])
      obtain ⟨S, u0, e0, r0⟩ := rep_txts t0 w0
      obtain ⟨D, u1, e1, r1⟩ := rep_ints t1 w1
      obtain ⟨q2, e2⟩ := open_i t2
      obtain ⟨q3, e3⟩ := open_t t3
      simp at e0 e1 e2 e3
      subst e0 e1 e2 e3
      exact ⟨⟨S, D, q2, q3⟩, (a0, a1), rfl, r0, r1⟩
theorem open_hd {m : Nat} {l : List Value} {y : DataW H × List MemPlace} (h : DataW.trod enc Tryz.prog W 0 (fun _ => true) true m 39 l = some y) : ∃ a b c d : Int, l = [.int .i64 a, .int .i64 b, .int .i64 c, .int .i64 d] := by
  obtain ⟨xs, n, _, _, hl, hxl, hx⟩ := DataW.trod_struct Tryz.underlying39 h
  rw [cHd] at hl
  match l, hl with
  | [a0, a1, a2, a3], _ =>
    match xs, hxl with
    | [y0, y1, y2, y3], _ =>
      have t0 := hx 0 _ rfl
      have t1 := hx 1 _ rfl
      have t2 := hx 2 _ rfl
      have t3 := hx 3 _ rfl
      simp [cI] at t0 t1 t2 t3
      obtain ⟨q0, e0⟩ := open_i t0
      obtain ⟨q1, e1⟩ := open_i t1
      obtain ⟨q2, e2⟩ := open_i t2
      obtain ⟨q3, e3⟩ := open_i t3
      simp at e0 e1 e2 e3
      subst e0 e1 e2 e3
      exact ⟨q0, q1, q2, q3, rfl⟩
theorem open_lk {m : Nat} {l : List Value} {y : DataW H × List MemPlace} (h : DataW.trod enc Tryz.prog W 0 (fun _ => true) true m 41 l = some y) (hw : ∀ x ∈ DataW.weights Tryz.prog 41 y.1, x ≤ reachBytes) : ∃ (x : Lk) (u : LkV), l = lkL x u ∧ LkIn (fun _ => True) W x u := by
  obtain ⟨xs, n, _, hxs, hl, hxl, hx⟩ := DataW.trod_struct Tryz.underlying41 h
  rw [cLk] at hl
  match l, hl with
  | [a0, a1, a2, a3, a4, a5, a6, a7, a8, a9, a10, a11, a12, a13], _ =>
    match xs, hxl with
    | [y0, y1, y2, y3, y4, y5, y6, y7], _ =>
      have t0 := hx 0 _ rfl
      have t1 := hx 1 _ rfl
      have t2 := hx 2 _ rfl
      have t3 := hx 3 _ rfl
      have t4 := hx 4 _ rfl
      have t5 := hx 5 _ rfl
      have t6 := hx 6 _ rfl
      have t7 := hx 7 _ rfl
      simp [cI, cT, cPws, cIs, cLn, cHd] at t0 t1 t2 t3 t4 t5 t6 t7
      subst hxs
      have w3 : ∀ x ∈ DataW.weights Tryz.prog 33 y3.1, x ≤ reachBytes := fun x hx => hw x (by simp [DataW.weights, Tryz.underlying41, DataW.weightsEach, hx])
      have w5 : ∀ x ∈ DataW.weights Tryz.prog 34 y5.1, x ≤ reachBytes := fun x hx => hw x (by simp [DataW.weights, Tryz.underlying41, DataW.weightsEach, hx])
      have w6 : ∀ x ∈ DataW.weights Tryz.prog 37 y6.1, x ≤ reachBytes := fun x hx => hw x (by simp [DataW.weights, Tryz.underlying41, DataW.weightsEach, hx])
      obtain ⟨q0, e0⟩ := open_t t0
      obtain ⟨q1, e1⟩ := open_t t1
      obtain ⟨q2, e2⟩ := open_i t2
      obtain ⟨T, u3, e3, r3⟩ := rep_pws t3 w3
      obtain ⟨q4, e4⟩ := open_t t4
      obtain ⟨D, u5, e5, r5⟩ := rep_ints t5 w5
      obtain ⟨x6, u6, e6, r6, r7⟩ := open_ln t6 w6
      obtain ⟨h0, h1, h2, h3, e7⟩ := open_hd t7
      simp at e0 e1 e2 e3 e4 e5 e6 e7
      obtain ⟨f6, f7, f8, f9⟩ := e6
      obtain ⟨g0, g1, g2, g3⟩ := e7
      subst e0 e1 e2 e3 e4 e5 f6 f7 f8 f9 g0 g1 g2 g3
      exact ⟨⟨q0, q1, q2, T, q4, D, x6, h0, h1, h2, h3⟩, ⟨_, _, u6.1, u6.2⟩, rfl, r3, r5, r6, r7⟩
theorem rep_waits {m : Nat} {l : List Value} {y : DataW H × List MemPlace} (h : DataW.trod enc Tryz.prog W 0 (fun _ => true) true m 30 l = some y) (hw : ∀ x ∈ DataW.weights Tryz.prog 30 y.1, x ≤ reachBytes) : ∃ (L : List Wt) (v : Value), l = [v] ∧ Rep (fun _ => True) W v 8 64 (wsL L) := by
  obtain ⟨L, v, e, hr, -, -⟩ := open_rep ⟨0, 0, 0, 0, 0, 0, 0, 0⟩ wtL (fun _ => True) Tryz.underlying30 cW bytesW (fun _ => rfl) (by decide) h hw (fun h _ => by obtain ⟨b, e⟩ := open_wt h; exact ⟨b, e, trivial⟩)
  exact ⟨L, v, e, hr⟩
theorem open_st {m : Nat} {l : List Value} {y : DataW H × List MemPlace} (h : DataW.trod enc Tryz.prog W 0 (fun _ => true) true m 32 l = some y) (hw : ∀ x ∈ DataW.weights Tryz.prog 32 y.1, x ≤ reachBytes) : ∃ (s : St) (v : Value), l = (stC s v).toList ∧ Rep (fun _ => True) W v 8 64 (wsL s.W) := by
  obtain ⟨xs, n, _, hxs, hl, hxl, hx⟩ := DataW.trod_struct Tryz.underlying32 h
  rw [cS] at hl
  match xs, hxl with
  | [y0, y1, y2, y3, y4], _ =>
    have t0 := hx 0 _ rfl
    have t1 := hx 1 _ rfl
    have t2 := hx 2 _ rfl
    have t3 := hx 3 _ rfl
    have t4 := hx 4 _ rfl
    simp [cI, cB, cVs, cSh, cWs] at t0 t1 t2 t3 t4
    subst hxs
    have w3 : ∀ x ∈ DataW.weights Tryz.prog 30 y3.1, x ≤ reachBytes := fun x hx => hw x (by simp [DataW.weights, Tryz.underlying32, DataW.weightsEach, hx])
    obtain ⟨b, e0⟩ := open_bk t0
    obtain ⟨V, e1⟩ := open_vds t1
    obtain ⟨S, e2⟩ := open_shs t2
    obtain ⟨L, v, e3, r3⟩ := rep_waits t3 w3
    obtain ⟨q, e4⟩ := open_i t4
    have hcs : l = l.take 7 ++ ((l.drop 7).take 30 ++ ((l.drop 37).take 24 ++ ((l.drop 61).take 1 ++ (l.drop 62).take 1))) := by
      have a1 := parts (l := l) (o := 7) (n := 30)
      have a2 := parts (l := l) (o := 37) (n := 24)
      have a3 := parts (l := l) (o := 61) (n := 1)
      have a4 : l.drop 62 = (l.drop 62).take 1 := by rw [List.take_of_length_le]; rw [List.length_drop]; omega
      rw [← a4, ← a3, ← a2, ← a1]
      simp
    rw [e0, e1, e2, e3, e4] at hcs
    exact ⟨⟨b, V, S, L, q⟩, v, by rw [hcs]; rfl, r3⟩
theorem open_me {m : Nat} {l : List Value} {y : DataW H × List MemPlace} (h : DataW.trod enc Tryz.prog W 0 (fun _ => true) true m 44 l = some y) : ∃ a b : Int, l = [.int .i64 a, .int .i64 b] := by
  obtain ⟨xs, n, _, _, hl, hxl, hx⟩ := DataW.trod_struct Tryz.underlying44 h
  rw [cMe] at hl
  match l, hl with
  | [a0, a1], _ =>
    match xs, hxl with
    | [y0, y1], _ =>
      have t0 := hx 0 _ rfl
      have t1 := hx 1 _ rfl
      simp [cI] at t0 t1
      obtain ⟨q0, e0⟩ := open_i t0
      obtain ⟨q1, e1⟩ := open_i t1
      simp at e0 e1
      subst e0 e1
      exact ⟨q0, q1, rfl⟩
theorem open_lks {m : Nat} {l : List Value} {y : DataW H × List MemPlace} (h : DataW.trod enc Tryz.prog W 0 (fun _ => true) true m 42 l = some y) (hw : ∀ x ∈ DataW.weights Tryz.prog 42 y.1, x ≤ reachBytes) : ∃ (L : Nat → Lk) (u : Nat → LkV), l = lkL (L 0) (u 0) ++ lkL (L 1) (u 1) ∧ ∀ c, c < 2 → LkIn (fun _ => True) W (L c) (u c) := by
  obtain ⟨xs, n, _, hxs, hl, hxl, hx⟩ := DataW.trod_array Tryz.underlying42 h
  rw [cLks] at hl
  subst hxs
  have hwe : ∀ i, i < 2 → ∀ d, xs[i]? = some d → ∀ x ∈ DataW.weights Tryz.prog 41 d.1, x ≤ reachBytes := fun i hi d hd x hx => hw x (by
    simp only [DataW.weights, Tryz.underlying42]
    exact weights_all (d := d.1) (List.mem_map.2 ⟨d, List.mem_of_getElem? hd, rfl⟩) x hx)
  obtain ⟨f, hf⟩ := pick_all (n := 2) (p := fun i (b : Lk × LkV) => (l.drop (i * 14)).take 14 = lkL b.1 b.2 ∧ LkIn (fun _ => True) W b.1 b.2) (⟨false, false, 0, [], false, [], ⟨[], [], 0, false⟩, 0, 0, 0, 0⟩, ⟨.slice none 0 0, .slice none 0 0, .slice none 0 0, .slice none 0 0⟩) (fun i hi => by
    have := hx i hi
    rw [cLk, List.getElem?_eq_getElem (by omega)] at this
    obtain ⟨x, u, e, r⟩ := open_lk this (hwe i hi _ (List.getElem?_eq_getElem (by omega)))
    exact ⟨(x, u), e, r⟩)
  refine ⟨fun i => (f i).1, fun i => (f i).2, ?_, fun c hc => (hf c hc).2⟩
  rw [← (hf 0 (by omega)).1, ← (hf 1 (by omega)).1]
  have a1 := parts (l := l) (o := 0) (n := 14)
  have a2 : l.drop 14 = (l.drop 14).take 14 := by rw [List.take_of_length_le]; rw [List.length_drop]; omega
  simp only [Nat.zero_mul, Nat.one_mul, Nat.zero_add] at a1 ⊢
  rw [← a2, ← a1, List.drop_zero]
/-- a provider that came in -/
theorem open_prov {r : Reach} {b0 : Nat} {v : Value} {d : DataW H} {p : List MemPlace} (hv : Value.okWide Tryz.prog W r b0 47 v) (h : DataW.Trod enc Tryz.prog W 0 (fun _ => true) true 47 v d p) (hw : ∀ x ∈ DataW.weights Tryz.prog 47 d, x ≤ reachBytes) :
    ∃ (x : Pr) (u : PrV), v = .agg (prC x u) ∧ PIn (fun _ => True) W x u ∧ x.q.length * 88 ≤ 140737488351232 := by
  obtain ⟨cs, rfl, hsz⟩ := okWide_struct Tryz.underlying47 hv
  rw [cPv] at hsz
  obtain ⟨cs⟩ := cs
  obtain ⟨fuel, hf⟩ := h
  obtain ⟨xs, n, _, hxs, hl, hxl, hx⟩ := DataW.trod_struct Tryz.underlying47 hf
  match xs, hxl with
  | [y0, y1, y2, y3, y4, y5, y6], _ =>
    have t0 := hx 0 _ rfl
    have t1 := hx 1 _ rfl
    have t2 := hx 2 _ rfl
    have t3 := hx 3 _ rfl
    have t4 := hx 4 _ rfl
    have t5 := hx 5 _ rfl
    have t6 := hx 6 _ rfl
    simp [Value.cells, cI, cS, cPws, cLks, cMe, cAss] at t0 t1 t2 t3 t4 t5 t6 hsz
    simp only [Prod.mk.injEq] at hxs
    obtain ⟨rfl, _⟩ := hxs
    have w2 : ∀ x ∈ DataW.weights Tryz.prog 32 y2.1, x ≤ reachBytes := fun x hx => hw x (by simp [DataW.weights, Tryz.underlying47, DataW.weightsEach, hx])
    have w3 : ∀ x ∈ DataW.weights Tryz.prog 33 y3.1, x ≤ reachBytes := fun x hx => hw x (by simp [DataW.weights, Tryz.underlying47, DataW.weightsEach, hx])
    have w4 : ∀ x ∈ DataW.weights Tryz.prog 42 y4.1, x ≤ reachBytes := fun x hx => hw x (by simp [DataW.weights, Tryz.underlying47, DataW.weightsEach, hx])
    have w6 : ∀ x ∈ DataW.weights Tryz.prog 45 y6.1, x ≤ reachBytes := fun x hx => hw x (by simp [DataW.weights, Tryz.underlying47, DataW.weightsEach, hx])
    obtain ⟨q0, e0⟩ := open_i t0
    obtain ⟨q1, e1⟩ := open_i t1
    obtain ⟨s, us, e2, r2⟩ := open_st t2 w2
    obtain ⟨set, ut, e3, r3⟩ := rep_pws t3 w3
    obtain ⟨L, ul, e4, r4⟩ := open_lks t4 w4
    obtain ⟨ml, mn, e5⟩ := open_me t5
    obtain ⟨q, uq, e6, r6, hq⟩ := rep_queue t6 w6
    have hcs : cs = cs.take 1 ++ (cs.tail.take 1 ++ ((cs.drop 2).take 63 ++ ((cs.drop 65).take 1 ++ ((cs.drop 66).take 28 ++ ((cs.drop 94).take 2 ++ (cs.drop 96).take 1))))) := by
      have a1 := parts (l := cs) (o := 1) (n := 1)
      have a2 := parts (l := cs) (o := 2) (n := 63)
      have a3 := parts (l := cs) (o := 65) (n := 1)
      have a4 := parts (l := cs) (o := 66) (n := 28)
      have a5 := parts (l := cs) (o := 94) (n := 2)
      have a6 : cs.drop 96 = (cs.drop 96).take 1 := by rw [List.take_of_length_le]; rw [List.length_drop]; omega
      rw [← List.drop_one, ← a6, ← a5, ← a4, ← a3, ← a2, ← a1]
      exact (List.take_append_drop 1 cs).symm
    rw [e0, e1, e2, e3, e4, e5, e6] at hcs
    refine ⟨⟨q0, q1, s, set, L, ml, mn, q⟩, ⟨us, ut, ul, uq⟩, ?_, ⟨r2, r3, r4, r6⟩, hq⟩
    rw [hcs]
    simp [prC]
end
end Go.Proofs.YtkhlihpghbhppabGreat.Pv

