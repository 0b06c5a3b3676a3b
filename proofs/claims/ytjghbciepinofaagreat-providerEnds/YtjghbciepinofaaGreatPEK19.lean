/- Parts of the proof: CZ PDR PVO. -/
import Derived.Test.YtjghbciepinofaaGreatRows
import Derived.Test.YtjghbciepinofaaGreatPEK17
import Derived.Test.YtjghbciepinofaaGreatPEK23
import Derived.Test.YtjghbciepinofaaGreatPEK25
import Derived.Test.YtjghbciepinofaaGreatPEK30
import Derived.Test.YtjghbciepinofaaGreatPEK40
import Derived.Deep.Slices
import Derived.SizedLaws
set_option maxRecDepth 100000
namespace Go.Proofs.YtjghbciepinofaaGreat.Cd
open Go.RowKit
/-- the steps of a packet's bytes -/
def p1 (l : List Int) : Int × (List Int × Bool) := tk 1 (l, false)
def p2 (l : List Int) : Int × (List Int × Bool) := tk 6 (p1 l).2
def p3 (l : List Int) : Int × (List Int × Bool) := tk 1 (p2 l).2
def p4 (l : List Int) : Int × (List Int × Bool) := tk 7 (p3 l).2
def p5 (l : List Int) : Int × (List Int × Bool) := tk 1 (p4 l).2
def p6 (l : List Int) : List (Int × Int) × (List Int × Bool) := tkP (p5 l).1.toNat (p5 l).2
theorem flat_get (l : List (Int × Int)) : ∀ i, i < l.length → (l.flatMap fun p => [Value.int .i64 p.1, Value.int .i64 p.2])[i * 2]? = some (.int .i64 (l.getD i (0, 0)).1) ∧ (l.flatMap fun p => [Value.int .i64 p.1, Value.int .i64 p.2])[i * 2 + 1]? = some (.int .i64 (l.getD i (0, 0)).2) := by
  induction l with
  | nil => intro i hi; simp at hi
  | cons a t ih =>
    intro i hi
    match i with
    | 0 => simp
    | i + 1 =>
      have := ih i (by simpa using hi)
      rw [List.flatMap_cons, show (i + 1) * 2 = i * 2 + 1 + 1 by omega]
      simpa using this
theorem Row2.lies {w : World} {B : Nat} {u : Value} {l : List (Int × Int)} (h : Row2 w B u l) : ∃ a c g, u = .slice a l.length c ∧ l.length ≤ maxLen ∧ (0 < l.length → a = some ⟨g, 0, none⟩) ∧ PwsAt w g 0 l ∧ (0 < l.length → B ≤ g) ∧ ((a = none → c = 0) ∧ l.length ≤ c) := by
  rcases h.2 with ⟨rfl, h0⟩ | ⟨g, cap, cur, rfl, hb, hh, hn, hm, hs, ht⟩
  · exact ⟨none, 0, 0, by rw [h0], by omega, by omega, fun i hi => by omega, by omega, fun _ => rfl, by omega⟩
  · refine ⟨_, cap, g, rfl, by omega, fun _ => rfl, fun i hi => ?_, fun _ => hb, fun h => (by cases h), hn⟩
    have h' : w.ownsRow B 74 2 (.slice (some ⟨g, 0, none⟩) l.length cap) l.length (l.flatMap fun p => [Value.int .i64 p.1, Value.int .i64 p.2]) := h
    rw [Nat.zero_add, h'.cellAt _ (by omega), h'.cellAt _ (by omega)]
    exact flat_get l i hi
theorem Row1.lies {w : World} {B : Nat} {u : Value} {l : List Int} (h : Row1 w B u l) : ∃ a c g, u = .slice a l.length c ∧ l.length ≤ maxLen ∧ (0 < l.length → a = some ⟨g, 0, none⟩) ∧ IntsAt w g 0 l ∧ (0 < l.length → B ≤ g) ∧ ((a = none → c = 0) ∧ l.length ≤ c) := by
  rcases h.2 with ⟨rfl, h0⟩ | ⟨g, cap, cur, rfl, hb, hh, hn, hm, hs, ht⟩
  · exact ⟨none, 0, 0, by rw [h0], by omega, by omega, fun i hi => by omega, by omega, fun _ => rfl, by omega⟩
  · refine ⟨_, cap, g, rfl, by omega, fun _ => rfl, fun i hi => ?_, fun _ => hb, fun h => (by cases h), hn⟩
    have h' : w.ownsRow B 3 1 (.slice (some ⟨g, 0, none⟩) l.length cap) l.length (l.map (Value.int .i64)) := h
    rw [Nat.zero_add, h'.cellAt _ (by omega)]
    simp [List.getD, hi]
theorem BoxAt.six {w : World} {b : Nat} {k i v n s d : Value} (h : BoxAt w b k i v n s d) : ∀ o, o < 6 → ∃ u, w.cell? ⟨b, o, none⟩ = some u := fun o ho => by
  obtain ⟨d0, d1, d2, d3, d4, d5, _⟩ := h.cells
  match o, ho with
  | 0, _ => exact ⟨_, d0⟩
  | 1, _ => exact ⟨_, d1⟩
  | 2, _ => exact ⟨_, d2⟩
  | 3, _ => exact ⟨_, d3⟩
  | 4, _ => exact ⟨_, d4⟩
  | 5, _ => exact ⟨_, d5⟩
theorem Lies.set6 {w : World} {S : List (Int × Int)} {D : List Int} {sa da : Option Addr} {sb so db dO : Nat} (L : Lies w S D sa da sb so db dO) (c : Nat) (hc : (0 < S.length → sb ≠ c) ∧ (0 < D.length → db ≠ c)) (v0 v1 v2 v3 v4 v5 : Value) : Lies (set6 w c v0 v1 v2 v3 v4 v5) S D sa da sb so db dO := by
  refine ⟨L.hls, L.hld, L.hsa, L.hda, fun i hi => ?_, fun i hi => ?_⟩
  · have h := L.PS i hi
    exact ⟨(cell_of_heap (set6_other v0 v1 v2 v3 v4 v5 (hc.1 (by omega))) _).trans h.1, (cell_of_heap (set6_other v0 v1 v2 v3 v4 v5 (hc.1 (by omega))) _).trans h.2⟩
  · exact (cell_of_heap (set6_other v0 v1 v2 v3 v4 v5 (hc.2 (by omega))) _).trans (L.PD i hi)
end Go.Proofs.YtjghbciepinofaaGreat.Cd

set_option maxRecDepth 100000
namespace Go.Proofs.YtjghbciepinofaaGreat.Pv
open Go.RowKit
def isT (n : Int) : Bool := decide (0 ≤ n) && decide (n ≤ 1099511627776)
theorem Rep.clip {P : Nat → Prop} {w : World} {A : Option Addr} {n C sz bts : Nat} {cs : List Value} (h : Rep P w (.slice A n C) sz bts cs) : Rep P w (.slice A n n) sz bts cs := by
  obtain ⟨A', n', C', h1, h2, h3, h4, h5⟩ := h
  cases h1
  refine ⟨A, n, n, rfl, h2, h3, ⟨fun e => ?_, Nat.le_refl _⟩, h5⟩
  have := h4.1 e
  omega
end Go.Proofs.YtjghbciepinofaaGreat.Pv

set_option maxRecDepth 100000
namespace Go.Proofs.YtjghbciepinofaaGreat.Pv
open Go.ChangeShapes Go.WideShapes Go.ChangeAt Go.RowKit Go.Deep
section
variable {H : Type} {enc : TypeId × Value → H} {W : World}
theorem cAs : Tryz.prog.cellsOf 79 = 7 := by kernel_rfl
theorem cAss : Tryz.prog.cellsOf 45 = 1 := by kernel_rfl
theorem cMe : Tryz.prog.cellsOf 44 = 2 := by kernel_rfl
theorem cLk : Tryz.prog.cellsOf 41 = 14 := by kernel_rfl
theorem cLks : Tryz.prog.cellsOf 42 = 28 := by kernel_rfl
theorem cPv : Tryz.prog.cellsOf 47 = 97 := by kernel_rfl
theorem yAs : Tryz.prog.bytesOf 79 = 88 := by kernel_rfl
theorem open_as {m : Nat} {l : List Value} {y : DataW H × List MemPlace} (h : DataW.trod enc Tryz.prog W 0 (fun _ => true) true m 79 l = some y) (hw : ∀ x ∈ DataW.weights Tryz.prog 79 y.1, x ≤ reachBytes) : ∃ b : (Int × Pkt) × (Value × Value), l = akL b.1 b.2 ∧ (Rep (fun _ => True) W b.2.1 2 16 (pwC b.1.2.S) ∧ Rep (fun _ => True) W b.2.2 1 8 (inC b.1.2.D)) := by
  obtain ⟨xs, n, _, hxs, hl, hxl, hx⟩ := DataW.trod_struct Tryz.underlying79 h
  rw [cAs] at hl
  match l, hl with
  | [a0, a1, a2, a3, a4, a5, a6], _ =>
    match xs, hxl with
    | [y0, y1], _ =>
      have t0 := hx 0 _ rfl
      have t1 := hx 1 _ rfl
      simp [cI, cPk] at t0 t1
      subst hxs
      have w1 : ∀ x ∈ DataW.weights Tryz.prog 49 y1.1, x ≤ reachBytes := fun x hx => hw x (by simp [DataW.weights, Tryz.underlying79, DataW.weightsEach, hx])
      obtain ⟨q0, e0⟩ := open_i t0
      obtain ⟨x, u, e1, r1, r2⟩ := open_pk t1 w1
      simp at e0 e1
      obtain ⟨f1, f2, f3, f4, f5, f6⟩ := e1
      subst e0 f1 f2 f3 f4 f5 f6
      exact ⟨((q0, x), u), rfl, r1, r2⟩
theorem quL_flat : ∀ L : List ((Int × Pkt) × (Value × Value)), L.flatMap (fun b => akL b.1 b.2) = quL (L.map (·.1)) (L.map (·.2))
  | [] => rfl
  | a :: L => by rw [List.flatMap_cons, quL_flat L]; rfl
theorem rep_queue {m : Nat} {l : List Value} {y : DataW H × List MemPlace} (h : DataW.trod enc Tryz.prog W 0 (fun _ => true) true m 45 l = some y) (hw : ∀ x ∈ DataW.weights Tryz.prog 45 y.1, x ≤ reachBytes) : ∃ (q : List (Int × Pkt)) (v : Value), l = [v] ∧ QRep (fun _ => True) W v q ∧ q.length * 88 ≤ 140737488351232 := by
  obtain ⟨L, v, e, hr, hq, hl⟩ := open_rep ((0, ⟨0, 0, 0, 0, [], []⟩), (.slice none 0 0, .slice none 0 0)) (fun b : (Int × Pkt) × (Value × Value) => akL b.1 b.2) (fun b => Rep (fun _ => True) W b.2.1 2 16 (pwC b.1.2.S) ∧ Rep (fun _ => True) W b.2.2 1 8 (inC b.1.2.D)) Tryz.underlying45 cAs yAs (fun _ => rfl) (by decide) h hw (fun h hw => open_as h hw)
  rw [quL_flat] at hr
  refine ⟨L.map (·.1), v, e, ⟨L.map (·.2), by simp, ?_, fun i x y hx hy => ?_⟩, by simpa using hl⟩
  · obtain ⟨A, n, C, h1, h2, h3, h4, h5⟩ := hr
    exact ⟨A, n, C, h1, h2, by omega, h4, h5⟩
  · rw [List.getElem?_map] at hx hy
    rcases hb : L[i]? with _ | b
    · rw [hb] at hx; simp at hx
    · rw [hb] at hx hy
      simp at hx hy
      subst hx hy
      exact hq b (List.mem_of_getElem? hb)
theorem open_lk {m : Nat} {l : List Value} {y : DataW H × List MemPlace} (h : DataW.trod enc Tryz.prog W 0 (fun _ => true) true m 41 l = some y) (hw : ∀ x ∈ DataW.weights Tryz.prog 41 y.1, x ≤ reachBytes) : ∃ (x : Lk) (u : LkV), l = lkL x u ∧ LkIn (fun _ => True) W x u := by
  obtain ⟨xs, n, _, hxs, hl, hxl, hx⟩ := DataW.trod_struct Tryz.underlying41 h
  rw [cLk] at hl
  match l, hl with
  | [a0, a1, a2, a3, a4, a5, a6, a7, a8, a9, a10, a11, a12, a13], _ =>
    match xs, hxl with
    | [y0, y1, y2, y3, y4, y5, y6, y7], _ =>
      have t0 := hx 0 _ rfl
      have t1 := hx 1 _ rfl
      have t2 := hx 2 _ rfl
      have t3 := hx 3 _ rfl
      have t4 := hx 4 _ rfl
      have t5 := hx 5 _ rfl
      have t6 := hx 6 _ rfl
      have t7 := hx 7 _ rfl
      simp [cI, cT, cPws, cIs, cLn, cHd] at t0 t1 t2 t3 t4 t5 t6 t7
      subst hxs
      have w3 : ∀ x ∈ DataW.weights Tryz.prog 33 y3.1, x ≤ reachBytes := fun x hx => hw x (by simp [DataW.weights, Tryz.underlying41, DataW.weightsEach, hx])
      have w5 : ∀ x ∈ DataW.weights Tryz.prog 34 y5.1, x ≤ reachBytes := fun x hx => hw x (by simp [DataW.weights, Tryz.underlying41, DataW.weightsEach, hx])
      have w6 : ∀ x ∈ DataW.weights Tryz.prog 37 y6.1, x ≤ reachBytes := fun x hx => hw x (by simp [DataW.weights, Tryz.underlying41, DataW.weightsEach, hx])
      obtain ⟨q0, e0⟩ := open_t t0
      obtain ⟨q1, e1⟩ := open_t t1
      obtain ⟨q2, e2⟩ := open_i t2
      obtain ⟨T, u3, e3, r3⟩ := rep_pws t3 w3
      obtain ⟨q4, e4⟩ := open_t t4
      obtain ⟨D, u5, e5, r5⟩ := rep_ints t5 w5
      obtain ⟨x6, u6, e6, r6, r7⟩ := open_ln t6 w6
      obtain ⟨h0, h1, h2, h3, e7⟩ := open_hd t7
      simp at e0 e1 e2 e3 e4 e5 e6 e7
      obtain ⟨f6, f7, f8, f9⟩ := e6
      obtain ⟨g0, g1, g2, g3⟩ := e7
      subst e0 e1 e2 e3 e4 e5 f6 f7 f8 f9 g0 g1 g2 g3
      exact ⟨⟨q0, q1, q2, T, q4, D, x6, h0, h1, h2, h3⟩, ⟨_, _, u6.1, u6.2⟩, rfl, r3, r5, r6.c, r7.c⟩
theorem rep_waits {m : Nat} {l : List Value} {y : DataW H × List MemPlace} (h : DataW.trod enc Tryz.prog W 0 (fun _ => true) true m 30 l = some y) (hw : ∀ x ∈ DataW.weights Tryz.prog 30 y.1, x ≤ reachBytes) : ∃ (L : List Wt) (v : Value), l = [v] ∧ Rep (fun _ => True) W v 8 64 (wsL L) := by
  obtain ⟨L, v, e, hr, -, -⟩ := open_rep ⟨0, 0, 0, 0, 0, 0, 0, 0⟩ wtL (fun _ => True) Tryz.underlying30 cW bytesW (fun _ => rfl) (by decide) h hw (fun h _ => by obtain ⟨b, e⟩ := open_wt h; exact ⟨b, e, trivial⟩)
  exact ⟨L, v, e, hr⟩
theorem open_st {m : Nat} {l : List Value} {y : DataW H × List MemPlace} (h : DataW.trod enc Tryz.prog W 0 (fun _ => true) true m 32 l = some y) (hw : ∀ x ∈ DataW.weights Tryz.prog 32 y.1, x ≤ reachBytes) : ∃ (s : St) (v : Value), l = (stC s v).toList ∧ Rep (fun _ => True) W v 8 64 (wsL s.W) := by
  obtain ⟨xs, n, _, hxs, hl, hxl, hx⟩ := DataW.trod_struct Tryz.underlying32 h
  rw [cS] at hl
  match xs, hxl with
  | [y0, y1, y2, y3, y4], _ =>
    have t0 := hx 0 _ rfl
    have t1 := hx 1 _ rfl
    have t2 := hx 2 _ rfl
    have t3 := hx 3 _ rfl
    have t4 := hx 4 _ rfl
    simp [cI, cB, cVs, cSh, cWs] at t0 t1 t2 t3 t4
    subst hxs
    have w3 : ∀ x ∈ DataW.weights Tryz.prog 30 y3.1, x ≤ reachBytes := fun x hx => hw x (by simp [DataW.weights, Tryz.underlying32, DataW.weightsEach, hx])
    obtain ⟨b, e0⟩ := open_bk t0
    obtain ⟨V, e1⟩ := open_vds t1
    obtain ⟨S, e2⟩ := open_shs t2
    obtain ⟨L, v, e3, r3⟩ := rep_waits t3 w3
    obtain ⟨q, e4⟩ := open_i t4
    have hcs : l = l.take 7 ++ ((l.drop 7).take 30 ++ ((l.drop 37).take 24 ++ ((l.drop 61).take 1 ++ (l.drop 62).take 1))) := by
      have a1 := parts (l := l) (o := 7) (n := 30)
      have a2 := parts (l := l) (o := 37) (n := 24)
      have a3 := parts (l := l) (o := 61) (n := 1)
      have a4 : l.drop 62 = (l.drop 62).take 1 := by rw [List.take_of_length_le]; rw [List.length_drop]; omega
      rw [← a4, ← a3, ← a2, ← a1]
      simp
    rw [e0, e1, e2, e3, e4] at hcs
    exact ⟨⟨b, V, S, L, q⟩, v, by rw [hcs]; rfl, r3⟩
theorem open_me {m : Nat} {l : List Value} {y : DataW H × List MemPlace} (h : DataW.trod enc Tryz.prog W 0 (fun _ => true) true m 44 l = some y) : ∃ a b : Int, l = [.int .i64 a, .int .i64 b] := by
  obtain ⟨xs, n, _, _, hl, hxl, hx⟩ := DataW.trod_struct Tryz.underlying44 h
  rw [cMe] at hl
  match l, hl with
  | [a0, a1], _ =>
    match xs, hxl with
    | [y0, y1], _ =>
      have t0 := hx 0 _ rfl
      have t1 := hx 1 _ rfl
      simp [cI] at t0 t1
      obtain ⟨q0, e0⟩ := open_i t0
      obtain ⟨q1, e1⟩ := open_i t1
      simp at e0 e1
      subst e0 e1
      exact ⟨q0, q1, rfl⟩
theorem open_lks {m : Nat} {l : List Value} {y : DataW H × List MemPlace} (h : DataW.trod enc Tryz.prog W 0 (fun _ => true) true m 42 l = some y) (hw : ∀ x ∈ DataW.weights Tryz.prog 42 y.1, x ≤ reachBytes) : ∃ (L : Nat → Lk) (u : Nat → LkV), l = lkL (L 0) (u 0) ++ lkL (L 1) (u 1) ∧ ∀ c, c < 2 → LkIn (fun _ => True) W (L c) (u c) := by
  obtain ⟨xs, n, _, hxs, hl, hxl, hx⟩ := DataW.trod_array Tryz.underlying42 h
  rw [cLks] at hl
  subst hxs
  have hwe : ∀ i, i < 2 → ∀ d, xs[i]? = some d → ∀ x ∈ DataW.weights Tryz.prog 41 d.1, x ≤ reachBytes := fun i hi d hd x hx => hw x (by
    simp only [DataW.weights, Tryz.underlying42]
    exact weights_all (d := d.1) (List.mem_map.2 ⟨d, List.mem_of_getElem? hd, rfl⟩) x hx)
  obtain ⟨f, hf⟩ := pick_all (n := 2) (p := fun i (b : Lk × LkV) => (l.drop (i * 14)).take 14 = lkL b.1 b.2 ∧ LkIn (fun _ => True) W b.1 b.2) (⟨false, false, 0, [], false, [], ⟨[], [], 0, false⟩, 0, 0, 0, 0⟩, ⟨.slice none 0 0, .slice none 0 0, .slice none 0 0, .slice none 0 0⟩) (fun i hi => by
    have := hx i hi
    rw [cLk, List.getElem?_eq_getElem (by omega)] at this
    obtain ⟨x, u, e, r⟩ := open_lk this (hwe i hi _ (List.getElem?_eq_getElem (by omega)))
    exact ⟨(x, u), e, r⟩)
  refine ⟨fun i => (f i).1, fun i => (f i).2, ?_, fun c hc => (hf c hc).2⟩
  rw [← (hf 0 (by omega)).1, ← (hf 1 (by omega)).1]
  have a1 := parts (l := l) (o := 0) (n := 14)
  have a2 : l.drop 14 = (l.drop 14).take 14 := by rw [List.take_of_length_le]; rw [List.length_drop]; omega
  simp only [Nat.zero_mul, Nat.one_mul, Nat.zero_add] at a1 ⊢
  rw [← a2, ← a1, List.drop_zero]
/-- a provider that came in -/
theorem open_prov {r : Reach} {b0 : Nat} {v : Value} {d : DataW H} {p : List MemPlace} (hv : Value.okWide Tryz.prog W r b0 47 v) (h : DataW.Trod enc Tryz.prog W 0 (fun _ => true) true 47 v d p) (hw : ∀ x ∈ DataW.weights Tryz.prog 47 d, x ≤ reachBytes) :
    ∃ (x : Pr) (u : PrV), v = .agg (prC x u) ∧ PIn (fun _ => True) W x u ∧ x.q.length * 88 ≤ 140737488351232 := by
  obtain ⟨cs, rfl, hsz⟩ := okWide_struct Tryz.underlying47 hv
  rw [cPv] at hsz
  obtain ⟨cs⟩ := cs
  obtain ⟨fuel, hf⟩ := h
  obtain ⟨xs, n, _, hxs, hl, hxl, hx⟩ := DataW.trod_struct Tryz.underlying47 hf
  match xs, hxl with
  | [y0, y1, y2, y3, y4, y5, y6], _ =>
    have t0 := hx 0 _ rfl
    have t1 := hx 1 _ rfl
    have t2 := hx 2 _ rfl
    have t3 := hx 3 _ rfl
    have t4 := hx 4 _ rfl
    have t5 := hx 5 _ rfl
    have t6 := hx 6 _ rfl
    simp [Value.cells, cI, cS, cPws, cLks, cMe, cAss] at t0 t1 t2 t3 t4 t5 t6 hsz
    simp only [Prod.mk.injEq] at hxs
    obtain ⟨rfl, _⟩ := hxs
    have w2 : ∀ x ∈ DataW.weights Tryz.prog 32 y2.1, x ≤ reachBytes := fun x hx => hw x (by simp [DataW.weights, Tryz.underlying47, DataW.weightsEach, hx])
    have w3 : ∀ x ∈ DataW.weights Tryz.prog 33 y3.1, x ≤ reachBytes := fun x hx => hw x (by simp [DataW.weights, Tryz.underlying47, DataW.weightsEach, hx])
    have w4 : ∀ x ∈ DataW.weights Tryz.prog 42 y4.1, x ≤ reachBytes := fun x hx => hw x (by simp [DataW.weights, Tryz.underlying47, DataW.weightsEach, hx])
    have w6 : ∀ x ∈ DataW.weights Tryz.prog 45 y6.1, x ≤ reachBytes := fun x hx => hw x (by simp [DataW.weights, Tryz.underlying47, DataW.weightsEach, hx])
    obtain ⟨q0, e0⟩ := open_i t0
    obtain ⟨q1, e1⟩ := open_i t1
    obtain ⟨s, us, e2, r2⟩ := open_st t2 w2
    obtain ⟨set, ut, e3, r3⟩ := rep_pws t3 w3
    obtain ⟨L, ul, e4, r4⟩ := open_lks t4 w4
    obtain ⟨ml, mn, e5⟩ := open_me t5
    obtain ⟨q, uq, e6, r6, hq⟩ := rep_queue t6 w6
    have hcs : cs = cs.take 1 ++ (cs.tail.take 1 ++ ((cs.drop 2).take 63 ++ ((cs.drop 65).take 1 ++ ((cs.drop 66).take 28 ++ ((cs.drop 94).take 2 ++ (cs.drop 96).take 1))))) := by
      have a1 := parts (l := cs) (o := 1) (n := 1)
      have a2 := parts (l := cs) (o := 2) (n := 63)
      have a3 := parts (l := cs) (o := 65) (n := 1)
      have a4 := parts (l := cs) (o := 66) (n := 28)
      have a5 := parts (l := cs) (o := 94) (n := 2)
      have a6 : cs.drop 96 = (cs.drop 96).take 1 := by rw [List.take_of_length_le]; rw [List.length_drop]; omega
      rw [← List.drop_one, ← a6, ← a5, ← a4, ← a3, ← a2, ← a1]
      exact (List.take_append_drop 1 cs).symm
    rw [e0, e1, e2, e3, e4, e5, e6] at hcs
    refine ⟨⟨q0, q1, s, set, L, ml, mn, q⟩, ⟨us, ut, ul, uq⟩, ?_, ⟨r2, r3, r4, r6⟩, hq⟩
    rw [hcs]
    simp [prC]
end
end Go.Proofs.YtjghbciepinofaaGreat.Pv

