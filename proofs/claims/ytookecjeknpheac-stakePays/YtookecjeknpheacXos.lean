/- A stake that came in, opened. A stake that came in, opened: its list has room for itself; a wait that came in. A wait that came in, opened. -/
import Derived.Test.YtookecjeknpheacXsa
import Derived.WalkKit
import Derived.ProofKit
import Derived.OpenShut
import Derived.Deep.Slices
import Derived.SizedLaws
import Derived.Laws.IdiomArrays
set_option maxRecDepth 100000
namespace Go.Proofs.Ytookecjeknpheac
open Go.ChangeShapes Go.WideShapes Go.ChangeAt Go.RowKit Go.Deep
theorem chunks {α : Type} (k : Nat) : ∀ (n : Nat) (l : List α), l.length = n * k → l = (List.range n).flatMap fun i => (l.drop (i * k)).take k
  | 0, l, h => by simp at h; subst h; rfl
  | n + 1, l, h => by
    rw [List.range_succ, List.flatMap_append]
    have hm : (n + 1) * k = n * k + k := Nat.succ_mul n k
    have h1 := chunks k n (l.take (n * k)) (by rw [List.length_take]; omega)
    have h2 : ((List.range n).flatMap fun i => ((l.take (n * k)).drop (i * k)).take k) = (List.range n).flatMap fun i => (l.drop (i * k)).take k := by
      refine flatMap_congr_range fun i hi => ?_
      have hik : i * k + k ≤ n * k := by rw [← Nat.succ_mul]; exact Nat.mul_le_mul_right k hi
      rw [List.drop_take, List.take_take, Nat.min_eq_left (by omega)]
    rw [← h2, ← h1]
    simp only [List.flatMap_cons, List.flatMap_nil, List.append_nil]
    rw [List.take_of_length_le (l := l.drop (n * k)) (by rw [List.length_drop]; omega), List.take_append_drop]
theorem pick_all {β : Type} {p : Nat → β → Prop} (d : β) {n : Nat} (h : ∀ i, i < n → ∃ y, p i y) : ∃ f : Nat → β, ∀ i, i < n → p i (f i) := by
  refine ⟨fun i => if hi : i < n then Classical.choose (h i hi) else d, fun i hi => ?_⟩
  simp only [dif_pos hi]
  exact Classical.choose_spec (h i hi)
section
variable {H : Type} {enc : TypeId × Value → H} {W : World}
theorem open_arr {β : Type} (d : β) (f : β → List Value) {t e : TypeId} {n fuel : Nat} {cs : List Value} {x : DataW H × List MemPlace} (ht : Try.prog.underlying t = some (.array n e)) (hc : Try.prog.cellsOf t = n * Try.prog.cellsOf e)
    (h : DataW.trod enc Try.prog W 0 (fun _ => true) true fuel t cs = some x)
    (he : ∀ {m : Nat} {l : List Value} {y : DataW H × List MemPlace}, DataW.trod enc Try.prog W 0 (fun _ => true) true m e l = some y → ∃ b, l = f b) : ∃ g : Nat → β, cs = (List.range n).flatMap fun i => f (g i) := by
  obtain ⟨xs, m, _, _, hl, hxl, hx⟩ := DataW.trod_array ht h
  obtain ⟨g, hg⟩ := pick_all (n := n) (p := fun i b => (cs.drop (i * Try.prog.cellsOf e)).take (Try.prog.cellsOf e) = f b) d (fun i hi => by
    have := hx i hi
    rw [List.getElem?_eq_getElem (by omega)] at this
    exact he this)
  refine ⟨g, ?_⟩
  rw [chunks (Try.prog.cellsOf e) n cs (by rw [hl, hc])]
  exact flatMap_congr_range hg
theorem open_i {m : Nat} {l : List Value} {y : DataW H × List MemPlace} (h : DataW.trod enc Try.prog W 0 (fun _ => true) true m 3 l = some y) : ∃ b : Int, l = [.int .i64 b] := by
  obtain ⟨q, e, _⟩ := DataW.trod_int Try.underlying3 h
  exact ⟨q, e⟩
theorem open_t {m : Nat} {l : List Value} {y : DataW H × List MemPlace} (h : DataW.trod enc Try.prog W 0 (fun _ => true) true m 4 l = some y) : ∃ b : Bool, l = [.bool b] := by
  obtain ⟨q, e, _⟩ := DataW.trod_bool Try.underlying4 h
  exact ⟨q, e⟩
theorem cI : Try.prog.cellsOf 3 = 1 := by kernel_rfl
theorem cT : Try.prog.cellsOf 4 = 1 := by kernel_rfl
theorem cA : Try.prog.cellsOf 22 = 4 := by kernel_rfl
theorem cB : Try.prog.cellsOf 24 = 7 := by kernel_rfl
theorem cV : Try.prog.cellsOf 37 = 5 := by kernel_rfl
theorem cVs : Try.prog.cellsOf 38 = 30 := by kernel_rfl
theorem cRow : Try.prog.cellsOf 39 = 6 := by kernel_rfl
theorem cSh : Try.prog.cellsOf 40 = 24 := by kernel_rfl
theorem cWs : Try.prog.cellsOf 41 = 1 := by kernel_rfl
theorem cS : Try.prog.cellsOf 43 = 63 := by kernel_rfl
theorem cW : Try.prog.cellsOf 53 = 8 := by kernel_rfl
theorem cH : Try.prog.cellsOf 51 = 2 := by kernel_rfl
theorem open_row {m : Nat} {l : List Value} {y : DataW H × List MemPlace} (h : DataW.trod enc Try.prog W 0 (fun _ => true) true m 39 l = some y) : ∃ r : Nat → Int, l = (rowC r).toList := by
  obtain ⟨g, rfl⟩ := open_arr 0 (fun b : Int => [.int .i64 b]) Try.underlying39 (by rw [cRow, cI]) h open_i
  exact ⟨g, rfl⟩
theorem open_shs {m : Nat} {l : List Value} {y : DataW H × List MemPlace} (h : DataW.trod enc Try.prog W 0 (fun _ => true) true m 40 l = some y) : ∃ S : Nat → Nat → Int, l = (shC S).toList := by
  obtain ⟨g, rfl⟩ := open_arr (fun _ => 0) (fun r : Nat → Int => (rowC r).toList) Try.underlying40 (by rw [cSh, cRow]) h open_row
  exact ⟨g, rfl⟩
theorem open_hs {m : Nat} {l : List Value} {y : DataW H × List MemPlace} (h : DataW.trod enc Try.prog W 0 (fun _ => true) true m 51 l = some y) : ∃ a b : Int, l = [.int .i64 a, .int .i64 b] := by
  obtain ⟨g, rfl⟩ := open_arr 0 (fun b : Int => [.int .i64 b]) Try.underlying51 (by rw [cH, cI]) h open_i
  exact ⟨g 0, g 1, rfl⟩
theorem open_fr {m : Nat} {l : List Value} {y : DataW H × List MemPlace} (h : DataW.trod enc Try.prog W 0 (fun _ => true) true m 22 l = some y) : ∃ g : Nat → Int, l = [.int .i64 (g 0), .int .i64 (g 1), .int .i64 (g 2), .int .i64 (g 3)] := by
  obtain ⟨g, rfl⟩ := open_arr 0 (fun b : Int => [.int .i64 b]) Try.underlying22 (by rw [cA, cI]) h open_i
  exact ⟨g, rfl⟩
theorem parts {α : Type} {l : List α} {o n : Nat} : l.drop o = (l.drop o).take n ++ l.drop (o + n) := by
  rw [← List.drop_drop, List.take_append_drop]
theorem open_vd {m : Nat} {l : List Value} {y : DataW H × List MemPlace} (h : DataW.trod enc Try.prog W 0 (fun _ => true) true m 37 l = some y) : ∃ x : Vd, l = (vdC x).toList := by
  obtain ⟨xs, n, _, _, hl, hxl, hx⟩ := DataW.trod_struct Try.underlying37 h
  rw [cV] at hl
  match l, hl with
  | [a0, a1, a2, a3, a4], _ =>
    match xs, hxl with
    | [y0, y1, y2, y3, y4], _ =>
      have t0 := hx 0 _ rfl
      have t1 := hx 1 _ rfl
      have t2 := hx 2 _ rfl
      have t3 := hx 3 _ rfl
      have t4 := hx 4 _ rfl
      simp [cI, cT] at t0 t1 t2 t3 t4
      obtain ⟨q0, e0⟩ := open_i t0
      obtain ⟨q1, e1⟩ := open_i t1
      obtain ⟨q2, e2⟩ := open_i t2
      obtain ⟨q3, e3⟩ := open_t t3
      obtain ⟨q4, e4⟩ := open_t t4
      simp at e0 e1 e2 e3 e4
      subst e0 e1 e2 e3 e4
      exact ⟨⟨q0, q1, q2, q3, q4⟩, rfl⟩
theorem open_vds {m : Nat} {l : List Value} {y : DataW H × List MemPlace} (h : DataW.trod enc Try.prog W 0 (fun _ => true) true m 38 l = some y) : ∃ V : Nat → Vd, l = (vsC V).toList := by
  obtain ⟨g, rfl⟩ := open_arr ⟨0, 0, 0, false, false⟩ (fun x : Vd => (vdC x).toList) Try.underlying38 (by rw [cVs, cV]) h open_vd
  exact ⟨g, rfl⟩
theorem open_bk {m : Nat} {l : List Value} {y : DataW H × List MemPlace} (h : DataW.trod enc Try.prog W 0 (fun _ => true) true m 24 l = some y) : ∃ b : Bk, l = (bkC b).toList := by
  obtain ⟨xs, n, _, _, hl, hxl, hx⟩ := DataW.trod_struct Try.underlying24 h
  rw [cB] at hl
  match l, hl with
  | [a0, a1, a2, a3, a4, a5, a6], _ =>
    match xs, hxl with
    | [y0, y1, y2, y3], _ =>
      have t0 := hx 0 _ rfl
      have t1 := hx 1 _ rfl
      have t2 := hx 2 _ rfl
      have t3 := hx 3 _ rfl
      simp [cI, cA] at t0 t1 t2 t3
      obtain ⟨g, e0⟩ := open_fr t0
      obtain ⟨q1, e1⟩ := open_i t1
      obtain ⟨q2, e2⟩ := open_i t2
      obtain ⟨q3, e3⟩ := open_i t3
      simp at e0 e1 e2 e3
      obtain ⟨e01, e02, e03, e04⟩ := e0
      subst e01 e02 e03 e04 e1 e2 e3
      exact ⟨⟨g 0, g 1, g 2, g 3, q1, q2, q3⟩, rfl⟩
theorem open_wt {m : Nat} {l : List Value} {y : DataW H × List MemPlace} (h : DataW.trod enc Try.prog W 0 (fun _ => true) true m 53 l = some y) : ∃ x : Wt, l = (wtC x).toList := by
  obtain ⟨xs, n, _, _, hl, hxl, hx⟩ := DataW.trod_struct Try.underlying53 h
  rw [cW] at hl
  match l, hl with
  | [a0, a1, a2, a3, a4, a5, a6, a7], _ =>
    match xs, hxl with
    | [y0, y1, y2, y3, y4, y5, y6], _ =>
      have t0 := hx 0 _ rfl
      have t1 := hx 1 _ rfl
      have t2 := hx 2 _ rfl
      have t3 := hx 3 _ rfl
      have t4 := hx 4 _ rfl
      have t5 := hx 5 _ rfl
      have t6 := hx 6 _ rfl
      simp [cI, cH] at t0 t1 t2 t3 t4 t5 t6
      obtain ⟨q0, e0⟩ := open_i t0
      obtain ⟨q1, e1⟩ := open_i t1
      obtain ⟨q2, e2⟩ := open_i t2
      obtain ⟨q3, e3⟩ := open_i t3
      obtain ⟨q4, e4⟩ := open_i t4
      obtain ⟨q5, e5⟩ := open_i t5
      obtain ⟨q6, q7, e6⟩ := open_hs t6
      simp at e0 e1 e2 e3 e4 e5 e6
      obtain ⟨e6, e7⟩ := e6
      subst e0 e1 e2 e3 e4 e5 e6 e7
      exact ⟨⟨q0, q1, q2, q3, q4, q5, q6, q7⟩, rfl⟩
theorem bytesW : Try.prog.bytesOf 53 = 64 := by kernel_rfl
theorem open_ws {m : Nat} {l : List Value} {y : DataW H × List MemPlace} (h : DataW.trod enc Try.prog W 0 (fun _ => true) true m 41 l = some y) (hw : ∀ x ∈ DataW.weights Try.prog 41 y.1, x ≤ reachBytes) :
    ∃ (L : List Wt) (ao : Option Addr) (c sb so : Nat), l = [.slice ao L.length c] ∧ WsAt W ao sb so L := by
  rcases open_slice Try.underlying41 h with ⟨h0, _⟩ | ⟨a, len, cap, k, n, D, Pl, rfl, _, hlc, hmx, hk, hy, hx⟩
  · exact ⟨[], none, 0, 0, 0, h0, fun h => absurd h (by simp), by simp, fun i x h => by simp at h⟩
  simp only [if_true] at hk
  subst hk
  rw [cW] at hx
  obtain ⟨g, hg⟩ := pick_all (n := k) (p := fun i (x : Wt) => W.cells? 0 (a.add (i * 8)) 8 = some (wtC x).toList) ⟨0, 0, 0, 0, 0, 0, 0, 0⟩ (fun i hi => by
    obtain ⟨cs', h1, h2⟩ := hx i hi
    obtain ⟨x, rfl⟩ := open_wt h2
    exact ⟨x, h1⟩)
  have hlen : ((List.range len).map g).length = len := by simp
  have hb : len * 64 ≤ 140737488351232 := by
    subst hy
    have := hw ((len + (k - len)) * 64) (by simp [DataW.weights, Try.underlying41, bytesW])
    have e : reachBytes = 140737488351232 := rfl
    omega
  by_cases h0 : len = 0
  · subst h0
    exact ⟨[], some a, k, 0, 0, rfl, fun h => absurd h (by simp), by simp, fun i x h => by simp at h⟩
  have hcell : ∀ i, i < k → ∀ j v, (wtC (g i)).toList[j]? = some v → W.cell? ((a.add (i * 8)).add j) = some v := fun i hi j v hv => by
    obtain ⟨_, hlen', hc⟩ := World.cells?_some (hg i hi)
    have hj : j < 8 := by have := (List.getElem?_eq_some_iff.1 hv).1; simpa [wtC] using this
    rw [hc j hj]
    exact hv
  obtain ⟨b, off, spot⟩ := a
  have hspot : spot = none := by
    have := hcell 0 (by omega) 0 _ rfl
    simpa [Addr.add] using World.cell?_spot this
  subst hspot
  refine ⟨(List.range len).map g, some ⟨b, off, none⟩, k, b, off, by rw [hlen], fun _ => rfl, by rw [hlen]; exact hb, fun i x hi => ?_⟩
  have hil : i < len := by have := (List.getElem?_eq_some_iff.1 hi).1; simpa using this
  obtain rfl : g i = x := by simpa [hil] using hi
  have hc := hcell i (by omega)
  simp only [Addr.add_lit] at hc
  exact ⟨hc 0 _ rfl, hc 1 _ rfl, hc 2 _ rfl, hc 3 _ rfl, hc 4 _ rfl, hc 5 _ rfl, hc 6 _ rfl, hc 7 _ rfl⟩
theorem open_stake {r : Reach} {b0 : Nat} {v : Value} {d : DataW H} {p : List MemPlace} (hv : Value.okWide Try.prog W r b0 43 v) (h : DataW.Trod enc Try.prog W 0 (fun _ => true) true 43 v d p) (hw : ∀ x ∈ DataW.weights Try.prog 43 d, x ≤ reachBytes) :
    ∃ (s : St) (ao : Option Addr) (sb so c : Nat), v = .agg (stC s (.slice ao s.W.length c)) ∧ WsAt W ao sb so s.W := by
  obtain ⟨cs, rfl, hsz⟩ := okWide_struct Try.underlying43 hv
  rw [cS] at hsz
  obtain ⟨cs⟩ := cs
  obtain ⟨fuel, hf⟩ := h
  obtain ⟨xs, n, _, hxs, hl, hxl, hx⟩ := DataW.trod_struct Try.underlying43 hf
  match xs, hxl with
  | [y0, y1, y2, y3, y4], _ =>
    have t0 := hx 0 _ rfl
    have t1 := hx 1 _ rfl
    have t2 := hx 2 _ rfl
    have t3 := hx 3 _ rfl
    have t4 := hx 4 _ rfl
    simp [Value.cells, cI, cB, cVs, cSh, cWs] at t0 t1 t2 t3 t4 hsz
    simp only [Prod.mk.injEq] at hxs
    obtain ⟨rfl, _⟩ := hxs
    have w3 : ∀ x ∈ DataW.weights Try.prog 41 y3.1, x ≤ reachBytes := fun x hx => hw x (by simp [DataW.weights, Try.underlying43, DataW.weightsEach, hx])
    obtain ⟨b, e0⟩ := open_bk t0
    obtain ⟨V, e1⟩ := open_vds t1
    obtain ⟨S, e2⟩ := open_shs t2
    obtain ⟨L, ao, c, sb, so, e3, hW⟩ := open_ws t3 w3
    obtain ⟨q, e4⟩ := open_i t4
    have hcs : cs = cs.take 7 ++ ((cs.drop 7).take 30 ++ ((cs.drop 37).take 24 ++ ((cs.drop 61).take 1 ++ (cs.drop 62).take 1))) := by
      have a1 := parts (l := cs) (o := 7) (n := 30)
      have a2 := parts (l := cs) (o := 37) (n := 24)
      have a3 := parts (l := cs) (o := 61) (n := 1)
      have a4 : cs.drop 62 = (cs.drop 62).take 1 := by rw [List.take_of_length_le]; rw [List.length_drop]; omega
      rw [← a4, ← a3, ← a2, ← a1]
      simp
    rw [e0, e1, e2, e3, e4] at hcs
    refine ⟨⟨b, V, S, L, q⟩, ao, sb, so, c, ?_, hW⟩
    rw [hcs]
    rfl
theorem open_num {r : Reach} {b0 : Nat} {v : Value} {d : DataW H} {p : List MemPlace} (hv : Value.okWide Try.prog W r b0 3 v) (h : DataW.Trod enc Try.prog W 0 (fun _ => true) true 3 v d p) : ∃ n : Int, v = .int .i64 n := by
  obtain ⟨n, e, _⟩ := open_int Try.underlying3 hv h
  exact ⟨n, e⟩
end
end Go.Proofs.Ytookecjeknpheac
namespace Go.Proofs.Ytookecjeknpheac
open Go.ChangeShapes Go.WideShapes Go.ChangeAt Go.RowKit Go.Deep
section
variable {H : Type} {enc : TypeId × Value → H} {W : World}
theorem open_ws2 {m : Nat} {l : List Value} {y : DataW H × List MemPlace} (h : DataW.trod enc Try.prog W 0 (fun _ => true) true m 41 l = some y) (hw : ∀ x ∈ DataW.weights Try.prog 41 y.1, x ≤ reachBytes) :
    ∃ (L : List Wt) (ao : Option Addr) (c sb so : Nat), l = [.slice ao L.length c] ∧ L.length ≤ c ∧ WsAt W ao sb so L := by
  rcases open_slice Try.underlying41 h with ⟨h0, _⟩ | ⟨a, len, cap, k, n, D, Pl, rfl, _, hlc, hmx, hk, hy, hx⟩
  · exact ⟨[], none, 0, 0, 0, h0, Nat.zero_le _, fun h => absurd h (by simp), by simp, fun i x h => by simp at h⟩
  simp only [if_true] at hk
  subst hk
  rw [cW] at hx
  obtain ⟨g, hg⟩ := pick_all (n := k) (p := fun i (x : Wt) => W.cells? 0 (a.add (i * 8)) 8 = some (wtC x).toList) ⟨0, 0, 0, 0, 0, 0, 0, 0⟩ (fun i hi => by
    obtain ⟨cs', h1, h2⟩ := hx i hi
    obtain ⟨x, rfl⟩ := open_wt h2
    exact ⟨x, h1⟩)
  have hlen : ((List.range len).map g).length = len := by simp
  have hb : len * 64 ≤ 140737488351232 := by
    subst hy
    have := hw ((len + (k - len)) * 64) (by simp [DataW.weights, Try.underlying41, bytesW])
    have e : reachBytes = 140737488351232 := rfl
    omega
  by_cases h0 : len = 0
  · subst h0
    exact ⟨[], some a, k, 0, 0, rfl, Nat.zero_le _, fun h => absurd h (by simp), by simp, fun i x h => by simp at h⟩
  have hcell : ∀ i, i < k → ∀ j v, (wtC (g i)).toList[j]? = some v → W.cell? ((a.add (i * 8)).add j) = some v := fun i hi j v hv => by
    obtain ⟨_, hlen', hc⟩ := World.cells?_some (hg i hi)
    have hj : j < 8 := by have := (List.getElem?_eq_some_iff.1 hv).1; simpa [wtC] using this
    rw [hc j hj]
    exact hv
  obtain ⟨b, off, spot⟩ := a
  have hspot : spot = none := by
    have := hcell 0 (by omega) 0 _ rfl
    simpa [Addr.add] using World.cell?_spot this
  subst hspot
  refine ⟨(List.range len).map g, some ⟨b, off, none⟩, k, b, off, by rw [hlen], by rw [hlen]; exact hlc, fun _ => rfl, by rw [hlen]; exact hb, fun i x hi => ?_⟩
  have hil : i < len := by have := (List.getElem?_eq_some_iff.1 hi).1; simpa using this
  obtain rfl : g i = x := by simpa [hil] using hi
  have hc := hcell i (by omega)
  simp only [Addr.add_lit] at hc
  exact ⟨hc 0 _ rfl, hc 1 _ rfl, hc 2 _ rfl, hc 3 _ rfl, hc 4 _ rfl, hc 5 _ rfl, hc 6 _ rfl, hc 7 _ rfl⟩
theorem open_stake2 {r : Reach} {b0 : Nat} {v : Value} {d : DataW H} {p : List MemPlace} (hv : Value.okWide Try.prog W r b0 43 v) (h : DataW.Trod enc Try.prog W 0 (fun _ => true) true 43 v d p) (hw : ∀ x ∈ DataW.weights Try.prog 43 d, x ≤ reachBytes) :
    ∃ (s : St) (ao : Option Addr) (sb so c : Nat), v = .agg (stC s (.slice ao s.W.length c)) ∧ s.W.length ≤ c ∧ WsAt W ao sb so s.W := by
  obtain ⟨cs, rfl, hsz⟩ := okWide_struct Try.underlying43 hv
  rw [cS] at hsz
  obtain ⟨cs⟩ := cs
  obtain ⟨fuel, hf⟩ := h
  obtain ⟨xs, n, _, hxs, hl, hxl, hx⟩ := DataW.trod_struct Try.underlying43 hf
  match xs, hxl with
  | [y0, y1, y2, y3, y4], _ =>
    have t0 := hx 0 _ rfl
    have t1 := hx 1 _ rfl
    have t2 := hx 2 _ rfl
    have t3 := hx 3 _ rfl
    have t4 := hx 4 _ rfl
    simp [Value.cells, cI, cB, cVs, cSh, cWs] at t0 t1 t2 t3 t4 hsz
    simp only [Prod.mk.injEq] at hxs
    obtain ⟨rfl, _⟩ := hxs
    have w3 : ∀ x ∈ DataW.weights Try.prog 41 y3.1, x ≤ reachBytes := fun x hx => hw x (by simp [DataW.weights, Try.underlying43, DataW.weightsEach, hx])
    obtain ⟨b, e0⟩ := open_bk t0
    obtain ⟨V, e1⟩ := open_vds t1
    obtain ⟨S, e2⟩ := open_shs t2
    obtain ⟨L, ao, c, sb, so, e3, hLc, hW⟩ := open_ws2 t3 w3
    obtain ⟨q, e4⟩ := open_i t4
    have hcs : cs = cs.take 7 ++ ((cs.drop 7).take 30 ++ ((cs.drop 37).take 24 ++ ((cs.drop 61).take 1 ++ (cs.drop 62).take 1))) := by
      have a1 := parts (l := cs) (o := 7) (n := 30)
      have a2 := parts (l := cs) (o := 37) (n := 24)
      have a3 := parts (l := cs) (o := 61) (n := 1)
      have a4 : cs.drop 62 = (cs.drop 62).take 1 := by rw [List.take_of_length_le]; rw [List.length_drop]; omega
      rw [← a4, ← a3, ← a2, ← a1]
      simp
    rw [e0, e1, e2, e3, e4] at hcs
    refine ⟨⟨b, V, S, L, q⟩, ao, sb, so, c, ?_, hLc, hW⟩
    rw [hcs]
    rfl
end
end Go.Proofs.Ytookecjeknpheac
namespace Go.Proofs.Ytookecjeknpheac
open Go.ChangeShapes Go.WideShapes Go.ChangeAt Go.RowKit Go.Deep
section
variable {H : Type} {enc : TypeId × Value → H} {W : World}
theorem open_wait {r : Reach} {b0 : Nat} {v : Value} {d : DataW H} {p : List MemPlace} (hv : Value.okWide Try.prog W r b0 53 v) (h : DataW.Trod enc Try.prog W 0 (fun _ => true) true 53 v d p) :
    ∃ x : Wt, v = .agg #[.int .i64 x.num, .int .i64 x.d, .int .i64 x.v, .int .i64 x.amt, .int .i64 x.hei, .int .i64 x.due, .int .i64 x.h0, .int .i64 x.h1] := by
  obtain ⟨cs, rfl, hsz⟩ := okWide_struct Try.underlying53 hv
  obtain ⟨fuel, hf⟩ := h
  obtain ⟨x, hx⟩ := open_wt hf
  refine ⟨x, ?_⟩
  obtain ⟨cs⟩ := cs
  have e : cs = (wtC x).toList := hx
  rw [e]
  rfl
end
end Go.Proofs.Ytookecjeknpheac
