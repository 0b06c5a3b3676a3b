/- One wait more: a list of its own. Undelegate. Undelegate, granted. Undelegate, whatever it answers. What it brings to go in and out: plain facts. -/
import Derived.Test.YtookecjeknpheacXtd
import Derived.Test.YtookecjeknpheacXsb
import Derived.Test.YtookecjeknpheacXsa
import Derived.Test.YtookecjeknpheacXba
import Derived.Deep.RegionLaw
set_option maxRecDepth 100000
namespace Go.Proofs.Ytookecjeknpheac
open Go.RowKit
def wtL (x : Wt) : List Value := [.int .i64 x.num, .int .i64 x.d, .int .i64 x.v, .int .i64 x.amt, .int .i64 x.hei, .int .i64 x.due, .int .i64 x.h0, .int .i64 x.h1]
theorem clip_any (ao : Option Addr) (n c : Nat) (hn : n ≤ c) (h0 : ao = none → n = 0) (hc : (n : Int) < 4611686018427387904) (w : World) : Calls Try.prog 59 #[.slice ao n c] w fun e w' => e = .returned (.slice ao n n) ∧ w = w' := by
  have h1 : (n : Int) ≤ (c : Int) := by omega
  have h2 : (0 : Int) ≤ (n : Int) := by omega
  go_enter Try.func59, Try.ntmps59
  cases ao
  · obtain rfl := h0 rfl
    go_wp2
    go_ret
    exact ⟨rfl, rfl⟩
  · clear h0
    go_wp2
    go_ret
    exact ⟨rfl, rfl⟩
theorem wtL_length (x : Wt) : (wtL x).length = 8 := rfl
def wsL (W : List Wt) : List Value := W.flatMap wtL
theorem wsL_length : ∀ W : List Wt, (wsL W).length = W.length * 8
  | [] => rfl
  | x :: W => by show (wtL x ++ wsL W).length = _; rw [List.length_append, wsL_length W, wtL_length, List.length_cons]; omega
theorem wsL_get : ∀ (W : List Wt) (i : Nat) (x : Wt) (j : Nat), W[i]? = some x → j < 8 → (wsL W)[i * 8 + j]? = (wtL x)[j]?
  | [], i, x, j, h, _ => by simp at h
  | y :: W, 0, x, j, h, hj => by
    simp at h
    subst h
    show (wtL y ++ wsL W)[0 * 8 + j]? = _
    rw [List.getElem?_append_left (by rw [wtL_length]; omega), Nat.zero_mul, Nat.zero_add]
  | y :: W, i + 1, x, j, h, hj => by
    show (wtL y ++ wsL W)[(i + 1) * 8 + j]? = _
    rw [List.getElem?_append_right (by rw [wtL_length]; omega), wtL_length, show (i + 1) * 8 + j - 8 = i * 8 + j by omega]
    exact wsL_get W i x j (by simpa using h) hj
theorem ws_cells {w : World} {ao : Option Addr} {b o : Nat} {W : List Wt} (h : WsAt w ao b o W) : ∀ j v, (wsL W)[j]? = some v → w.cell? ⟨b, o + j, none⟩ = some v := by
  intro j v hj
  have hl := (List.getElem?_eq_some_iff.1 hj).1
  rw [wsL_length] at hl
  have hi : j / 8 < W.length := by omega
  have hx : W[j / 8]? = some (W[j / 8]'hi) := List.getElem?_eq_getElem hi
  have e := wsL_get W (j / 8) _ (j % 8) hx (by omega)
  rw [show j / 8 * 8 + j % 8 = j by omega, hj] at e
  obtain ⟨c0, c1, c2, c3, c4, c5, c6, c7⟩ := h.cell _ _ hx
  have hd : j = j / 8 * 8 + j % 8 := by omega
  generalize W[j / 8]'hi = x at *
  generalize hq : j / 8 = q at *
  have hr : j % 8 < 8 := by omega
  generalize j % 8 = r at *
  subst hd
  rcases (show r = 0 ∨ r = 1 ∨ r = 2 ∨ r = 3 ∨ r = 4 ∨ r = 5 ∨ r = 6 ∨ r = 7 by omega) with rfl | rfl | rfl | rfl | rfl | rfl | rfl | rfl <;> simp [wtL] at e <;> subst e <;> rw [← Nat.add_assoc] <;> assumption
theorem ws_of_cells {w : World} {b : Nat} {W : List Wt} (hl : W.length * 64 ≤ 140737488351232) (h : ∀ j v, (wsL W)[j]? = some v → w.cell? ⟨b, j, none⟩ = some v) : WsAt w (some ⟨b, 0, none⟩) b 0 W := by
  refine ⟨fun _ => rfl, hl, fun i x hx => ?_⟩
  have k : ∀ j, j < 8 → ∀ v, (wtL x)[j]? = some v → w.cell? ⟨b, 0 + i * 8 + j, none⟩ = some v := fun j hj v hv => by
    rw [Nat.zero_add]
    exact h _ _ ((wsL_get W i x j hx hj).trans hv)
  exact ⟨k 0 (by omega) _ rfl, k 1 (by omega) _ rfl, k 2 (by omega) _ rfl, k 3 (by omega) _ rfl, k 4 (by omega) _ rfl, k 5 (by omega) _ rfl, k 6 (by omega) _ rfl, k 7 (by omega) _ rfl⟩
theorem ws_new (w : World) (L : List Wt) (arr tail : Array Value) (ha : arr.toList = wsL L) (e : TypeId) (hl : L.length * 64 ≤ 140737488351232) : WsAt (w.drew.alloc (.cells (arr ++ tail) e)) (some ⟨w.heap.size, 0, none⟩) w.heap.size 0 L := by
  refine ws_of_cells hl fun j v hj => ?_
  have h : (w.drew.alloc (.cells (arr ++ tail) e)).heap[w.heap.size]? = some (.cells (arr ++ tail) e) := heap_alloc_new w.drew _
  have hj' : arr[j]? = some v := by rw [← ha] at hj; simpa using hj
  have hlt := (Array.getElem?_eq_some_iff.1 hj').1
  simp only [World.cell?, h]
  rw [Array.getElem?_append_left hlt]
  simp [hj']
/-- one wait is put behind a list that has no room: a new block -/
theorem ap1 (w : World) (ao : Option Addr) (sb so y : Nat) (W : List Wt) (x : Wt) (hW : WsAt w ao sb so W) (h60 : W.length ≤ 60) (hy : ∀ j v, (wtL x)[j]? = some v → w.cell? ⟨y, j, none⟩ = some v) :
    ∃ C w', (Builtin.append_ #[41, 41] 41 #[.slice ao W.length W.length, .slice (some ⟨y, 0, none⟩) 1 1]).run Try.prog w = .ok (.slice (some ⟨w.heap.size, 0, none⟩) (W.length + 1) C) w' ∧ W.length + 1 ≤ C ∧
      WsAt w' (some ⟨w.heap.size, 0, none⟩) w.heap.size 0 (W ++ [x]) ∧ Below w.heap.size w w' := by
  obtain ⟨i0, hi, hz0, hz1, hz2⟩ := info_parts info44
  have hnews : ∀ j v, (wtL x)[j]? = some v → w.cell? ((⟨y, 0, none⟩ : Addr).add j) = some v := fun j v hv => by rw [Addr.add_lit, Nat.zero_add]; exact hy j v hv
  have hL : wsL (W ++ [x]) = wsL W ++ wtL x := by unfold wsL; rw [List.flatMap_append]; simp
  have hnx : ∀ n : Nat, n ≤ 60 → Builtin.nextslicecap (n + 1) n * 64 ≤ 281474976710656 := fun n hn => by
    rcases Nat.eq_zero_or_pos n with rfl | hp
    · rw [nextslicecap_zero (by omega)]; omega
    · have := nextslicecap_succ hp; omega
  cases ao with
  | none =>
    have h0 : W.length = 0 := by
      rcases Nat.eq_zero_or_pos W.length with h0 | h0
      · exact h0
      · have := hW.adr h0; cases this
    obtain rfl : W = [] := List.length_eq_zero_iff.1 h0
    refine ⟨_, _, run_append_nil (P := Try.prog) w 41 41 53 i0 _ Try.underlying41 hi hz0 ⟨y, 0, none⟩ 1 1 (wtL x) (by rw [hz1]; rfl) hnews (by omega) (by omega) (by rw [hz2]; omega), grownCap_ge _ _ _ _, ?_, (Below.refl _ w).drew.alloc (Nat.le_refl _) _⟩
    exact ws_new w [x] _ _ (by simp [wsL]) _ (by simp)
  | some a =>
    have hold : ∀ j v, (wsL W)[j]? = some v → w.cell? (a.add j) = some v := fun j v hv => by
      have h0 : 0 < W.length := by
        have := (List.getElem?_eq_some_iff.1 hv).1
        rw [wsL_length] at this
        omega
      have := hW.adr h0
      cases this
      rw [Addr.add_lit]
      exact ws_cells hW j v hv
    refine ⟨_, _, run_append_grow (P := Try.prog) w 41 41 53 i0 _ Try.underlying41 hi hz0 a W.length W.length (wsL W) (by rw [wsL_length, hz1]) hold ⟨y, 0, none⟩ 1 1 (wtL x) (by rw [hz1]; rfl) hnews (by omega) (by omega) (by rw [hz2]; exact hnx _ h60), grownCap_ge _ _ _ _, ?_, (Below.refl _ w).drew.alloc (Nat.le_refl _) _⟩
    exact ws_new w (W ++ [x]) _ _ (by simp [hL]) _ (by simp; omega)
end Go.Proofs.Ytookecjeknpheac
namespace Go.Proofs.Ytookecjeknpheac
open Go.RowKit
def outS (s : St) (d v : Nat) (wo n : Int) (B : Bk) (x : Wt) : St := { addS { s with b := B } d v (-wo) (-n) with W := s.W ++ [x], next := s.next + 1 }
def undelS (s : St) (d v n : Int) (y : Wt) : St × Int :=
  if refOfE s d v = 0 then
    if (decide (0 < n) && inA n) = true ∧ 0 ≤ y.hei ∧ 0 ≤ y.due then
      if n ≤ s.S d.toNat v.toNat then
        if s.W.length < 60 ∧ s.next < 1125899906842624 then
          if woE (s.V v.toNat) n = 0 then
            if (unbondR s.b (woN (s.V v.toNat) n)).2 = 0 then (outS s d.toNat v.toNat (woN (s.V v.toNat) n) n (unbondR s.b (woN (s.V v.toNat) n)).1 { y with num := s.next, d := d, v := v, amt := woN (s.V v.toNat) n }, 0)
            else (s, (unbondR s.b (woN (s.V v.toNat) n)).2)
          else (s, woE (s.V v.toNat) n)
        else (s, 6)
      else (s, 7)
    else (s, 2)
  else (s, refOfE s d v)
/-- what a function that may change a stake's list answers, where the list lies, and its room -/
def AnswersC (B sb : Nat) (w : World) (r : St × Int) (e : Ending) (w' : World) : Prop := ∃ A ab ao C, e = .returned (.tuple #[.agg (stC r.1 (.slice A r.1.W.length C)), .int .i64 r.2]) ∧ r.1.W.length ≤ C ∧ WsAt w' A ab ao r.1.W ∧ (0 < r.1.W.length → ab < w'.heap.size ∧ (ab = sb ∨ B ≤ ab)) ∧ Below B w w'
theorem stake_endz {f : Func} {p q : Tmp} (hres : f.results = #[.cell p 43, .tmp q]) {B g sb : Nat} {w wq : World} {zs : Array Value} (R : SAt wq g zs) (hz : zs.size = 63) (H : Below B w wq) (hB : B ≤ g) (s' : St) (A : Option Addr) (ab ao C : Nat) (er : Int) (r : St × Int) (hr : r = (s', er)) (hC : s'.W.length ≤ C) (hW : WsAt wq A ab ao s'.W) (hg : 0 < s'.W.length → ab ≠ g) (hq : 0 < s'.W.length → ab = sb ∨ B ≤ ab) (act : Act)
    (h8 : act.tmps.getD p undef = .pointer (some ⟨g, 0, none⟩)) (h9 : act.tmps.getD q undef = .int .i64 er) (hd : act.defers = []) :
    bodyPost Try.prog f (fun e w' => AnswersC B sb w r e w') Exit.ret act (wq.setCells g 0 (stC s' (.slice A s'.W.length C)).toList) := by
  subst hr
  have R3 := R.setAll (ds := stC s' (.slice A s'.W.length C)) (by rw [hz]; rfl)
  have hW' := hW.sets hg (stC s' (.slice A s'.W.length C)).toList 0
  exact bodyPost_ret (v := .tuple #[.agg (stC s' (.slice A s'.W.length C)), .int .i64 er]) (results_stake2 hres _ _ g _ _ h8 h9 R3 rfl) hd ⟨A, ab, ao, C, rfl, hC, hW', fun h => ⟨hW'.lt h, hq h⟩, below_sets hB _ _ _ H⟩
/-- a wait's eight cells lie in a block -/
def YAt (w : World) (y : Nat) (x : Wt) : Prop := w.heap[y]? = some (.cells #[.int .i64 x.num, .int .i64 x.d, .int .i64 x.v, .int .i64 x.amt, .int .i64 x.hei, .int .i64 x.due, .int .i64 x.h0, .int .i64 x.h1] 53)
theorem YAt.later {w w' : World} {y B : Nat} {x : Wt} (h : YAt w y x) (hb : Below B w w') (hB : y < B) : YAt w' y x := (hb.block y hB).trans h
theorem YAt.lt {w : World} {y : Nat} {x : Wt} (h : YAt w y x) : y < w.heap.size := (Array.getElem?_eq_some_iff.1 h).1
theorem YAt.cells {w : World} {y : Nat} {x : Wt} (h : YAt w y x) : w.cell? ⟨y, 0, none⟩ = some (.int .i64 x.num) ∧ w.cell? ⟨y, 1, none⟩ = some (.int .i64 x.d) ∧ w.cell? ⟨y, 2, none⟩ = some (.int .i64 x.v) ∧ w.cell? ⟨y, 3, none⟩ = some (.int .i64 x.amt) ∧ w.cell? ⟨y, 4, none⟩ = some (.int .i64 x.hei) ∧ w.cell? ⟨y, 5, none⟩ = some (.int .i64 x.due) ∧ w.cell? ⟨y, 6, none⟩ = some (.int .i64 x.h0) ∧ w.cell? ⟨y, 7, none⟩ = some (.int .i64 x.h1) := by
  unfold YAt at h
  simp [World.cell?, h]
theorem SAt.new3 (w : World) (o p : Obj) (cs : Array Value) : SAt (((w.alloc o).alloc p).alloc (.cells cs 43)) (w.heap.size + 2) cs := by
  have h := SAt.new2 (w.alloc o) p cs
  rwa [show (w.alloc o).heap.size + 1 = w.heap.size + 2 by simp] at h
theorem YAt.new (w : World) (o p : Obj) (x : Wt) : YAt (((w.alloc o).alloc (.cells #[.int .i64 x.num, .int .i64 x.d, .int .i64 x.v, .int .i64 x.amt, .int .i64 x.hei, .int .i64 x.due, .int .i64 x.h0, .int .i64 x.h1] 53)).alloc p) (w.heap.size + 1) x := by
  have h : YAt ((w.alloc o).alloc (.cells #[.int .i64 x.num, .int .i64 x.d, .int .i64 x.v, .int .i64 x.amt, .int .i64 x.hei, .int .i64 x.due, .int .i64 x.h0, .int .i64 x.h1] 53)) (w.alloc o).heap.size x := heap_alloc_new _ _
  rw [show (w.alloc o).heap.size = w.heap.size + 1 by simp] at h
  exact h.later ((Below.refl _ _).alloc (Nat.le_refl _) _) h.lt
set_option maxHeartbeats 4000000 in
theorem undel_no (s : St) (ao : Option Addr) (sb so c : Nat) (d v n : Int) (y : Wt) (w : World) (hc : s.W.length ≤ c) (hW : WsAt w ao sb so s.W) (r : St × Int) (h0 : refOfE s d v ≠ 0) (hr : r = (s, refOfE s d v)) :
    Calls Try.prog 25 #[.agg (stC s (.slice ao s.W.length c)), .int .i64 d, .int .i64 v, .int .i64 n, .agg #[.int .i64 y.num, .int .i64 y.d, .int .i64 y.v, .int .i64 y.amt, .int .i64 y.hei, .int .i64 y.due, .int .i64 y.h0, .int .i64 y.h1]] w fun e w' => AnswersC w.heap.size sb w r e w' := by
  have SS := ((SAt.new w (stC s (.slice ao s.W.length c))).alloc (.cells #[.int .i64 y.num, .int .i64 y.d, .int .i64 y.v, .int .i64 y.amt, .int .i64 y.hei, .int .i64 y.due, .int .i64 y.h0, .int .i64 y.h1] 53)).alloc (.cells Z63 43)
  have RR := SAt.new3 w (.cells (stC s (.slice ao s.W.length c)) 43) (.cells #[.int .i64 y.num, .int .i64 y.d, .int .i64 y.v, .int .i64 y.amt, .int .i64 y.hei, .int .i64 y.due, .int .i64 y.h0, .int .i64 y.h1] 53) Z63
  have HB : Hid (Below w.heap.size w (((w.alloc (.cells (stC s (.slice ao s.W.length c)) 43)).alloc (.cells #[.int .i64 y.num, .int .i64 y.d, .int .i64 y.v, .int .i64 y.amt, .int .i64 y.hei, .int .i64 y.due, .int .i64 y.h0, .int .i64 y.h1] 53)).alloc (.cells Z63 43))) := (((Below.refl _ w).alloc (Nat.le_refl _) _).alloc (by simp) _).alloc (by simp; omega) _
  have HW := hide hW
  have HR := hide hr
  have HC := hide hc
  clear hW hr hc
  go_enter Try.func25, Try.ntmps25
  go_upto_region 1 with fail
  change Code.wp Try.prog _ _ _ (((w.alloc (.cells (stC s (.slice ao s.W.length c)) 43)).alloc (.cells #[.int .i64 y.num, .int .i64 y.d, .int .i64 y.v, .int .i64 y.amt, .int .i64 y.hei, .int .i64 y.due, .int .i64 y.h0, .int .i64 y.h1] 53)).alloc (.cells Z63 43))
  generalize ((w.alloc (.cells (stC s (.slice ao s.W.length c)) 43)).alloc (.cells #[.int .i64 y.num, .int .i64 y.d, .int .i64 y.v, .int .i64 y.amt, .int .i64 y.hei, .int .i64 y.due, .int .i64 y.h0, .int .i64 y.h1] 53)).alloc (.cells Z63 43) = w0 at *
  go_upto_region 2 with (go_at_call 43; refine (refusedOf_any s ao sb so c w.heap.size d v _ SS (by exact HW.out.over HB.out)).mono ?_; rintro e w1 ⟨rfl, h1⟩)
  have HB1 := hide (HB.out.trans (h1.mono HB.out.size))
  have S1 := SS.later h1 SS.lt
  have R1 := RR.later h1 RR.lt
  clear SS RR h1 HB
  go_upto_region 3 with fail
  apply wp_region_lit
  refine wpList_load_mid rfl 43 _ rfl _ 0 rfl _ _ S1.range Try.underlying43 rfl (by rw [infoS]; rfl) ?_
  refine wpList_mv rfl _ rfl ?_
  refine wpList_store_mid rfl 43 _ _ rfl _ 0 (stC s (.slice ao s.W.length c)) rfl rfl (R1.there 0 _ (by rw [Z63_size, stC_size]; omega)) (by rw [infoS]; rfl) (stC_one _ _ _ _) ?_
  go_wp2
  exact stake_endz Try.results25 R1 rfl HB1.out (by omega) s ao sb so c _ r HR.out HC.out (HW.out.over HB1.out) (fun h => by have := HW.out.lt h; omega) (fun _ => .inl rfl) _ rfl rfl rfl
end Go.Proofs.Ytookecjeknpheac
namespace Go.Proofs.Ytookecjeknpheac
open Go.RowKit
theorem woN_bound (x : Vd) (n : Int) : 0 ≤ woN x n ∧ woN x n ≤ 1125899906842624 := by
  have := mdN_bound n x.tok x.sh
  unfold woN
  split
  · omega
  · omega
theorem step_wanted {ops : Array Oper} {o : Oper} {a : Act} {w : World} {K : Act → World → Prop} {Q : Exit → Act → World → Prop} {E : Prop} (hg : o.guard = none) (h : Oper.wp Try.prog o a w K Q) :
    if Region.wanted o (yielded ops a.tmps) = true then Oper.wp Try.prog o a w K Q else E := by
  have hw : Region.wanted o (yielded ops a.tmps) = true := by simp [Region.wanted, hg]
  rw [if_pos hw]; exact h
theorem step_ap1 {ops : Array Oper} {o : Oper} {a : Act} {w : World} {K : Act → World → Prop} {Q : Exit → Act → World → Prop} {E : Prop} (hg : o.guard = none) (hty : o.type = 41) (p q : Operand)
    (hop : o.op = Op.call { callee := Callee.builtin Builtin.append, args := #[p, q], argTypes := #[41, 41] }) (ao : Option Addr) (sb so y : Nat) (W : List Wt) (x : Wt) (hs : a.eval p = .slice ao W.length W.length) (hx : a.eval q = .slice (some ⟨y, 0, none⟩) 1 1)
    (hW : WsAt w ao sb so W) (h60 : W.length ≤ 60) (hy : ∀ j v, (wtL x)[j]? = some v → w.cell? ⟨y, j, none⟩ = some v)
    (hK : ∀ g C w', g = w.heap.size → W.length + 1 ≤ C → WsAt w' (some ⟨g, 0, none⟩) g 0 (W ++ [x]) → Below w.heap.size w w' → K (a.put o.dst (.slice (some ⟨g, 0, none⟩) (W.length + 1) C)) w') :
    if Region.wanted o (yielded ops a.tmps) = true then Oper.wp Try.prog o a w K Q else E := by
  have hw : Region.wanted o (yielded ops a.tmps) = true := by simp [Region.wanted, hg]
  rw [if_pos hw]
  unfold Oper.wp
  obtain ⟨C, w', hr, hC, hWs, hB⟩ := ap1 w ao sb so y W x hW h60 hy
  simp [execOp, hop, resolve, invoke, builtin, hs, hx, hty, hr, Result.andThen]
  exact hK _ _ _ rfl hC hWs hB
theorem wt_new (w : World) (x : Wt) (e : TypeId) : ∀ j v, (wtL x)[j]? = some v → (w.alloc (.cells #[.int .i64 x.num, .int .i64 x.d, .int .i64 x.v, .int .i64 x.amt, .int .i64 x.hei, .int .i64 x.due, .int .i64 x.h0, .int .i64 x.h1] e)).cell? ⟨w.heap.size, j, none⟩ = some v := by
  intro j v hj
  rw [World.cell?_alloc_at _ _ _ _ rfl]
  simpa [wtL] using hj
theorem stake_endn {f : Func} {p q : Tmp} (hres : f.results = #[.cell p 43, .tmp q]) {B g sb : Nat} {w wq : World} {zs : Array Value} (R : SAt wq g zs) (hz : zs.size = 63) (H : Below B w wq) (hB : B ≤ g) (s' : St) (A : Option Addr) (ab ao C n : Nat) (er : Int) (r : St × Int) (hr : r = (s', er)) (hn : s'.W.length = n) (hC : n ≤ C) (hW : WsAt wq A ab ao s'.W) (hg : 0 < s'.W.length → ab ≠ g) (hq : 0 < s'.W.length → ab = sb ∨ B ≤ ab) (act : Act)
    (h8 : act.tmps.getD p undef = .pointer (some ⟨g, 0, none⟩)) (h9 : act.tmps.getD q undef = .int .i64 er) (hd : act.defers = []) :
    bodyPost Try.prog f (fun e w' => AnswersC B sb w r e w') Exit.ret act (wq.setCells g 0 (stC s' (.slice A n C)).toList) := by
  subst hn
  exact stake_endz hres R hz H hB s' A ab ao C er r hr hC hW hg hq act h8 h9 hd
theorem out_stC (s : St) (d v : Nat) (wo n : Int) (B : Bk) (x : Wt) (sl : Value) : stC (outS s d v wo n B x) sl = stC { addS { s with b := B } d v (-wo) (-n) with next := s.next + 1 } sl := rfl
theorem good_next {s : St} (h : goodS s = true) : 1 ≤ s.next ∧ s.next ≤ 1125899906842624 := by
  unfold goodS at h
  simp only [Bool.and_eq_true, decide_eq_true_eq] at h
  exact ⟨h.1.1.1.1.1.2, h.1.1.1.1.2⟩
theorem YAt.set4 {w : World} {b : Nat} {x : Wt} (h : YAt w b x) (a1 a2 a3 a4 : Int) : YAt ((((w.setCell ⟨b, 0, none⟩ (.int .i64 a1)).setCell ⟨b, 1, none⟩ (.int .i64 a2)).setCell ⟨b, 2, none⟩ (.int .i64 a3)).setCell ⟨b, 3, none⟩ (.int .i64 a4)) b { x with num := a1, d := a2, v := a3, amt := a4 } := by
  unfold YAt at *
  simp [World.setCell, Array.getElem?_modify, h]
theorem YAt.free {w : World} {b : Nat} {x : Wt} (h : YAt w b x) (o : Nat) : w.frozen? ⟨b, o, none⟩ = false := by
  unfold YAt at h
  simp [World.frozen?, h]
set_option maxHeartbeats 8000000 in
theorem undel_yes (s : St) (ao : Option Addr) (sb so c d v : Nat) (n : Int) (y : Wt) (w : World) (hc : s.W.length ≤ c) (hW : WsAt w ao sb so s.W) (r : St × Int) (hg : goodS s = true) (hd : d < 4) (hv : v < 6) (B : Bk) (er wN wE : Int) (hN : woN (s.V v) n = wN) (hE : woE (s.V v) n = wE)
    (hUn : ∀ w : World, Calls Try.prog 11 #[.agg #[.int .i64 s.b.f0, .int .i64 s.b.f1, .int .i64 s.b.f2, .int .i64 s.b.f3, .int .i64 s.b.bo, .int .i64 s.b.wa, .int .i64 s.b.bu], .int .i64 wN] w fun e w' => e = .returned (.tuple #[.agg #[.int .i64 B.f0, .int .i64 B.f1, .int .i64 B.f2, .int .i64 B.f3, .int .i64 B.bo, .int .i64 B.wa, .int .i64 B.bu], .int .i64 er]) ∧ Below w.heap.size w w')
    (h1 : ¬ ((decide (0 < n) && inA n) = true ∧ 0 ≤ y.hei ∧ 0 ≤ y.due) → r = (s, 2))
    (h2 : (decide (0 < n) && inA n) = true ∧ 0 ≤ y.hei ∧ 0 ≤ y.due → ¬ n ≤ s.S d v → r = (s, 7))
    (h3 : (decide (0 < n) && inA n) = true ∧ 0 ≤ y.hei ∧ 0 ≤ y.due → n ≤ s.S d v → ¬ (s.W.length < 60 ∧ s.next < 1125899906842624) → r = (s, 6))
    (h4 : (decide (0 < n) && inA n) = true ∧ 0 ≤ y.hei ∧ 0 ≤ y.due → n ≤ s.S d v → (s.W.length < 60 ∧ s.next < 1125899906842624) → wE ≠ 0 → r = (s, wE))
    (h5 : (decide (0 < n) && inA n) = true ∧ 0 ≤ y.hei ∧ 0 ≤ y.due → n ≤ s.S d v → (s.W.length < 60 ∧ s.next < 1125899906842624) → wE = 0 → er ≠ 0 → r = (s, er))
    (h6 : (decide (0 < n) && inA n) = true ∧ 0 ≤ y.hei ∧ 0 ≤ y.due → n ≤ s.S d v → (s.W.length < 60 ∧ s.next < 1125899906842624) → wE = 0 → er = 0 → r = (outS s d v wN n B { y with num := s.next, d := d, v := v, amt := wN }, 0)) :
    Calls Try.prog 25 #[.agg (stC s (.slice ao s.W.length c)), .int .i64 (d : Int), .int .i64 (v : Int), .int .i64 n, .agg #[.int .i64 y.num, .int .i64 y.d, .int .i64 y.v, .int .i64 y.amt, .int .i64 y.hei, .int .i64 y.due, .int .i64 y.h0, .int .i64 y.h1]] w fun e w' => AnswersC w.heap.size sb w r e w' := by
  have SS := ((SAt.new w (stC s (.slice ao s.W.length c))).alloc (.cells #[.int .i64 y.num, .int .i64 y.d, .int .i64 y.v, .int .i64 y.amt, .int .i64 y.hei, .int .i64 y.due, .int .i64 y.h0, .int .i64 y.h1] 53)).alloc (.cells Z63 43)
  have RR := SAt.new3 w (.cells (stC s (.slice ao s.W.length c)) 43) (.cells #[.int .i64 y.num, .int .i64 y.d, .int .i64 y.v, .int .i64 y.amt, .int .i64 y.hei, .int .i64 y.due, .int .i64 y.h0, .int .i64 y.h1] 53) Z63
  have YY := YAt.new w (.cells (stC s (.slice ao s.W.length c)) 43) (.cells Z63 43) y
  have HB : Hid (Below w.heap.size w (((w.alloc (.cells (stC s (.slice ao s.W.length c)) 43)).alloc (.cells #[.int .i64 y.num, .int .i64 y.d, .int .i64 y.v, .int .i64 y.amt, .int .i64 y.hei, .int .i64 y.due, .int .i64 y.h0, .int .i64 y.h1] 53)).alloc (.cells Z63 43))) := (((Below.refl _ w).alloc (Nat.le_refl _) _).alloc (by simp) _).alloc (by simp; omega) _
  have HW := hide hW
  have HC := hide hc
  have H1 := hide h1
  have H2 := hide h2
  have H3 := hide h3
  have H4 := hide h4
  have H5 := hide h5
  have H6 := hide h6
  obtain ⟨hvo, hps⟩ := good_vals hg v hv
  have hS := isSome_any n
  have hRf := ref_of_good hg hd hv
  have hd' : (d : Int) < 4 := by omega
  have hv' : (v : Int) < 6 := by omega
  have hd0 : (0 : Int) ≤ (d : Int) := by omega
  have hv0 : (0 : Int) ≤ (v : Int) := by omega
  have hWo := fun w b o (hn : n ≤ 1125899906842624) => worthOf_any b o (s.V v) n w hn hvo
  rw [hN, hE] at hWo
  have hwb := woN_bound (s.V v) n
  rw [hN] at hwb
  clear hW h1 h2 h3 h4 h5 h6 hc hN hE
  go_enter Try.func25, Try.ntmps25
  go_upto_region 1 with fail
  change Code.wp Try.prog _ _ _ (((w.alloc (.cells (stC s (.slice ao s.W.length c)) 43)).alloc (.cells #[.int .i64 y.num, .int .i64 y.d, .int .i64 y.v, .int .i64 y.amt, .int .i64 y.hei, .int .i64 y.due, .int .i64 y.h0, .int .i64 y.h1] 53)).alloc (.cells Z63 43))
  generalize ((w.alloc (.cells (stC s (.slice ao s.W.length c)) 43)).alloc (.cells #[.int .i64 y.num, .int .i64 y.d, .int .i64 y.v, .int .i64 y.amt, .int .i64 y.hei, .int .i64 y.due, .int .i64 y.h0, .int .i64 y.h1] 53)).alloc (.cells Z63 43) = w0 at *
  go_upto_region 2 with (go_at_call 43; refine (refusedOf_any s ao sb so c w.heap.size d v _ SS (by exact HW.out.over HB.out)).mono ?_; rintro e w1 ⟨rfl, h1⟩)
  have HB1 := hide (HB.out.trans (h1.mono HB.out.size))
  have S1 := SS.later h1 SS.lt
  have R1 := RR.later h1 RR.lt
  have Y1 := YY.later h1 YY.lt
  obtain ⟨x0, x1, x2, x3, x4, x5, x6, x7, x8⟩ := st_cells S1
  obtain ⟨c0, c1, _, _, _⟩ := S1.val v hv
  obtain ⟨_, _, _, _, y4, y5, _, _⟩ := Y1.cells
  have cs := S1.shr d v hd hv
  have hz1 : w.heap.size + 2 < w1.heap.size := R1.lt
  have HT : Hid ((decide (0 < n) && inA n) = true → 0 < n ∧ n ≤ 1125899906842624) := fun h => by simp only [Bool.and_eq_true, decide_eq_true_eq, inA_iff] at h; omega
  generalize (decide (0 < n) && inA n) = t at *
  clear SS RR YY h1 HB
  go_upto_region 16 with (first
    | (go_at_call 44; refine (hS _).mono ?_; rintro e w2 ⟨rfl, rfl⟩)
    | (go_at_call 58; refine (hWo _ _ _ (by exact (HT.out ‹t = true›).2) c0 c1).mono ?_; rintro e w2 ⟨rfl, h2⟩; have HB2 := hide (HB1.out.trans (h2.mono (by omega))); have S2 := S1.later h2 S1.lt; have R2 := R1.later h2 R1.lt; have Y2 := Y1.later h2 Y1.lt; clear x0 x1 x2 x3 x4 x5 x6 x7 x8; obtain ⟨x0, x1, x2, x3, x4, x5, x6, x7, x8⟩ := st_cells S2; have hz2 : w.heap.size + 2 < w2.heap.size := R2.lt; clear h2)
    | (go_at_call 11; refine (hUn _).mono ?_; rintro e w3 ⟨rfl, h3⟩; have HB3 := hide (HB2.out.trans (h3.mono (by omega))); have S3 := S2.later h3 S2.lt; have R3 := R2.later h3 R2.lt; have Y3 := Y2.later h3 Y2.lt; have hz3 : w.heap.size + 2 < w3.heap.size := R3.lt; have S4 := S3.alloc (.cells #[.int .i64 B.f0, .int .i64 B.f1, .int .i64 B.f2, .int .i64 B.f3, .int .i64 B.bo, .int .i64 B.wa, .int .i64 B.bu] 24); have R4 := R3.alloc (.cells #[.int .i64 B.f0, .int .i64 B.f1, .int .i64 B.f2, .int .i64 B.f3, .int .i64 B.bo, .int .i64 B.wa, .int .i64 B.bu] 24); have Y4 := Y3.later ((Below.refl _ _).alloc (Nat.le_refl _) (.cells #[.int .i64 B.f0, .int .i64 B.f1, .int .i64 B.f2, .int .i64 B.f3, .int .i64 B.bo, .int .i64 B.wa, .int .i64 B.bu] 24)) Y3.lt; have HB4 := hide (HB3.out.alloc (by omega) (.cells #[.int .i64 B.f0, .int .i64 B.f1, .int .i64 B.f2, .int .i64 B.f3, .int .i64 B.bo, .int .i64 B.wa, .int .i64 B.bu] 24)); have B4 := BAt.new w3 B.f0 B.f1 B.f2 B.f3 B.bo B.wa B.bu; clear h3 x0 x1 x2 x3 x4 x5 x6 x7 x8 S3 R3 Y3)
    | ((fail_if_success (go_not_at_region 5)); apply wp_region_lit; refine wpList_load_mid rfl 43 _ rfl _ 0 rfl _ _ S1.range Try.underlying43 rfl (by rw [infoS]; rfl) ?_; refine wpList_store_mid rfl 43 _ _ rfl _ 0 (stC s (.slice ao s.W.length c)) rfl rfl (R1.there 0 _ (by rw [Z63_size, stC_size]; omega)) (by rw [infoS]; rfl) (stC_one _ _ _ _) ?_)
    | ((fail_if_success (go_not_at_region 7)); apply wp_region_lit; refine wpList_load_mid rfl 43 _ rfl _ 0 rfl _ _ S1.range Try.underlying43 rfl (by rw [infoS]; rfl) ?_; refine wpList_store_mid rfl 43 _ _ rfl _ 0 (stC s (.slice ao s.W.length c)) rfl rfl (R1.there 0 _ (by rw [Z63_size, stC_size]; omega)) (by rw [infoS]; rfl) (stC_one _ _ _ _) ?_)
    | ((fail_if_success (go_not_at_region 9)); apply wp_region_lit; refine wpList_load_mid rfl 43 _ rfl _ 0 rfl _ _ S1.range Try.underlying43 rfl (by rw [infoS]; rfl) ?_; refine wpList_store_mid rfl 43 _ _ rfl _ 0 (stC s (.slice ao s.W.length c)) rfl rfl (R1.there 0 _ (by rw [Z63_size, stC_size]; omega)) (by rw [infoS]; rfl) (stC_one _ _ _ _) ?_)
    | ((fail_if_success (go_not_at_region 12)); apply wp_region_lit; refine wpList_load_mid rfl 43 _ rfl _ 0 rfl _ _ S2.range Try.underlying43 rfl (by rw [infoS]; rfl) ?_; refine wpList_mv rfl _ rfl ?_; refine wpList_store_mid rfl 43 _ _ rfl _ 0 (stC s (.slice ao s.W.length c)) rfl rfl (R2.there 0 _ (by rw [Z63_size, stC_size]; omega)) (by rw [infoS]; rfl) (stC_one _ _ _ _) ?_)
    | ((fail_if_success (go_not_at_region 15)); apply wp_region_lit; refine wpList_load_mid rfl 43 _ rfl _ 0 rfl _ _ S4.range Try.underlying43 rfl (by rw [infoS]; rfl) ?_; refine wpList_mv rfl _ rfl ?_; refine wpList_store_mid rfl 43 _ _ rfl _ 0 (stC s (.slice ao s.W.length c)) rfl rfl (R4.there 0 _ (by rw [Z63_size, stC_size]; omega)) (by rw [infoS]; rfl) (stC_one _ _ _ _) ?_))
  · exact stake_endz Try.results25 R1 rfl HB1.out (by omega) s ao sb so c _ r (H1.out (fun h => by have := h.2; omega)) HC.out (HW.out.over HB1.out) (fun h => by have := HW.out.lt h; omega) (fun _ => .inl rfl) _ rfl rfl rfl
  · exact stake_endz Try.results25 R1 rfl HB1.out (by omega) s ao sb so c _ r (H2.out ⟨‹t = true›, by omega, by omega⟩ (by omega)) HC.out (HW.out.over HB1.out) (fun h => by have := HW.out.lt h; omega) (fun _ => .inl rfl) _ rfl rfl rfl
  · exact stake_endz Try.results25 R1 rfl HB1.out (by omega) s ao sb so c _ r (H3.out ⟨‹t = true›, by omega, by omega⟩ (by omega) (by omega)) HC.out (HW.out.over HB1.out) (fun h => by have := HW.out.lt h; omega) (fun _ => .inl rfl) _ rfl rfl rfl
  · exact stake_endz Try.results25 R2 rfl HB2.out (by omega) s ao sb so c _ r (H4.out ⟨‹t = true›, by omega, by omega⟩ (by omega) (by omega) (by simpa using ‹(wE != 0) = true›)) HC.out (HW.out.over HB2.out) (fun h => by have := HW.out.lt h; omega) (fun _ => .inl rfl) _ rfl rfl rfl
  · exact stake_endz Try.results25 R4 rfl HB4.out (by omega) s ao sb so c _ r (H5.out ⟨‹t = true›, by omega, by omega⟩ (by omega) (by omega) (by simpa using ‹(wE != 0) = false›) (by simpa using ‹(er != 0) = true›)) HC.out (HW.out.over HB4.out) (fun h => by have := HW.out.lt h; omega) (fun _ => .inl rfl) _ rfl rfl rfl
  · have HR := hide (H6.out ⟨‹t = true›, by omega, by omega⟩ (by omega) (by omega) (by simpa using ‹(wE != 0) = false›) (by simpa using ‹(er != 0) = false›))
    have hn := HT.out ‹t = true›
    have hl60 : s.W.length < 60 := by omega
    have hnx : s.next < 1125899906842624 := by omega
    have hnx0 := good_next hg
    obtain ⟨k1, k2, k3⟩ := vOk_amounts hvo
    have k4 := psh_at hps hd
    rw [inA_iff] at k1 k2 k4
    obtain ⟨x0, x1, x2, x3, x4, x5, x6, x7, x8⟩ := st_cells S4
    have f0 := S4.free 0
    have f1 := S4.free 1
    have f2 := S4.free 2
    have f3 := S4.free 3
    have f4 := S4.free 4
    have f5 := S4.free 5
    have f6 := S4.free 6
    have hne : w.heap.size ≠ w3.heap.size := by omega
    clear H1 H2 H3 H4 H5 H6 HT hUn hWo hS c0 c1 x7 x8 S1 S2 R1 R2 Y1 Y2 HB1 HB2 hvo hps k3 B4 cs y4 y5
    go_upto_region 17 with fail
    change Code.wp Try.prog _ _ _ (bset (w3.alloc (.cells #[.int .i64 B.f0, .int .i64 B.f1, .int .i64 B.f2, .int .i64 B.f3, .int .i64 B.bo, .int .i64 B.wa, .int .i64 B.bu] 24)) w.heap.size B)
    have hb5 : But w.heap.size (w3.alloc (.cells #[.int .i64 B.f0, .int .i64 B.f1, .int .i64 B.f2, .int .i64 B.f3, .int .i64 B.bo, .int .i64 B.wa, .int .i64 B.bu] 24)) (bset (w3.alloc (.cells #[.int .i64 B.f0, .int .i64 B.f1, .int .i64 B.f2, .int .i64 B.f3, .int .i64 B.bo, .int .i64 B.wa, .int .i64 B.bu] 24)) w.heap.size B) := (((((((But.refl _ _).set 0 _).set 1 _).set 2 _).set 3 _).set 4 _).set 5 _).set 6 _
    have S5 := set_bank S4 B
    have R5 := hb5.stake (by omega) R4
    have Y5 : YAt (bset (w3.alloc (.cells #[.int .i64 B.f0, .int .i64 B.f1, .int .i64 B.f2, .int .i64 B.f3, .int .i64 B.bo, .int .i64 B.wa, .int .i64 B.bu] 24)) w.heap.size B) (w.heap.size + 1) y := (hb5.block _ (by omega)).trans Y4
    have HB5 := hide (HB4.out.trans (hb5.below (Nat.le_refl _)))
    generalize bset (w3.alloc (.cells #[.int .i64 B.f0, .int .i64 B.f1, .int .i64 B.f2, .int .i64 B.f3, .int .i64 B.bo, .int .i64 B.wa, .int .i64 B.bu] 24)) w.heap.size B = w5 at *
    have hA := sadd_any { s with b := B } (.slice ao s.W.length c) w.heap.size d v (-wN) (-n) w5 S5 hd hv (by simp only; omega) (by simp only; omega) (by simp only; omega)
    clear x0 x1 x2 x3 x4 x5 x6 f0 f1 f2 f3 f4 f5 f6 S4 R4 Y4 HB3 HB4 S5 hb5
    go_upto_region 18 with (go_at_call 46; refine hA.mono ?_; rintro e w6 ⟨rfl, S6, hbut⟩)
    have R6 := hbut.stake (by omega) R5
    have Y6 : YAt w6 (w.heap.size + 1) y := (hbut.block _ (by omega)).trans Y5
    have HB6 := hide (HB5.out.trans (hbut.below (Nat.le_refl _)))
    have hz6 : w.heap.size + 2 < w6.heap.size := R6.lt
    clear R5 Y5 HB5 hbut hA
    obtain ⟨_, _, _, _, _, _, _, x7, x8⟩ := st_cells S6
    obtain ⟨y0, y1, y2, y3, _, _, _, _⟩ := Y6.cells
    have g0 := Y6.free 0
    have g1 := Y6.free 1
    have g2 := Y6.free 2
    have g3 := Y6.free 3
    have f2 := S6.free 62
    have hne2 : w.heap.size ≠ w.heap.size + 1 := by omega
    simp only [addS] at x7 x8
    go_upto_region 20 with fail
    have Y7 := Y6.set4 s.next d v wN
    have hbY := ((((But.refl (w.heap.size + 1) w6).set 0 (.int .i64 s.next)).set 1 (.int .i64 (d : Int))).set 2 (.int .i64 (v : Int))).set 3 (.int .i64 wN)
    have S7 := hbY.stake (c := w.heap.size) (by omega) S6
    have R7 := hbY.stake (c := w.heap.size + 2) (by omega) R6
    have HB7 := hide (HB6.out.trans (hbY.below (B := w.heap.size) (by omega)))
    generalize (((w6.setCell ⟨w.heap.size + 1, 0, none⟩ (.int .i64 s.next)).setCell ⟨w.heap.size + 1, 1, none⟩ (.int .i64 (d : Int))).setCell ⟨w.heap.size + 1, 2, none⟩ (.int .i64 (v : Int))).setCell ⟨w.heap.size + 1, 3, none⟩ (.int .i64 wN) = w7 at *
    have S8 := S7.set 62 (.int .i64 (s.next + 1))
    rw [set_next] at S8
    have hbS := (But.refl w.heap.size w7).set 62 (.int .i64 (s.next + 1))
    have R8 := hbS.stake (c := w.heap.size + 2) (by omega) R7
    have Y8 := (hbS.block (w.heap.size + 1) (by omega)).trans Y7
    have HB8 := hide (HB7.out.trans (hbS.below (B := w.heap.size) (by omega)))
    generalize w7.setCell ⟨w.heap.size, 62, none⟩ (.int .i64 (s.next + 1)) = w8 at *
    clear S6 R6 Y6 HB6 y0 y1 y2 y3 g0 g1 g2 g3 f2 x7 x8 hbY S7 R7 Y7 HB7 hbS
    have Y9 : YAt w8 (w.heap.size + 1) { y with num := s.next, d := d, v := v, amt := wN } := Y8
    generalize hx : ({ y with num := s.next, d := d, v := v, amt := wN } : Wt) = x at *
    clear hx Y8
    have HS8 := hide S8
    obtain ⟨_, _, _, _, _, _, _, x7, _⟩ := st_cells S8
    obtain ⟨y0, y1, y2, y3, y4, y5, y6, y7⟩ := Y9.cells
    have hz8 : w.heap.size + 2 < w8.heap.size := R8.lt
    have hz8a : w.heap.size < w8.heap.size := by omega
    have hz8b : w.heap.size + 1 < w8.heap.size := by omega
    have hlen : (s.W.length : Int) < 4611686018427387904 := by omega
    have hnil : ao = none → s.W.length = 0 := fun h => by
      rcases Nat.eq_zero_or_pos s.W.length with h0 | h0
      · exact h0
      · have := HW.out.adr h0
        rw [h] at this
        cases this
    clear S8
    go_region_law (first
      | (refine step_wanted rfl ?_; go_simp; go_at_call 59; refine (clip_any ao s.W.length c HC.out hnil hlen _).mono ?_; rintro e we ⟨rfl, rfl⟩)
      | (refine step_ap1 rfl rfl _ _ rfl ao sb so _ s.W x rfl rfl (HW.out.over (HB8.out.alloc (by omega) _).drew) (by omega) (fun j v hj => wt_new w8 x _ j v hj) ?_; intro g C w9 hgq hC9 hW9 hB9; have S9 := (HS8.out.later ((Below.refl _ w8).alloc (Nat.le_refl _) _).drew HS8.out.lt).later hB9 (by simp; omega); obtain ⟨_, _, _, _, _, _, _, z7, _⟩ := st_cells S9; have fz := S9.free 61; have hz9 := S9.lt; have HS9 := hide S9; have HB9 := hide hB9; have HW9 := hide hW9; have HG9 := hide hgq; clear S9 hB9 hW9 hgq))
    all_goals
      have hgz : g = w8.heap.size + 1 := by rw [HG9.out]; show (w8.alloc _).heap.size = _; simp
      have hB9w := (HB8.out.alloc (by omega) _).drew.trans (HB9.out.mono (by show _ ≤ (w8.alloc _).heap.size; simp; omega))
      have R9 := (R8.later ((Below.refl _ w8).alloc (Nat.le_refl _) _).drew R8.lt).later HB9.out (by show _ < (w8.alloc _).heap.size; simp; omega)
      have hbS := (But.refl w.heap.size w9).set 61 (.slice (some ⟨g, 0, none⟩) (s.W.length + 1) C)
      have S10 := HS9.out.set 61 (.slice (some ⟨g, 0, none⟩) (s.W.length + 1) C)
      rw [set_sl] at S10
      have S11 : SAt (w9.setCell ⟨w.heap.size, 61, none⟩ (.slice (some ⟨g, 0, none⟩) (s.W.length + 1) C)) w.heap.size (stC (outS s d v wN n B x) (.slice (some ⟨g, 0, none⟩) (s.W.length + 1) C)) := by rw [out_stC]; exact S10
      have R10 := hbS.stake (c := w.heap.size + 2) (by omega) R9
      have W10 := HW9.out.but hbS (fun _ => by omega)
      have HGZ := hide hgz
      clear hgz
      have HB10 := hide (hB9w.trans (hbS.below (Nat.le_refl _)))
      generalize w9.setCell ⟨w.heap.size, 61, none⟩ (.slice (some ⟨g, 0, none⟩) (s.W.length + 1) C) = w10 at *
      have hz10 : w.heap.size < w10.heap.size := S11.lt
      clear HS9 HB9 HG9 HW9 HS8 R8 R9 HB8 hbS S10 hB9w y0 y1 y2 y3 y4 y5 y6 y7 x7 z7 fz Y9 hz9
      go_upto_region 21 with fail
      apply wp_region_lit
      refine wpList_load_mid rfl 43 _ rfl _ 0 rfl _ _ S11.range Try.underlying43 rfl (by rw [infoS]; rfl) ?_
      refine wpList_store_mid rfl 43 _ _ rfl _ 0 (stC (outS s d v wN n B x) (.slice (some ⟨g, 0, none⟩) (s.W.length + 1) C)) rfl rfl (R10.there 0 _ (by rw [Z63_size, stC_size]; omega)) (by rw [infoS]; rfl) (stC_one _ _ _ _) ?_
      go_wp2
      exact stake_endn Try.results25 R10 rfl HB10.out (by omega) (outS s d v wN n B x) (some ⟨g, 0, none⟩) g 0 C (s.W.length + 1) 0 r HR.out (by simp [outS]) hC9 W10 (fun _ => by have := HGZ.out; omega) (fun _ => .inr (by have := HGZ.out; omega)) _ rfl rfl rfl
  · exact stake_endz Try.results25 R1 rfl HB1.out (by omega) s ao sb so c _ r (H3.out ⟨‹t = true›, by omega, by omega⟩ (by omega) (by omega)) HC.out (HW.out.over HB1.out) (fun h => by have := HW.out.lt h; omega) (fun _ => .inl rfl) _ rfl rfl rfl
  · exact stake_endz Try.results25 R1 rfl HB1.out (by omega) s ao sb so c _ r (H1.out (fun h => by have := h.2; omega)) HC.out (HW.out.over HB1.out) (fun h => by have := HW.out.lt h; omega) (fun _ => .inl rfl) _ rfl rfl rfl
  · exact stake_endz Try.results25 R1 rfl HB1.out (by omega) s ao sb so c _ r (H1.out (fun h => absurd h.1 ‹¬ t = true›)) HC.out (HW.out.over HB1.out) (fun h => by have := HW.out.lt h; omega) (fun _ => .inl rfl) _ rfl rfl rfl
end Go.Proofs.Ytookecjeknpheac
namespace Go.Proofs.Ytookecjeknpheac
open Go.RowKit
theorem undel_ref {s : St} {d v n : Int} {y : Wt} (h : refOfE s d v ≠ 0) : undelS s d v n y = (s, refOfE s d v) := if_neg h
section
variable {s : St} {d v n : Int} {y : Wt} (h : refOfE s d v = 0)
include h
theorem undel_1 (h1 : ¬ ((decide (0 < n) && inA n) = true ∧ 0 ≤ y.hei ∧ 0 ≤ y.due)) : undelS s d v n y = (s, 2) := by rw [undelS, if_pos h, if_neg h1]
theorem undel_2 (h1 : (decide (0 < n) && inA n) = true ∧ 0 ≤ y.hei ∧ 0 ≤ y.due) (h2 : ¬ n ≤ s.S d.toNat v.toNat) : undelS s d v n y = (s, 7) := by rw [undelS, if_pos h, if_pos h1, if_neg h2]
theorem undel_3 (h1 : (decide (0 < n) && inA n) = true ∧ 0 ≤ y.hei ∧ 0 ≤ y.due) (h2 : n ≤ s.S d.toNat v.toNat) (h3 : ¬ (s.W.length < 60 ∧ s.next < 1125899906842624)) : undelS s d v n y = (s, 6) := by rw [undelS, if_pos h, if_pos h1, if_pos h2, if_neg h3]
theorem undel_4 (h1 : (decide (0 < n) && inA n) = true ∧ 0 ≤ y.hei ∧ 0 ≤ y.due) (h2 : n ≤ s.S d.toNat v.toNat) (h3 : s.W.length < 60 ∧ s.next < 1125899906842624) (h4 : woE (s.V v.toNat) n ≠ 0) : undelS s d v n y = (s, woE (s.V v.toNat) n) := by rw [undelS, if_pos h, if_pos h1, if_pos h2, if_pos h3, if_neg h4]
theorem undel_5 (h1 : (decide (0 < n) && inA n) = true ∧ 0 ≤ y.hei ∧ 0 ≤ y.due) (h2 : n ≤ s.S d.toNat v.toNat) (h3 : s.W.length < 60 ∧ s.next < 1125899906842624) (h4 : woE (s.V v.toNat) n = 0) (h5 : (unbondR s.b (woN (s.V v.toNat) n)).2 ≠ 0) : undelS s d v n y = (s, (unbondR s.b (woN (s.V v.toNat) n)).2) := by rw [undelS, if_pos h, if_pos h1, if_pos h2, if_pos h3, if_pos h4, if_neg h5]
theorem undel_6 (h1 : (decide (0 < n) && inA n) = true ∧ 0 ≤ y.hei ∧ 0 ≤ y.due) (h2 : n ≤ s.S d.toNat v.toNat) (h3 : s.W.length < 60 ∧ s.next < 1125899906842624) (h4 : woE (s.V v.toNat) n = 0) (h5 : (unbondR s.b (woN (s.V v.toNat) n)).2 = 0) : undelS s d v n y = (outS s d.toNat v.toNat (woN (s.V v.toNat) n) n (unbondR s.b (woN (s.V v.toNat) n)).1 { y with num := s.next, d := d, v := v, amt := woN (s.V v.toNat) n }, 0) := by rw [undelS, if_pos h, if_pos h1, if_pos h2, if_pos h3, if_pos h4, if_pos h5]
end
theorem undel_any (s : St) (ao : Option Addr) (sb so c : Nat) (d v n : Int) (y : Wt) (w : World) (hc : s.W.length ≤ c) (hW : WsAt w ao sb so s.W) :
    Calls Try.prog 25 #[.agg (stC s (.slice ao s.W.length c)), .int .i64 d, .int .i64 v, .int .i64 n, .agg #[.int .i64 y.num, .int .i64 y.d, .int .i64 y.v, .int .i64 y.amt, .int .i64 y.hei, .int .i64 y.due, .int .i64 y.h0, .int .i64 y.h1]] w fun e w' => AnswersC w.heap.size sb w (undelS s d v n y) e w' := by
  by_cases h : refOfE s d v = 0
  · obtain ⟨hg, ⟨v0, v1⟩, d0, d1⟩ := ref_zero h
    obtain ⟨v, rfl⟩ := Int.eq_ofNat_of_zero_le v0
    obtain ⟨d, rfl⟩ := Int.eq_ofNat_of_zero_le d0
    exact undel_yes s ao sb so c d v n y w hc hW _ hg (by omega) (by omega) _ _ _ _ rfl rfl (unbond_any s.b _) (undel_1 h) (undel_2 h) (undel_3 h) (undel_4 h) (undel_5 h) (undel_6 h)
  · exact undel_no s ao sb so c d v n y w hc hW _ h (undel_ref h)
end Go.Proofs.Ytookecjeknpheac
namespace Go.Proofs.Ytookecjeknpheac
theorem goodS_iff (s : St) : goodS s = true ↔ s.b.good = true ∧ 1 ≤ s.next ∧ s.next ≤ 1125899906842624 ∧ s.W.length ≤ 60 ∧ wOk s.next 0 s.W = true ∧ (∀ k, k < 6 → vOk (s.V k) = true ∧ pshOk s.S k 4 = true ∧ psh s.S k 4 = (s.V k).sh) ∧ ptok s.V 6 = s.b.bo ∧ amts s.W = s.b.wa ∧ plost s.V 6 = s.b.bu := by
  have hp : pvs s 6 = true ↔ ∀ k, k < 6 → vOk (s.V k) = true ∧ pshOk s.S k 4 = true ∧ psh s.S k 4 = (s.V k).sh := by
    constructor
    · intro h k hk
      have := pvs_at h hk
      simp only [vsOk, shOk, Bool.and_eq_true, decide_eq_true_eq] at this
      exact ⟨this.1, this.2.1, this.2.2⟩
    · intro h
      simp only [pvs, vsOk, shOk, Bool.and_eq_true, decide_eq_true_eq, true_and]
      exact ⟨⟨⟨⟨⟨h 0 (by omega), h 1 (by omega)⟩, h 2 (by omega)⟩, h 3 (by omega)⟩, h 4 (by omega)⟩, h 5 (by omega)⟩
  unfold goodS bal
  simp only [Bool.and_eq_true, decide_eq_true_eq, hp]
  constructor
  · rintro ⟨⟨⟨⟨⟨⟨h1, h2⟩, h3⟩, h4⟩, h5⟩, h6⟩, ⟨h7, h8⟩, h9⟩
    exact ⟨h1, h2, h3, h4, h5, h6, h7, h8, h9⟩
  · rintro ⟨h1, h2, h3, h4, h5, h6, h7, h8, h9⟩
    exact ⟨⟨⟨⟨⟨⟨h1, h2⟩, h3⟩, h4⟩, h5⟩, h6⟩, ⟨h7, h8⟩, h9⟩
theorem vOk_iff (x : Vd) : vOk x = true ↔ (0 ≤ x.tok ∧ x.tok ≤ 1125899906842624) ∧ (0 ≤ x.sh ∧ x.sh ≤ 1125899906842624) ∧ (0 ≤ x.lost ∧ x.lost ≤ 1125899906842624) ∧ (0 < x.tok → x.sh ≠ 0) ∧ (x.dead = true → x.jail = true) := by
  unfold vOk
  simp only [Bool.and_eq_true, inA_iff, Bool.not_eq_true', Bool.and_eq_false_iff, decide_eq_false_iff_not, Bool.or_eq_true]
  constructor
  · rintro ⟨⟨⟨⟨h1, h2⟩, h3⟩, h4⟩, h5⟩
    refine ⟨h1, h2, h3, fun h => h4.resolve_left (fun h' => h' h), fun h => ?_⟩
    rcases h5 with h5 | h5
    · exact h5
    · rw [h] at h5; cases h5
  · rintro ⟨h1, h2, h3, h4, h5⟩
    refine ⟨⟨⟨⟨h1, h2⟩, h3⟩, ?_⟩, ?_⟩
    · by_cases h : 0 < x.tok
      · exact .inr (h4 h)
      · exact .inl h
    · cases hd : x.dead
      · exact .inr rfl
      · exact .inl (h5 hd)
theorem six {v : Nat} (h : v < 6) : v = 0 ∨ v = 1 ∨ v = 2 ∨ v = 3 ∨ v = 4 ∨ v = 5 := by omega
theorem four {v : Nat} (h : v < 4) : v = 0 ∨ v = 1 ∨ v = 2 ∨ v = 3 := by omega
theorem ptok_set (V : Nat → Vd) (v : Nat) (x : Vd) (hv : v < 6) : ptok (setV V v x) 6 = ptok V 6 + x.tok - (V v).tok := by
  rcases six hv with rfl | rfl | rfl | rfl | rfl | rfl <;> simp [ptok, setV] <;> omega
theorem plost_set (V : Nat → Vd) (v : Nat) (x : Vd) (hv : v < 6) : plost (setV V v x) 6 = plost V 6 + x.lost - (V v).lost := by
  rcases six hv with rfl | rfl | rfl | rfl | rfl | rfl <;> simp [plost, setV] <;> omega
theorem psh_set (S : Nat → Nat → Int) (d v : Nat) (y : Int) (hd : d < 4) : psh (setSh S d v y) v 4 = psh S v 4 + y - S d v := by
  rcases four hd with rfl | rfl | rfl | rfl <;> simp [psh, setSh] <;> omega
theorem psh_other (S : Nat → Nat → Int) (d v k : Nat) (y : Int) (hk : k ≠ v) : psh (setSh S d v y) k 4 = psh S k 4 := by
  simp [psh, setSh, hk]
theorem pshOk_set (S : Nat → Nat → Int) (d v k : Nat) (y : Int) (h : pshOk S k 4 = true) (hy : inA y = true) : pshOk (setSh S d v y) k 4 = true := by
  simp only [pshOk, Bool.and_eq_true, true_and] at *
  obtain ⟨⟨⟨h0, h1⟩, h2⟩, h3⟩ := h
  refine ⟨⟨⟨?_, ?_⟩, ?_⟩, ?_⟩ <;> unfold setSh <;> split <;> assumption
theorem ptok_ge {V : Nat → Vd} (h : ∀ k, k < 6 → 0 ≤ (V k).tok) {v : Nat} (hv : v < 6) : (V v).tok ≤ ptok V 6 := by
  have h0 := h 0 (by omega); have h1 := h 1 (by omega); have h2 := h 2 (by omega); have h3 := h 3 (by omega); have h4 := h 4 (by omega); have h5 := h 5 (by omega)
  simp only [ptok]
  rcases six hv with rfl | rfl | rfl | rfl | rfl | rfl <;> omega
theorem psh_ge {S : Nat → Nat → Int} {k : Nat} (h : pshOk S k 4 = true) {d : Nat} (hd : d < 4) : S d k ≤ psh S k 4 := by
  have h0 := inA_iff.1 (psh_at h (d := 0) (by omega)); have h1 := inA_iff.1 (psh_at h (d := 1) (by omega)); have h2 := inA_iff.1 (psh_at h (d := 2) (by omega)); have h3 := inA_iff.1 (psh_at h (d := 3) (by omega))
  simp only [psh]
  rcases four hd with rfl | rfl | rfl | rfl <;> omega
theorem bond_zero {b : Bk} {d : Nat} {n : Int} (hd : d < 4) (h : (bondR b d n).2 = 0) : (bondR b d n).1.good = true ∧ (bondR b d n).1.bo = b.bo + n ∧ (bondR b d n).1.wa = b.wa ∧ (bondR b d n).1.bu = b.bu := by
  refine ⟨((kept_bond b d n).yes h).2.1, ?_⟩
  unfold bondR at *
  rw [if_pos (by omega)] at *
  obtain ⟨-, -, -, -, h5⟩ := mv_zero h
  rw [h5]
  rcases four hd with rfl | rfl | rfl | rfl <;> simp [Bk.put, Bk.get]
/-- a good stake to which tokens and shares are added stays good -/
theorem good_add {s : St} {B : Bk} {d v : Nat} {t n : Int} (hg : goodS s = true) (hd : d < 4) (hv : v < 6) (hB : B.good = true) (hbo : B.bo = s.b.bo + t) (hwa : B.wa = s.b.wa) (hbu : B.bu = s.b.bu)
    (ht : 0 ≤ (s.V v).tok + t) (hn0 : 0 ≤ s.S d v + n) (hn : (s.V v).sh + n ≤ 1125899906842624) (hpos : 0 < (s.V v).tok + t → (s.V v).sh + n ≠ 0) : goodS (addS { s with b := B } d v t n) = true := by
  rw [goodS_iff] at *
  obtain ⟨h1, h2, h3, h4, h5, h6, h7, h8, h9⟩ := hg
  obtain ⟨hvv, hps, hpe⟩ := h6 v hv
  rw [vOk_iff] at hvv
  have hB' := (good_iff B).1 hB
  have hpt : ptok (setV s.V v { s.V v with tok := (s.V v).tok + t, sh := (s.V v).sh + n }) 6 = B.bo := by rw [ptok_set _ _ _ hv, h7, hbo]; show s.b.bo + ((s.V v).tok + t) - (s.V v).tok = _; omega
  have htk : ∀ k, k < 6 → 0 ≤ (setV s.V v { s.V v with tok := (s.V v).tok + t, sh := (s.V v).sh + n } k).tok := fun k hk => by
    unfold setV
    split
    · exact ht
    · exact ((vOk_iff _).1 (h6 k hk).1).1.1
  have hge := ptok_ge htk hv
  rw [hpt] at hge
  simp only [setV, if_true] at hge
  have hsd := psh_ge hps hd
  rw [hpe] at hsd
  refine ⟨hB, h2, h3, h4, h5, fun k hk => ?_, hpt, h8.trans hwa.symm, ?_⟩
  · show vOk (setV s.V v _ k) = true ∧ pshOk (setSh s.S d v _) k 4 = true ∧ psh (setSh s.S d v _) k 4 = (setV s.V v _ k).sh
    refine ⟨?_, pshOk_set _ _ _ _ _ (h6 k hk).2.1 (inA_iff.2 ⟨hn0, by show s.S d v + n ≤ _; omega⟩), ?_⟩
    · unfold setV
      split
      · rw [vOk_iff]
        exact ⟨⟨ht, by show (s.V v).tok + t ≤ _; omega⟩, ⟨by show 0 ≤ (s.V v).sh + n; omega, hn⟩, hvv.2.2.1, hpos, hvv.2.2.2.2⟩
      · exact (h6 k hk).1
    · by_cases hkv : k = v
      · subst hkv
        rw [psh_set _ _ _ _ hd, hpe]
        simp only [setV, if_true]
        omega
      · rw [psh_other _ _ _ _ _ hkv, (h6 k hk).2.2]
        simp only [setV, if_neg hkv]
  · show plost (setV s.V v _) 6 = B.bu
    rw [plost_set _ _ _ hv, h9, hbu]
    simp only
    omega
/-- what a delegation that is granted does -/
theorem deleg_zero {s : St} {d v n : Int} (h : (delegS s d v n).2 = 0) : ∃ i j : Nat, d = i ∧ v = j ∧ i < 4 ∧ j < 6 ∧ goodS s = true ∧ (s.V j).dead = false ∧ 0 < n ∧ n ≤ 1125899906842624 ∧ shE (s.V j) n = 0 ∧ (bondR s.b i n).2 = 0 ∧ delegS s d v n = (addS { s with b := (bondR s.b i n).1 } i j n (shN (s.V j) n), 0) := by
  have hr : refOfE s d v = 0 := Decidable.byContradiction fun hr => by rw [deleg_ref hr] at h; exact hr h
  obtain ⟨hg, ⟨v0, v1⟩, d0, d1⟩ := ref_zero hr
  obtain ⟨j, rfl⟩ := Int.eq_ofNat_of_zero_le v0
  obtain ⟨i, rfl⟩ := Int.eq_ofNat_of_zero_le d0
  refine ⟨i, j, rfl, rfl, by omega, by omega, hg, ?_⟩
  have h1 : (s.V j).dead = false := by
    cases hd : (s.V j).dead with
    | false => rfl
    | true => rw [deleg_dead hr hd] at h; cases h
  have h2 : (decide (0 < n) && inA n) = true := by
    cases hd : (decide (0 < n) && inA n) with
    | true => rfl
    | false => rw [deleg_range hr h1 hd] at h; cases h
  have h3 : shE (s.V j) n = 0 := Decidable.byContradiction fun h3 => by rw [deleg_shE hr h1 h2 h3] at h; exact h3 h
  have h4 : (bondR s.b i n).2 = 0 := Decidable.byContradiction fun h4 => by rw [deleg_bond hr h1 h2 h3 h4] at h; exact h4 h
  have h2' := h2
  simp only [Bool.and_eq_true, decide_eq_true_eq, inA_iff] at h2'
  exact ⟨h1, h2'.1, h2'.2.2, h3, h4, deleg_ok hr h1 h2 h3 h4⟩
/-- shares that are brought are some, and not more than that many tokens are worth -/
theorem sh_zero {x : Vd} {n : Int} (hx : vOk x = true) (hn : 0 < n) (hn1 : n ≤ 1125899906842624) (h : shE x n = 0) : 0 < shN x n ∧ x.sh + shN x n ≤ 1125899906842624 ∧ shN x n * x.tok ≤ n * x.sh := by
  rw [vOk_iff] at hx
  obtain ⟨⟨t0, t1⟩, ⟨s0, s1⟩, -, hp, -⟩ := hx
  unfold shE at h
  unfold shN
  by_cases hs : x.sh = 0
  · have ht : x.tok = 0 := by
      rcases Int.lt_or_le 0 x.tok with h1 | h1
      · exact absurd hs (hp h1)
      · omega
    rw [if_pos hs, hs, ht]
    refine ⟨hn, by omega, ?_⟩
    simp
  · rw [if_neg hs] at h ⊢
    by_cases ht : x.tok = 0
    · rw [if_pos ht] at h; cases h
    · rw [if_neg ht] at h ⊢
      by_cases hm : mdE n x.sh x.tok = 0 ∧ inA (x.sh + mdN n x.sh x.tok) = true
      · rw [if_pos hm] at h ⊢
        have hm2 := inA_iff.1 hm.2
        have hb := mdN_bound n x.sh x.tok
        refine ⟨?_, hm2.2, ?_⟩
        · by_cases h0 : mdN n x.sh x.tok = 0
          · rw [if_pos h0] at h; cases h
          · omega
        · unfold mdN
          split
          · rw [Int.zero_mul]; exact Int.mul_nonneg (by omega) s0
          · split
            · exact Int.ediv_mul_le _ ht
            · rw [Int.zero_mul]; exact Int.mul_nonneg (by omega) s0
      · rw [if_neg hm] at h; cases h
/-- shares are worth no more than all tokens, and than their part -/
theorem wo_le {x : Vd} {g k : Int} (hx : vOk x = true) (hg : 0 < g) (hs : g ≤ x.sh) (hk : g * x.tok ≤ k * x.sh) : mdE g x.tok x.sh = 0 ∧ mdN g x.tok x.sh ≤ x.tok ∧ mdN g x.tok x.sh ≤ k := by
  rw [vOk_iff] at hx
  obtain ⟨⟨t0, t1⟩, ⟨s0, s1⟩, -, -, -⟩ := hx
  have q1 : g * x.tok / x.sh ≤ x.tok := by
    apply Int.ediv_le_of_le_mul (by omega)
    rw [Int.mul_comm x.tok]
    exact Int.mul_le_mul_of_nonneg_right hs t0
  have q2 : g * x.tok / x.sh ≤ k := Int.ediv_le_of_le_mul (by omega) hk
  have c1 : ¬ (g < 0 ∨ x.tok < 0 ∨ x.sh < 1) := by omega
  have c2 : g * x.tok / x.sh ≤ 1125899906842624 := by omega
  unfold mdE mdN
  simp only [if_neg c1, if_pos c2]
  exact ⟨trivial, q1, q2⟩
def wt0 : Wt := ⟨0, 0, 0, 0, 0, 0, 0, 0⟩
/-- in and out again -/
theorem round_facts {s : St} {d v n : Int} (h : (delegS s d v n).2 = 0) : ∃ (i j : Nat) (g : Int), d = i ∧ v = j ∧ i < 4 ∧ j < 6 ∧ 0 < g ∧ g ≤ 1125899906842624 ∧ (0 ≤ s.S i j ∧ s.S i j ≤ 1125899906842624) ∧ (delegS s d v n).1.S i j = s.S i j + g ∧ (delegS s d v n).1.W = s.W ∧
    ((undelS (delegS s d v n).1 d v g wt0).2 ≠ 0 → (undelS (delegS s d v n).1 d v g wt0).2 = 8 ∨ (undelS (delegS s d v n).1 d v g wt0).2 = 6) ∧
    ((undelS (delegS s d v n).1 d v g wt0).2 = 0 → s.W.length < 60 ∧ ∃ x : Wt, (undelS (delegS s d v n).1 d v g wt0).1.W = s.W ++ [x] ∧ x.amt ≤ n ∧ x.v = v ∧ x.d = d ∧ (s.V j).tok ≤ ((undelS (delegS s d v n).1 d v g wt0).1.V j).tok ∧ ((undelS (delegS s d v n).1 d v g wt0).1.V j).sh = (s.V j).sh) := by
  obtain ⟨i, j, rfl, rfl, hi, hj, hg, hdead, hn, hn1, hsh, hbo, hD⟩ := deleg_zero h
  rw [hD]
  obtain ⟨hB, hb1, hb2, hb3⟩ := bond_zero hi hbo
  have hv := good_vals hg j hj
  have hx := (vOk_iff _).1 hv.1
  obtain ⟨g0, g1, g2⟩ := sh_zero hv.1 hn hn1 hsh
  have hS := inA_iff.1 (psh_at hv.2 hi)
  have gA := good_add (t := n) (n := shN (s.V j) n) hg hi hj hB hb1 hb2 hb3 (by omega) (by omega) g1 (fun _ => by omega)
  generalize shN (s.V j) n = g at *
  generalize (bondR s.b i n).1 = B at *
  have eV : (addS { s with b := B } i j n g).V j = { s.V j with tok := (s.V j).tok + n, sh := (s.V j).sh + g } := by simp [addS, setV]
  have eS : (addS { s with b := B } i j n g).S i j = s.S i j + g := by simp [addS, setSh]
  have hr := ref_of_good gA hi hj
  have hvA := (good_vals gA j hj).1
  obtain ⟨w1, w2, w3⟩ := wo_le (k := n) hvA g0 (by rw [eV]; show g ≤ (s.V j).sh + g; omega) (by rw [eV]; show g * ((s.V j).tok + n) ≤ n * ((s.V j).sh + g); rw [Int.mul_add, Int.mul_add, Int.mul_comm n g]; omega)
  have hgA := (goodS_iff _).1 gA
  have hgt := ptok_ge (fun k hk => ((vOk_iff _).1 (hgA.2.2.2.2.2.1 k hk).1).1.1) hj
  rw [hgA.2.2.2.2.2.2.1] at hgt
  have hmb := mdN_bound g ((addS { s with b := B } i j n g).V j).tok ((addS { s with b := B } i j n g).V j).sh
  have hwN : woN ((addS { s with b := B } i j n g).V j) g = mdN g ((addS { s with b := B } i j n g).V j).tok ((addS { s with b := B } i j n g).V j).sh := by unfold woN; rw [if_pos w1]
  have hwE : woE ((addS { s with b := B } i j n g).V j) g = 0 ∨ woE ((addS { s with b := B } i j n g).V j) g = 8 := by unfold woE; rw [if_pos w1]; split <;> simp
  refine ⟨i, j, g, rfl, rfl, hi, hj, g0, by omega, hS, eS, rfl, ?_⟩
  have eSI : g ≤ (addS { s with b := B } i j n g).S (i : Int).toNat (j : Int).toNat := by simp only [Int.toNat_natCast]; rw [eS]; omega
  have h1 : (decide (0 < g) && inA g) = true ∧ 0 ≤ wt0.hei ∧ 0 ≤ wt0.due := ⟨by rw [Bool.and_eq_true, decide_eq_true_eq, inA_iff]; omega, Int.le_refl _, Int.le_refl _⟩
  by_cases h3 : (addS { s with b := B } i j n g).W.length < 60 ∧ (addS { s with b := B } i j n g).next < 1125899906842624
  · by_cases h4 : woE ((addS { s with b := B } i j n g).V j) g = 0
    · have h5 : unbondR (addS { s with b := B } i j n g).b (woN ((addS { s with b := B } i j n g).V j) g) = _ := mv_make (f := 4) (t := 5) hgA.1 (by rw [hwN]; omega) (by rw [hwN]; omega) (by rw [hwN]; exact Int.le_trans w2 hgt)
      have h6 : (unbondR (addS { s with b := B } i j n g).b (woN ((addS { s with b := B } i j n g).V j) g)).2 = 0 := by rw [h5]
      rw [undel_6 hr h1 eSI h3 h4 h6]
      refine ⟨fun h => absurd rfl h, fun _ => ⟨h3.1, _, rfl, ?_, rfl, rfl, ?_, ?_⟩⟩
      · show woN ((addS { s with b := B } i j n g).V j) g ≤ n
        rw [hwN]; exact w3
      · show (s.V j).tok ≤ (setV (addS { s with b := B } i j n g).V j _ j).tok
        simp only [setV, if_true]
        show (s.V j).tok ≤ ((addS { s with b := B } i j n g).V j).tok + -woN ((addS { s with b := B } i j n g).V j) g
        rw [hwN]
        rw [eV] at w3 ⊢
        show (s.V j).tok ≤ (s.V j).tok + n + -_
        omega
      · show (setV (addS { s with b := B } i j n g).V j _ j).sh = (s.V j).sh
        simp only [setV, if_true]
        show ((addS { s with b := B } i j n g).V j).sh + -g = (s.V j).sh
        rw [eV]
        show (s.V j).sh + g + -g = _
        omega
    · rw [undel_4 hr h1 eSI h3 h4]
      exact ⟨fun _ => .inl (hwE.resolve_left h4), fun h => absurd h h4⟩
  · rw [undel_3 hr h1 eSI h3]
    exact ⟨fun _ => .inr rfl, fun h => by cases h⟩
end Go.Proofs.Ytookecjeknpheac
