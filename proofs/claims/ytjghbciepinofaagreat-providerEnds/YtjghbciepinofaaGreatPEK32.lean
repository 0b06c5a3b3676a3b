/- Parts of the proof: PV1 PVSR PVS PVSA. -/
import Derived.Test.YtjghbciepinofaaGreatRows
import Derived.Test.YtjghbciepinofaaGreatPEK23
import Derived.Test.YtjghbciepinofaaGreatPEK26
import Derived.Test.YtjghbciepinofaaGreatPEK27
import Derived.Test.YtjghbciepinofaaGreatPEK30
import Derived.Test.YtjghbciepinofaaGreatPEK31
import Derived.Test.YtjghbciepinofaaGreatPEK36
import Derived.Deep.RegionLaw
import Derived.Deep.DeepCutAuto
import Derived.Deep.MidRow
set_option maxRecDepth 100000
namespace Go.Proofs.YtjghbciepinofaaGreat.Pv
open Go.RowKit
theorem infoPv : (Tryz.prog.info? 47).map (·.size) = some 97 := by kernel_rfl
theorem Z97_size : Tryz.zeroCells47.size = 97 := by kernel_rfl
/-- a stake's part of a provider's cells -/
theorem pr_stake {w : World} {b : Nat} {p : Pr} {v : PrV} (h : CAt 47 w b (prC p v)) : w.rangeAt b 2 (stC p.s v.ws).toList := h.part fun j x hx => by
  have hj : j < 63 := (List.getElem?_eq_some_iff.1 hx).1
  simp only [prC, List.getElem?_toArray]
  rw [show 2 + j = j + 2 by omega]
  show ((stC p.s v.ws).toList ++ _)[j]? = _
  rw [List.getElem?_append_left (by simpa [stC_size] using hj)]
  exact hx
theorem pr_set {p : Pr} {v : PrV} (u : Value) : (prC p v).setIfInBounds 65 u = prC p { v with set := u } := rfl
theorem pr_q {p : Pr} {v : PrV} (u : Value) : (prC p v).setIfInBounds 96 u = prC p { v with q := u } := rfl
theorem pr_ws {p : Pr} {v : PrV} (u : Value) : spl (prC p v) 2 (stC p.s u).toList = prC p { v with ws := u } := spl_mid [.int .i64 p.h, .int .i64 p.t] (stC p.s v.ws).toList _ (stC p.s u).toList rfl
def PrV.upd (v : PrV) (k : Nat) (x : LkV) : PrV := { v with l := fun i => if i = k then x else v.l i }
/-- a provider's cells, parted around a link -/
theorem pr_split (p : Pr) (v : PrV) (k : Nat) (hk : k < 2) : ∃ a c : List Value, a.length = 66 + k * 14 ∧ prC p v = (a ++ (lkL (p.L k) (v.l k) ++ c)).toArray ∧ ∀ x, prC p (v.upd k x) = (a ++ (lkL (p.L k) x ++ c)).toArray := by
  have h0 : ([.int .i64 p.h, .int .i64 p.t] ++ ((stC p.s v.ws).toList ++ [v.set]) : List Value).length = 66 := by simp [stC_size]
  match k, hk with
  | 0, _ =>
    refine ⟨[.int .i64 p.h, .int .i64 p.t] ++ ((stC p.s v.ws).toList ++ [v.set]), lkL (p.L 1) (v.l 1) ++ [.int .i64 p.ml, .int .i64 p.mn, v.q], h0, ?_, fun x => ?_⟩
    · simp [prC]
    · simp [prC, PrV.upd]
  | 1, _ =>
    refine ⟨[.int .i64 p.h, .int .i64 p.t] ++ ((stC p.s v.ws).toList ++ [v.set]) ++ lkL (p.L 0) (v.l 0), [.int .i64 p.ml, .int .i64 p.mn, v.q], ?_, ?_, fun x => ?_⟩
    · rw [List.length_append, h0]; rfl
    · simp [prC]
    · simp [prC, PrV.upd]
theorem pr_lk {p : Pr} {v : PrV} (k : Nat) (hk : k < 2) (T D S U : Value) : ((((((prC p v).setIfInBounds (66 + k * 14 + 3) T).setIfInBounds (66 + k * 14 + 5) D).setIfInBounds (66 + k * 14 + 6) S).setIfInBounds (66 + k * 14 + 7) U).setIfInBounds (66 + k * 14 + 8) (.int .i64 (p.L k).out.g)).setIfInBounds (66 + k * 14 + 9) (.bool (p.L k).out.cl) = prC p (v.upd k ⟨T, D, S, U⟩) := by
  obtain ⟨a, c, ha, h1, h2⟩ := pr_split p v k hk
  rw [h1, h2, set_mid _ _ _ _ _ _ ha (by show 3 < 14; omega), set_mid _ _ _ _ _ _ ha (by simp [lkL]), set_mid _ _ _ _ _ _ ha (by simp [lkL]), set_mid _ _ _ _ _ _ ha (by simp [lkL]), set_mid _ _ _ _ _ _ ha (by simp [lkL]), set_mid _ _ _ _ _ _ ha (by simp [lkL])]
  rfl
theorem pr_link {p : Pr} {v : PrV} (k : Nat) (hk : k < 2) (j : Nat) (hj : j < 14) : (prC p v)[66 + k * 14 + j]? = (lkL (p.L k) (v.l k))[j]? := by
  obtain ⟨a, c, ha, h1, h2⟩ := pr_split p v k hk
  rw [h1, List.getElem?_toArray, List.getElem?_append_right (by omega), ha, Nat.add_sub_cancel_left, List.getElem?_append_left (by exact hj)]
/-- how far the copying is: the stake, the set and k links are copied -/
structure CpS (w : World) (p : Pr) (v0 : PrV) (k : Nat) (v : PrV) (wl : World) : Prop where
  C : CAt 47 wl w.heap.size (prC p v)
  R : CAt 47 wl (w.heap.size + 1) Tryz.zeroCells47
  B : Below w.heap.size w wl
  ws : wl.ownsRow (w.heap.size + 2) 127 8 v.ws p.s.W.length (wsL p.s.W)
  set : Rep (fun b => w.heap.size + 2 ≤ b) wl v.set 2 16 (pwC p.set)
  lk : ∀ c, c < k → LkIn (fun b => w.heap.size + 2 ≤ b) wl (p.L c) (v.l c)
  hl : ∀ c, k ≤ c → v.l c = v0.l c
  hq : v.q = v0.q
theorem CpS.lt {w : World} {p : Pr} {v0 : PrV} {k : Nat} {v : PrV} {wl : World} (h : CpS w p v0 k v wl) : w.heap.size + 2 ≤ wl.heap.size := by have := h.R.lt; omega
theorem heap6 (w : World) {g b : Nat} (hb : b ≠ g) (o3 o5 o6 o7 o8 o9 : Nat) (T D S U x y : Value) : ((((((w.setCell ⟨g, o3, none⟩ T).setCell ⟨g, o5, none⟩ D).setCell ⟨g, o6, none⟩ S).setCell ⟨g, o7, none⟩ U).setCell ⟨g, o8, none⟩ x).setCell ⟨g, o9, none⟩ y).heap[b]? = w.heap[b]? := by
  rw [Below.heap_setCell _ _ _ _ hb, Below.heap_setCell _ _ _ _ hb, Below.heap_setCell _ _ _ _ hb, Below.heap_setCell _ _ _ _ hb, Below.heap_setCell _ _ _ _ hb, Below.heap_setCell _ _ _ _ hb]
theorem CpS.next {w : World} {p : Pr} {v0 : PrV} {k : Nat} {v : PrV} {wl w5 : World} (h : CpS w p v0 k v wl) (hk : k < 2) (hb : Below wl.heap.size wl w5) {T D S U : Value} (h4 : Lk4 wl.heap.size w5 (p.L k) T D S U) :
    CpS w p v0 (k + 1) (v.upd k ⟨T, D, S, U⟩) ((((((w5.setCell ⟨w.heap.size, 66 + k * 14 + 3, none⟩ T).setCell ⟨w.heap.size, 66 + k * 14 + 5, none⟩ D).setCell ⟨w.heap.size, 66 + k * 14 + 6, none⟩ S).setCell ⟨w.heap.size, 66 + k * 14 + 7, none⟩ U).setCell ⟨w.heap.size, 66 + k * 14 + 8, none⟩ (.int .i64 (p.L k).out.g)).setCell ⟨w.heap.size, 66 + k * 14 + 9, none⟩ (.bool (p.L k).out.cl)) := by
  have hlt := h.lt
  have C5 := ((((((h.C.over hb).set (66 + k * 14 + 3) T).set (66 + k * 14 + 5) D).set (66 + k * 14 + 6) S).set (66 + k * 14 + 7) U).set (66 + k * 14 + 8) (.int .i64 (p.L k).out.g)).set (66 + k * 14 + 9) (.bool (p.L k).out.cl)
  rw [pr_lk k hk] at C5
  have hk6 := fun (b : Nat) (hb : b ≠ w.heap.size) => heap6 w5 hb (66 + k * 14 + 3) (66 + k * 14 + 5) (66 + k * 14 + 6) (66 + k * 14 + 7) (66 + k * 14 + 8) (66 + k * 14 + 9) T D S U (.int .i64 (p.L k).out.g) (.bool (p.L k).out.cl)
  refine ⟨C5, (h.R.over hb).keep (hk6 _ (by omega)), ?_, ?_, ?_, fun c hc => ?_, fun c hc => ?_, h.hq⟩
  · exact ((((((h.B.trans (hb.mono h.B.size)).setCell (p := ⟨w.heap.size, _, none⟩) (Nat.le_refl _) _).setCell (p := ⟨w.heap.size, _, none⟩) (Nat.le_refl _) _).setCell (p := ⟨w.heap.size, _, none⟩) (Nat.le_refl _) _).setCell (p := ⟨w.heap.size, _, none⟩) (Nat.le_refl _) _).setCell (p := ⟨w.heap.size, _, none⟩) (Nat.le_refl _) _).setCell (p := ⟨w.heap.size, _, none⟩) (Nat.le_refl _) _
  · exact Ln.own_of (Ln.own_over h.ws hb) fun b hbv => hk6 b (by have := (World.ownsRow.lt h.ws b hbv).1; omega)
  · exact (h.set.over hb).keep fun b hb' _ => hk6 b (by have : w.heap.size + 2 ≤ b := hb'; omega)
  · by_cases e : c = k
    · subst e
      show LkIn _ _ _ (if c = c then _ else _)
      rw [if_pos rfl]
      have key : ∀ {u : Value} {s t : Nat} {cs : List Value}, Rep (fun b => wl.heap.size ≤ b) w5 u s t cs → Rep (fun b => w.heap.size + 2 ≤ b) _ u s t cs := fun hr => (hr.mono (P' := fun b => w.heap.size + 2 ≤ b) fun b _ hb' => Nat.le_trans hlt hb').keep fun b hb' _ => hk6 b (by have : w.heap.size + 2 ≤ b := hb'; omega)
      exact ⟨key h4.told, key h4.done, (key h4.said).c, (key h4.due).c⟩
    · show LkIn _ _ _ (if c = k then _ else _)
      rw [if_neg e]
      exact ((h.lk c (by omega)).keep fun b _ hlt => hb.block b hlt).keep fun b hb' _ => hk6 b (by have : w.heap.size + 2 ≤ b := hb'; omega)
  · show (if c = k then _ else _) = _
    rw [if_neg (by omega)]
    exact h.hl c (by omega)
theorem Rep.one {P : Nat → Prop} {w : World} {v : Value} {sz bts : Nat} {cs : List Value} (h : Rep P w v sz bts cs) : v.oneCell' = true := by
  obtain ⟨_, _, _, rfl, _⟩ := h
  rfl
theorem lk_one {P : Nat → Prop} {w : World} {x : Lk} {v : LkV} (h : LkIn P w x v) : ∀ u ∈ lkL x v, u.oneCell' = true := fun u hu => by
  simp only [lkL, List.mem_cons, List.not_mem_nil, or_false] at hu
  rcases hu with rfl | rfl | rfl | rfl | rfl | rfl | rfl | rfl | rfl | rfl | rfl | rfl | rfl | rfl <;> first | rfl | exact h.told.one | exact h.done.one | exact h.said.one | exact h.due.one
theorem pr_one {P : Nat → Prop} {w : World} {p : Pr} {v : PrV} (h : PIn P w p v) : (prC p v).all (·.oneCell') = true := by
  obtain ⟨A, n, C, e, _⟩ := h.ws
  have hs : (stC p.s v.ws).all (·.oneCell') = true := by rw [e]; exact stC_one _ _ _ _
  rw [Array.all_eq_true_iff_forall_mem] at *
  obtain ⟨_, _, ⟨Aq, nq, Cq, eq, _⟩, _⟩ := h.q
  intro u hu
  simp only [prC, List.mem_toArray, List.mem_append, List.mem_cons, List.not_mem_nil, or_false] at hu
  rcases hu with (rfl | rfl) | hu | rfl | hu | hu | rfl | rfl | rfl
  · rfl
  · rfl
  · exact hs u (by simpa using hu)
  · exact h.set.one
  · exact lk_one (h.lk 0 (by omega)) u hu
  · exact lk_one (h.lk 1 (by omega)) u hu
  · rfl
  · rfl
  · rw [eq]; rfl
/-- a provider whose lists are all in new memory, waits and queue in rows of the call's own -/
structure PCp (B : Nat) (w : World) (p : Pr) (v : PrV) : Prop where
  pin : PIn (fun b => B ≤ b) w p v
  ws : w.ownsRow B 127 8 v.ws p.s.W.length (wsL p.s.W)
  q : ∃ z, QOwn B w v.q p.q z
  oth : Rep (fun b => B ≤ b ∧ some b ≠ v.q.ownBlock) w v.ws 8 64 (wsL p.s.W) ∧ Rep (fun b => B ≤ b ∧ some b ≠ v.q.ownBlock) w v.set 2 16 (pwC p.set) ∧ ∀ c, c < 2 → LkIn (fun b => B ≤ b ∧ some b ≠ v.q.ownBlock) w (p.L c) (v.l c)
theorem pr_end {f : Func} {p' : Tmp} (hres : f.results = #[.cell p' 47]) {wq : World} {g : Nat} {zs cs : Array Value} (R : CAt 47 wq g zs) (hz : zs.size = 97) (hc : cs.size = 97) (Q : Ending → World → Prop) (hQ : Q (.returned (.agg cs)) (wq.setCells g 0 cs.toList)) (act : Act)
    (h8 : act.tmps.getD p' undef = .pointer (some ⟨g, 0, none⟩)) (hd : act.defers = []) : bodyPost Tryz.prog f Q Exit.ret act (wq.setCells g 0 cs.toList) := by
  have R1 := R.setAll (ds := cs) (by rw [hz, hc])
  exact bodyPost_ret (v := .agg cs) (results_cell_row hres _ _ _ _ _ _ _ h8 R1 Tryz.underlying47 rfl (by rw [infoPv, hc])) hd hQ
theorem take_one {α : Type} {l : List α} {k : Nat} {x : α} (h : l[k]? = some x) : l.take k ++ [x] = l.take (k + 1) := by
  have hlt := (List.getElem?_eq_some_iff.1 h).1
  rw [List.take_succ_eq_append_getElem hlt]
  congr 2
  exact ((List.getElem?_eq_some_iff.1 h).2).symm
/-- all is copied: the queue too -/
theorem CpS.all {w : World} {p : Pr} {v0 v : PrV} {w9 wl : World} (h : CpS w p v0 2 v w9) (hb : Below w9.heap.size w9 wl) {lv : Value} {z : List (Value × Value)} (hq : QOwn w9.heap.size wl lv p.q z) (hl : p.q.length * 88 ≤ 140737488351232) (hw : p.s.W.length * 64 ≤ 140737488351232) :
    PCp (w.heap.size + 2) ((wl.setCell ⟨w.heap.size, 96, none⟩ lv).setCells (w.heap.size + 1) 0 (prC p { v with q := lv }).toList) p { v with q := lv } := by
  have hlt := h.lt
  have hk := fun (b : Nat) (hb : w.heap.size + 2 ≤ b) => (heap_sets (show b ≠ w.heap.size + 1 by omega) (prC p { v with q := lv }).toList 0 (wl.setCell ⟨w.heap.size, 96, none⟩ lv)).trans (Below.heap_setCell wl ⟨w.heap.size, 96, none⟩ lv b (by show b ≠ w.heap.size; omega))
  have hq2 : QOwn (w.heap.size + 2) ((wl.setCell ⟨w.heap.size, 96, none⟩ lv).setCells (w.heap.size + 1) 0 (prC p { v with q := lv }).toList) lv p.q z := by
    refine ⟨hq.len, Ln.own_base (Ln.own_of hq.own fun b hb' => hk b (by have := (World.ownsRow.lt hq.own b hb').1; omega)) hlt, fun i x y hx hy => ?_⟩
    have key : ∀ {u : Value} {s t : Nat} {cs : List Value}, Rep (fun b => w9.heap.size ≤ b ∧ some b ≠ lv.ownBlock) wl u s t cs → Rep (fun b => w.heap.size + 2 ≤ b ∧ some b ≠ lv.ownBlock) _ u s t cs := fun hr => (hr.mono (P' := fun b => w.heap.size + 2 ≤ b ∧ some b ≠ lv.ownBlock) fun b _ hb' => ⟨Nat.le_trans hlt hb'.1, hb'.2⟩).keep fun b hb' _ => hk b hb'.1
    exact ⟨key (hq.ins i x y hx hy).1, key (hq.ins i x y hx hy).2⟩
  have hws := Ln.own_of (Ln.own_over h.ws hb) fun b hb' => hk b (World.ownsRow.lt h.ws b hb').1
  have hne : ∀ b, b < w9.heap.size → some b ≠ lv.ownBlock := fun b hb e => by have := (World.ownsRow.lt hq.own b e.symm).1; omega
  have key2 : ∀ {u : Value} {s t : Nat} {cs : List Value}, Rep (fun b => w.heap.size + 2 ≤ b) w9 u s t cs → Rep (fun b => w.heap.size + 2 ≤ b ∧ some b ≠ lv.ownBlock) ((wl.setCell ⟨w.heap.size, 96, none⟩ lv).setCells (w.heap.size + 1) 0 (prC p { v with q := lv }).toList) u s t cs := fun hr => ((hr.mono (P' := fun b => w.heap.size + 2 ≤ b ∧ some b ≠ lv.ownBlock) fun b hlt hb' => ⟨hb', hne b hlt⟩).over hb).keep fun b hb' _ => hk b hb'.1
  refine ⟨⟨Rep.own hws hw, (h.set.over hb).keep fun b hb' _ => hk b hb', fun c hc => ((h.lk c hc).keep fun b _ hlt => hb.block b hlt).keep fun b hb' _ => hk b hb', hq2.rep hl⟩, hws, ⟨z, hq2⟩, key2 (Rep.own h.ws hw), key2 h.set, fun c hc => ⟨key2 (h.lk c hc).told, key2 (h.lk c hc).done, (h.lk c hc).said.map fun _ h => key2 h, (h.lk c hc).due.map fun _ h => key2 h⟩⟩
set_option maxHeartbeats 2000000 in
theorem copyp_any (p : Pr) (v : PrV) (P : Nat → Prop) (w : World) (hp : PIn P w p v) (hq88 : p.q.length * 88 ≤ 140737488351232) :
    Calls Tryz.prog 16 #[.agg (prC p v)] w fun e w' => ∃ v', e = .returned (.agg (prC p v')) ∧ PCp (w.heap.size + 2) w' p v' ∧ Below w.heap.size w w' := by
  have HQ88 := hide hq88
  clear hq88
  obtain ⟨i0, hi, hz0, hz1, hz2⟩ := info_parts infoPw2
  obtain ⟨vw, vs, vl, vq⟩ := v
  obtain ⟨Aw, Cw, bw, ow, rfl, Ws, -, -⟩ := hp.ws.wsAt
  obtain ⟨As, Cs, rfl, sS, nS, -, cS⟩ := hp.set.open (pwC_length _) (by decide)
  obtain ⟨cs, hcs⟩ : ∃ cs, prC p ⟨.slice Aw p.s.W.length Cw, .slice As p.set.length Cs, vl, vq⟩ = cs := ⟨_, rfl⟩
  rw [hcs]
  have HCS := hide hcs
  clear hcs
  go_enter Tryz.func16, Tryz.ntmps16
  go_upto_region 1 with fail
  have C1 : CAt 47 ((w.alloc (.cells cs 47)).alloc (.cells Tryz.zeroCells47 47)) w.heap.size (prC p ⟨.slice Aw p.s.W.length Cw, .slice As p.set.length Cs, vl, vq⟩) := by rw [HCS.out]; exact (CAt.new _ w cs).alloc _
  have R1 := CAt.new2 47 w (.cells cs 47) Tryz.zeroCells47
  have B1 : Below w.heap.size w ((w.alloc (.cells cs 47)).alloc (.cells Tryz.zeroCells47 47)) := ((Below.refl _ w).alloc (Nat.le_refl _) _).alloc (by simp) _
  have hz1' : w.heap.size + 2 ≤ ((w.alloc (.cells cs 47)).alloc (.cells Tryz.zeroCells47 47)).heap.size := by simp
  generalize (w.alloc (.cells cs 47)).alloc (.cells Tryz.zeroCells47 47) = w1 at *
  apply wp_region_lit
  iterate 3 go_step
  refine wpList_load_mid rfl 32 _ rfl w.heap.size 2 rfl _ _ (pr_stake C1) Tryz.underlying32 rfl (by rw [infoS]; rfl) ?_
  go_step
  go_step
  refine (copy_st3 p.s Aw bw ow Cw w1 (Ws.over B1)).mono ?_
  rintro e w2 ⟨A2, C2, rfl, hO2, hb2⟩
  dsimp only
  have C2' := C1.over hb2
  have R2 := R1.over hb2
  have B2 := B1.trans (hb2.mono B1.size)
  have hz2' := Nat.le_trans hz1' hb2.size
  iterate 4 go_step
  refine wpList_store_mid rfl 32 _ _ rfl w.heap.size 2 (stC p.s (.slice A2 p.s.W.length C2)) rfl rfl (C2'.there 2 _ (by rw [prC_size, stC_size]; omega)) (by rw [infoS]; rfl) (stC_one _ _ _ _) ?_
  have C3 := CAt.sets (stC p.s (.slice A2 p.s.W.length C2)).toList 2 _ _ C2'
  rw [pr_ws] at C3
  have R3 := R2.others (c := w.heap.size) (o := 2) (by omega) (stC p.s (.slice A2 p.s.W.length C2)).toList
  have B3 := below_sets (Nat.le_refl _) (stC p.s (.slice A2 p.s.W.length C2)).toList 2 _ B2
  have hO3 := hO2.to (w' := w2.setCells w.heap.size 2 (stC p.s (.slice A2 p.s.W.length C2)).toList) fun k h1 _ => heap_sets (by omega) _ _ _
  have hz3' : w.heap.size + 2 ≤ (w2.setCells w.heap.size 2 (stC p.s (.slice A2 p.s.W.length C2)).toList).heap.size := by have := R3.lt; omega
  clear C1 R1 B1 hb2 C2' R2 B2 hO2 HCS Ws
  generalize w2.setCells w.heap.size 2 (stC p.s (.slice A2 p.s.W.length C2)).toList = w3 at *
  go_simp
  go_upto_region 2 with fail
  have c65 : w3.cell? ⟨w.heap.size, 65, none⟩ = some (.slice As p.set.length Cs) := C3.cell 65
  have oneS := one_pws p.set
  have lnS := pwC_length p.set
  have bS : 0 + p.set.length ≤ maxLen := by unfold maxLen; omega
  have cS3 : ∀ ad, As = some ad → ∀ j u, (pwC p.set)[j]? = some u → w3.cell? (ad.add j) = some u := ((hp.set.over B3).open (pwC_length _) (by decide)).elim fun _ h => h.elim fun _ h => by obtain ⟨e, -, -, -, h⟩ := h; cases e; exact h
  apply wp_region_lit
  iterate 6 go_step
  refine wpList_app rfl _ _ 33 rfl w3.heap.size 74 i0 _ 2 16 Tryz.underlying33 hi hz0 hz1 hz2 rfl (by decide) (.slice none 0 0) 0 [] rfl (World.ownsRow_nil _ _ _ _) As p.set.length Cs (pwC p.set) rfl lnS nS cS3 oneS bS (by omega) (Nat.le_refl _) ?_
  intro A4 C4 w4 ho4 hg4
  rw [Nat.zero_add, List.nil_append] at ho4
  have b4 : Below w3.heap.size w3 w4 := (Below.refl _ w3).grown hg4 (Nat.le_refl _) (fun k hk => by cases hk)
  have rp4 : Rep (fun b => w3.heap.size ≤ b) w4 (.slice A4 p.set.length C4) 2 16 (pwC p.set) := Rep.own ho4 sS
  have C4' := C3.over b4
  have f65 : w4.frozen? ⟨w.heap.size, 65, none⟩ = false := C4'.free 65
  have d65 : w4.cell? ⟨w.heap.size, 65, none⟩ = some (.slice As p.set.length Cs) := C4'.cell 65
  rw [Nat.zero_add]
  have S5 : CpS w p ⟨.slice Aw p.s.W.length Cw, .slice As p.set.length Cs, vl, vq⟩ 0 ⟨.slice A2 p.s.W.length C2, .slice A4 p.set.length C4, vl, vq⟩ (w4.setCell ⟨w.heap.size, 65, none⟩ (.slice A4 p.set.length C4)) := by
    have hk6 := fun (b : Nat) (hb : b ≠ w.heap.size) => Below.heap_setCell w4 ⟨w.heap.size, 65, none⟩ (.slice A4 p.set.length C4) b hb
    refine ⟨?_, (R3.over b4).keep (hk6 _ (by omega)), (B3.trans (b4.mono B3.size)).setCell (Nat.le_refl _) _, ?_, ?_, fun c hc => absurd hc (by omega), fun _ _ => rfl, rfl⟩
    · have := C4'.set 65 (.slice A4 p.set.length C4)
      rwa [pr_set] at this
    · exact Ln.own_of (Ln.own_base (Ln.own_over hO3 b4) (by omega)) fun b hb => hk6 b (by have := (World.ownsRow.lt hO3 b hb).1; omega)
    · exact (rp4.mono (P' := fun b => w.heap.size + 2 ≤ b) fun b _ hb => by have : w3.heap.size ≤ b := hb; omega).keep fun b hb _ => hk6 b (by have : w.heap.size + 2 ≤ b := hb; omega)
  clear ho4 hg4 rp4 C4' C3 R3 B3 hO3 b4 cS3 cS hz3' c65
  go_upto_region 3 with fail
  generalize w4.setCell ⟨w.heap.size, 65, none⟩ (.slice A4 p.set.length C4) = w5 at *
  have HS5 := hide S5
  have HP := hide hp
  generalize hv0 : (⟨.slice Aw p.s.W.length Cw, .slice As p.set.length Cs, vl, vq⟩ : PrV) = v0 at *
  generalize (⟨.slice A2 p.s.W.length C2, .slice A4 p.set.length C4, vl, vq⟩ : PrV) = v5 at *
  have HV0 := hide hv0
  clear S5 hp hv0 f65 d65 oneS lnS bS sS nS hz1' hz2' hi hz0 hz1 hz2
  go_upto_region 4 with fail
  go_loopw [16] (fun i wl => ∃ (k : Nat) (v : PrV), k ≤ 2 ∧ i = .int .i64 (k : Int) ∧ Hid (CpS w p v0 k v wl)) (fun i _ => (2 - intOf i).toNat)
  case atStart => exact ⟨0, v5, by omega, rfl, HS5⟩
  case round =>
    obtain ⟨k, v, hk, rfl, HR⟩ := hrel
    by_cases hk2 : k < 2
    · have hkk : (k : Int) < 2 := by omega
      have hk0 : (0 : Int) ≤ (k : Int) := by omega
      go_upto_region 7 with fail
      have hxl := (HP.out.lk k hk2).keep (w' := wr) fun b _ hlt => HR.out.B.block b hlt
      rw [← HR.out.hl k (Nat.le_refl _)] at hxl
      have hgt : w.heap.size < wr.heap.size := HR.out.C.lt
      have cf : ∀ j, j < 14 → wr.cell? ⟨w.heap.size, 66 + k * 14 + j, none⟩ = (lkL (p.L k) (v.l k))[j]? := fun j hj => (HR.out.C.cell _).trans (pr_link k hk2 j hj)
      refine cp7_wp w.heap.size (66 + k * 14) (p.L k) (v.l k) P wr hxl hgt (cf 3 (by omega)) (cf 5 (by omega)) (cf 6 (by omega)) (cf 7 (by omega)) (cf 8 (by omega)) (cf 9 (by omega)) (fun j _ => HR.out.C.free _) _ _ _ _ _ _ _ _ _ _ _ _ _ _ _ _ _ _ _ _ _ _ _ _ _ _ _ _ _ _ _ _ _ _ _ _ _ _ _ _ _ _ _ _ _ _ _ _ _ _ _ _ _ _ _ _ _ _ _ _ _ _ _ _ _ _ _ ?_
      intro T D S U t22 t23 t24 t25 t26 t27 t28 t29 t30 t31 t32 t33 t34 t35 t36 t37 t38 t39 t40 t41 t42 t43 t44 t45 w6 hb6 h4
      have HN := hide (HR.out.next hk2 hb6 h4)
      clear cf hxl hgt hb6 h4 HR
      generalize (((((w6.setCell ⟨w.heap.size, 66 + k * 14 + 3, none⟩ T).setCell ⟨w.heap.size, 66 + k * 14 + 5, none⟩ D).setCell ⟨w.heap.size, 66 + k * 14 + 6, none⟩ S).setCell ⟨w.heap.size, 66 + k * 14 + 7, none⟩ U).setCell ⟨w.heap.size, 66 + k * 14 + 8, none⟩ (.int .i64 (p.L k).out.g)).setCell ⟨w.heap.size, 66 + k * 14 + 9, none⟩ (.bool (p.L k).out.cl) = w7 at *
      go_wp2
      first | exact ⟨⟨k + 1, _, by omega, by go_num, HN⟩, by simp [intOf]; omega⟩ | ((repeat apply Exists.intro); exact ⟨⟨k + 1, _, by omega, by go_num, HN⟩, rfl⟩)
    · obtain rfl : k = 2 := by omega
      go_upto_region 10 with fail
      have hw64 : p.s.W.length * 64 ≤ 140737488351232 := by obtain ⟨_, _, _, _, _, W, _⟩ := HP.out.ws.wsAt; exact W.len
      obtain ⟨z, hzl, hzr, hzi⟩ := HP.out.q
      obtain ⟨Aq, Cq, eq, sq, nq, cq, -⟩ := hzr.open (quL_length _ _ hzl) (by decide)
      have c96 : wr.cell? ⟨w.heap.size, 96, none⟩ = some (.slice Aq p.q.length Cq) := by
        rw [HR.out.C.cell 96, ← eq, ← HR.out.hq]; rfl
      have HZI := hide hzi
      have HCQ := hide cq
      have HZL := hide hzl
      clear hzi cq hzr nq hzl
      go_upto_region 11 with fail
      clear c96
      have HSZ : Hid (p.q.length * 88 ≤ 140737488351232 ∧ p.s.W.length * 64 ≤ 140737488351232) := ⟨HQ88.out, hw64⟩
      have hq63 : p.q.length ≤ 1800000000000 := by omega
      clear sq hw64
      rename World => w9
      go_loopw [5, 50] (fun lv i wl => ∃ (k : Nat) (z : List (Value × Value)), k ≤ p.q.length ∧ i = .int .i64 (k : Int) ∧ Hid (QOwn w9.heap.size wl lv (p.q.take k) z) ∧ Hid (Below w9.heap.size w9 wl)) (fun _ i _ => p.q.length - (intOf i).toNat)
      case atStart => exact ⟨0, [], Nat.zero_le _, rfl, QOwn.nil _ _, Below.refl _ _⟩
      case round =>
        obtain ⟨k, zk, hk, rfl, HQ, HB⟩ := hrel
        by_cases hlt : k < p.q.length
        · have hkI : (k : Int) < (p.q.length : Int) := by omega
          have hk0 : (0 : Int) ≤ (k : Int) := by omega
          obtain ⟨x, hx⟩ : ∃ x, p.q[k]? = some x := ⟨_, List.getElem?_eq_getElem hlt⟩
          obtain ⟨y, hy⟩ : ∃ y, z[k]? = some y := ⟨_, List.getElem?_eq_getElem (by rw [HZL.out]; exact hlt)⟩
          have hin := HZI.out k x y hx hy
          obtain ⟨y1, y2⟩ := y
          obtain ⟨⟨B1, n1, D1, ey1, -⟩, ⟨B2, n2, D2, ey2, -⟩⟩ := id hin
          dsimp only at ey1 ey2
          subst ey1 ey2
          have hBw : Below w.heap.size w wr := HR.out.B.trans (HB.out.mono (by have := HR.out.lt; omega))
          obtain ⟨bq, oq, rfl, -, hbl, hcell⟩ := HCQ.out (by omega)
          have hc : ∀ j, j < 7 → ∀ u, (akL x (.slice B1 n1 D1, .slice B2 n2 D2))[j]? = some u → wr.cell? ⟨bq, oq + k * 7 + j, none⟩ = some u := fun j hj u hu => by
            rw [hBw.cell (p := ⟨bq, oq + k * 7 + j, none⟩) hbl, Nat.add_assoc]
            exact hcell _ _ ((quL_get p.q z k x _ j hx hy hj).trans hu)
          have e0 := hc 0 (by omega) _ rfl
          have e1 := hc 1 (by omega) _ rfl
          have e2 := hc 2 (by omega) _ rfl
          have e3 := hc 3 (by omega) _ rfl
          have e4 := hc 4 (by omega) _ rfl
          have e5 := hc 5 (by omega) _ rfl
          have e6 := hc 6 (by omega) _ rfl
          rw [Nat.add_zero] at e0
          have HX := hide (show _ ∧ _ from ⟨hx, hin⟩)
          have HBW := hide hBw
          clear hc hcell hin hx hy hBw
          go_upto_region 13 with fail
          have b1 : Below wr.heap.size wr (wr.alloc (.cells #[.int .i64 x.1, .int .i64 x.2.k, .int .i64 x.2.i, .int .i64 x.2.v, .int .i64 x.2.n, .slice B1 n1 D1, .slice B2 n2 D2] 79)) := (Below.refl _ wr).alloc (Nat.le_refl _) _
          have hB9 : w9.heap.size ≤ wr.heap.size := HB.out.size
          refine cp13_wp w9.heap.size wr.heap.size u5 (p.q.take k) zk x (.slice B1 n1 D1, .slice B2 n2 D2) P _ (HQ.out.over b1) (Nat.le_trans hB9 b1.size) (by rw [List.length_take, Nat.min_eq_left hk]; have := HSZ.out.1; omega) ⟨(HX.out.2.1.over HBW.out).over b1, (HX.out.2.2.over HBW.out).over b1⟩ (CAt.new _ _ _) _ _ _ _ _ _ _ _ _ _ _ _ _ _ _ _ _ _ _ _ _ _ _ _ _ _ _ _ _ _ _ _ _ _ _ _ _ _ _ _ _ _ _ _ _ _ _ _ _ _ _ _ _ _ _ _ _ _ _ _ _ _ _ _ _ _ ?_
          intro lv' z' t54 t55 t56 t57 t58 t59 t60 t61 t62 w6 hb6 hq6
          rw [take_one HX.out.1] at hq6
          have HQ6 := hide hq6
          have HB6 := hide (HB.out.trans ((b1.mono hB9).trans hb6))
          clear hq6 hb6 b1 HQ HB HX HBW e0 e1 e2 e3 e4 e5 e6 hB9
          go_wp2
          first | exact ⟨⟨k + 1, z', by omega, by go_num, HQ6, HB6⟩, by simp [intOf]; omega⟩ | ((repeat apply Exists.intro); exact ⟨⟨k + 1, z', by omega, by go_num, HQ6, HB6⟩, rfl⟩)
        · obtain rfl : k = p.q.length := by omega
          have hBw : Below w.heap.size w wr := HR.out.B.trans (HB.out.mono (by have := HR.out.lt; omega))
          have C9 := HR.out.C.later HB.out HR.out.C.lt
          have R9 := HR.out.R.later HB.out HR.out.R.lt
          rw [List.take_length] at HQ
          have HA := hide (HR.out.all HB.out HQ.out HSZ.out.1 HSZ.out.2)
          have d96 : wr.cell? ⟨w.heap.size, 96, none⟩ = some v.q := C9.cell 96
          have f96 : wr.frozen? ⟨w.heap.size, 96, none⟩ = false := C9.free 96
          obtain ⟨Al, Cl, el⟩ := Ln.own_form HQ.out.own
          subst el
          go_upto_region 16 with fail
          have C10 := C9.set 96 (.slice Al p.q.length Cl)
          rw [pr_q] at C10
          have R10 := R9.other (c := w.heap.size) (o := 96) (by omega) (.slice Al p.q.length Cl)
          have B10 := hBw.setCell (p := ⟨w.heap.size, 96, none⟩) (Nat.le_refl _) (.slice Al p.q.length Cl)
          have hone : (prC p { v with q := .slice Al p.q.length Cl }).all (·.oneCell') = true := pr_one HA.out.pin
          apply wp_region_lit
          refine wpList_load_mid rfl 47 _ rfl w.heap.size 0 rfl _ _ C10.range Tryz.underlying47 rfl (by rw [infoPv]; rfl) ?_
          refine wpList_store_mid rfl 47 _ _ rfl (w.heap.size + 1) 0 (prC p { v with q := .slice Al p.q.length Cl }) rfl rfl (R10.there 0 _ (by rw [Z97_size, prC_size]; omega)) (by rw [infoPv]; rfl) hone ?_
          have HZ := hide (show _ ∧ _ from ⟨R10, B10⟩)
          clear C10 R10 B10 C9 R9 d96 f96 HB HQ HR hBw hone
          go_wp2
          exact pr_end Tryz.results16 HZ.out.1 Z97_size (prC_size _ _) _ ⟨_, rfl, HA.out, below_sets (Nat.le_succ _) _ _ _ HZ.out.2⟩ _ rfl rfl
end Go.Proofs.YtjghbciepinofaaGreat.Pv

set_option maxRecDepth 100000
namespace Go.Proofs.YtjghbciepinofaaGreat.Pv
open Go.RowKit
section
variable {P P' : Nat → Prop} {w : World}
theorem samepw_rep (l : List (Int × Int)) (v v' : Value) (h : Rep P w v 2 16 (pwC l)) (h' : Rep P' w v' 2 16 (pwC l)) : Calls Tryz.prog 55 #[v, v'] w fun e w' => e = .returned (.bool true) ∧ Below w.heap.size w w' := by
  obtain ⟨A1, C1, A2, C2, sb, so, db, dO, rfl, -, L⟩ := Rep.lies (D := []) h (Rep.nil P w 1 8)
  obtain ⟨B1, D1, B2, D2, sb', so', db', dO', rfl, -, L'⟩ := Rep.lies (D := []) h' (Rep.nil P' w 1 8)
  have := Cd.pws30 l l A1 B1 C1 D1 sb so sb' so' w L.hls L.hls L.hsa L'.hsa L.PS L'.PS
  rwa [decide_eq_true rfl] at this
theorem samenm_rep (l : List Int) (v v' : Value) (h : Rep P w v 1 8 (inC l)) (h' : Rep P' w v' 1 8 (inC l)) : Calls Tryz.prog 18 #[v, v'] w fun e w' => e = .returned (.bool true) ∧ Below w.heap.size w w' := by
  obtain ⟨A1, C1, A2, C2, sb, so, db, dO, -, rfl, L⟩ := Rep.lies (S := []) (Rep.nil P w 2 16) h
  obtain ⟨B1, D1, B2, D2, sb', so', db', dO', -, rfl, L'⟩ := Rep.lies (S := []) (Rep.nil P' w 2 16) h'
  have := Cd.nums31 l l A2 B2 C2 D2 db dO db' dO' w L.hld L.hld L.hda L'.hda L.PD L'.PD
  rwa [decide_eq_true rfl] at this
theorem samek_rep (k i n m : Int) (S : List (Int × Int)) (D : List Int) (v1 v2 v1' v2' : Value) (h1 : Rep P w v1 2 16 (pwC S)) (h2 : Rep P w v2 1 8 (inC D)) (h1' : Rep P' w v1' 2 16 (pwC S)) (h2' : Rep P' w v2' 1 8 (inC D)) :
    Calls Tryz.prog 57 #[.agg #[.int .i64 k, .int .i64 i, .int .i64 n, .int .i64 m, v1, v2], .agg #[.int .i64 k, .int .i64 i, .int .i64 n, .int .i64 m, v1', v2']] w fun e w' => e = .returned (.bool true) ∧ Below w.heap.size w w' := by
  obtain ⟨A1, C1, A2, C2, sb, so, db, dO, rfl, rfl, L⟩ := Rep.lies h1 h2
  obtain ⟨B1, D1, B2, D2, sb', so', db', dO', rfl, rfl, L'⟩ := Rep.lies h1' h2'
  have e : decide (k = k ∧ i = i ∧ n = n ∧ m = m ∧ S = S ∧ D = D) = true := decide_eq_true ⟨rfl, rfl, rfl, rfl, rfl, rfl⟩
  have := Cd.same17 k i n m k i n m S S D D A1 A2 B1 B2 C1 C2 sb so db dO D1 D2 sb' so' db' dO' w L.hls L.hld L.hsa L.hda L.PS L.PD L.hls L.hld L'.hsa L'.hda L'.PS L'.PD
  rwa [e] at this
end
end Go.Proofs.YtjghbciepinofaaGreat.Pv

set_option maxRecDepth 100000
namespace Go.Proofs.YtjghbciepinofaaGreat.Pv
open Go.RowKit
section
variable {P P' : Nat → Prop} {w : World}
theorem sames_rep (s : St) (v v' : Value) (h : Rep P w v 8 64 (wsL s.W)) (h' : Rep P' w v' 8 64 (wsL s.W)) : Calls Tryz.prog 54 #[.agg (stC s v), .agg (stC s v')] w fun e w' => e = .returned (.bool true) ∧ Below w.heap.size w w' := by
  obtain ⟨A, C, b, o, rfl, W, -, -⟩ := h.wsAt
  obtain ⟨A', C', b', o', rfl, W', -, -⟩ := h'.wsAt
  exact same_any s A A' b o b' o' C C' w W W'
end
end Go.Proofs.YtjghbciepinofaaGreat.Pv

set_option maxRecDepth 100000
namespace Go.Proofs.YtjghbciepinofaaGreat.Pv
open Go.RowKit
def loadLk (v : Value) : Sem Value := Instr.loadAt 41 v
theorem loadLk_eq (v : Value) : Instr.loadAt 41 v = loadLk v := rfl
theorem infoLk : (Tryz.prog.info? 41).map (·.size) = some 14 := by kernel_rfl
theorem pr_range_link {w : World} {b : Nat} {p : Pr} {v : PrV} (h : CAt 47 w b (prC p v)) (k : Nat) (hk : k < 2) : w.rangeAt b (66 + k * 14) (lkL (p.L k) (v.l k)) := h.part fun j x hx => by
  have hj : j < 14 := (List.getElem?_eq_some_iff.1 hx).1
  rw [pr_link k hk j hj]
  exact hx
theorem pr_loadLk {w : World} {b : Nat} {p : Pr} {v : PrV} (h : CAt 47 w b (prC p v)) (k : Nat) (hk : k < 2) : (loadLk (.pointer (some ⟨b, 66 + k * 14, none⟩))).run Tryz.prog w = .ok (.agg (lkL (p.L k) (v.l k)).toArray) w :=
  run_loadAt_mid (P := Tryz.prog) w b (66 + k * 14) 41 _ _ (pr_range_link h k hk) Tryz.underlying41 rfl (by rw [infoLk]; rfl)
theorem pr_loadS {w : World} {b : Nat} {p : Pr} {v : PrV} (h : CAt 47 w b (prC p v)) : (loadS (.pointer (some ⟨b, 2, none⟩))).run Tryz.prog w = .ok (.agg (stC p.s v.ws)) w := by
  have := run_loadAt_mid (P := Tryz.prog) w b 2 32 _ _ (pr_stake h) Tryz.underlying32 rfl (by rw [infoS]; rfl)
  change (Instr.loadAt 32 _).run Tryz.prog w = _
  simpa using this
noncomputable def sp6C : Code := subC [1, 1, 0, 1, 9, 9, 1, 1, 0, 9, 1, 0] (Tryz.f19.body.getD .skip)
noncomputable def sp13C : Code := subC [1, 1, 1, 0, 1, 9, 9, 1, 1, 0, 9, 1, 0] (Tryz.f19.body.getD .skip)
attribute [local go_sem ↓] loadLk_eq
set_option maxHeartbeats 8000000 in
set_option maxRecDepth 1000000 in
theorem sp6_wp (g g' k : Nat) (hk : k < 2) (p : Pr) (v v' : PrV) (wl : World) (h : CAt 47 wl g (prC p v)) (h' : CAt 47 wl g' (prC p v')) (v0 v1 v4 v6 v7 v8 v9 v10 v11 v12 v13 v14 v15 v16 v17 v18 v19 v20 v21 v22 v23 v24 v25 v26 v27 v28 v29 v30 v31 v32 v33 v34 v35 v36 v37 v38 v39 v40 v41 v42 v43 v44 v45 v46 v47 v48 v49 v50 v51 v52 v53 v54 v55 v56 v57 v58 v59 v60 v61 v62 v63 v64 v65 v66 v67 v68 v69 v70 v71 v72 v73 v74 v75 v76 v77 v78 v79 v80 v81 v82 v83 v84 v85 v86 v87 v88 v89 v90 v91 v92 v93 v94 v95 v96 v97 v98 v99 v100 v101 v102 v103 v104 v105 v106 v107 v108 v109 v110 v111 v112 v113 v114 v115 v116 v117 v118 v119 v120 v121 v122 v123 v124 v125 v126 v127 v128 v129 v130 v131 v132 v133 v134 v135 v136 v137 v138 v139 v140 v141 v142 v143 v144 v145 v146 v147 v148 v149 v150 v151 v152 v153 v154 v155 v156 v157 : Value) (Q : Exit → Act → World → Prop)
    (hone : (∀ u ∈ lkL (p.L k) (v.l k), u.oneCell' = true) ∧ ∀ u ∈ lkL (p.L k) (v'.l k), u.oneCell' = true)
    (hQ : ∀ (x6 x7 : Nat) (t56 t57 t58 t59 t60 t61 t62 t63 : Value) (w5 : World), Below wl.heap.size wl w5 → CAt 41 w5 x6 (lkL (p.L k) (v.l k)).toArray → CAt 41 w5 x7 (lkL (p.L k) (v'.l k)).toArray → Q .normal ⟨List.toArray (v0 :: v1 :: (.pointer (some ⟨g, 0, none⟩)) :: (.pointer (some ⟨g', 0, none⟩)) :: v4 :: (.int .i64 (k : Int)) :: (.pointer (some ⟨x6, 0, none⟩)) :: (.pointer (some ⟨x7, 0, none⟩)) :: v8 :: v9 :: v10 :: v11 :: v12 :: v13 :: v14 :: v15 :: v16 :: v17 :: v18 :: v19 :: v20 :: v21 :: v22 :: v23 :: v24 :: v25 :: v26 :: v27 :: v28 :: v29 :: v30 :: v31 :: v32 :: v33 :: v34 :: v35 :: v36 :: v37 :: v38 :: v39 :: v40 :: v41 :: v42 :: v43 :: v44 :: v45 :: v46 :: v47 :: v48 :: v49 :: v50 :: v51 :: v52 :: v53 :: v54 :: v55 :: (t56) :: (t57) :: (t58) :: (t59) :: (t60) :: (t61) :: (t62) :: (t63) :: v64 :: v65 :: v66 :: v67 :: v68 :: v69 :: v70 :: v71 :: v72 :: v73 :: v74 :: v75 :: v76 :: v77 :: v78 :: v79 :: v80 :: v81 :: v82 :: v83 :: v84 :: v85 :: v86 :: v87 :: v88 :: v89 :: v90 :: v91 :: v92 :: v93 :: v94 :: v95 :: v96 :: v97 :: v98 :: v99 :: v100 :: v101 :: v102 :: v103 :: v104 :: v105 :: v106 :: v107 :: v108 :: v109 :: v110 :: v111 :: v112 :: v113 :: v114 :: v115 :: v116 :: v117 :: v118 :: v119 :: v120 :: v121 :: v122 :: v123 :: v124 :: v125 :: v126 :: v127 :: v128 :: v129 :: v130 :: v131 :: v132 :: v133 :: v134 :: v135 :: v136 :: v137 :: v138 :: v139 :: v140 :: v141 :: v142 :: v143 :: v144 :: v145 :: v146 :: v147 :: v148 :: v149 :: v150 :: v151 :: v152 :: v153 :: v154 :: v155 :: v156 :: v157 :: []), []⟩ w5) :
    Code.wp Tryz.prog sp6C Q ⟨List.toArray (v0 :: v1 :: (.pointer (some ⟨g, 0, none⟩)) :: (.pointer (some ⟨g', 0, none⟩)) :: v4 :: (.int .i64 (k : Int)) :: v6 :: v7 :: v8 :: v9 :: v10 :: v11 :: v12 :: v13 :: v14 :: v15 :: v16 :: v17 :: v18 :: v19 :: v20 :: v21 :: v22 :: v23 :: v24 :: v25 :: v26 :: v27 :: v28 :: v29 :: v30 :: v31 :: v32 :: v33 :: v34 :: v35 :: v36 :: v37 :: v38 :: v39 :: v40 :: v41 :: v42 :: v43 :: v44 :: v45 :: v46 :: v47 :: v48 :: v49 :: v50 :: v51 :: v52 :: v53 :: v54 :: v55 :: v56 :: v57 :: v58 :: v59 :: v60 :: v61 :: v62 :: v63 :: v64 :: v65 :: v66 :: v67 :: v68 :: v69 :: v70 :: v71 :: v72 :: v73 :: v74 :: v75 :: v76 :: v77 :: v78 :: v79 :: v80 :: v81 :: v82 :: v83 :: v84 :: v85 :: v86 :: v87 :: v88 :: v89 :: v90 :: v91 :: v92 :: v93 :: v94 :: v95 :: v96 :: v97 :: v98 :: v99 :: v100 :: v101 :: v102 :: v103 :: v104 :: v105 :: v106 :: v107 :: v108 :: v109 :: v110 :: v111 :: v112 :: v113 :: v114 :: v115 :: v116 :: v117 :: v118 :: v119 :: v120 :: v121 :: v122 :: v123 :: v124 :: v125 :: v126 :: v127 :: v128 :: v129 :: v130 :: v131 :: v132 :: v133 :: v134 :: v135 :: v136 :: v137 :: v138 :: v139 :: v140 :: v141 :: v142 :: v143 :: v144 :: v145 :: v146 :: v147 :: v148 :: v149 :: v150 :: v151 :: v152 :: v153 :: v154 :: v155 :: v156 :: v157 :: []), []⟩ wl := by
  have HK := hide hQ
  have hF : ∀ wx, Below wl.heap.size wl wx → (loadLk (.pointer (some ⟨g, 66 + k * 14, none⟩))).run Tryz.prog wx = .ok (.agg (lkL (p.L k) (v.l k)).toArray) wx ∧ (loadLk (.pointer (some ⟨g', 66 + k * 14, none⟩))).run Tryz.prog wx = .ok (.agg (lkL (p.L k) (v'.l k)).toArray) wx := fun wx hb => ⟨pr_loadLk (h.over hb) k hk, pr_loadLk (h'.over hb) k hk⟩
  have hkk : (k : Int) < 2 := by omega
  have hk0 : (0 : Int) ≤ (k : Int) := by omega
  clear hQ h h'
  conv => arg 2; whnf
  refine wp_region_noPanic ?_
  have hb : Below wl.heap.size wl wl.drew := (Below.refl _ wl).drew
  refine wp_region_held (S := fun wx => Below wl.heap.size wl wx) (by kernel_rfl) ?_
  change wpAnyH _ _ _ _ _ _ _ _ wl.drew
  refine Od.anyH_sl (i := 0) (v := .int .i64 (k : Int)) (some 56) rfl rfl (by kernel_rfl) (by kernel_rfl) (by kernel_rfl) (fun _ _ _ h => h) (Or.inl ⟨by rfl, ?_⟩) hb ?_
  · intro wx hwx; go_simp
  simp only [Act.put, List.setIfInBounds_toArray, List.set_cons_zero, List.set_cons_succ]
  refine Od.anyH_sl (i := 1) (v := .pointer (some ⟨g, 66, none⟩)) (some 57) rfl rfl (by kernel_rfl) (by kernel_rfl) (by kernel_rfl) (fun _ _ _ h => h) (Or.inl ⟨by rfl, ?_⟩) hb ?_
  · intro wx hwx; go_simp
  simp only [Act.put, List.setIfInBounds_toArray, List.set_cons_zero, List.set_cons_succ]
  refine Od.anyH_sl (i := 2) (v := .pointer (some ⟨g, 66 + k * 14, none⟩)) (some 58) rfl rfl (by kernel_rfl) (by kernel_rfl) (by kernel_rfl) (fun _ _ _ h => h) (Or.inl ⟨by rfl, ?_⟩) hb ?_
  · intro wx hwx; go_simp
  simp only [Act.put, List.setIfInBounds_toArray, List.set_cons_zero, List.set_cons_succ]
  refine Od.anyH_sl (i := 3) (v := .agg (lkL (p.L k) (v.l k)).toArray) (some 59) rfl rfl (by kernel_rfl) (by kernel_rfl) (by kernel_rfl) (fun _ _ _ h => h) (Or.inl ⟨by rfl, ?_⟩) hb ?_
  · intro wx hwx; obtain ⟨l1, l2⟩ := hF wx hwx; go_simp
  simp only [Act.put, List.setIfInBounds_toArray, List.set_cons_zero, List.set_cons_succ]
  refine Od.anyH_sl (i := 4) (v := .int .i64 (k : Int)) (some 60) rfl rfl (by kernel_rfl) (by kernel_rfl) (by kernel_rfl) (fun _ _ _ h => h) (Or.inl ⟨by rfl, ?_⟩) hb ?_
  · intro wx hwx; go_simp
  simp only [Act.put, List.setIfInBounds_toArray, List.set_cons_zero, List.set_cons_succ]
  refine Od.anyH_sl (i := 5) (v := .pointer (some ⟨g', 66, none⟩)) (some 61) rfl rfl (by kernel_rfl) (by kernel_rfl) (by kernel_rfl) (fun _ _ _ h => h) (Or.inl ⟨by rfl, ?_⟩) hb ?_
  · intro wx hwx; go_simp
  simp only [Act.put, List.setIfInBounds_toArray, List.set_cons_zero, List.set_cons_succ]
  refine Od.anyH_sl (i := 6) (v := .pointer (some ⟨g', 66 + k * 14, none⟩)) (some 62) rfl rfl (by kernel_rfl) (by kernel_rfl) (by kernel_rfl) (fun _ _ _ h => h) (Or.inl ⟨by rfl, ?_⟩) hb ?_
  · intro wx hwx; go_simp
  simp only [Act.put, List.setIfInBounds_toArray, List.set_cons_zero, List.set_cons_succ]
  refine Od.anyH_sl (i := 7) (v := .agg (lkL (p.L k) (v'.l k)).toArray) (some 63) rfl rfl (by kernel_rfl) (by kernel_rfl) (by kernel_rfl) (fun _ _ _ h => h) (Or.inl ⟨by rfl, ?_⟩) hb ?_
  · intro wx hwx; obtain ⟨l1, l2⟩ := hF wx hwx; go_simp
  simp only [Act.put, List.setIfInBounds_toArray, List.set_cons_zero, List.set_cons_succ]
  refine Od.anyH_two (i := 8) (j := 9) (by kernel_rfl) rfl rfl rfl rfl (fun K hK => ?_) (fun K hK => ?_)
  · go_simp
    refine hK _ _ (hb.alloc (Nat.le_refl _) _) ?_
    clear hK K
    refine Od.anyH_one (i := 9) (by kernel_rfl) rfl rfl (fun K hK => ?_)
    go_simp
    refine hK _ _ ((hb.alloc (Nat.le_refl _) _).alloc (by simp) _) ?_
    clear hK K
    have C0 : CAt 41 ((wl.alloc (.cells #[.bool false, .bool false, .int .i64 0, .slice none 0 0, .bool false, .slice none 0 0, .slice none 0 0, .slice none 0 0, .int .i64 0, .bool false, .int .i64 0, .int .i64 0, .int .i64 0, .int .i64 0] 41)).alloc (.cells #[.bool false, .bool false, .int .i64 0, .slice none 0 0, .bool false, .slice none 0 0, .slice none 0 0, .slice none 0 0, .int .i64 0, .bool false, .int .i64 0, .int .i64 0, .int .i64 0, .int .i64 0] 41)).drew wl.heap.size #[.bool false, .bool false, .int .i64 0, .slice none 0 0, .bool false, .slice none 0 0, .slice none 0 0, .slice none 0 0, .int .i64 0, .bool false, .int .i64 0, .int .i64 0, .int .i64 0, .int .i64 0] := (CAt.new 41 wl #[.bool false, .bool false, .int .i64 0, .slice none 0 0, .bool false, .slice none 0 0, .slice none 0 0, .slice none 0 0, .int .i64 0, .bool false, .int .i64 0, .int .i64 0, .int .i64 0, .int .i64 0]).alloc _
    have C1 : CAt 41 ((wl.alloc (.cells #[.bool false, .bool false, .int .i64 0, .slice none 0 0, .bool false, .slice none 0 0, .slice none 0 0, .slice none 0 0, .int .i64 0, .bool false, .int .i64 0, .int .i64 0, .int .i64 0, .int .i64 0] 41)).alloc (.cells #[.bool false, .bool false, .int .i64 0, .slice none 0 0, .bool false, .slice none 0 0, .slice none 0 0, .slice none 0 0, .int .i64 0, .bool false, .int .i64 0, .int .i64 0, .int .i64 0, .int .i64 0] 41)).drew (wl.heap.size + 1) #[.bool false, .bool false, .int .i64 0, .slice none 0 0, .bool false, .slice none 0 0, .slice none 0 0, .slice none 0 0, .int .i64 0, .bool false, .int .i64 0, .int .i64 0, .int .i64 0, .int .i64 0] := CAt.new2 41 wl (.cells #[.bool false, .bool false, .int .i64 0, .slice none 0 0, .bool false, .slice none 0 0, .slice none 0 0, .slice none 0 0, .int .i64 0, .bool false, .int .i64 0, .int .i64 0, .int .i64 0, .int .i64 0] 41) #[.bool false, .bool false, .int .i64 0, .slice none 0 0, .bool false, .slice none 0 0, .slice none 0 0, .slice none 0 0, .int .i64 0, .bool false, .int .i64 0, .int .i64 0, .int .i64 0, .int .i64 0]
    have hbW : Below wl.heap.size wl ((wl.alloc (.cells #[.bool false, .bool false, .int .i64 0, .slice none 0 0, .bool false, .slice none 0 0, .slice none 0 0, .slice none 0 0, .int .i64 0, .bool false, .int .i64 0, .int .i64 0, .int .i64 0, .int .i64 0] 41)).alloc (.cells #[.bool false, .bool false, .int .i64 0, .slice none 0 0, .bool false, .slice none 0 0, .slice none 0 0, .slice none 0 0, .int .i64 0, .bool false, .int .i64 0, .int .i64 0, .int .i64 0, .int .i64 0] 41)).drew := (((Below.refl _ wl).alloc (Nat.le_refl _) _).alloc (by simp) _).drew
    generalize ((wl.alloc (.cells #[.bool false, .bool false, .int .i64 0, .slice none 0 0, .bool false, .slice none 0 0, .slice none 0 0, .slice none 0 0, .int .i64 0, .bool false, .int .i64 0, .int .i64 0, .int .i64 0, .int .i64 0] 41)).alloc (.cells #[.bool false, .bool false, .int .i64 0, .slice none 0 0, .bool false, .slice none 0 0, .slice none 0 0, .slice none 0 0, .int .i64 0, .bool false, .int .i64 0, .int .i64 0, .int .i64 0, .int .i64 0] 41)).drew = w2 at *
    have o1 : ((lkL (p.L k) (v.l k)).toArray).all (·.oneCell') = true := by rw [Array.all_eq_true_iff_forall_mem]; exact fun u hu => hone.1 u (by simpa using hu)
    have o2 : ((lkL (p.L k) (v'.l k)).toArray).all (·.oneCell') = true := by rw [Array.all_eq_true_iff_forall_mem]; exact fun u hu => hone.2 u (by simpa using hu)
    refine Od.anyH_store (i := 10) (by kernel_rfl) rfl rfl 41 _ _ rfl rfl (wl.heap.size + 0) 0 (lkL (p.L k) (v.l k)).toArray rfl rfl (C0.there 0 _ (by show 0 + 14 ≤ 14; omega)) (by rw [infoLk]; rfl) o1 (below_sets (b := wl.heap.size + 0) (by omega) _ 0 _ hbW) ?_
    refine Od.anyH_store (i := 11) (by kernel_rfl) rfl rfl 41 _ _ rfl rfl (wl.heap.size + 1) 0 (lkL (p.L k) (v'.l k)).toArray rfl rfl ((C1.others (c := wl.heap.size + 0) (o := 0) (by omega) _).there 0 _ (by show 0 + 14 ≤ 14; omega)) (by rw [infoLk]; rfl) o2 (below_sets (b := wl.heap.size + 1) (by omega) _ 0 _ (below_sets (b := wl.heap.size + 0) (by omega) _ 0 _ hbW)) ?_
    have D6 := (CAt.setAll (ds := (lkL (p.L k) (v.l k)).toArray) C0 rfl).others (c := wl.heap.size + 1) (o := 0) (by omega) ((lkL (p.L k) (v'.l k)).toArray).toList
    have D7 := CAt.setAll (ds := (lkL (p.L k) (v'.l k)).toArray) (C1.others (c := wl.heap.size + 0) (o := 0) (by omega) ((lkL (p.L k) (v.l k)).toArray).toList) rfl
    have DB := below_sets (b := wl.heap.size + 1) (by omega) ((lkL (p.L k) (v'.l k)).toArray).toList 0 _ (below_sets (b := wl.heap.size + 0) (by omega) ((lkL (p.L k) (v.l k)).toArray).toList 0 _ hbW)
    refine wpAnyH_done (by kernel_rfl) ?_ _
    exact NoPanic.normal (HK.out (wl.heap.size + 0) (wl.heap.size + 1) _ _ _ _ _ _ _ _ _ DB D6 D7)
  · go_simp
    refine hK _ _ (hb.alloc (Nat.le_refl _) _) ?_
    clear hK K
    refine Od.anyH_one (i := 8) (by kernel_rfl) rfl rfl (fun K hK => ?_)
    go_simp
    refine hK _ _ ((hb.alloc (Nat.le_refl _) _).alloc (by simp) _) ?_
    clear hK K
    have C0 : CAt 41 ((wl.alloc (.cells #[.bool false, .bool false, .int .i64 0, .slice none 0 0, .bool false, .slice none 0 0, .slice none 0 0, .slice none 0 0, .int .i64 0, .bool false, .int .i64 0, .int .i64 0, .int .i64 0, .int .i64 0] 41)).alloc (.cells #[.bool false, .bool false, .int .i64 0, .slice none 0 0, .bool false, .slice none 0 0, .slice none 0 0, .slice none 0 0, .int .i64 0, .bool false, .int .i64 0, .int .i64 0, .int .i64 0, .int .i64 0] 41)).drew wl.heap.size #[.bool false, .bool false, .int .i64 0, .slice none 0 0, .bool false, .slice none 0 0, .slice none 0 0, .slice none 0 0, .int .i64 0, .bool false, .int .i64 0, .int .i64 0, .int .i64 0, .int .i64 0] := (CAt.new 41 wl #[.bool false, .bool false, .int .i64 0, .slice none 0 0, .bool false, .slice none 0 0, .slice none 0 0, .slice none 0 0, .int .i64 0, .bool false, .int .i64 0, .int .i64 0, .int .i64 0, .int .i64 0]).alloc _
    have C1 : CAt 41 ((wl.alloc (.cells #[.bool false, .bool false, .int .i64 0, .slice none 0 0, .bool false, .slice none 0 0, .slice none 0 0, .slice none 0 0, .int .i64 0, .bool false, .int .i64 0, .int .i64 0, .int .i64 0, .int .i64 0] 41)).alloc (.cells #[.bool false, .bool false, .int .i64 0, .slice none 0 0, .bool false, .slice none 0 0, .slice none 0 0, .slice none 0 0, .int .i64 0, .bool false, .int .i64 0, .int .i64 0, .int .i64 0, .int .i64 0] 41)).drew (wl.heap.size + 1) #[.bool false, .bool false, .int .i64 0, .slice none 0 0, .bool false, .slice none 0 0, .slice none 0 0, .slice none 0 0, .int .i64 0, .bool false, .int .i64 0, .int .i64 0, .int .i64 0, .int .i64 0] := CAt.new2 41 wl (.cells #[.bool false, .bool false, .int .i64 0, .slice none 0 0, .bool false, .slice none 0 0, .slice none 0 0, .slice none 0 0, .int .i64 0, .bool false, .int .i64 0, .int .i64 0, .int .i64 0, .int .i64 0] 41) #[.bool false, .bool false, .int .i64 0, .slice none 0 0, .bool false, .slice none 0 0, .slice none 0 0, .slice none 0 0, .int .i64 0, .bool false, .int .i64 0, .int .i64 0, .int .i64 0, .int .i64 0]
    have hbW : Below wl.heap.size wl ((wl.alloc (.cells #[.bool false, .bool false, .int .i64 0, .slice none 0 0, .bool false, .slice none 0 0, .slice none 0 0, .slice none 0 0, .int .i64 0, .bool false, .int .i64 0, .int .i64 0, .int .i64 0, .int .i64 0] 41)).alloc (.cells #[.bool false, .bool false, .int .i64 0, .slice none 0 0, .bool false, .slice none 0 0, .slice none 0 0, .slice none 0 0, .int .i64 0, .bool false, .int .i64 0, .int .i64 0, .int .i64 0, .int .i64 0] 41)).drew := (((Below.refl _ wl).alloc (Nat.le_refl _) _).alloc (by simp) _).drew
    generalize ((wl.alloc (.cells #[.bool false, .bool false, .int .i64 0, .slice none 0 0, .bool false, .slice none 0 0, .slice none 0 0, .slice none 0 0, .int .i64 0, .bool false, .int .i64 0, .int .i64 0, .int .i64 0, .int .i64 0] 41)).alloc (.cells #[.bool false, .bool false, .int .i64 0, .slice none 0 0, .bool false, .slice none 0 0, .slice none 0 0, .slice none 0 0, .int .i64 0, .bool false, .int .i64 0, .int .i64 0, .int .i64 0, .int .i64 0] 41)).drew = w2 at *
    have o1 : ((lkL (p.L k) (v.l k)).toArray).all (·.oneCell') = true := by rw [Array.all_eq_true_iff_forall_mem]; exact fun u hu => hone.1 u (by simpa using hu)
    have o2 : ((lkL (p.L k) (v'.l k)).toArray).all (·.oneCell') = true := by rw [Array.all_eq_true_iff_forall_mem]; exact fun u hu => hone.2 u (by simpa using hu)
    refine Od.anyH_store (i := 10) (by kernel_rfl) rfl rfl 41 _ _ rfl rfl (wl.heap.size + 1) 0 (lkL (p.L k) (v.l k)).toArray rfl rfl (C1.there 0 _ (by show 0 + 14 ≤ 14; omega)) (by rw [infoLk]; rfl) o1 (below_sets (b := wl.heap.size + 1) (by omega) _ 0 _ hbW) ?_
    refine Od.anyH_store (i := 11) (by kernel_rfl) rfl rfl 41 _ _ rfl rfl (wl.heap.size + 0) 0 (lkL (p.L k) (v'.l k)).toArray rfl rfl ((C0.others (c := wl.heap.size + 1) (o := 0) (by omega) _).there 0 _ (by show 0 + 14 ≤ 14; omega)) (by rw [infoLk]; rfl) o2 (below_sets (b := wl.heap.size + 0) (by omega) _ 0 _ (below_sets (b := wl.heap.size + 1) (by omega) _ 0 _ hbW)) ?_
    have D6 := (CAt.setAll (ds := (lkL (p.L k) (v.l k)).toArray) C1 rfl).others (c := wl.heap.size + 0) (o := 0) (by omega) ((lkL (p.L k) (v'.l k)).toArray).toList
    have D7 := CAt.setAll (ds := (lkL (p.L k) (v'.l k)).toArray) (C0.others (c := wl.heap.size + 1) (o := 0) (by omega) ((lkL (p.L k) (v.l k)).toArray).toList) rfl
    have DB := below_sets (b := wl.heap.size + 0) (by omega) ((lkL (p.L k) (v'.l k)).toArray).toList 0 _ (below_sets (b := wl.heap.size + 1) (by omega) ((lkL (p.L k) (v.l k)).toArray).toList 0 _ hbW)
    refine wpAnyH_done (by kernel_rfl) ?_ _
    exact NoPanic.normal (HK.out (wl.heap.size + 1) (wl.heap.size + 0) _ _ _ _ _ _ _ _ _ DB D6 D7)
set_option maxHeartbeats 8000000 in
set_option maxRecDepth 1000000 in
theorem sp13_wp (g g' k n bq oq bq' oq' Cq Cq' : Nat) (hk : k < n) (x : Int × Pkt) (y1 y2 y1' y2' : Value) (wl : World) (hF : ∀ wx, Below wl.heap.size wl wx → wx.cell? ⟨g, 96, none⟩ = some (.slice (some ⟨bq, oq, none⟩) n Cq) ∧ wx.cell? ⟨g', 96, none⟩ = some (.slice (some ⟨bq', oq', none⟩) n Cq') ∧ (wx.cell? ⟨bq, oq + k * 7, none⟩ = some (.int .i64 x.1) ∧ wx.cell? ⟨bq, oq + k * 7 + 1, none⟩ = some (.int .i64 x.2.k) ∧ wx.cell? ⟨bq, oq + k * 7 + 2, none⟩ = some (.int .i64 x.2.i) ∧ wx.cell? ⟨bq, oq + k * 7 + 3, none⟩ = some (.int .i64 x.2.v) ∧ wx.cell? ⟨bq, oq + k * 7 + 4, none⟩ = some (.int .i64 x.2.n) ∧ wx.cell? ⟨bq, oq + k * 7 + 5, none⟩ = some y1 ∧ wx.cell? ⟨bq, oq + k * 7 + 6, none⟩ = some y2) ∧ (wx.cell? ⟨bq', oq' + k * 7, none⟩ = some (.int .i64 x.1) ∧ wx.cell? ⟨bq', oq' + k * 7 + 1, none⟩ = some (.int .i64 x.2.k) ∧ wx.cell? ⟨bq', oq' + k * 7 + 2, none⟩ = some (.int .i64 x.2.i) ∧ wx.cell? ⟨bq', oq' + k * 7 + 3, none⟩ = some (.int .i64 x.2.v) ∧ wx.cell? ⟨bq', oq' + k * 7 + 4, none⟩ = some (.int .i64 x.2.n) ∧ wx.cell? ⟨bq', oq' + k * 7 + 5, none⟩ = some y1' ∧ wx.cell? ⟨bq', oq' + k * 7 + 6, none⟩ = some y2'))
    (hcall : ∀ wx, Below wl.heap.size wl wx → Calls Tryz.prog 57 #[.agg #[.int .i64 x.2.k, .int .i64 x.2.i, .int .i64 x.2.v, .int .i64 x.2.n, y1, y2], .agg #[.int .i64 x.2.k, .int .i64 x.2.i, .int .i64 x.2.v, .int .i64 x.2.n, y1', y2']] wx fun e w' => e = .returned (.bool true) ∧ Below wl.heap.size wl w') (v0 v1 v4 v5 v6 v7 v9 v10 v11 v12 v13 v14 v15 v16 v17 v18 v19 v20 v21 v22 v23 v24 v25 v26 v27 v28 v29 v30 v31 v32 v33 v34 v35 v36 v37 v38 v39 v40 v41 v42 v43 v44 v45 v46 v47 v48 v49 v50 v51 v52 v53 v54 v55 v56 v57 v58 v59 v60 v61 v62 v63 v64 v65 v66 v67 v68 v69 v70 v71 v72 v73 v74 v75 v76 v77 v78 v79 v80 v81 v82 v83 v84 v85 v86 v87 v88 v89 v90 v91 v92 v93 v94 v95 v96 v97 v98 v99 v100 v101 v102 v103 v104 v105 v106 v107 v108 v109 v110 v111 v112 v113 v114 v115 v116 v117 v118 v119 v120 v121 v122 v123 v124 v125 v126 v127 v128 v129 v130 v131 v132 v133 v134 v135 v136 v137 v138 v139 v140 v141 v142 v143 v144 v145 v146 v147 v148 v149 v150 v151 v152 v153 v154 v155 v156 v157 : Value) (Q : Exit → Act → World → Prop)
    (hQ : ∀ (t128 t129 t130 t131 t132 t133 t134 t135 t136 t137 t138 t139 t140 t141 t142 t143 t144 t145 t146 t147 t148 t149 t150 t151 t152 t153 t154 t155 : Value) (w5 : World), Below wl.heap.size wl w5 → Q .normal ⟨List.toArray (v0 :: v1 :: (.pointer (some ⟨g, 0, none⟩)) :: (.pointer (some ⟨g', 0, none⟩)) :: v4 :: v5 :: v6 :: v7 :: (.int .i64 (k : Int)) :: v9 :: v10 :: v11 :: v12 :: v13 :: v14 :: v15 :: v16 :: v17 :: v18 :: v19 :: v20 :: v21 :: v22 :: v23 :: v24 :: v25 :: v26 :: v27 :: v28 :: v29 :: v30 :: v31 :: v32 :: v33 :: v34 :: v35 :: v36 :: v37 :: v38 :: v39 :: v40 :: v41 :: v42 :: v43 :: v44 :: v45 :: v46 :: v47 :: v48 :: v49 :: v50 :: v51 :: v52 :: v53 :: v54 :: v55 :: v56 :: v57 :: v58 :: v59 :: v60 :: v61 :: v62 :: v63 :: v64 :: v65 :: v66 :: v67 :: v68 :: v69 :: v70 :: v71 :: v72 :: v73 :: v74 :: v75 :: v76 :: v77 :: v78 :: v79 :: v80 :: v81 :: v82 :: v83 :: v84 :: v85 :: v86 :: v87 :: v88 :: v89 :: v90 :: v91 :: v92 :: v93 :: v94 :: v95 :: v96 :: v97 :: v98 :: v99 :: v100 :: v101 :: v102 :: v103 :: v104 :: v105 :: v106 :: v107 :: v108 :: v109 :: v110 :: v111 :: v112 :: v113 :: v114 :: v115 :: v116 :: v117 :: v118 :: v119 :: v120 :: v121 :: v122 :: v123 :: v124 :: v125 :: v126 :: v127 :: (t128) :: (t129) :: (t130) :: (t131) :: (t132) :: (t133) :: (t134) :: (t135) :: (t136) :: (t137) :: (t138) :: (t139) :: (t140) :: (t141) :: (t142) :: (t143) :: (t144) :: (t145) :: (t146) :: (t147) :: (t148) :: (t149) :: (t150) :: (t151) :: (t152) :: (t153) :: (t154) :: (t155) :: (.bool false) :: v157 :: []), []⟩ w5) :
    Code.wp Tryz.prog sp13C Q ⟨List.toArray (v0 :: v1 :: (.pointer (some ⟨g, 0, none⟩)) :: (.pointer (some ⟨g', 0, none⟩)) :: v4 :: v5 :: v6 :: v7 :: (.int .i64 (k : Int)) :: v9 :: v10 :: v11 :: v12 :: v13 :: v14 :: v15 :: v16 :: v17 :: v18 :: v19 :: v20 :: v21 :: v22 :: v23 :: v24 :: v25 :: v26 :: v27 :: v28 :: v29 :: v30 :: v31 :: v32 :: v33 :: v34 :: v35 :: v36 :: v37 :: v38 :: v39 :: v40 :: v41 :: v42 :: v43 :: v44 :: v45 :: v46 :: v47 :: v48 :: v49 :: v50 :: v51 :: v52 :: v53 :: v54 :: v55 :: v56 :: v57 :: v58 :: v59 :: v60 :: v61 :: v62 :: v63 :: v64 :: v65 :: v66 :: v67 :: v68 :: v69 :: v70 :: v71 :: v72 :: v73 :: v74 :: v75 :: v76 :: v77 :: v78 :: v79 :: v80 :: v81 :: v82 :: v83 :: v84 :: v85 :: v86 :: v87 :: v88 :: v89 :: v90 :: v91 :: v92 :: v93 :: v94 :: v95 :: v96 :: v97 :: v98 :: v99 :: v100 :: v101 :: v102 :: v103 :: v104 :: v105 :: v106 :: v107 :: v108 :: v109 :: v110 :: v111 :: v112 :: v113 :: v114 :: v115 :: v116 :: v117 :: v118 :: v119 :: v120 :: v121 :: v122 :: v123 :: v124 :: v125 :: v126 :: v127 :: v128 :: v129 :: v130 :: v131 :: v132 :: v133 :: v134 :: v135 :: v136 :: v137 :: v138 :: v139 :: v140 :: v141 :: v142 :: v143 :: v144 :: v145 :: v146 :: v147 :: v148 :: v149 :: v150 :: v151 :: v152 :: v153 :: v154 :: v155 :: v156 :: v157 :: []), []⟩ wl := by
  have HK := hide hQ
  have hkk : (k : Int) < (n : Int) := by omega
  have hk0 : (0 : Int) ≤ (k : Int) := by omega
  have HC := hide hcall
  have HF := hide hF
  clear hQ hcall hF
  conv => arg 2; whnf
  refine wp_region_noPanic ?_
  have hb : Below wl.heap.size wl wl.drew := (Below.refl _ wl).drew
  refine wp_region_held (S := fun wx => Below wl.heap.size wl wx) (by kernel_rfl) ?_
  change wpAnyH _ _ _ _ _ _ _ _ wl.drew
  refine Od.anyH_sl (i := 0) (v := .pointer (some ⟨g, 96, none⟩)) (some 128) rfl rfl (by kernel_rfl) (by kernel_rfl) (by kernel_rfl) (fun _ _ _ h => h) (Or.inl ⟨by rfl, ?_⟩) hb ?_
  · intro wx hwx; go_simp
  simp only [Act.put, List.setIfInBounds_toArray, List.set_cons_zero, List.set_cons_succ]
  refine Od.anyH_sl (i := 1) (v := .slice (some ⟨bq, oq, none⟩) n Cq) (some 129) rfl rfl (by kernel_rfl) (by kernel_rfl) (by kernel_rfl) (fun _ _ _ h => h) (Or.inl ⟨by rfl, ?_⟩) hb ?_
  · intro wx hwx; obtain ⟨l1, l2, -, -⟩ := HF.out wx hwx; go_simp
  simp only [Act.put, List.setIfInBounds_toArray, List.set_cons_zero, List.set_cons_succ]
  refine Od.anyH_sl (i := 2) (v := .int .i64 (k : Int)) (some 130) rfl rfl (by kernel_rfl) (by kernel_rfl) (by kernel_rfl) (fun _ _ _ h => h) (Or.inl ⟨by rfl, ?_⟩) hb ?_
  · intro wx hwx; go_simp
  simp only [Act.put, List.setIfInBounds_toArray, List.set_cons_zero, List.set_cons_succ]
  refine Od.anyH_sl (i := 3) (v := .pointer (some ⟨bq, oq + k * 7, none⟩)) (some 131) rfl rfl (by kernel_rfl) (by kernel_rfl) (by kernel_rfl) (fun _ _ _ h => h) (Or.inl ⟨by rfl, ?_⟩) hb ?_
  · intro wx hwx; go_simp
  simp only [Act.put, List.setIfInBounds_toArray, List.set_cons_zero, List.set_cons_succ]
  refine Od.anyH_sl (i := 4) (v := .pointer (some ⟨bq, oq + k * 7, none⟩)) (some 132) rfl rfl (by kernel_rfl) (by kernel_rfl) (by kernel_rfl) (fun _ _ _ h => h) (Or.inl ⟨by rfl, ?_⟩) hb ?_
  · intro wx hwx; go_simp
  simp only [Act.put, List.setIfInBounds_toArray, List.set_cons_zero, List.set_cons_succ]
  refine Od.anyH_sl (i := 5) (v := .int .i64 x.1) (some 133) rfl rfl (by kernel_rfl) (by kernel_rfl) (by kernel_rfl) (fun _ _ _ h => h) (Or.inl ⟨by rfl, ?_⟩) hb ?_
  · intro wx hwx; obtain ⟨-, -, ⟨a0, a1, a2, a3, a4, a5, a6⟩, -⟩ := HF.out wx hwx; go_simp
  simp only [Act.put, List.setIfInBounds_toArray, List.set_cons_zero, List.set_cons_succ]
  refine Od.anyH_sl (i := 6) (v := .pointer (some ⟨g', 96, none⟩)) (some 134) rfl rfl (by kernel_rfl) (by kernel_rfl) (by kernel_rfl) (fun _ _ _ h => h) (Or.inl ⟨by rfl, ?_⟩) hb ?_
  · intro wx hwx; go_simp
  simp only [Act.put, List.setIfInBounds_toArray, List.set_cons_zero, List.set_cons_succ]
  refine Od.anyH_sl (i := 7) (v := .slice (some ⟨bq', oq', none⟩) n Cq') (some 135) rfl rfl (by kernel_rfl) (by kernel_rfl) (by kernel_rfl) (fun _ _ _ h => h) (Or.inl ⟨by rfl, ?_⟩) hb ?_
  · intro wx hwx; obtain ⟨l1, l2, -, -⟩ := HF.out wx hwx; go_simp
  simp only [Act.put, List.setIfInBounds_toArray, List.set_cons_zero, List.set_cons_succ]
  refine Od.anyH_sl (i := 8) (v := .int .i64 (k : Int)) (some 136) rfl rfl (by kernel_rfl) (by kernel_rfl) (by kernel_rfl) (fun _ _ _ h => h) (Or.inl ⟨by rfl, ?_⟩) hb ?_
  · intro wx hwx; go_simp
  simp only [Act.put, List.setIfInBounds_toArray, List.set_cons_zero, List.set_cons_succ]
  refine Od.anyH_sl (i := 9) (v := .pointer (some ⟨bq', oq' + k * 7, none⟩)) (some 137) rfl rfl (by kernel_rfl) (by kernel_rfl) (by kernel_rfl) (fun _ _ _ h => h) (Or.inl ⟨by rfl, ?_⟩) hb ?_
  · intro wx hwx; go_simp
  simp only [Act.put, List.setIfInBounds_toArray, List.set_cons_zero, List.set_cons_succ]
  refine Od.anyH_sl (i := 10) (v := .pointer (some ⟨bq', oq' + k * 7, none⟩)) (some 138) rfl rfl (by kernel_rfl) (by kernel_rfl) (by kernel_rfl) (fun _ _ _ h => h) (Or.inl ⟨by rfl, ?_⟩) hb ?_
  · intro wx hwx; go_simp
  simp only [Act.put, List.setIfInBounds_toArray, List.set_cons_zero, List.set_cons_succ]
  refine Od.anyH_sl (i := 11) (v := .int .i64 x.1) (some 139) rfl rfl (by kernel_rfl) (by kernel_rfl) (by kernel_rfl) (fun _ _ _ h => h) (Or.inl ⟨by rfl, ?_⟩) hb ?_
  · intro wx hwx; obtain ⟨-, -, -, ⟨a0, a1, a2, a3, a4, a5, a6⟩⟩ := HF.out wx hwx; go_simp
  simp only [Act.put, List.setIfInBounds_toArray, List.set_cons_zero, List.set_cons_succ]
  refine Od.anyH_sl (i := 12) (v := .bool false) (some 140) rfl rfl (by kernel_rfl) (by kernel_rfl) (by kernel_rfl) (fun _ _ _ h => h) (Or.inl ⟨by rfl, ?_⟩) hb ?_
  · intro wx hwx; go_simp
  simp only [Act.put, List.setIfInBounds_toArray, List.set_cons_zero, List.set_cons_succ]
  refine Od.anyH_sl (i := 13) (v := .bool false) (some 141) rfl rfl (by kernel_rfl) (by kernel_rfl) (by kernel_rfl) (fun _ _ _ h => h) (Or.inl ⟨by rfl, ?_⟩) hb ?_
  · intro wx hwx; go_simp
  simp only [Act.put, List.setIfInBounds_toArray, List.set_cons_zero, List.set_cons_succ]
  refine Od.anyH_sl (i := 14) (v := .pointer (some ⟨g, 96, none⟩)) (some 142) rfl rfl (by kernel_rfl) (by kernel_rfl) (by kernel_rfl) (fun _ _ _ h => h) (Or.inl ⟨by rfl, ?_⟩) hb ?_
  · intro wx hwx; go_simp
  simp only [Act.put, List.setIfInBounds_toArray, List.set_cons_zero, List.set_cons_succ]
  refine Od.anyH_sl (i := 15) (v := .slice (some ⟨bq, oq, none⟩) n Cq) (some 143) rfl rfl (by kernel_rfl) (by kernel_rfl) (by kernel_rfl) (fun _ _ _ h => h) (Or.inl ⟨by rfl, ?_⟩) hb ?_
  · intro wx hwx; obtain ⟨l1, l2, -, -⟩ := HF.out wx hwx; go_simp
  simp only [Act.put, List.setIfInBounds_toArray, List.set_cons_zero, List.set_cons_succ]
  refine Od.anyH_sl (i := 16) (v := .int .i64 (k : Int)) (some 144) rfl rfl (by kernel_rfl) (by kernel_rfl) (by kernel_rfl) (fun _ _ _ h => h) (Or.inl ⟨by rfl, ?_⟩) hb ?_
  · intro wx hwx; go_simp
  simp only [Act.put, List.setIfInBounds_toArray, List.set_cons_zero, List.set_cons_succ]
  refine Od.anyH_sl (i := 17) (v := .pointer (some ⟨bq, oq + k * 7, none⟩)) (some 145) rfl rfl (by kernel_rfl) (by kernel_rfl) (by kernel_rfl) (fun _ _ _ h => h) (Or.inl ⟨by rfl, ?_⟩) hb ?_
  · intro wx hwx; go_simp
  simp only [Act.put, List.setIfInBounds_toArray, List.set_cons_zero, List.set_cons_succ]
  refine Od.anyH_sl (i := 18) (v := .pointer (some ⟨bq, oq + k * 7 + 1, none⟩)) (some 146) rfl rfl (by kernel_rfl) (by kernel_rfl) (by kernel_rfl) (fun _ _ _ h => h) (Or.inl ⟨by rfl, ?_⟩) hb ?_
  · intro wx hwx; go_simp
  simp only [Act.put, List.setIfInBounds_toArray, List.set_cons_zero, List.set_cons_succ]
  refine Od.anyH_sl (i := 19) (v := .agg #[.int .i64 x.2.k, .int .i64 x.2.i, .int .i64 x.2.v, .int .i64 x.2.n, y1, y2]) (some 147) rfl rfl (by kernel_rfl) (by kernel_rfl) (by kernel_rfl) (fun _ _ _ h => h) (Or.inl ⟨by rfl, ?_⟩) hb ?_
  · intro wx hwx; obtain ⟨-, -, ⟨a0, a1, a2, a3, a4, a5, a6⟩, -⟩ := HF.out wx hwx; go_simp
  simp only [Act.put, List.setIfInBounds_toArray, List.set_cons_zero, List.set_cons_succ]
  refine Od.anyH_sl (i := 20) (v := .pointer (some ⟨g', 96, none⟩)) (some 148) rfl rfl (by kernel_rfl) (by kernel_rfl) (by kernel_rfl) (fun _ _ _ h => h) (Or.inl ⟨by rfl, ?_⟩) hb ?_
  · intro wx hwx; go_simp
  simp only [Act.put, List.setIfInBounds_toArray, List.set_cons_zero, List.set_cons_succ]
  refine Od.anyH_sl (i := 21) (v := .slice (some ⟨bq', oq', none⟩) n Cq') (some 149) rfl rfl (by kernel_rfl) (by kernel_rfl) (by kernel_rfl) (fun _ _ _ h => h) (Or.inl ⟨by rfl, ?_⟩) hb ?_
  · intro wx hwx; obtain ⟨l1, l2, -, -⟩ := HF.out wx hwx; go_simp
  simp only [Act.put, List.setIfInBounds_toArray, List.set_cons_zero, List.set_cons_succ]
  refine Od.anyH_sl (i := 22) (v := .int .i64 (k : Int)) (some 150) rfl rfl (by kernel_rfl) (by kernel_rfl) (by kernel_rfl) (fun _ _ _ h => h) (Or.inl ⟨by rfl, ?_⟩) hb ?_
  · intro wx hwx; go_simp
  simp only [Act.put, List.setIfInBounds_toArray, List.set_cons_zero, List.set_cons_succ]
  refine Od.anyH_sl (i := 23) (v := .pointer (some ⟨bq', oq' + k * 7, none⟩)) (some 151) rfl rfl (by kernel_rfl) (by kernel_rfl) (by kernel_rfl) (fun _ _ _ h => h) (Or.inl ⟨by rfl, ?_⟩) hb ?_
  · intro wx hwx; go_simp
  simp only [Act.put, List.setIfInBounds_toArray, List.set_cons_zero, List.set_cons_succ]
  refine Od.anyH_sl (i := 24) (v := .pointer (some ⟨bq', oq' + k * 7 + 1, none⟩)) (some 152) rfl rfl (by kernel_rfl) (by kernel_rfl) (by kernel_rfl) (fun _ _ _ h => h) (Or.inl ⟨by rfl, ?_⟩) hb ?_
  · intro wx hwx; go_simp
  simp only [Act.put, List.setIfInBounds_toArray, List.set_cons_zero, List.set_cons_succ]
  refine Od.anyH_sl (i := 25) (v := .agg #[.int .i64 x.2.k, .int .i64 x.2.i, .int .i64 x.2.v, .int .i64 x.2.n, y1', y2']) (some 153) rfl rfl (by kernel_rfl) (by kernel_rfl) (by kernel_rfl) (fun _ _ _ h => h) (Or.inl ⟨by rfl, ?_⟩) hb ?_
  · intro wx hwx; obtain ⟨-, -, -, ⟨a0, a1, a2, a3, a4, a5, a6⟩⟩ := HF.out wx hwx; go_simp
  simp only [Act.put, List.setIfInBounds_toArray, List.set_cons_zero, List.set_cons_succ]
  refine wpAnyH_ready (rs := [26]) (by kernel_rfl) (by simp) ?_
  refine AllReadyH.cons rfl (fun K hK => ?_) AllReadyH.nil
  rw [if_pos (by rfl)]
  go_simp
  refine (HC.out _ (by exact hb)).mono ?_
  rintro e wy ⟨rfl, hbn⟩
  refine hK.out _ _ hbn (fun _ => ?_)
  clear hK K hb
  have hb := hbn
  clear hbn
  refine Od.anyH_sl (i := 27) (v := .bool false) (some 155) rfl rfl (by kernel_rfl) (by kernel_rfl) (by kernel_rfl) (fun _ _ _ h => h) (Or.inl ⟨by rfl, ?_⟩) hb ?_
  · intro wx hwx; go_simp
  simp only [Act.put, List.setIfInBounds_toArray, List.set_cons_zero, List.set_cons_succ]
  refine Od.anyH_sl (i := 28) (v := .bool false) (some 156) rfl rfl (by kernel_rfl) (by kernel_rfl) (by kernel_rfl) (fun _ _ _ h => h) (Or.inl ⟨by rfl, ?_⟩) hb ?_
  · intro wx hwx; go_simp
  simp only [Act.put, List.setIfInBounds_toArray, List.set_cons_zero, List.set_cons_succ]
  refine wpAnyH_done (by kernel_rfl) ?_ _
  exact NoPanic.normal (HK.out _ _ _ _ _ _ _ _ _ _ _ _ _ _ _ _ _ _ _ _ _ _ _ _ _ _ _ _ _ hb)
end Go.Proofs.YtjghbciepinofaaGreat.Pv

