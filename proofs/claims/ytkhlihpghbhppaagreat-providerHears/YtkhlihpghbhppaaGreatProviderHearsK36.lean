/- Parts of the proof: LF PV0 RC3 CH. -/
import Derived.Test.YtkhlihpghbhppaaGreatRows
import Derived.Test.YtkhlihpghbhppaaGreatProviderHearsK41
import Derived.Test.YtkhlihpghbhppaaGreatProviderHearsK42
import Derived.Test.YtkhlihpghbhppaaGreatProviderHearsK50
import Derived.Deep.RegionLaw
import Derived.Laws.OwnMore
import Derived.OneCell
import Derived.Deep.AppendLies
import Derived.Laws.IdiomStrings
set_option maxRecDepth 100000
namespace Go.Proofs.YtkhlihpghbhppaaGreat.Ln
open Go.RowKit
/-- texts lie in a row of the call's own -/
def OwnS (B : Nat) (w : World) (A : Option Addr) (C : Nat) (l : List ByteArray) : Prop := w.ownsRow B 9 1 (.slice A l.length C) l.length (l.map .string)
/-- numbers lie in a row of the call's own -/
def OwnI (B : Nat) (w : World) (A : Option Addr) (C : Nat) (l : List Int) : Prop := w.ownsRow B 3 1 (.slice A l.length C) l.length (l.map (.int .i64))
theorem own_of {w w' : World} {b e z n : Nat} {v : Value} {xs : List Value} (h : w.ownsRow b e z v n xs) (hk : ∀ k, v.ownBlock = some k → w'.heap[k]? = w.heap[k]?) : w'.ownsRow b e z v n xs := by
  refine ⟨h.1, ?_⟩
  rcases h.2 with hn | ⟨g, cap, cur, rfl, hb, hg, rest⟩
  · exact .inl hn
  · exact .inr ⟨g, cap, cur, rfl, hb, (hk g rfl).trans hg, rest⟩
theorem own_base {w : World} {b b' e z n : Nat} {v : Value} {xs : List Value} (h : w.ownsRow b e z v n xs) (hb : b' ≤ b) : w.ownsRow b' e z v n xs := by
  refine ⟨h.1, ?_⟩
  rcases h.2 with hn | ⟨g, cap, cur, hv, h2, h3⟩
  · exact .inl hn
  · exact .inr ⟨g, cap, cur, hv, Nat.le_trans hb h2, h3⟩
theorem own_over {w w' : World} {b e z n : Nat} {v : Value} {xs : List Value} (h : w.ownsRow b e z v n xs) (hb : Below w.heap.size w w') : w'.ownsRow b e z v n xs := own_of h fun k hk => hb.block k (World.ownsRow.lt h k hk).2
theorem own_form {w : World} {b e z n : Nat} {v : Value} {xs : List Value} (h : w.ownsRow b e z v n xs) : ∃ A C, v = .slice A n C := by
  rcases h.2 with ⟨hv, hn⟩ | ⟨g, cap, cur, hv, _⟩
  · subst hn; exact ⟨_, _, hv⟩
  · exact ⟨_, _, hv⟩
/-- an own row, appended to in a region that draws -/
theorem step_app {P : Program} {ops : Array Oper} {o : Oper} {a : Act} {w : World} {K : Act → World → Prop} {Q : Exit → Act → World → Prop} {E : Prop}
    (hg : o.guard = none) (s x : Operand) (t : TypeId) (hop : o.op = Op.call { callee := Callee.builtin Builtin.append, args := #[s, x], argTypes := #[t, t] })
    (base : Nat) (e : TypeId) (i : TypeInfo) (z : Value) (size bytes : Nat) (h1 : P.underlying t = some (.slice e)) (h2 : P.info? e = some i) (h3 : i.zero = some z) (h4 : i.size = size) (h5 : i.bytes = bytes) (h6 : z.cells.size = size) (h7 : 0 < size)
    (v : Value) (n : Nat) (xs : List Value) (hs : a.eval s = v) (hown : w.ownsRow base e size v n xs)
    (ao : Option Addr) (m c : Nat) (news : List Value) (hx : a.eval x = .slice ao m c) (hn : news.length = m * size) (hnone : ao = none → m = 0 ∧ c = 0) (hc : ∀ ad, ao = some ad → ∀ j u, news[j]? = some u → w.cell? (ad.add j) = some u) (h1c : ∀ u ∈ news, u.oneCell' = true)
    (b1 : n + m ≤ maxLen) (b2 : (n + m) * bytes ≤ 140737488355328) (b3 : base ≤ w.heap.size)
    (hK : ∀ A C w', w'.ownsRow base e size (.slice A (n + m) C) (n + m) (xs ++ news) → w.grownBy w' v.ownBlock → K (a.put o.dst (.slice A (n + m) C)) w') :
    if Region.wanted o (yielded ops a.tmps) = true then Oper.wp P o a w K Q else E := by
  have hw : Region.wanted o (yielded ops a.tmps) = true := by simp [Region.wanted, hg]
  rw [if_pos hw]
  cases ao with
  | some ad =>
    obtain ⟨v', w', hrun, r1, r2, _⟩ := run_append_own (P := P) w base t o.type e i z size bytes h1 h2 h3 h4 h5 h6 h7 v n xs hown ad m c news hn (hc ad rfl) h1c b1 b2 b3
    unfold Oper.wp
    simp [execOp, hop, resolve, invoke, builtin, hs, hx, hrun, Result.andThen]
    obtain ⟨A, C, rfl⟩ := own_form r1
    exact hK A C w' r1 r2
  | none =>
    obtain ⟨rfl, rfl⟩ := hnone rfl
    obtain rfl : news = [] := List.eq_nil_of_length_eq_zero (by simpa using hn)
    have hrun := run_append_owned_none (P := P) w base t o.type e i size h1 h2 v n xs hown
    unfold Oper.wp
    simp [execOp, hop, resolve, invoke, builtin, hs, hx, hrun, Result.andThen]
    obtain ⟨A, C, rfl⟩ := own_form hown
    exact hK A C w (by simpa using hown) (World.grownBy.refl w _)
theorem one_strs (l : List ByteArray) : ∀ u ∈ l.map Value.string, u.oneCell' = true := fun u hu => by
  simp at hu
  obtain ⟨t, _, rfl⟩ := hu
  rfl
theorem one_ints (l : List Int) : ∀ u ∈ l.map (Value.int .i64), u.oneCell' = true := fun u hu => by
  simp at hu
  obtain ⟨t, _, rfl⟩ := hu
  rfl
theorem none_zero {α : Type} {l : List α} {a : Option Addr} {b off c : Nat} (ha : 0 < l.length → a = some ⟨b, off, none⟩) (hn : a = none → c = 0) : a = none → l.length = 0 ∧ c = 0 := fun e => by
  refine ⟨?_, hn e⟩
  rcases Nat.eq_zero_or_pos l.length with h | h
  · exact h
  · rw [ha h] at e; cases e
theorem OwnS.facts {B : Nat} {w : World} {A : Option Addr} {C : Nat} {l : List ByteArray} (h : OwnS B w A C l) : (A = none → C = 0) ∧ ∃ g, (0 < l.length → A = some ⟨g, 0, none⟩ ∧ B ≤ g ∧ g < w.heap.size) ∧ StrsAt w g 0 l := by
  rcases h.2 with ⟨hv, hn⟩ | ⟨g, cap, cur, hv, hb, hg, _⟩
  · simp at hv
    exact ⟨fun _ => hv.2.2, 0, fun h0 => by omega, fun i hi => by omega⟩
  · cases hv
    obtain ⟨o1, o2, o3⟩ := own_strs h
    exact ⟨fun h => (by cases h), g, fun _ => ⟨rfl, o1, o2⟩, o3⟩
theorem OwnI.facts {B : Nat} {w : World} {A : Option Addr} {C : Nat} {l : List Int} (h : OwnI B w A C l) : (A = none → C = 0) ∧ ∃ g, (0 < l.length → A = some ⟨g, 0, none⟩ ∧ B ≤ g ∧ g < w.heap.size) ∧ IntsAt w g 0 l := by
  rcases h.2 with ⟨hv, hn⟩ | ⟨g, cap, cur, hv, hb, hg, _⟩
  · simp at hv
    exact ⟨fun _ => hv.2.2, 0, fun h0 => by omega, fun i hi => by omega⟩
  · cases hv
    obtain ⟨o1, o2, o3⟩ := own_ints h
    exact ⟨fun h => (by cases h), g, fun _ => ⟨rfl, o1, o2⟩, o3⟩
/-- a line whose lists are rows of the call's own -/
structure OwnL (B : Nat) (w : World) (x : Line) (A1 A2 : Option Addr) (C1 C2 : Nat) : Prop where
  oS : OwnS B w A1 C1 x.S
  oD : OwnI B w A2 C2 x.D
  apart : ∀ k, (Value.slice A1 x.S.length C1).ownBlock = some k → (Value.slice A2 x.D.length C2).ownBlock ≠ some k
theorem OwnL.at {B : Nat} {w : World} {x : Line} {A1 A2 : Option Addr} {C1 C2 : Nat} (h : OwnL B w x A1 A2 C1 C2) (h1 : x.S.length * 16 ≤ 140737488351232) (h2 : x.D.length * 8 ≤ 140737488351232) : ∃ g1 g2, LAt w x A1 A2 C1 C2 g1 0 g2 0 ∧ (0 < x.S.length → B ≤ g1 ∧ g1 < w.heap.size) ∧ (0 < x.D.length → B ≤ g2 ∧ g2 < w.heap.size) := by
  obtain ⟨n1, g1, f1, p1⟩ := h.oS.facts
  obtain ⟨n2, g2, f2, p2⟩ := h.oD.facts
  exact ⟨g1, g2, ⟨h1, h2, fun h => (f1 h).1, fun h => (f2 h).1, n1, n2, p1, p2⟩, fun h => (f1 h).2, fun h => (f2 h).2⟩
theorem OwnL.over {B : Nat} {w w' : World} {x : Line} {A1 A2 : Option Addr} {C1 C2 : Nat} (h : OwnL B w x A1 A2 C1 C2) (hb : Below w.heap.size w w') : OwnL B w' x A1 A2 C1 C2 := ⟨own_over h.oS hb, own_over h.oD hb, h.apart⟩
/-- stores below the base change no own row -/
theorem OwnL.set {B : Nat} {w : World} {x : Line} {A1 A2 : Option Addr} {C1 C2 : Nat} (h : OwnL B w x A1 A2 C1 C2) {w' : World} (hk : ∀ k, B ≤ k → k < w.heap.size → w'.heap[k]? = w.heap[k]?) : OwnL B w' x A1 A2 C1 C2 :=
  ⟨own_of h.oS fun k e => hk k (World.ownsRow.lt h.oS k e).1 (World.ownsRow.lt h.oS k e).2, own_of h.oD fun k e => hk k (World.ownsRow.lt h.oD k e).1 (World.ownsRow.lt h.oD k e).2, h.apart⟩
/-- how a call ends that answers four cells in a block of its own, stored whole -/
theorem cell_end1 {f : Func} {p : Tmp} (hres : f.results = #[.cell p 37]) {wq : World} {b : Nat} {u0 u1 u2 u3 : Value} (R : FAt wq b u0 u1 u2 u3) (v0 v1 v2 v3 : Value) (Q : Ending → World → Prop) (hQ : Q (.returned (.agg #[v0, v1, v2, v3])) (set4 wq b v0 v1 v2 v3)) (act : Act)
    (h8 : act.tmps.getD p undef = .pointer (some ⟨b, 0, none⟩)) (hd : act.defers = []) :
    bodyPost Tryz.prog f Q Exit.ret act (set4 wq b v0 v1 v2 v3) := by
  have R1 := set4_at R v0 v1 v2 v3
  generalize set4 wq b v0 v1 v2 v3 = w9 at *
  obtain ⟨⟨c0, c1, c2, c3⟩, -⟩ := R1.facts
  have h8' : act.tmps[p]?.getD undef = .pointer (some ⟨b, 0, none⟩) := by simpa using h8
  exact bodyPost_ret (v := .agg #[v0, v1, v2, v3]) (by simp [results, hres, go_sem, h8', c0, c1, c2, c3]) hd hQ
set_option maxHeartbeats 1000000 in
theorem copy_any (x : Line) (sa da : Option Addr) (cs cd sb so db dO : Nat) (w : World) (L : LAt w x sa da cs cd sb so db dO) :
    Calls Tryz.prog 39 #[.agg #[.slice sa x.S.length cs, .slice da x.D.length cd, .int .i64 x.g, .bool x.cl]] w fun e w' => ∃ A1 C1 A2 C2, e = .returned (.agg #[.slice A1 x.S.length C1, .slice A2 x.D.length C2, .int .i64 x.g, .bool x.cl]) ∧ OwnL (w.heap.size + 2) w' x A1 A2 C1 C2 ∧ Below w.heap.size w w' := by
  obtain ⟨i0, hi, hz0, hz1, hz2⟩ := info_parts infoStr
  obtain ⟨j0, hj, hy0, hy1, hy2⟩ := info_parts infoI
  have hls := L.hls
  have hld := L.hld
  have nS := none_zero L.hsa L.ncs
  have nD := none_zero L.hda L.ncd
  have oneS := one_strs x.S
  have oneD := one_ints x.D
  have bS : 0 + x.S.length ≤ maxLen := by unfold maxLen; omega
  have bD : 0 + x.D.length ≤ maxLen := by unfold maxLen; omega
  have HB := hide (begun L)
  clear L
  go_enter Tryz.func39, Tryz.ntmps39
  go_upto_region 1 with fail
  generalize ((w.alloc (.cells #[.slice sa x.S.length cs, .slice da x.D.length cd, .int .i64 x.g, .bool x.cl] 37)).alloc (.cells #[.slice none 0 0, .slice none 0 0, .int .i64 0, .bool false] 37)) = w0 at *
  obtain ⟨⟨c0, c1, c2, c3⟩, ⟨e0, e1, e2, e3⟩⟩ := HB.out.F1.facts
  have sS := withs_src HB.out.L.hsa HB.out.L.PS
  go_region_law (first
    | (refine step_app rfl _ _ 35 rfl w0.heap.size 9 i0 _ 1 16 Tryz.underlying35 hi hz0 hz1 hz2 rfl (by decide) (.slice none 0 0) 0 [] rfl (World.ownsRow_nil _ _ _ _) sa x.S.length cs (x.S.map .string) rfl (by simp) nS sS oneS bS (by omega) (Nat.le_refl _) ?_; intro A1 C1 w1 ho1 hg1; rw [Nat.zero_add, List.nil_append] at ho1; have B1 : Below w0.heap.size w0 w1 := (Below.refl _ w0).drew.grown hg1 (Nat.le_refl _) (fun k hk => by cases hk); have HB1 := hide (HB.out.over B1); have HO1 := hide ho1; have HW1 := hide B1; clear c0 c1 c2 c3 e0 e1 e2 e3 sS B1 hg1 ho1; obtain ⟨⟨c0, c1, c2, c3⟩, ⟨e0, e1, e2, e3⟩⟩ := HB1.out.F1.facts; have sD := withi_src HB1.out.L.hda HB1.out.L.PD)
    | (refine step_app rfl _ _ 34 rfl w1.heap.size 3 j0 _ 1 8 Tryz.underlying34 hj hy0 hy1 hy2 rfl (by decide) (.slice none 0 0) 0 [] rfl (World.ownsRow_nil _ _ _ _) da x.D.length cd (x.D.map (.int .i64)) rfl (by simp) nD sD oneD bD (by omega) (Nat.le_refl _) ?_; intro A2 C2 w2 ho2 hg2; rw [Nat.zero_add, List.nil_append] at ho2; have B2 : Below w1.heap.size w1 w2 := (Below.refl _ w1).grown hg2 (Nat.le_refl _) (fun k hk => by cases hk); have HB2 := hide (HB1.out.over B2); have HO2 := hide ho2; have HW2 := hide B2; clear c0 c1 c2 c3 e0 e1 e2 e3 sD B2 hg2 ho2; obtain ⟨⟨c0, c1, c2, c3⟩, ⟨e0, e1, e2, e3⟩⟩ := HB2.out.F1.facts))
  all_goals
    have F1 := (HB2.out.F1.set_0 (.slice A1 x.S.length C1)).set_1 (.slice A2 x.D.length C2)
    have F2 := (HB2.out.F2.other (c := w.heap.size) (o := 0) (by omega) (.slice A1 x.S.length C1)).other (c := w.heap.size) (o := 1) (by omega) (.slice A2 x.D.length C2)
    have BW := (HB2.out.below.setCell (p := ⟨w.heap.size, 0, none⟩) (Nat.le_refl _) (.slice A1 x.S.length C1)).setCell (p := ⟨w.heap.size, 1, none⟩) (Nat.le_refl _) (.slice A2 x.D.length C2)
    have OL : OwnL (w.heap.size + 2) w2 x A1 A2 C1 C2 := ⟨own_base (own_over HO1.out HW2.out) HB.out.size, own_base HO2.out HB1.out.size, fun k h1 h2 => by have z1 := (World.ownsRow.lt HO1.out k h1).2; have z2 := (World.ownsRow.lt HO2.out k h2).1; omega⟩
    have OM := OL.set (w' := (w2.setCell ⟨w.heap.size, 0, none⟩ (.slice A1 x.S.length C1)).setCell ⟨w.heap.size, 1, none⟩ (.slice A2 x.D.length C2)) (fun k hk _ => by rw [Below.heap_setCell _ _ _ _ (show k ≠ w.heap.size by omega), Below.heap_setCell _ _ _ _ (show k ≠ w.heap.size by omega)])
    clear c0 c1 c2 c3 e0 e1 e2 e3 OL
    generalize ((w2.setCell ⟨w.heap.size, 0, none⟩ (.slice A1 x.S.length C1)).setCell ⟨w.heap.size, 1, none⟩ (.slice A2 x.D.length C2)) = w3 at *
    obtain ⟨⟨c0, c1, c2, c3⟩, -⟩ := F1.facts
    obtain ⟨⟨d0, d1, d2, d3⟩, ⟨f0, f1, f2, f3⟩⟩ := F2.facts
    have HX := hide (show _ ∧ _ ∧ _ from ⟨F2, BW, OM⟩)
    clear F1 F2 BW OM
    go_wp2
    exact cell_end1 rfl HX.out.1 _ _ _ _ _ ⟨A1, C1, A2, C2, rfl, HX.out.2.2.set fun k hk _ => set4_other _ _ _ _ (by omega), set4_below _ _ _ _ HX.out.2.1 (Nat.le_succ _)⟩ _ rfl rfl
end Go.Proofs.YtkhlihpghbhppaaGreat.Ln

set_option maxRecDepth 100000
namespace Go.Proofs.YtkhlihpghbhppaaGreat.Pv
open Go.RowKit
theorem hide {p : Prop} (h : p) : Hid p := h
/-- a block holds these cells -/
def CAt (ty : TypeId) (w : World) (b : Nat) (cs : Array Value) : Prop := w.heap[b]? = some (.cells cs ty)
section
variable {ty : TypeId} {w w' : World} {b B : Nat} {cs : Array Value}
theorem CAt.new (ty : TypeId) (w : World) (cs : Array Value) : CAt ty (w.alloc (.cells cs ty)) w.heap.size cs := heap_alloc_new _ _
theorem CAt.new2 (ty : TypeId) (w : World) (o : Obj) (cs : Array Value) : CAt ty ((w.alloc o).alloc (.cells cs ty)) (w.heap.size + 1) cs := by
  have h := CAt.new ty (w.alloc o) cs
  rwa [show (w.alloc o).heap.size = w.heap.size + 1 by simp] at h
theorem CAt.later (h : CAt ty w b cs) (hb : Below B w w') (hB : b < B) : CAt ty w' b cs := (hb.block b hB).trans h
theorem CAt.lt (h : CAt ty w b cs) : b < w.heap.size := (Array.getElem?_eq_some_iff.1 h).1
theorem CAt.over (h : CAt ty w b cs) (hb : Below w.heap.size w w') : CAt ty w' b cs := h.later hb h.lt
theorem CAt.alloc (h : CAt ty w b cs) (o : Obj) : CAt ty (w.alloc o) b cs := (Below.heap_alloc _ _ _ h.lt).trans h
theorem CAt.keep (h : CAt ty w b cs) (hk : w'.heap[b]? = w.heap[b]?) : CAt ty w' b cs := hk.trans h
theorem CAt.other {c o : Nat} (h : CAt ty w b cs) (hb : b ≠ c) (v : Value) : CAt ty (w.setCell ⟨c, o, none⟩ v) b cs := (Below.heap_setCell _ _ _ _ hb).trans h
theorem CAt.others {c o : Nat} (h : CAt ty w b cs) (hb : b ≠ c) (vs : List Value) : CAt ty (w.setCells c o vs) b cs := (heap_sets hb _ _ _).trans h
theorem CAt.cell (h : CAt ty w b cs) (o : Nat) : w.cell? ⟨b, o, none⟩ = cs[o]? := by
  unfold CAt at h
  simp [World.cell?, h]
theorem CAt.free (h : CAt ty w b cs) (o : Nat) : w.frozen? ⟨b, o, none⟩ = false := by
  unfold CAt at h
  simp [World.frozen?, h]
theorem CAt.set (h : CAt ty w b cs) (o : Nat) (v : Value) : CAt ty (w.setCell ⟨b, o, none⟩ v) b (cs.setIfInBounds o v) := by
  unfold CAt at *
  simp [World.setCell, Array.getElem?_modify, h]
theorem CAt.range (h : CAt ty w b cs) : w.rangeAt b 0 cs.toList := by
  intro j v hv
  rw [Nat.zero_add, h.cell]
  simpa using hv
/-- a part of a block -/
theorem CAt.part (h : CAt ty w b cs) {o : Nat} {ds : List Value} (hd : ∀ j v, ds[j]? = some v → cs[o + j]? = some v) : w.rangeAt b o ds := by
  intro j v hv
  rw [h.cell]
  exact hd j v hv
theorem CAt.there (h : CAt ty w b cs) (o n : Nat) (hn : o + n ≤ cs.size) : w.there b o n := by
  intro j hj
  rw [h.cell, h.free]
  have : o + j < cs.size := by omega
  simp [this]
theorem CAt.sets : ∀ (vs : List Value) (o : Nat) (w : World) (cs : Array Value), CAt ty w b cs → CAt ty (w.setCells b o vs) b (spl cs o vs)
  | [], _, _, _, h => h
  | v :: r, o, _, _, h => CAt.sets r (o + 1) _ _ (h.set o v)
theorem CAt.setAll {ds : Array Value} (h : CAt ty w b cs) (hd : ds.size = cs.size) : CAt ty (w.setCells b 0 ds.toList) b ds := by
  have := CAt.sets ds.toList 0 w cs h
  rwa [spl_all hd] at this
end
/-- a value is a slice of these cells (sz a piece, by bytes a piece), in a block of which P holds -/
def Rep (P : Nat → Prop) (w : World) (v : Value) (sz bts : Nat) (cs : List Value) : Prop :=
  ∃ (A : Option Addr) (n C : Nat), v = .slice A n C ∧ cs.length = n * sz ∧ n * bts ≤ 140737488351232 ∧ ((A = none → C = 0) ∧ n ≤ C) ∧
    (0 < n → ∃ b off, A = some ⟨b, off, none⟩ ∧ P b ∧ b < w.heap.size ∧ ∀ j u, cs[j]? = some u → w.cell? ⟨b, off + j, none⟩ = some u)
section
variable {P P' : Nat → Prop} {w w' : World} {v : Value} {sz bts : Nat} {cs : List Value}
theorem Rep.nil (P : Nat → Prop) (w : World) (sz bts : Nat) : Rep P w (.slice none 0 0) sz bts [] := ⟨none, 0, 0, rfl, by simp, by simp, ⟨fun _ => rfl, Nat.le_refl _⟩, fun h => absurd h (by omega)⟩
theorem Rep.mono (h : Rep P w v sz bts cs) (hp : ∀ b, b < w.heap.size → P b → P' b) : Rep P' w v sz bts cs := by
  obtain ⟨A, n, C, h1, h2, h3, h4, h5⟩ := h
  refine ⟨A, n, C, h1, h2, h3, h4, fun h0 => ?_⟩
  obtain ⟨b, off, a1, a2, a3, a4⟩ := h5 h0
  exact ⟨b, off, a1, hp b a3 a2, a3, a4⟩
theorem Rep.keep (h : Rep P w v sz bts cs) (hk : ∀ b, P b → b < w.heap.size → w'.heap[b]? = w.heap[b]?) : Rep P w' v sz bts cs := by
  obtain ⟨A, n, C, h1, h2, h3, h4, h5⟩ := h
  refine ⟨A, n, C, h1, h2, h3, h4, fun h0 => ?_⟩
  obtain ⟨b, off, a1, a2, a3, a4⟩ := h5 h0
  have hlt : b < w'.heap.size := by
    have e := hk b a2 a3
    rw [Array.getElem?_eq_getElem a3] at e
    exact (Array.getElem?_eq_some_iff.1 e).1
  refine ⟨b, off, a1, a2, hlt, fun j u hu => ?_⟩
  rw [← a4 j u hu]
  exact World.cell?_of_block (w := w) (a := ⟨b, off + j, none⟩) (hk b a2 a3)
theorem Rep.over (h : Rep P w v sz bts cs) (hb : Below w.heap.size w w') : Rep P w' v sz bts cs := h.keep fun b _ hlt => hb.block b hlt
theorem Rep.len (h : Rep P w v sz bts cs) : ∃ A C, v = .slice A (cs.length / sz) C ∨ sz = 0 := by
  obtain ⟨A, n, C, h1, h2, _⟩ := h
  rcases Nat.eq_zero_or_pos sz with hz | hz
  · exact ⟨A, C, .inr hz⟩
  · exact ⟨A, C, .inl (by rw [h1, h2, Nat.mul_div_cancel _ hz])⟩
/-- what an append of it wants -/
theorem Rep.open (h : Rep P w v sz bts cs) {n : Nat} (hn : cs.length = n * sz) (hz : 0 < sz) : ∃ (A : Option Addr) (C : Nat), v = .slice A n C ∧ n * bts ≤ 140737488351232 ∧ (A = none → n = 0 ∧ C = 0) ∧ (0 < n → ∃ b off, A = some ⟨b, off, none⟩ ∧ P b ∧ b < w.heap.size ∧ ∀ j u, cs[j]? = some u → w.cell? ⟨b, off + j, none⟩ = some u) ∧ (∀ ad, A = some ad → ∀ j u, cs[j]? = some u → w.cell? (ad.add j) = some u) := by
  obtain ⟨A, m, C, h1, h2, h3, h4, h5⟩ := h
  have e : m = n := Nat.eq_of_mul_eq_mul_right hz (h2.symm.trans hn)
  subst e
  refine ⟨A, C, h1, h3, fun e => ⟨?_, h4.1 e⟩, h5, fun ad e j u hu => ?_⟩
  · rcases Nat.eq_zero_or_pos m with h0 | h0
    · exact h0
    · obtain ⟨b, off, a1, _⟩ := h5 h0
      rw [a1] at e; cases e
  · rcases Nat.eq_zero_or_pos m with h0 | h0
    · subst h0
      have := (List.getElem?_eq_some_iff.1 hu).1
      omega
    · obtain ⟨b, off, a1, _, _, a4⟩ := h5 h0
      rw [a1] at e
      cases e
      rw [Addr.add_lit]
      exact a4 j u hu
theorem Rep.room (h : Rep P w v sz bts cs) {A : Option Addr} {n C : Nat} (hv : v = .slice A n C) : n ≤ C ∧ (A = none → C = 0) := by
  obtain ⟨A', n', C', h1, _, _, h4, _⟩ := h
  rw [hv] at h1
  cases h1
  exact ⟨h4.2, h4.1⟩
/-- a row of the call's own -/
theorem Rep.own {base n : Nat} {e : TypeId} (h : w.ownsRow base e sz v n cs) (hb : n * bts ≤ 140737488351232) : Rep (fun b => base ≤ b) w v sz bts cs := by
  rcases h.2 with ⟨hv, hn⟩ | ⟨g, cap, cur, hv, h1, h2, h3, _⟩
  · exact ⟨none, 0, 0, hv, by rw [h.1, hn], by omega, ⟨fun _ => rfl, Nat.le_refl _⟩, fun h => absurd h (by omega)⟩
  · subst hv
    refine ⟨_, n, cap, rfl, h.1, hb, ⟨fun h => (by cases h), h3⟩, fun _ => ⟨g, 0, rfl, h1, (Array.getElem?_eq_some_iff.1 h2).1, fun j u hu => ?_⟩⟩
    have := World.ownsRow.cells h (g := g) rfl j u hu
    rwa [Addr.add_lit] at this
end
/-- cells of lists -/
def pwC (l : List (Int × Int)) : List Value := l.flatMap fun x => [.int .i64 x.1, .int .i64 x.2]
def inC (l : List Int) : List Value := l.map (.int .i64)
def txC (l : List ByteArray) : List Value := l.map .string
theorem pwC_length : ∀ l : List (Int × Int), (pwC l).length = l.length * 2
  | [] => rfl
  | x :: l => by show (_ ++ pwC l).length = _; rw [List.length_append, pwC_length l, List.length_cons]; simp; omega
theorem inC_length (l : List Int) : (inC l).length = l.length * 1 := by simp [inC]
theorem txC_length (l : List ByteArray) : (txC l).length = l.length * 1 := by simp [txC]
theorem pwC_get : ∀ (l : List (Int × Int)) (i : Nat), i < l.length → (pwC l)[i * 2]? = some (.int .i64 (l.getD i (0, 0)).1) ∧ (pwC l)[i * 2 + 1]? = some (.int .i64 (l.getD i (0, 0)).2)
  | [], i, h => absurd h (by simp)
  | x :: l, 0, _ => ⟨rfl, rfl⟩
  | x :: l, i + 1, h => by
    have := pwC_get l i (by simpa using h)
    rw [show (i + 1) * 2 = i * 2 + 2 by omega]
    exact this
theorem inC_get (l : List Int) (i : Nat) (h : i < l.length) : (inC l)[i]? = some (.int .i64 (l.getD i 0)) := by simp [inC, List.getD, h]
theorem txC_get (l : List ByteArray) (i : Nat) (h : i < l.length) : (txC l)[i]? = some (.string (l.getD i ByteArray.empty)) := by simp [txC, List.getD, h]
theorem one_pws (l : List (Int × Int)) : ∀ u ∈ pwC l, u.oneCell' = true := fun u hu => by
  simp only [pwC, List.mem_flatMap, List.mem_cons, List.not_mem_nil, or_false] at hu
  obtain ⟨x, _, rfl | rfl⟩ := hu <;> rfl
/-- a packet, a link of the provider, the provider -/
structure Pkt where
  k : Int
  i : Int
  v : Int
  n : Int
  S : List (Int × Int)
  D : List Int
structure Lk where
  on : Bool
  gone : Bool
  base : Int
  told : List (Int × Int)
  fresh : Bool
  done : List Int
  out : Ln.Line
  h0 : Int
  h1 : Int
  h2 : Int
  h3 : Int
structure Pr where
  h : Int
  t : Int
  s : St
  set : List (Int × Int)
  L : Nat → Lk
  ml : Int
  mn : Int
  q : List (Int × Pkt)
/-- the slices of a link, of a provider -/
structure LkV where
  told : Value
  done : Value
  said : Value
  due : Value
structure PrV where
  ws : Value
  set : Value
  l : Nat → LkV
  q : Value
def lkL (x : Lk) (v : LkV) : List Value := [.bool x.on, .bool x.gone, .int .i64 x.base, v.told, .bool x.fresh, v.done, v.said, v.due, .int .i64 x.out.g, .bool x.out.cl, .int .i64 x.h0, .int .i64 x.h1, .int .i64 x.h2, .int .i64 x.h3]
def prC (p : Pr) (v : PrV) : Array Value := (([.int .i64 p.h, .int .i64 p.t] : List Value) ++ ((stC p.s v.ws).toList ++ (v.set :: (lkL (p.L 0) (v.l 0) ++ (lkL (p.L 1) (v.l 1) ++ [.int .i64 p.ml, .int .i64 p.mn, v.q]))))).toArray
theorem prC_size (p : Pr) (v : PrV) : (prC p v).size = 97 := rfl
/-- a packet's cells in a queue -/
def akL (x : Int × Pkt) (y : Value × Value) : List Value := [.int .i64 x.1, .int .i64 x.2.k, .int .i64 x.2.i, .int .i64 x.2.v, .int .i64 x.2.n, y.1, y.2]
def quL : List (Int × Pkt) → List (Value × Value) → List Value
  | x :: q, y :: z => akL x y ++ quL q z
  | _, _ => []
/-- a queue lies in memory -/
def QRep (P : Nat → Prop) (w : World) (v : Value) (q : List (Int × Pkt)) : Prop :=
  ∃ z : List (Value × Value), z.length = q.length ∧ Rep P w v 7 80 (quL q z) ∧ ∀ (i : Nat) (x : Int × Pkt) (y : Value × Value), q[i]? = some x → z[i]? = some y → Rep P w y.1 2 16 (pwC x.2.S) ∧ Rep P w y.2 1 8 (inC x.2.D)
structure LkIn (P : Nat → Prop) (w : World) (x : Lk) (v : LkV) : Prop where
  told : Rep P w v.told 2 16 (pwC x.told)
  done : Rep P w v.done 1 8 (inC x.done)
  said : Rep P w v.said 1 16 (txC x.out.S)
  due : Rep P w v.due 1 8 (inC x.out.D)
/-- a provider's lists lie in memory -/
structure PIn (P : Nat → Prop) (w : World) (p : Pr) (v : PrV) : Prop where
  ws : Rep P w v.ws 8 64 (wsL p.s.W)
  set : Rep P w v.set 2 16 (pwC p.set)
  lk : ∀ c, c < 2 → LkIn P w (p.L c) (v.l c)
  q : QRep P w v.q p.q
section
variable {P P' : Nat → Prop} {w w' : World}
theorem QRep.mono {v : Value} {q : List (Int × Pkt)} (h : QRep P w v q) (hp : ∀ b, b < w.heap.size → P b → P' b) : QRep P' w v q := by
  obtain ⟨z, h1, h2, h3⟩ := h
  exact ⟨z, h1, h2.mono hp, fun i x y hx hy => ⟨(h3 i x y hx hy).1.mono hp, (h3 i x y hx hy).2.mono hp⟩⟩
theorem QRep.keep {v : Value} {q : List (Int × Pkt)} (h : QRep P w v q) (hk : ∀ b, P b → b < w.heap.size → w'.heap[b]? = w.heap[b]?) : QRep P w' v q := by
  obtain ⟨z, h1, h2, h3⟩ := h
  exact ⟨z, h1, h2.keep hk, fun i x y hx hy => ⟨(h3 i x y hx hy).1.keep hk, (h3 i x y hx hy).2.keep hk⟩⟩
theorem LkIn.mono {x : Lk} {v : LkV} (h : LkIn P w x v) (hp : ∀ b, b < w.heap.size → P b → P' b) : LkIn P' w x v := ⟨h.told.mono hp, h.done.mono hp, h.said.mono hp, h.due.mono hp⟩
theorem LkIn.keep {x : Lk} {v : LkV} (h : LkIn P w x v) (hk : ∀ b, P b → b < w.heap.size → w'.heap[b]? = w.heap[b]?) : LkIn P w' x v := ⟨h.told.keep hk, h.done.keep hk, h.said.keep hk, h.due.keep hk⟩
theorem PIn.mono {p : Pr} {v : PrV} (h : PIn P w p v) (hp : ∀ b, b < w.heap.size → P b → P' b) : PIn P' w p v := ⟨h.ws.mono hp, h.set.mono hp, fun c hc => (h.lk c hc).mono hp, h.q.mono hp⟩
theorem PIn.keep {p : Pr} {v : PrV} (h : PIn P w p v) (hk : ∀ b, P b → b < w.heap.size → w'.heap[b]? = w.heap[b]?) : PIn P w' p v := ⟨h.ws.keep hk, h.set.keep hk, fun c hc => (h.lk c hc).keep hk, h.q.keep hk⟩
theorem PIn.over {p : Pr} {v : PrV} (h : PIn P w p v) (hb : Below w.heap.size w w') : PIn P w' p v := h.keep fun b _ hlt => hb.block b hlt
end
end Go.Proofs.YtkhlihpghbhppaaGreat.Pv

set_option maxRecDepth 100000
namespace Go.Proofs.YtkhlihpghbhppaaGreat
open Go.RowKit
theorem own_of {w w' : World} {b e z n : Nat} {v : Value} {xs : List Value} (h : w.ownsRow b e z v n xs) (hk : ∀ k, v.ownBlock = some k → w'.heap[k]? = w.heap[k]?) : w'.ownsRow b e z v n xs := by
  refine ⟨h.1, ?_⟩
  rcases h.2 with hn | ⟨g, cap, cur, rfl, hb, hg, rest⟩
  · exact .inl hn
  · exact .inr ⟨g, cap, cur, rfl, hb, (hk g rfl).trans hg, rest⟩
theorem own_copy (w : World) (ao : Option Addr) (n : Nat) (h : Src w ao n 8 64) : (cpW w ao n 8 98 (.agg #[.int .i64 0, .int .i64 0, .int .i64 0, .int .i64 0, .int .i64 0, .int .i64 0, .int .i64 0, .int .i64 0])).ownsRow w.heap.size 98 8 (.slice (cpA w n) n (cpC w n 98)) n (srcCells w ao (n * 8)) := by
  refine ⟨by simp [srcCells], ?_⟩
  by_cases h0 : n = 0
  · left
    subst h0
    exact ⟨rfl, rfl⟩
  · right
    have hl : (srcCells w ao (n * 8)).length = n * 8 := by simp [srcCells]
    have h1 := h.1
    rw [cpA, cpC, cpW, if_neg h0, if_neg h0, if_neg h0]
    refine ⟨w.heap.size, _, _, rfl, Nat.le_refl _, heap_alloc_new w.drew _, grownCap_ge _ _ _ _, grownCap_le_maxLen _ _ _ _ (by simp only [maxLen]; omega), ?_, ?_⟩
    · have := grownCap_ge w n 0 98
      simp only [Array.size_append, List.size_toArray, size_zeroCells, hl]
      simp only [Value.cells, List.size_toArray, List.length_cons, List.length_nil]
      omega
    · simp only [Array.toList_append]
      exact List.take_left' hl
theorem wpList_copyW3 {ops : Array Oper} {rest : List Oper} {o : Oper} {a : Act} {w : World} {Q : Exit → Act → World → Prop} (hg : o.guard = none) (hty : o.type = 30) (s x : Operand)
    (hop : o.op = Op.call { callee := Callee.builtin Builtin.append, args := #[s, x], argTypes := #[30, 30] }) (ao : Option Addr) (n c : Nat) (hs : a.eval s = .slice none 0 0) (hx : a.eval x = .slice ao n c) (h : Src w ao n 8 64)
    (hK : ∀ A C w', Copied w ao n 8 A w' ∧ w'.ownsRow w.heap.size 98 8 (.slice A n C) n (srcCells w ao (n * 8)) → wpList Tryz.prog ops Q rest (a.put o.dst (.slice A n C)) w') : wpList Tryz.prog ops Q (o :: rest) a w := by
  refine wpList_plain hg fun _ hK' => ?_
  unfold Oper.wp
  have hr := apW w ao n c h
  simp [execOp, hop, resolve, invoke, builtin, hs, hx, hty, hr, Result.andThen]
  exact hK' _ _ (hK _ _ _ ⟨copied_of w ao n 8 64 98 _ h, own_copy w ao n h⟩)
set_option maxHeartbeats 1000000 in
theorem copy_any3 (cs : Array Value) (sa : Option Addr) (n cp : Nat) (w : World) (hsz : cs.size = 63) (h61 : cs[61]? = some (.slice sa n cp)) (hone : cs.all (·.oneCell') = true) (hsrc : Src w sa n 8 64) :
    Calls Tryz.prog 38 #[.agg cs] w fun e w' => ∃ A C w0 w1, w1.ownsRow w0.heap.size 98 8 (.slice A n C) n (srcCells w0 sa (n * 8)) ∧ e = .returned (.agg (cs.setIfInBounds 61 (.slice A n C))) ∧ Below w.heap.size w w0 ∧ w.heap.size + 2 ≤ w0.heap.size ∧ Copied w0 sa n 8 A w1 ∧ Below w.heap.size w w' ∧ (∀ b, w.heap.size + 2 ≤ b → w'.heap[b]? = w1.heap[b]?) := by
  have h61' : cs[61]'(by omega) = .slice sa n cp := by simpa [Array.getElem?_eq_getElem (show 61 < cs.size by omega)] using h61
  go_enter Tryz.func38, Tryz.ntmps38
  go_upto_region 2 with (first
    | (at_builtin; refine wpList_copyW3 rfl rfl _ _ rfl sa n cp rfl (by simp [Act.eval]) (hsrc.later (((Below.refl _ w).alloc (Nat.le_refl _) _).alloc (by simp) _)) ?_; rintro A C w1 ⟨hcp, hown⟩; obtain ⟨hx1, hy1, hS2, hR2⟩ := copy_facts (C := C) hcp h61; have hrg := hS2.range; have HR2 : Hid (SAt (w1.setCell ⟨w.heap.size, 61, none⟩ (.slice A n C)) (w.heap.size + 1) Z63) := hR2; have HCP : Hid (Copied _ sa n 8 A w1) := hcp; have HOW := hide hown; clear hS2 hR2 hcp hown))
  have HBw : Hid (Below w.heap.size w w1) := (((Below.refl _ w).alloc (Nat.le_refl _) _).alloc (by simp) _).trans (HCP.out.below.mono (by simp; omega))
  apply wp_region_lit
  refine wpList_load_mid rfl 32 _ rfl w.heap.size 0 rfl _ _ hrg Tryz.underlying32 rfl (by rw [infoS]; simp [hsz]) ?_
  refine wpList_store_mid rfl 32 _ _ rfl (w.heap.size + 1) 0 (cs.setIfInBounds 61 (.slice A n C)) rfl rfl (HR2.out.there 0 _ (by simp [Z63, hsz])) (by rw [infoS]; simp [hsz]) (all_set hone rfl) ?_
  go_wp2
  have R3 := HR2.out.setAll (ds := cs.setIfInBounds 61 (.slice A n C)) (by simp [Z63, hsz])
  refine bodyPost_ret (v := .agg (cs.setIfInBounds 61 (.slice A n C))) ?_ rfl ⟨A, C, _, w1, HOW.out, rfl, ((Below.refl _ w).alloc (Nat.le_refl _) _).alloc (by simp) _, by simp, HCP.out, below_sets (by omega) _ _ _ (HBw.out.setCell (by simp) _), fun b hb => (heap_sets (by omega) _ _ _).trans (Below.heap_setCell _ _ _ _ (by simp; omega))⟩
  exact results_cell_row rfl _ _ _ _ _ _ _ rfl R3 Tryz.underlying32 rfl (by rw [infoS]; simp [hsz])
theorem src_ws {w : World} {ao : Option Addr} {sb so : Nat} {W : List Wt} (hW : WsAt w ao sb so W) : srcCells w ao (W.length * 8) = wsL W := by
  apply List.ext_getElem?
  intro j
  have hl := wsL_length W
  by_cases hj : j < W.length * 8
  · have h0 : 0 < W.length := by omega
    have hv : (wsL W)[j]? = some ((wsL W)[j]'(by omega)) := List.getElem?_eq_getElem (by omega)
    have hc := ws_cells hW j _ hv
    rw [hv, hW.adr h0]
    simp [srcCells, hj, Addr.add_lit, hc]
  · have hs : (srcCells w ao (W.length * 8)).length = W.length * 8 := by simp [srcCells]
    rw [List.getElem?_eq_none (show (srcCells w ao (W.length * 8)).length ≤ j by omega), List.getElem?_eq_none (show (wsL W).length ≤ j by omega)]
/-- the waits lie in a row of the call's own -/
def OwnW (B : Nat) (w : World) (A : Option Addr) (C : Nat) (W : List Wt) : Prop := w.ownsRow B 98 8 (.slice A W.length C) W.length (wsL W)
theorem OwnW.to {B : Nat} {w w' : World} {A : Option Addr} {C : Nat} {W : List Wt} (h : OwnW B w A C W) (hk : ∀ k, B ≤ k → k < w.heap.size → w'.heap[k]? = w.heap[k]?) : OwnW B w' A C W := own_of h fun k hv => hk k (h.lt k hv).1 (h.lt k hv).2
theorem OwnW.over {B : Nat} {w w' : World} {A : Option Addr} {C : Nat} {W : List Wt} (h : OwnW B w A C W) (hb : Below w.heap.size w w') : OwnW B w' A C W := h.to fun k _ hk => hb.block k hk
theorem OwnW.cap {B : Nat} {w : World} {A : Option Addr} {C : Nat} {W : List Wt} (h : OwnW B w A C W) : W.length ≤ C := by
  rcases h.2 with ⟨hv, hn⟩ | ⟨g, cap, cur, hv, _, _, hc, _⟩
  · omega
  · cases hv; exact hc
theorem OwnW.ws {B : Nat} {w : World} {A : Option Addr} {C : Nat} {W : List Wt} (h : OwnW B w A C W) (hl : W.length * 64 ≤ 140737488351232) : ∃ g, WsAt w A g 0 W ∧ (0 < W.length → B ≤ g ∧ g < w.heap.size) := by
  rcases h.2 with ⟨hv, hn⟩ | ⟨g, cap, cur, hv, hb, hg, hrest⟩
  · refine ⟨0, ⟨fun h => by omega, hl, fun i x hx => ?_⟩, fun h => by omega⟩
    have := (List.getElem?_eq_some_iff.1 hx).1
    omega
  · cases hv
    refine ⟨g, ws_of_cells hl fun j v hj => ?_, fun _ => ⟨hb, (Array.getElem?_eq_some_iff.1 hg).1⟩⟩
    have := World.ownsRow.cells h (g := g) rfl j v hj
    rwa [Addr.add_lit, Nat.zero_add] at this
theorem copy_st3 (s : St) (ao : Option Addr) (sb so c : Nat) (w : World) (hW : WsAt w ao sb so s.W) :
    Calls Tryz.prog 38 #[.agg (stC s (.slice ao s.W.length c))] w fun e w' => ∃ A C, e = .returned (.agg (stC s (.slice A s.W.length C))) ∧ OwnW (w.heap.size + 2) w' A C s.W ∧ Below w.heap.size w w' := by
  refine (copy_any3 (stC s (.slice ao s.W.length c)) ao s.W.length c w (stC_size _ _) (stC_61 _ _) (stC_one _ _ _ _) (ws_src hW)).mono ?_
  rintro e w' ⟨A, C, w0, w1, how, rfl, h0, h2, hcp, hb, hsame⟩
  refine ⟨A, C, rfl, ?_, hb⟩
  rw [src_ws (hW.over h0)] at how
  have hm := how.2
  have how2 : w1.ownsRow (w.heap.size + 2) 98 8 (.slice A s.W.length C) s.W.length (wsL s.W) := ⟨how.1, by
    rcases hm with h | ⟨g, cap, cur, hv, hb2, h3⟩
    · exact .inl h
    · exact .inr ⟨g, cap, cur, hv, Nat.le_trans h2 hb2, h3⟩⟩
  exact own_of how2 fun k hk => hsame k (World.ownsRow.lt how2 k hk).1
/-- one wait more, behind a row of one's own -/
theorem ap3 (B : Nat) (w : World) (A : Option Addr) (C y : Nat) (W : List Wt) (x : Wt) (h : OwnW B w A C W) (h60 : W.length ≤ 60) (hB : B ≤ w.heap.size) (hy : ∀ j v, (wtL x)[j]? = some v → w.cell? ⟨y, j, none⟩ = some v) :
    ∃ g C' w', (Builtin.append_ #[30, 30] 30 #[.slice A W.length C, .slice (some ⟨y, 0, none⟩) 1 1]).run Tryz.prog w = .ok (.slice (some ⟨g, 0, none⟩) (W.length + 1) C') w' ∧ OwnW B w' (some ⟨g, 0, none⟩) C' (W ++ [x]) ∧ B ≤ g ∧ g < w'.heap.size ∧ Below B w w' ∧ (∀ k, k < w.heap.size → some k ≠ (Value.slice A W.length C).ownBlock → g ≠ k ∧ w'.heap[k]? = w.heap[k]?) := by
  obtain ⟨i0, hi, hz0, hz1, hz2⟩ := info_parts info44
  have hL : wsL (W ++ [x]) = wsL W ++ wtL x := by unfold wsL; rw [List.flatMap_append]; simp
  obtain ⟨g, cap, w', hr, ho, hg, hat, hlt⟩ := run_append_lies (P := Tryz.prog) w 30 30 B 98 i0 _ 8 64 Tryz.underlying30 hi hz0 hz1 hz2 rfl (by omega) (.slice A W.length C) W.length (wsL W) h ⟨y, 0, none⟩ 1 1 (wtL x) rfl (fun j v hv => by rw [Addr.add_lit, Nat.zero_add]; exact hy j v hv) (by intro u hu; simp [wtL] at hu; rcases hu with rfl | rfl | rfl | rfl | rfl | rfl | rfl | rfl <;> rfl) (by omega) (by simp only [maxLen]; omega) (by omega) hB _ rfl
  have ho' : OwnW B w' (some ⟨g, 0, none⟩) cap (W ++ [x]) := by
    unfold OwnW
    rw [hL, List.length_append]
    exact ho
  refine ⟨g, cap, w', hr, ho', ?_, hlt, ⟨hg.os, hg.tape, hg.output, hg.size, fun k hk => hg.block k (by omega) (fun he => ?_)⟩, fun k hk hne => ⟨?_, hg.block k hk hne⟩⟩
  · exact (ho'.lt g rfl).1
  · have := (h.lt k he.symm).1
    omega
  · rcases hat with hat | hat
    · rintro rfl
      exact hne hat.symm
    · omega
theorem wpList_ap3 {ops : Array Oper} {rest : List Oper} {o : Oper} {a : Act} {w : World} {Q : Exit → Act → World → Prop} (hg : o.guard = none) (hty : o.type = 30) (p q : Operand)
    (hop : o.op = Op.call { callee := Callee.builtin Builtin.append, args := #[p, q], argTypes := #[30, 30] }) (B : Nat) (A : Option Addr) (C y : Nat) (W : List Wt) (x : Wt) (hs : a.eval p = .slice A W.length C) (hx : a.eval q = .slice (some ⟨y, 0, none⟩) 1 1)
    (h : OwnW B w A C W) (h60 : W.length ≤ 60) (hB : B ≤ w.heap.size) (hy : ∀ j v, (wtL x)[j]? = some v → w.cell? ⟨y, j, none⟩ = some v)
    (hK : ∀ g C' w', OwnW B w' (some ⟨g, 0, none⟩) C' (W ++ [x]) ∧ B ≤ g ∧ g < w'.heap.size ∧ Below B w w' ∧ (∀ k, k < w.heap.size → some k ≠ (Value.slice A W.length C).ownBlock → g ≠ k ∧ w'.heap[k]? = w.heap[k]?) → wpList Tryz.prog ops Q rest (a.put o.dst (.slice (some ⟨g, 0, none⟩) (W.length + 1) C')) w') : wpList Tryz.prog ops Q (o :: rest) a w := by
  refine wpList_plain hg fun _ hK' => ?_
  unfold Oper.wp
  obtain ⟨g, C', w', hr, h1⟩ := ap3 B w A C y W x h h60 hB hy
  simp [execOp, hop, resolve, invoke, builtin, hs, hx, hty, hr, Result.andThen]
  exact hK' _ _ (hK _ _ _ h1)
end Go.Proofs.YtkhlihpghbhppaaGreat

set_option maxRecDepth 100000
namespace Go.Proofs.YtkhlihpghbhppaaGreat.Cd
open Go.RowKit
theorem conv_bytes (s : ByteArray) (w : World) : ∃ cap w1, (convert 9 183 (.string s)).run Tryz.prog w = .ok (.slice (some ⟨w.heap.size, 0, none⟩) s.size cap) w1 ∧ Below w.heap.size w w1 ∧ ∀ j, j < s.size → w1.cell? ⟨w.heap.size, j, none⟩ = some (.int .u8 ((bs s).getD j 0)) := by
  refine ⟨_, _, run_bytes_of_string (P := Tryz.prog) w 9 183 5 s Tryz.underlying9 Tryz.underlying183 Tryz.underlying5, (Below.refl _ _).drew.alloc (Nat.le_refl _) _, fun j hj => ?_⟩
  have h1 := World.cell?_alloc_mark w.drew (bytesRow s (grownCap w s.size 0 5)) 5 ((bytesRow s (grownCap w s.size 0 5)).size, (bytesRow s (grownCap w s.size 0 5)).size + 1) j
  have h2 := bytesRow_at s (grownCap w s.size 0 5) j hj
  rw [bs_get s j hj]
  exact h1.trans h2
set_option maxHeartbeats 400000 in
theorem numberOf_any (s : ByteArray) (w : World) (hs : s.size ≤ 7) :
    Calls Tryz.prog 125 #[.string s] w fun e w' => e = .returned (.int .i64 (numF 0 (bs s))) ∧ Below w.heap.size w w' := by
  obtain ⟨cap, w1, hcv, hb1, hc⟩ := conv_bytes s w
  have HB : Hid (Below w.heap.size w w1) := hb1
  have HC : Hid _ := hc
  clear hb1 hc
  go_enter Tryz.func125, Tryz.ntmps125
  go_wp2
  clear hcv
  go_loop [3, 9] (fun n i => ∃ j : Nat, j ≤ s.size ∧ i = .int .i64 j ∧ n = .int .i64 (numF 0 ((bs s).take j))) (fun _ i => s.size - (intOf i).toNat)
  case atStart => exact ⟨0, Nat.zero_le _, rfl, by simp [numF]⟩
  case round =>
    obtain ⟨j, hj, rfl, rfl⟩ := hrel
    by_cases h : j < s.size
    · have hbd := numF_bound ((bs s).take j) 0 0 (fun c hc => bs_byte s c (List.mem_of_mem_take hc)) (by omega) (by omega)
      have hlj : ((bs s).take j).length = j := by rw [List.length_take, bs_length]; omega
      rw [hlj, Nat.zero_add] at hbd
      have hb1 : 0 ≤ numF 0 ((bs s).take j) := hbd.1
      have hb2 : numF 0 ((bs s).take j) < 281474976710656 := by
        have hp : (2 : Int) ^ (8 * j) ≤ 281474976710656 := pow_le6 (by omega)
        have := hbd.2
        omega
      have HN := numF_take (bs s) j (by rw [bs_length]; exact h)
      have hcell := HC.out j h
      have hcb := bs_byte s ((bs s).getD j 0) (by simp [List.getD, bs_length, h])
      obtain ⟨hcb1, hcb2⟩ := hcb
      have HNN : Hid _ := HN
      clear hbd hlj HN
      generalize numF 0 ((bs s).take j) = q at *
      generalize (bs s).getD j 0 = c at *
      go_wp2
      go_round
      case rel => exact ⟨j + 1, by omega, by go_num, by rw [HNN.out]; go_num⟩
      case measure => simp [intOf]; omega
    · have hjm : j = s.size := by omega
      subst hjm
      have HE : Hid (numF 0 ((bs s).take s.size) = numF 0 (bs s)) := by rw [List.take_of_length_le (by rw [bs_length]; exact Nat.le_refl _)]; rfl
      go_wp2
      go_ret
      exact ⟨by rw [← HE.out]; rfl, HB.out⟩
end Go.Proofs.YtkhlihpghbhppaaGreat.Cd

