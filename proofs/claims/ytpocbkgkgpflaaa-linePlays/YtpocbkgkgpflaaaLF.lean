/- The reference's CopyLine: a line whose lists are rows of their own. -/
import Derived.Test.YtpocbkgkgpflaaaLD
import Derived.Deep.RegionLaw
import Derived.Laws.OwnMore
import Derived.OneCell
set_option maxRecDepth 100000
namespace Go.Proofs.Ytpocbkgkgpflaaa.Ln
open Go.RowKit
/-- texts lie in a row of the call's own -/
def OwnS (B : Nat) (w : World) (A : Option Addr) (C : Nat) (l : List ByteArray) : Prop := w.ownsRow B 9 1 (.slice A l.length C) l.length (l.map .string)
/-- numbers lie in a row of the call's own -/
def OwnI (B : Nat) (w : World) (A : Option Addr) (C : Nat) (l : List Int) : Prop := w.ownsRow B 3 1 (.slice A l.length C) l.length (l.map (.int .i64))
theorem own_of {w w' : World} {b e z n : Nat} {v : Value} {xs : List Value} (h : w.ownsRow b e z v n xs) (hk : ∀ k, v.ownBlock = some k → w'.heap[k]? = w.heap[k]?) : w'.ownsRow b e z v n xs := by
  refine ⟨h.1, ?_⟩
  rcases h.2 with hn | ⟨g, cap, cur, rfl, hb, hg, rest⟩
  · exact .inl hn
  · exact .inr ⟨g, cap, cur, rfl, hb, (hk g rfl).trans hg, rest⟩
theorem own_base {w : World} {b b' e z n : Nat} {v : Value} {xs : List Value} (h : w.ownsRow b e z v n xs) (hb : b' ≤ b) : w.ownsRow b' e z v n xs := by
  refine ⟨h.1, ?_⟩
  rcases h.2 with hn | ⟨g, cap, cur, hv, h2, h3⟩
  · exact .inl hn
  · exact .inr ⟨g, cap, cur, hv, Nat.le_trans hb h2, h3⟩
theorem own_over {w w' : World} {b e z n : Nat} {v : Value} {xs : List Value} (h : w.ownsRow b e z v n xs) (hb : Below w.heap.size w w') : w'.ownsRow b e z v n xs := own_of h fun k hk => hb.block k (World.ownsRow.lt h k hk).2
theorem own_form {w : World} {b e z n : Nat} {v : Value} {xs : List Value} (h : w.ownsRow b e z v n xs) : ∃ A C, v = .slice A n C := by
  rcases h.2 with ⟨hv, hn⟩ | ⟨g, cap, cur, hv, _⟩
  · subst hn; exact ⟨_, _, hv⟩
  · exact ⟨_, _, hv⟩
/-- an own row, appended to in a region that draws -/
theorem step_app {P : Program} {ops : Array Oper} {o : Oper} {a : Act} {w : World} {K : Act → World → Prop} {Q : Exit → Act → World → Prop} {E : Prop}
    (hg : o.guard = none) (s x : Operand) (t : TypeId) (hop : o.op = Op.call { callee := Callee.builtin Builtin.append, args := #[s, x], argTypes := #[t, t] })
    (base : Nat) (e : TypeId) (i : TypeInfo) (z : Value) (size bytes : Nat) (h1 : P.underlying t = some (.slice e)) (h2 : P.info? e = some i) (h3 : i.zero = some z) (h4 : i.size = size) (h5 : i.bytes = bytes) (h6 : z.cells.size = size) (h7 : 0 < size)
    (v : Value) (n : Nat) (xs : List Value) (hs : a.eval s = v) (hown : w.ownsRow base e size v n xs)
    (ao : Option Addr) (m c : Nat) (news : List Value) (hx : a.eval x = .slice ao m c) (hn : news.length = m * size) (hnone : ao = none → m = 0 ∧ c = 0) (hc : ∀ ad, ao = some ad → ∀ j u, news[j]? = some u → w.cell? (ad.add j) = some u) (h1c : ∀ u ∈ news, u.oneCell' = true)
    (b1 : n + m ≤ maxLen) (b2 : (n + m) * bytes ≤ 140737488355328) (b3 : base ≤ w.heap.size)
    (hK : ∀ A C w', w'.ownsRow base e size (.slice A (n + m) C) (n + m) (xs ++ news) → w.grownBy w' v.ownBlock → K (a.put o.dst (.slice A (n + m) C)) w') :
    if Region.wanted o (yielded ops a.tmps) = true then Oper.wp P o a w K Q else E := by
  have hw : Region.wanted o (yielded ops a.tmps) = true := by simp [Region.wanted, hg]
  rw [if_pos hw]
  cases ao with
  | some ad =>
    obtain ⟨v', w', hrun, r1, r2, _⟩ := run_append_own (P := P) w base t o.type e i z size bytes h1 h2 h3 h4 h5 h6 h7 v n xs hown ad m c news hn (hc ad rfl) h1c b1 b2 b3
    unfold Oper.wp
    simp [execOp, hop, resolve, invoke, builtin, hs, hx, hrun, Result.andThen]
    obtain ⟨A, C, rfl⟩ := own_form r1
    exact hK A C w' r1 r2
  | none =>
    obtain ⟨rfl, rfl⟩ := hnone rfl
    obtain rfl : news = [] := List.eq_nil_of_length_eq_zero (by simpa using hn)
    have hrun := run_append_owned_none (P := P) w base t o.type e i size h1 h2 v n xs hown
    unfold Oper.wp
    simp [execOp, hop, resolve, invoke, builtin, hs, hx, hrun, Result.andThen]
    obtain ⟨A, C, rfl⟩ := own_form hown
    exact hK A C w (by simpa using hown) (World.grownBy.refl w _)
theorem one_strs (l : List ByteArray) : ∀ u ∈ l.map Value.string, u.oneCell' = true := fun u hu => by
  simp at hu
  obtain ⟨t, _, rfl⟩ := hu
  rfl
theorem one_ints (l : List Int) : ∀ u ∈ l.map (Value.int .i64), u.oneCell' = true := fun u hu => by
  simp at hu
  obtain ⟨t, _, rfl⟩ := hu
  rfl
theorem none_zero {α : Type} {l : List α} {a : Option Addr} {b off c : Nat} (ha : 0 < l.length → a = some ⟨b, off, none⟩) (hn : a = none → c = 0) : a = none → l.length = 0 ∧ c = 0 := fun e => by
  refine ⟨?_, hn e⟩
  rcases Nat.eq_zero_or_pos l.length with h | h
  · exact h
  · rw [ha h] at e; cases e
theorem OwnS.facts {B : Nat} {w : World} {A : Option Addr} {C : Nat} {l : List ByteArray} (h : OwnS B w A C l) : (A = none → C = 0) ∧ ∃ g, (0 < l.length → A = some ⟨g, 0, none⟩ ∧ B ≤ g ∧ g < w.heap.size) ∧ StrsAt w g 0 l := by
  rcases h.2 with ⟨hv, hn⟩ | ⟨g, cap, cur, hv, hb, hg, _⟩
  · simp at hv
    exact ⟨fun _ => hv.2.2, 0, fun h0 => by omega, fun i hi => by omega⟩
  · cases hv
    obtain ⟨o1, o2, o3⟩ := own_strs h
    exact ⟨fun h => (by cases h), g, fun _ => ⟨rfl, o1, o2⟩, o3⟩
theorem OwnI.facts {B : Nat} {w : World} {A : Option Addr} {C : Nat} {l : List Int} (h : OwnI B w A C l) : (A = none → C = 0) ∧ ∃ g, (0 < l.length → A = some ⟨g, 0, none⟩ ∧ B ≤ g ∧ g < w.heap.size) ∧ IntsAt w g 0 l := by
  rcases h.2 with ⟨hv, hn⟩ | ⟨g, cap, cur, hv, hb, hg, _⟩
  · simp at hv
    exact ⟨fun _ => hv.2.2, 0, fun h0 => by omega, fun i hi => by omega⟩
  · cases hv
    obtain ⟨o1, o2, o3⟩ := own_ints h
    exact ⟨fun h => (by cases h), g, fun _ => ⟨rfl, o1, o2⟩, o3⟩
/-- a line whose lists are rows of the call's own -/
structure OwnL (B : Nat) (w : World) (x : Line) (A1 A2 : Option Addr) (C1 C2 : Nat) : Prop where
  oS : OwnS B w A1 C1 x.S
  oD : OwnI B w A2 C2 x.D
  apart : ∀ k, (Value.slice A1 x.S.length C1).ownBlock = some k → (Value.slice A2 x.D.length C2).ownBlock ≠ some k
theorem OwnL.at {B : Nat} {w : World} {x : Line} {A1 A2 : Option Addr} {C1 C2 : Nat} (h : OwnL B w x A1 A2 C1 C2) (h1 : x.S.length * 16 ≤ 140737488351232) (h2 : x.D.length * 8 ≤ 140737488351232) : ∃ g1 g2, LAt w x A1 A2 C1 C2 g1 0 g2 0 ∧ (0 < x.S.length → B ≤ g1 ∧ g1 < w.heap.size) ∧ (0 < x.D.length → B ≤ g2 ∧ g2 < w.heap.size) := by
  obtain ⟨n1, g1, f1, p1⟩ := h.oS.facts
  obtain ⟨n2, g2, f2, p2⟩ := h.oD.facts
  exact ⟨g1, g2, ⟨h1, h2, fun h => (f1 h).1, fun h => (f2 h).1, n1, n2, p1, p2⟩, fun h => (f1 h).2, fun h => (f2 h).2⟩
theorem OwnL.over {B : Nat} {w w' : World} {x : Line} {A1 A2 : Option Addr} {C1 C2 : Nat} (h : OwnL B w x A1 A2 C1 C2) (hb : Below w.heap.size w w') : OwnL B w' x A1 A2 C1 C2 := ⟨own_over h.oS hb, own_over h.oD hb, h.apart⟩
/-- stores below the base change no own row -/
theorem OwnL.set {B : Nat} {w : World} {x : Line} {A1 A2 : Option Addr} {C1 C2 : Nat} (h : OwnL B w x A1 A2 C1 C2) {w' : World} (hk : ∀ k, B ≤ k → k < w.heap.size → w'.heap[k]? = w.heap[k]?) : OwnL B w' x A1 A2 C1 C2 :=
  ⟨own_of h.oS fun k e => hk k (World.ownsRow.lt h.oS k e).1 (World.ownsRow.lt h.oS k e).2, own_of h.oD fun k e => hk k (World.ownsRow.lt h.oD k e).1 (World.ownsRow.lt h.oD k e).2, h.apart⟩
/-- how a call ends that answers four cells in a block of its own, stored whole -/
theorem cell_end1 {f : Func} {p : Tmp} (hres : f.results = #[.cell p 25]) {wq : World} {b : Nat} {u0 u1 u2 u3 : Value} (R : FAt wq b u0 u1 u2 u3) (v0 v1 v2 v3 : Value) (Q : Ending → World → Prop) (hQ : Q (.returned (.agg #[v0, v1, v2, v3])) (set4 wq b v0 v1 v2 v3)) (act : Act)
    (h8 : act.tmps.getD p undef = .pointer (some ⟨b, 0, none⟩)) (hd : act.defers = []) :
    bodyPost Try.prog f Q Exit.ret act (set4 wq b v0 v1 v2 v3) := by
  have R1 := set4_at R v0 v1 v2 v3
  generalize set4 wq b v0 v1 v2 v3 = w9 at *
  obtain ⟨⟨c0, c1, c2, c3⟩, -⟩ := R1.facts
  have h8' : act.tmps[p]?.getD undef = .pointer (some ⟨b, 0, none⟩) := by simpa using h8
  exact bodyPost_ret (v := .agg #[v0, v1, v2, v3]) (by simp [results, hres, go_sem, h8', c0, c1, c2, c3]) hd hQ
theorem below_drew' {B : Nat} {w w' : World} (h : Below B w w') : Below B w w'.drew := h.drew
set_option maxHeartbeats 1000000 in
theorem copy_any (x : Line) (sa da : Option Addr) (cs cd sb so db dO : Nat) (w : World) (L : LAt w x sa da cs cd sb so db dO) :
    Calls Try.prog 8 #[.agg #[.slice sa x.S.length cs, .slice da x.D.length cd, .int .i64 x.g, .bool x.cl]] w fun e w' => ∃ A1 C1 A2 C2, e = .returned (.agg #[.slice A1 x.S.length C1, .slice A2 x.D.length C2, .int .i64 x.g, .bool x.cl]) ∧ OwnL (w.heap.size + 2) w' x A1 A2 C1 C2 ∧ Below w.heap.size w w' := by
  obtain ⟨i0, hi, hz0, hz1, hz2⟩ := info_parts infoStr
  obtain ⟨j0, hj, hy0, hy1, hy2⟩ := info_parts infoI
  have hls := L.hls
  have hld := L.hld
  have nS := none_zero L.hsa L.ncs
  have nD := none_zero L.hda L.ncd
  have oneS := one_strs x.S
  have oneD := one_ints x.D
  have bS : 0 + x.S.length ≤ maxLen := by unfold maxLen; omega
  have bD : 0 + x.D.length ≤ maxLen := by unfold maxLen; omega
  have HB := hide (begun L)
  clear L
  go_enter Try.func8, Try.ntmps8
  go_upto_region 1 with fail
  generalize ((w.alloc (.cells #[.slice sa x.S.length cs, .slice da x.D.length cd, .int .i64 x.g, .bool x.cl] 25)).alloc (.cells #[.slice none 0 0, .slice none 0 0, .int .i64 0, .bool false] 25)) = w0 at *
  obtain ⟨⟨c0, c1, c2, c3⟩, ⟨e0, e1, e2, e3⟩⟩ := HB.out.F1.facts
  have sS := withs_src HB.out.L.hsa HB.out.L.PS
  go_region_law (first
    | (refine step_app rfl _ _ 22 rfl w0.heap.size 9 i0 _ 1 16 Try.underlying22 hi hz0 hz1 hz2 rfl (by decide) (.slice none 0 0) 0 [] rfl (World.ownsRow_nil _ _ _ _) sa x.S.length cs (x.S.map .string) rfl (by simp) nS sS oneS bS (by omega) (Nat.le_refl _) ?_; intro A1 C1 w1 ho1 hg1; rw [Nat.zero_add, List.nil_append] at ho1; have B1 : Below w0.heap.size w0 w1 := (Below.refl _ w0).drew.grown hg1 (Nat.le_refl _) (fun k hk => by cases hk); have HB1 := hide (HB.out.over B1); have HO1 := hide ho1; have HW1 := hide B1; clear c0 c1 c2 c3 e0 e1 e2 e3 sS B1 hg1 ho1; obtain ⟨⟨c0, c1, c2, c3⟩, ⟨e0, e1, e2, e3⟩⟩ := HB1.out.F1.facts; have sD := withi_src HB1.out.L.hda HB1.out.L.PD)
    | (refine step_app rfl _ _ 23 rfl w1.heap.size 3 j0 _ 1 8 Try.underlying23 hj hy0 hy1 hy2 rfl (by decide) (.slice none 0 0) 0 [] rfl (World.ownsRow_nil _ _ _ _) da x.D.length cd (x.D.map (.int .i64)) rfl (by simp) nD sD oneD bD (by omega) (Nat.le_refl _) ?_; intro A2 C2 w2 ho2 hg2; rw [Nat.zero_add, List.nil_append] at ho2; have B2 : Below w1.heap.size w1 w2 := (Below.refl _ w1).grown hg2 (Nat.le_refl _) (fun k hk => by cases hk); have HB2 := hide (HB1.out.over B2); have HO2 := hide ho2; have HW2 := hide B2; clear c0 c1 c2 c3 e0 e1 e2 e3 sD B2 hg2 ho2; obtain ⟨⟨c0, c1, c2, c3⟩, ⟨e0, e1, e2, e3⟩⟩ := HB2.out.F1.facts))
  all_goals
    have F1 := (HB2.out.F1.set_0 (.slice A1 x.S.length C1)).set_1 (.slice A2 x.D.length C2)
    have F2 := (HB2.out.F2.other (c := w.heap.size) (o := 0) (by omega) (.slice A1 x.S.length C1)).other (c := w.heap.size) (o := 1) (by omega) (.slice A2 x.D.length C2)
    have BW := (HB2.out.below.setCell (p := ⟨w.heap.size, 0, none⟩) (Nat.le_refl _) (.slice A1 x.S.length C1)).setCell (p := ⟨w.heap.size, 1, none⟩) (Nat.le_refl _) (.slice A2 x.D.length C2)
    have OL : OwnL (w.heap.size + 2) w2 x A1 A2 C1 C2 := ⟨own_base (own_over HO1.out HW2.out) HB.out.size, own_base HO2.out HB1.out.size, fun k h1 h2 => by have z1 := (World.ownsRow.lt HO1.out k h1).2; have z2 := (World.ownsRow.lt HO2.out k h2).1; omega⟩
    have OM := OL.set (w' := (w2.setCell ⟨w.heap.size, 0, none⟩ (.slice A1 x.S.length C1)).setCell ⟨w.heap.size, 1, none⟩ (.slice A2 x.D.length C2)) (fun k hk _ => by rw [Below.heap_setCell _ _ _ _ (show k ≠ w.heap.size by omega), Below.heap_setCell _ _ _ _ (show k ≠ w.heap.size by omega)])
    clear c0 c1 c2 c3 e0 e1 e2 e3 OL
    generalize ((w2.setCell ⟨w.heap.size, 0, none⟩ (.slice A1 x.S.length C1)).setCell ⟨w.heap.size, 1, none⟩ (.slice A2 x.D.length C2)) = w3 at *
    obtain ⟨⟨c0, c1, c2, c3⟩, -⟩ := F1.facts
    obtain ⟨⟨d0, d1, d2, d3⟩, ⟨f0, f1, f2, f3⟩⟩ := F2.facts
    have HX := hide (show _ ∧ _ ∧ _ from ⟨F2, BW, OM⟩)
    clear F1 F2 BW OM
    go_wp2
    exact cell_end1 rfl HX.out.1 _ _ _ _ _ ⟨A1, C1, A2, C2, rfl, HX.out.2.2.set fun k hk _ => set4_other _ _ _ _ (by omega), set4_below _ _ _ _ HX.out.2.1 (Nat.le_succ _)⟩ _ rfl rfl
end Go.Proofs.Ytpocbkgkgpflaaa.Ln
