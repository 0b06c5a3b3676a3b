/- Parts of the proof: LF LG. -/
import Derived.Test.YtdkalcnlncjgiaaRows
import Derived.Test.YtdkalcnlncjgiaaBK42
import Derived.Deep.RegionLaw
import Derived.Laws.OwnMore
import Derived.OneCell
import Derived.Deep.QuietTactic
import Derived.BigQuiet
import Derived.WalkSmall
set_option maxRecDepth 100000
namespace Go.Proofs.Ytdkalcnlncjgiaa.Ln
open Go.RowKit
/-- texts lie in a row of the call's own -/
def OwnS (B : Nat) (w : World) (A : Option Addr) (C : Nat) (l : List ByteArray) : Prop := w.ownsRow B 9 1 (.slice A l.length C) l.length (l.map .string)
/-- numbers lie in a row of the call's own -/
def OwnI (B : Nat) (w : World) (A : Option Addr) (C : Nat) (l : List Int) : Prop := w.ownsRow B 3 1 (.slice A l.length C) l.length (l.map (.int .i64))
theorem own_of {w w' : World} {b e z n : Nat} {v : Value} {xs : List Value} (h : w.ownsRow b e z v n xs) (hk : ∀ k, v.ownBlock = some k → w'.heap[k]? = w.heap[k]?) : w'.ownsRow b e z v n xs := by
  refine ⟨h.1, ?_⟩
  rcases h.2 with hn | ⟨g, cap, cur, rfl, hb, hg, rest⟩
  · exact .inl hn
  · exact .inr ⟨g, cap, cur, rfl, hb, (hk g rfl).trans hg, rest⟩
theorem own_base {w : World} {b b' e z n : Nat} {v : Value} {xs : List Value} (h : w.ownsRow b e z v n xs) (hb : b' ≤ b) : w.ownsRow b' e z v n xs := by
  refine ⟨h.1, ?_⟩
  rcases h.2 with hn | ⟨g, cap, cur, hv, h2, h3⟩
  · exact .inl hn
  · exact .inr ⟨g, cap, cur, hv, Nat.le_trans hb h2, h3⟩
theorem own_over {w w' : World} {b e z n : Nat} {v : Value} {xs : List Value} (h : w.ownsRow b e z v n xs) (hb : Below w.heap.size w w') : w'.ownsRow b e z v n xs := own_of h fun k hk => hb.block k (World.ownsRow.lt h k hk).2
theorem own_form {w : World} {b e z n : Nat} {v : Value} {xs : List Value} (h : w.ownsRow b e z v n xs) : ∃ A C, v = .slice A n C := by
  rcases h.2 with ⟨hv, hn⟩ | ⟨g, cap, cur, hv, _⟩
  · subst hn; exact ⟨_, _, hv⟩
  · exact ⟨_, _, hv⟩
/-- an own row, appended to in a region that draws -/
theorem step_app {P : Program} {ops : Array Oper} {o : Oper} {a : Act} {w : World} {K : Act → World → Prop} {Q : Exit → Act → World → Prop} {E : Prop}
    (hg : o.guard = none) (s x : Operand) (t : TypeId) (hop : o.op = Op.call { callee := Callee.builtin Builtin.append, args := #[s, x], argTypes := #[t, t] })
    (base : Nat) (e : TypeId) (i : TypeInfo) (z : Value) (size bytes : Nat) (h1 : P.underlying t = some (.slice e)) (h2 : P.info? e = some i) (h3 : i.zero = some z) (h4 : i.size = size) (h5 : i.bytes = bytes) (h6 : z.cells.size = size) (h7 : 0 < size)
    (v : Value) (n : Nat) (xs : List Value) (hs : a.eval s = v) (hown : w.ownsRow base e size v n xs)
    (ao : Option Addr) (m c : Nat) (news : List Value) (hx : a.eval x = .slice ao m c) (hn : news.length = m * size) (hnone : ao = none → m = 0 ∧ c = 0) (hc : ∀ ad, ao = some ad → ∀ j u, news[j]? = some u → w.cell? (ad.add j) = some u) (h1c : ∀ u ∈ news, u.oneCell' = true)
    (b1 : n + m ≤ maxLen) (b2 : (n + m) * bytes ≤ 140737488355328) (b3 : base ≤ w.heap.size)
    (hK : ∀ A C w', w'.ownsRow base e size (.slice A (n + m) C) (n + m) (xs ++ news) → w.grownBy w' v.ownBlock → K (a.put o.dst (.slice A (n + m) C)) w') :
    if Region.wanted o (yielded ops a.tmps) = true then Oper.wp P o a w K Q else E := by
  have hw : Region.wanted o (yielded ops a.tmps) = true := by simp [Region.wanted, hg]
  rw [if_pos hw]
  cases ao with
  | some ad =>
    obtain ⟨v', w', hrun, r1, r2, _⟩ := run_append_own (P := P) w base t o.type e i z size bytes h1 h2 h3 h4 h5 h6 h7 v n xs hown ad m c news hn (hc ad rfl) h1c b1 b2 b3
    unfold Oper.wp
    simp [execOp, hop, resolve, invoke, builtin, hs, hx, hrun, Result.andThen]
    obtain ⟨A, C, rfl⟩ := own_form r1
    exact hK A C w' r1 r2
  | none =>
    obtain ⟨rfl, rfl⟩ := hnone rfl
    obtain rfl : news = [] := List.eq_nil_of_length_eq_zero (by simpa using hn)
    have hrun := run_append_owned_none (P := P) w base t o.type e i size h1 h2 v n xs hown
    unfold Oper.wp
    simp [execOp, hop, resolve, invoke, builtin, hs, hx, hrun, Result.andThen]
    obtain ⟨A, C, rfl⟩ := own_form hown
    exact hK A C w (by simpa using hown) (World.grownBy.refl w _)
theorem one_strs (l : List ByteArray) : ∀ u ∈ l.map Value.string, u.oneCell' = true := fun u hu => by
  simp at hu
  obtain ⟨t, _, rfl⟩ := hu
  rfl
theorem one_ints (l : List Int) : ∀ u ∈ l.map (Value.int .i64), u.oneCell' = true := fun u hu => by
  simp at hu
  obtain ⟨t, _, rfl⟩ := hu
  rfl
theorem none_zero {α : Type} {l : List α} {a : Option Addr} {b off c : Nat} (ha : 0 < l.length → a = some ⟨b, off, none⟩) (hn : a = none → c = 0) : a = none → l.length = 0 ∧ c = 0 := fun e => by
  refine ⟨?_, hn e⟩
  rcases Nat.eq_zero_or_pos l.length with h | h
  · exact h
  · rw [ha h] at e; cases e
theorem OwnS.facts {B : Nat} {w : World} {A : Option Addr} {C : Nat} {l : List ByteArray} (h : OwnS B w A C l) : (A = none → C = 0) ∧ ∃ g, (0 < l.length → A = some ⟨g, 0, none⟩ ∧ B ≤ g ∧ g < w.heap.size) ∧ StrsAt w g 0 l := by
  rcases h.2 with ⟨hv, hn⟩ | ⟨g, cap, cur, hv, hb, hg, _⟩
  · simp at hv
    exact ⟨fun _ => hv.2.2, 0, fun h0 => by omega, fun i hi => by omega⟩
  · cases hv
    obtain ⟨o1, o2, o3⟩ := own_strs h
    exact ⟨fun h => (by cases h), g, fun _ => ⟨rfl, o1, o2⟩, o3⟩
theorem OwnI.facts {B : Nat} {w : World} {A : Option Addr} {C : Nat} {l : List Int} (h : OwnI B w A C l) : (A = none → C = 0) ∧ ∃ g, (0 < l.length → A = some ⟨g, 0, none⟩ ∧ B ≤ g ∧ g < w.heap.size) ∧ IntsAt w g 0 l := by
  rcases h.2 with ⟨hv, hn⟩ | ⟨g, cap, cur, hv, hb, hg, _⟩
  · simp at hv
    exact ⟨fun _ => hv.2.2, 0, fun h0 => by omega, fun i hi => by omega⟩
  · cases hv
    obtain ⟨o1, o2, o3⟩ := own_ints h
    exact ⟨fun h => (by cases h), g, fun _ => ⟨rfl, o1, o2⟩, o3⟩
/-- a line whose lists are rows of the call's own -/
structure OwnL (B : Nat) (w : World) (x : Line) (A1 A2 : Option Addr) (C1 C2 : Nat) : Prop where
  oS : OwnS B w A1 C1 x.S
  oD : OwnI B w A2 C2 x.D
  apart : ∀ k, (Value.slice A1 x.S.length C1).ownBlock = some k → (Value.slice A2 x.D.length C2).ownBlock ≠ some k
theorem OwnL.at {B : Nat} {w : World} {x : Line} {A1 A2 : Option Addr} {C1 C2 : Nat} (h : OwnL B w x A1 A2 C1 C2) (h1 : x.S.length * 16 ≤ 140737488351232) (h2 : x.D.length * 8 ≤ 140737488351232) : ∃ g1 g2, LAt w x A1 A2 C1 C2 g1 0 g2 0 ∧ (0 < x.S.length → B ≤ g1 ∧ g1 < w.heap.size) ∧ (0 < x.D.length → B ≤ g2 ∧ g2 < w.heap.size) := by
  obtain ⟨n1, g1, f1, p1⟩ := h.oS.facts
  obtain ⟨n2, g2, f2, p2⟩ := h.oD.facts
  exact ⟨g1, g2, ⟨h1, h2, fun h => (f1 h).1, fun h => (f2 h).1, n1, n2, p1, p2⟩, fun h => (f1 h).2, fun h => (f2 h).2⟩
theorem OwnL.over {B : Nat} {w w' : World} {x : Line} {A1 A2 : Option Addr} {C1 C2 : Nat} (h : OwnL B w x A1 A2 C1 C2) (hb : Below w.heap.size w w') : OwnL B w' x A1 A2 C1 C2 := ⟨own_over h.oS hb, own_over h.oD hb, h.apart⟩
/-- stores below the base change no own row -/
theorem OwnL.set {B : Nat} {w : World} {x : Line} {A1 A2 : Option Addr} {C1 C2 : Nat} (h : OwnL B w x A1 A2 C1 C2) {w' : World} (hk : ∀ k, B ≤ k → k < w.heap.size → w'.heap[k]? = w.heap[k]?) : OwnL B w' x A1 A2 C1 C2 :=
  ⟨own_of h.oS fun k e => hk k (World.ownsRow.lt h.oS k e).1 (World.ownsRow.lt h.oS k e).2, own_of h.oD fun k e => hk k (World.ownsRow.lt h.oD k e).1 (World.ownsRow.lt h.oD k e).2, h.apart⟩
/-- how a call ends that answers four cells in a block of its own, stored whole -/
theorem cell_end1 {f : Func} {p : Tmp} (hres : f.results = #[.cell p 29]) {wq : World} {b : Nat} {u0 u1 u2 u3 : Value} (R : FAt wq b u0 u1 u2 u3) (v0 v1 v2 v3 : Value) (Q : Ending → World → Prop) (hQ : Q (.returned (.agg #[v0, v1, v2, v3])) (set4 wq b v0 v1 v2 v3)) (act : Act)
    (h8 : act.tmps.getD p undef = .pointer (some ⟨b, 0, none⟩)) (hd : act.defers = []) :
    bodyPost Try.prog f Q Exit.ret act (set4 wq b v0 v1 v2 v3) := by
  have R1 := set4_at R v0 v1 v2 v3
  generalize set4 wq b v0 v1 v2 v3 = w9 at *
  obtain ⟨⟨c0, c1, c2, c3⟩, -⟩ := R1.facts
  have h8' : act.tmps[p]?.getD undef = .pointer (some ⟨b, 0, none⟩) := by simpa using h8
  exact bodyPost_ret (v := .agg #[v0, v1, v2, v3]) (by simp [results, hres, go_sem, h8', c0, c1, c2, c3]) hd hQ
set_option maxHeartbeats 1000000 in
theorem copy_any (x : Line) (sa da : Option Addr) (cs cd sb so db dO : Nat) (w : World) (L : LAt w x sa da cs cd sb so db dO) :
    Calls Try.prog 16 #[.agg #[.slice sa x.S.length cs, .slice da x.D.length cd, .int .i64 x.g, .bool x.cl]] w fun e w' => ∃ A1 C1 A2 C2, e = .returned (.agg #[.slice A1 x.S.length C1, .slice A2 x.D.length C2, .int .i64 x.g, .bool x.cl]) ∧ OwnL (w.heap.size + 2) w' x A1 A2 C1 C2 ∧ Below w.heap.size w w' := by
  obtain ⟨i0, hi, hz0, hz1, hz2⟩ := info_parts infoStr
  obtain ⟨j0, hj, hy0, hy1, hy2⟩ := info_parts infoI
  have hls := L.hls
  have hld := L.hld
  have nS := none_zero L.hsa L.ncs
  have nD := none_zero L.hda L.ncd
  have oneS := one_strs x.S
  have oneD := one_ints x.D
  have bS : 0 + x.S.length ≤ maxLen := by unfold maxLen; omega
  have bD : 0 + x.D.length ≤ maxLen := by unfold maxLen; omega
  have HB := hide (begun L)
  clear L
  go_enter Try.func16, Try.ntmps16
  go_upto_region 1 with fail
  generalize ((w.alloc (.cells #[.slice sa x.S.length cs, .slice da x.D.length cd, .int .i64 x.g, .bool x.cl] 29)).alloc (.cells #[.slice none 0 0, .slice none 0 0, .int .i64 0, .bool false] 29)) = w0 at *
  obtain ⟨⟨c0, c1, c2, c3⟩, ⟨e0, e1, e2, e3⟩⟩ := HB.out.F1.facts
  have sS := withs_src HB.out.L.hsa HB.out.L.PS
  go_region_law (first
    | (refine step_app rfl _ _ 26 rfl w0.heap.size 9 i0 _ 1 16 Try.underlying26 hi hz0 hz1 hz2 rfl (by decide) (.slice none 0 0) 0 [] rfl (World.ownsRow_nil _ _ _ _) sa x.S.length cs (x.S.map .string) rfl (by simp) nS sS oneS bS (by omega) (Nat.le_refl _) ?_; intro A1 C1 w1 ho1 hg1; rw [Nat.zero_add, List.nil_append] at ho1; have B1 : Below w0.heap.size w0 w1 := (Below.refl _ w0).drew.grown hg1 (Nat.le_refl _) (fun k hk => by cases hk); have HB1 := hide (HB.out.over B1); have HO1 := hide ho1; have HW1 := hide B1; clear c0 c1 c2 c3 e0 e1 e2 e3 sS B1 hg1 ho1; obtain ⟨⟨c0, c1, c2, c3⟩, ⟨e0, e1, e2, e3⟩⟩ := HB1.out.F1.facts; have sD := withi_src HB1.out.L.hda HB1.out.L.PD)
    | (refine step_app rfl _ _ 27 rfl w1.heap.size 3 j0 _ 1 8 Try.underlying27 hj hy0 hy1 hy2 rfl (by decide) (.slice none 0 0) 0 [] rfl (World.ownsRow_nil _ _ _ _) da x.D.length cd (x.D.map (.int .i64)) rfl (by simp) nD sD oneD bD (by omega) (Nat.le_refl _) ?_; intro A2 C2 w2 ho2 hg2; rw [Nat.zero_add, List.nil_append] at ho2; have B2 : Below w1.heap.size w1 w2 := (Below.refl _ w1).grown hg2 (Nat.le_refl _) (fun k hk => by cases hk); have HB2 := hide (HB1.out.over B2); have HO2 := hide ho2; have HW2 := hide B2; clear c0 c1 c2 c3 e0 e1 e2 e3 sD B2 hg2 ho2; obtain ⟨⟨c0, c1, c2, c3⟩, ⟨e0, e1, e2, e3⟩⟩ := HB2.out.F1.facts))
  all_goals
    have F1 := (HB2.out.F1.set_0 (.slice A1 x.S.length C1)).set_1 (.slice A2 x.D.length C2)
    have F2 := (HB2.out.F2.other (c := w.heap.size) (o := 0) (by omega) (.slice A1 x.S.length C1)).other (c := w.heap.size) (o := 1) (by omega) (.slice A2 x.D.length C2)
    have BW := (HB2.out.below.setCell (p := ⟨w.heap.size, 0, none⟩) (Nat.le_refl _) (.slice A1 x.S.length C1)).setCell (p := ⟨w.heap.size, 1, none⟩) (Nat.le_refl _) (.slice A2 x.D.length C2)
    have OL : OwnL (w.heap.size + 2) w2 x A1 A2 C1 C2 := ⟨own_base (own_over HO1.out HW2.out) HB.out.size, own_base HO2.out HB1.out.size, fun k h1 h2 => by have z1 := (World.ownsRow.lt HO1.out k h1).2; have z2 := (World.ownsRow.lt HO2.out k h2).1; omega⟩
    have OM := OL.set (w' := (w2.setCell ⟨w.heap.size, 0, none⟩ (.slice A1 x.S.length C1)).setCell ⟨w.heap.size, 1, none⟩ (.slice A2 x.D.length C2)) (fun k hk _ => by rw [Below.heap_setCell _ _ _ _ (show k ≠ w.heap.size by omega), Below.heap_setCell _ _ _ _ (show k ≠ w.heap.size by omega)])
    clear c0 c1 c2 c3 e0 e1 e2 e3 OL
    generalize ((w2.setCell ⟨w.heap.size, 0, none⟩ (.slice A1 x.S.length C1)).setCell ⟨w.heap.size, 1, none⟩ (.slice A2 x.D.length C2)) = w3 at *
    obtain ⟨⟨c0, c1, c2, c3⟩, -⟩ := F1.facts
    obtain ⟨⟨d0, d1, d2, d3⟩, ⟨f0, f1, f2, f3⟩⟩ := F2.facts
    have HX := hide (show _ ∧ _ ∧ _ from ⟨F2, BW, OM⟩)
    clear F1 F2 BW OM
    go_wp2
    exact cell_end1 rfl HX.out.1 _ _ _ _ _ ⟨A1, C1, A2, C2, rfl, HX.out.2.2.set fun k hk _ => set4_other _ _ _ _ (by omega), set4_below _ _ _ _ HX.out.2.1 (Nat.le_succ _)⟩ _ rfl rfl
end Go.Proofs.Ytdkalcnlncjgiaa.Ln

set_option maxRecDepth 100000
namespace Go.Proofs.Ytdkalcnlncjgiaa.Ln
open Go.RowKit
theorem goodL_ref (x : Line) : (nonneg x.D = false → goodL x = false) ∧ (nonneg x.D = true → goodL x = (decide (x.S.length = x.D.length) && (decide (x.S.length ≤ 400) && (decide (0 ≤ x.g) && decide (x.g ≤ x.S.length))))) := by
  refine ⟨fun h => by simp [goodL, h], fun h => ?_⟩
  unfold goodL
  rw [h]
  by_cases h1 : x.D.length = x.S.length
  · simp [h1, Bool.and_assoc]
  · have h2 : ¬ x.S.length = x.D.length := fun e => h1 e.symm
    simp [h1, h2]
set_option maxHeartbeats 1000000 in
theorem rgood_any (x : Line) (sa da : Option Addr) (cs cd sb so db dO : Nat) (w : World) (L : LAt w x sa da cs cd sb so db dO) :
    Calls Try.prog 38 #[.agg #[.slice sa x.S.length cs, .slice da x.D.length cd, .int .i64 x.g, .bool x.cl]] w fun e w' => e = .returned (.bool (goodL x)) ∧ Below w.heap.size w w' := by
  obtain ⟨S, D, g, cl⟩ := x
  have HG := hide (goodL_ref ⟨S, D, g, cl⟩)
  obtain ⟨hls, hld, hsa, hda, -, -, PS, PD⟩ := L
  have HB0 : Hid (∀ o, Below w.heap.size w (w.alloc o)) := fun o => below_new w o
  have HDA : Hid (0 < D.length → da = some ⟨db, dO, none⟩) := hda
  have HPD : Hid (IntsAt w db dO D) := PD
  clear hsa hda PS PD
  dsimp only at *
  generalize goodL ⟨S, D, g, cl⟩ = G at *
  go_enter Try.func38, Try.ntmps38
  go_wp2
  go_loop [8] (fun i => ∃ (k : Nat), k ≤ D.length ∧ i = .int .i64 (k : Int) ∧ Hid (nonneg (D.take k) = true)) (fun i => D.length - (intOf i).toNat)
  case atStart => exact ⟨0, Nat.zero_le _, rfl, by simp [Hid, nonneg]⟩
  case round =>
    obtain ⟨k, hk, rfl, HR⟩ := hrel
    by_cases hlt : k < D.length
    · have hcell := (HPD.out.later (HB0.out (.cells #[.slice sa S.length cs, .slice da D.length cd, .int .i64 g, .bool cl] 29))) k hlt
      obtain ⟨y, hy⟩ : ∃ y, D.getD k 0 = y := ⟨_, rfl⟩
      rw [hy] at hcell
      have HY : Hid (D.getD k 0 = y) := hy
      clear hy
      have e := HDA.out (by omega)
      subst e
      by_cases hy0 : y < 0
      · have HF : Hid (G = false) := HG.out.1 (nonneg_not hlt (by rw [HY.out]; exact hy0))
        go_wp2
        go_ret
        exact ⟨by rw [HF.out]; rfl, HB0.out _⟩
      · go_wp2
        go_round
        case rel => exact ⟨k + 1, by omega, by go_num, nonneg_step HR.out hlt (by rw [HY.out]; omega)⟩
        case measure => simp [intOf]; omega
    · have hG := HG.out.2 (by have := HR.out; rwa [List.take_of_length_le (by omega)] at this)
      by_cases h1 : S.length = D.length
      · have h1' : ((S.length : Int) == (D.length : Int)) = true := by simp [h1]
        by_cases h2 : S.length ≤ 400
        · by_cases h3 : 0 ≤ g
          · by_cases h4 : g ≤ (S.length : Int)
            · have HF : Hid (G = true) := by show _ = _; rw [hG]; simp [h1, h3]; omega
              clear hG h1 HG HR
              go_wp2
              go_ret
              exact ⟨by rw [HF.out]; rfl, HB0.out _⟩
            · have HF : Hid (G = false) := by show _ = _; rw [hG]; simp; omega
              clear hG h1 HG HR
              go_wp2
              go_ret
              exact ⟨by rw [HF.out]; rfl, HB0.out _⟩
          · have HF : Hid (G = false) := by show _ = _; rw [hG]; simp; omega
            clear hG h1 HG HR
            go_wp2
            go_ret
            exact ⟨by rw [HF.out]; rfl, HB0.out _⟩
        · have HF : Hid (G = false) := by show _ = _; rw [hG]; simp; omega
          clear hG h1 HG HR
          go_wp2
          go_ret
          exact ⟨by rw [HF.out]; rfl, HB0.out _⟩
      · have h1' : ((S.length : Int) == (D.length : Int)) = false := by simp; omega
        have HF : Hid (G = false) := by show _ = _; rw [hG]; simp; omega
        clear hG h1 HG HR
        go_wp2
        go_ret
        exact ⟨by rw [HF.out]; rfl, HB0.out _⟩
set_option maxHeartbeats 1000000 in
/-- numbers that are alike -/
theorem nums_same (l : List Int) (a a' : Option Addr) (c c' b off b' off' : Nat) (w : World) (hlen : l.length * 8 ≤ 140737488351232) (ha : 0 < l.length → a = some ⟨b, off, none⟩) (ha' : 0 < l.length → a' = some ⟨b', off', none⟩)
    (hc : IntsAt w b off l) (hc' : IntsAt w b' off' l) :
    Calls Try.prog 42 #[.slice a l.length c, .slice a' l.length c'] w fun e w' => e = .returned (.bool true) ∧ Below w.heap.size w w' := by
  have HA := hide ha
  have HA' := hide ha'
  have HC := hide hc
  have HC' := hide hc'
  clear ha ha' hc hc'
  go_enter Try.func42, Try.ntmps42
  go_upto_region 4 with fail
  go_loopw [13] (fun i wl => ∃ (k : Nat), k ≤ l.length ∧ i = .int .i64 (k : Int) ∧ Hid (Below w.heap.size w wl)) (fun i _ => l.length - (intOf i).toNat)
  case atStart => exact ⟨0, Nat.zero_le _, rfl, Below.refl _ _⟩
  case round =>
    obtain ⟨k, hk, rfl, HR⟩ := hrel
    by_cases hlt : k < l.length
    · have c1 := HC.out.later HR.out k hlt
      have c2 := HC'.out.later HR.out k hlt
      have e := HA.out (by omega)
      subst e
      have e := HA'.out (by omega)
      subst e
      generalize l.getD k 0 = n at *
      have hkI : (k : Int) < (l.length : Int) := by omega
      go_upto_region 6 with fail
      go_quiet (fail)
      go_wp2
      exact ⟨⟨k + 1, by omega, by go_num, ⟨HR.out.os, HR.out.tape, HR.out.output, HR.out.size, HR.out.block⟩⟩, by simp [intOf]; omega⟩
    · obtain rfl : k = l.length := by omega
      go_wp2
      go_ret
      exact ⟨rfl, HR.out⟩
set_option maxHeartbeats 1000000 in
/-- lines that are alike -/
theorem same_any (x : Line) (sa da sa' da' : Option Addr) (cs cd sb so db dO cs' cd' sb' so' db' dO' : Nat) (w : World) (L : LAt w x sa da cs cd sb so db dO) (L' : LAt w x sa' da' cs' cd' sb' so' db' dO') :
    Calls Try.prog 27 #[.agg #[.slice sa x.S.length cs, .slice da x.D.length cd, .int .i64 x.g, .bool x.cl], .agg #[.slice sa' x.S.length cs', .slice da' x.D.length cd', .int .i64 x.g, .bool x.cl]] w fun e w' => e = .returned (.bool true) ∧ Below w.heap.size w w' := by
  obtain ⟨S, D, g, cl⟩ := x
  dsimp only
  have hlS : S.length * 16 ≤ 140737488351232 := L.hls
  have hlD : D.length * 8 ≤ 140737488351232 := L.hld
  have HL := hide L
  have HL' := hide L'
  have F1 := (FAt.new w (.slice sa S.length cs) (.slice da D.length cd) (.int .i64 g) (.bool cl)).alloc (.cells #[.slice sa' S.length cs', .slice da' D.length cd', .int .i64 g, .bool cl] 29)
  have F2 := FAt.new2 w (.cells #[.slice sa S.length cs, .slice da D.length cd, .int .i64 g, .bool cl] 29) (.slice sa' S.length cs') (.slice da' D.length cd') (.int .i64 g) (.bool cl)
  have BW : Below w.heap.size w ((w.alloc (.cells #[.slice sa S.length cs, .slice da D.length cd, .int .i64 g, .bool cl] 29)).alloc (.cells #[.slice sa' S.length cs', .slice da' D.length cd', .int .i64 g, .bool cl] 29)) := (below_new w _).alloc (by simp) _
  have HX := hide (show _ ∧ _ ∧ _ from ⟨F1, F2, BW⟩)
  clear L L' F1 F2 BW
  go_enter Try.func27, Try.ntmps27
  go_upto_region 1 with fail
  generalize ((w.alloc (.cells #[.slice sa S.length cs, .slice da D.length cd, .int .i64 g, .bool cl] 29)).alloc (.cells #[.slice sa' S.length cs', .slice da' D.length cd', .int .i64 g, .bool cl] 29)) = w0 at *
  obtain ⟨⟨c0, c1, c2, c3⟩, -⟩ := HX.out.1.facts
  obtain ⟨⟨d0, d1, d2, d3⟩, -⟩ := HX.out.2.1.facts
  go_upto_region 4 with fail
  go_loopw [30] (fun i wl => ∃ (k : Nat), k ≤ S.length ∧ i = .int .i64 (k : Int) ∧ Hid (Below w0.heap.size w0 wl)) (fun i _ => S.length - (intOf i).toNat)
  case atStart => exact ⟨0, Nat.zero_le _, rfl, Below.refl _ _⟩
  case round =>
    obtain ⟨k, hk, rfl, HR⟩ := hrel
    have HBR := hide (below_then HX.out.2.2 HR.out)
    obtain ⟨⟨c0, c1, c2, c3⟩, -⟩ := (HX.out.1.later HR.out HX.out.1.lt).facts
    obtain ⟨⟨d0, d1, d2, d3⟩, -⟩ := (HX.out.2.1.later HR.out HX.out.2.1.lt).facts
    by_cases hlt : k < S.length
    · have s1 := HL.out.PS.later HBR.out k hlt
      have s2 := HL'.out.PS.later HBR.out k hlt
      have e := HL.out.hsa (by show 0 < S.length; omega)
      subst e
      have e := HL'.out.hsa (by show 0 < S.length; omega)
      subst e
      dsimp only at s1 s2
      generalize S.getD k ByteArray.empty = n at *
      have hkI : (k : Int) < (S.length : Int) := by omega
      go_upto_region 6 with fail
      go_quiet (fail)
      go_wp2
      exact ⟨⟨k + 1, by omega, by go_num, ⟨HR.out.os, HR.out.tape, HR.out.output, HR.out.size, HR.out.block⟩⟩, by simp [intOf]; omega⟩
    · have H5 := hide (nums_same D da da' cd cd' db dO db' dO' wr hlD HL.out.hda HL'.out.hda (HL.out.PD.later HBR.out) (HL'.out.PD.later HBR.out))
      go_wp2_with (go_at_call 42; refine H5.out.mono ?_; rintro e w5 ⟨rfl, hb⟩)
      go_ret
      exact ⟨rfl, below_then HBR.out hb⟩
end Go.Proofs.Ytdkalcnlncjgiaa.Ln

