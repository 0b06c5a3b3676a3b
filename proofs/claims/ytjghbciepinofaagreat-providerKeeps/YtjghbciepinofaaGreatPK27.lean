/- Parts of the proof: PWD PDN. -/
import Derived.Test.YtjghbciepinofaaGreatRows
import Derived.Test.YtjghbciepinofaaGreatPK18
import Derived.Test.YtjghbciepinofaaGreatPK23
import Derived.Test.YtjghbciepinofaaGreatPK26
import Derived.OwnWalk
import Derived.Deep.RegionHeld3
set_option maxRecDepth 100000
namespace Go.Proofs.YtjghbciepinofaaGreat.Pv
open Go.RowKit
/-- one number is put behind a list that has no room: a new block -/
theorem apI {P : Nat → Prop} (w : World) (A : Option Addr) (y : Nat) (l : List Int) (x : Int) (hr : Rep P w (.slice A l.length l.length) 1 8 (inC l)) (h60 : l.length ≤ 60) (hy : w.cell? ⟨y, 0, none⟩ = some (.int .i64 x)) :
    ∃ C w', (Builtin.append_ #[34, 34] 34 #[.slice A l.length l.length, .slice (some ⟨y, 0, none⟩) 1 1]).run Tryz.prog w = .ok (.slice (some ⟨w.heap.size, 0, none⟩) (l.length + 1) C) w' ∧ l.length + 1 ≤ C ∧ RowI w' w.heap.size (l ++ [x]) ∧ Below w.heap.size w w' := by
  obtain ⟨i0, hi, hz0, hz1, hz2⟩ := info_parts Ln.infoI
  have hnews : ∀ j v, ([.int .i64 x] : List Value)[j]? = some v → w.cell? ((⟨y, 0, none⟩ : Addr).add j) = some v := fun j v hv => by
    rw [Addr.add_lit, Nat.zero_add]
    have hj := (List.getElem?_eq_some_iff.1 hv).1
    obtain rfl : j = 0 := by simpa using hj
    simp at hv
    rw [hy, hv]
  have new : ∀ (arr tail : Array Value), arr.toList = inC (l ++ [x]) → RowI (w.drew.alloc (.cells (arr ++ tail) 3)) w.heap.size (l ++ [x]) := fun arr tail ha => by
    refine ⟨arr ++ tail, heap_alloc_new w.drew _, fun i z hz => ?_⟩
    have hz' : (inC (l ++ [x]))[i]? = some (.int .i64 z) := by unfold inC; rw [List.getElem?_map, hz]; rfl
    have hj' : arr[i]? = some (Value.int .i64 z) := by rw [← ha] at hz'; simpa using hz'
    rw [Array.getElem?_append_left (Array.getElem?_eq_some_iff.1 hj').1]
    exact hj'
  have happ : inC (l ++ [x]) = inC l ++ [.int .i64 x] := by simp [inC]
  have hcl : (inC l).length = l.length := by simp [inC]
  have hnx : ∀ n : Nat, n ≤ 60 → Builtin.nextslicecap (n + 1) n * 8 ≤ 281474976710656 := fun n hn => by
    rcases Nat.eq_zero_or_pos n with rfl | hp
    · rw [nextslicecap_zero (by omega)]; omega
    · have := nextslicecap_succ hp; omega
  obtain ⟨A', n', C', h1, h2, h3, h4, h5⟩ := hr
  cases h1
  cases A with
  | none =>
    have h0 : l.length = 0 := by
      rcases Nat.eq_zero_or_pos l.length with h | h
      · exact h
      · obtain ⟨b, off, e, _⟩ := h5 h; cases e
    obtain rfl : l = [] := List.length_eq_zero_iff.1 h0
    refine ⟨_, _, run_append_nil (P := Tryz.prog) w 34 34 3 i0 _ Tryz.underlying34 hi hz0 ⟨y, 0, none⟩ 1 1 [.int .i64 x] (by rw [hz1]; rfl) hnews (by omega) (by omega) (by rw [hz2]; omega), grownCap_ge _ _ _ _, ?_, (Below.refl _ w).drew.alloc (Nat.le_refl _) _⟩
    exact new _ _ (by simp [inC])
  | some a =>
    have hold : ∀ j v, (inC l)[j]? = some v → w.cell? (a.add j) = some v := fun j v hv => by
      have h0 : 0 < l.length := by
        have := (List.getElem?_eq_some_iff.1 hv).1
        omega
      obtain ⟨b, off, e, _, _, hc⟩ := h5 h0
      cases e
      rw [Addr.add_lit]
      exact hc j v hv
    refine ⟨_, _, run_append_grow (P := Tryz.prog) w 34 34 3 i0 _ Tryz.underlying34 hi hz0 a l.length l.length (inC l) (by rw [hz1, hcl]; omega) hold ⟨y, 0, none⟩ 1 1 [.int .i64 x] (by rw [hz1]; rfl) hnews (by omega) (by omega) (by rw [hz2]; exact hnx _ h60), grownCap_ge _ _ _ _, ?_, (Below.refl _ w).drew.alloc (Nat.le_refl _) _⟩
    exact new _ _ (by simp [happ])
theorem wpList_apI {P : Nat → Prop} {ops : Array Oper} {rest : List Oper} {o : Oper} {a : Act} {w : World} {Q : Exit → Act → World → Prop} (hgd : o.guard = none) (hty : o.type = 34) (p q : Operand)
    (hop : o.op = Op.call { callee := Callee.builtin Builtin.append, args := #[p, q], argTypes := #[34, 34] }) (A : Option Addr) (y : Nat) (l : List Int) (x : Int) (hs : a.eval p = .slice A l.length l.length) (hx : a.eval q = .slice (some ⟨y, 0, none⟩) 1 1)
    (hr : Rep P w (.slice A l.length l.length) 1 8 (inC l)) (h60 : l.length ≤ 60) (hy : w.cell? ⟨y, 0, none⟩ = some (.int .i64 x))
    (h : ∀ g C w', g = w.heap.size → l.length + 1 ≤ C → RowI w' g (l ++ [x]) → Below w.heap.size w w' → wpList Tryz.prog ops Q rest (a.put o.dst (.slice (some ⟨g, 0, none⟩) (l.length + 1) C)) w') : wpList Tryz.prog ops Q (o :: rest) a w := by
  refine wpList_plain hgd fun K hK' => ?_
  unfold Oper.wp
  obtain ⟨C, w', hr, hC, hrow, hB⟩ := apI w A y l x hr h60 hy
  simp [execOp, hop, resolve, invoke, builtin, hs, hx, hty, hr, Result.andThen]
  exact hK' _ _ (h _ _ _ rfl hC hrow hB)
set_option maxHeartbeats 4000000 in
theorem pwithV_any (D : List Int) (u : Value) (P : Nat → Prop) (w : World) (v : Int) (hu : Rep P w u 1 8 (inC D)) (hD : riseB (-1) D = true) (h0 : 0 ≤ v) (h5 : v < 6) :
    Calls Tryz.prog 149 #[u, .int .i64 v] w fun e w' => ∃ u', e = .returned u' ∧ Rep (New P w 0) w' u' 1 8 (inC (doneL D v)) ∧ Below w.heap.size w w' := by
  have HC := hide (containsI_any D u P w v hu)
  have hlen := rise_len hD
  by_cases hv : v ∈ D
  · have hE := done_in hD hv
    rw [hE]
    have hd : decide (v ∈ D) = true := by simpa using hv
    rw [hd] at HC
    have HU := hide hu
    clear hu hD hE hd hv
    go_enter Tryz.func149, Tryz.ntmps149
    go_wp2_with (go_at_call 161; refine HC.out.mono ?_; rintro e w1 ⟨rfl, rfl⟩)
    go_ret
    exact ⟨_, rfl, HU.out.mono fun b hl hb => .inl ⟨hb, hl⟩, Below.refl _ _⟩
  · have hE := done_sort hD h0 (by omega) hv
    rw [← hE]
    have hd : decide (v ∈ D) = false := by simpa using hv
    rw [hd] at HC
    obtain ⟨A, C, rfl, hs, hn, hc, -⟩ := hu.open (inC_length _) (by decide)
    have hroom := hu.room rfl
    have b1 : Below w.heap.size w (w.alloc (.cells #[.int .i64 v] 3)) := (Below.refl _ w).alloc (Nat.le_refl _) _
    have HU := hide (hu.clip.over b1)
    have hcl := clipI_any A D.length C hroom.1 (fun e => (hn e).1) (by omega) w
    have hlen2 : (D ++ [v]).length = D.length + 1 := by simp
    have HS : Hid (∀ (g C' : Nat) (w' : World), RowI w' g (D ++ [v]) → Calls Tryz.prog 163 #[.slice (some ⟨g, 0, none⟩) (D.length + 1) C'] w' fun e w2 => e = .returned (.tuple #[]) ∧ RowI w2 g (isrtI (D ++ [v])) ∧ ButB g w' w2) := fun g C' w' h => by
      have := sortI_any g C' (D ++ [v]) w' h (by omega)
      rw [hlen2] at this
      exact this
    have HB1 := hide b1
    have HL2 := hide hlen2
    have hcell := (CAt.new 3 w #[.int .i64 v]).cell 0
    have HCE := hide hcell
    clear hu hD hE hd hv hs hn hc hroom b1 hlen2 hcell
    go_enter Tryz.func149, Tryz.ntmps149
    go_wp2_with (first
      | (go_at_call 161; refine HC.out.mono ?_; rintro e w1 ⟨rfl, rfl⟩)
      | (go_at_call 162; refine hcl.mono ?_; rintro e w1 ⟨rfl, rfl⟩)
      | (at_builtin; refine wpList_apI rfl rfl _ _ rfl A w.heap.size D v rfl rfl HU.out (by omega) HCE.out ?_; intro g C' w' hg hC' hrow hbel; have HG := hide hg; have HR := hide (show _ ∧ _ ∧ _ from ⟨hC', hrow, hbel⟩); clear hg hC' hrow hbel)
      | (go_at_call 163; refine (HS.out _ _ _ HR.out.2.1).mono ?_; rintro e w2 ⟨rfl, h1⟩; have H1 := hide h1; clear h1))
    go_ret
    have hz : g = w.heap.size + 1 := by rw [HG.out]; simp
    have hll : (isrtI (D ++ [v])).length = D.length + 1 := by rw [isrtI_length]; exact HL2.out
    have hR := RowI.rep (C := C') H1.out.1 (by rw [hll]; exact HR.out.1) (by rw [hll]; omega)
    rw [hll] at hR
    refine ⟨_, rfl, hR.mono fun b _ e => .inr (by omega), (HB1.out.trans (HR.out.2.2.mono HB1.out.size)).trans (H1.out.2.below (by omega) ?_)⟩
    have := HR.out.2.2.size
    have := HB1.out.size
    omega
end Go.Proofs.YtjghbciepinofaaGreat.Pv

set_option maxRecDepth 100000
namespace Go.Proofs.YtjghbciepinofaaGreat.Pv
open Go.RowKit
theorem lk_done {p : Pr} {v : PrV} (k : Nat) (hk : k < 2) (l : List Int) (U : Value) :
    (prC p v).setIfInBounds (66 + k * 14 + 5) U = prC { p with L := updL p.L k { p.L k with done := l } } (v.upd k ⟨(v.l k).told, U, (v.l k).said, (v.l k).due⟩) := by
  match k, hk with
  | 0, _ => rfl
  | 1, _ => rfl
theorem done_pin {P : Nat → Prop} {w : World} {p : Pr} {v : PrV} (h : PIn P w p v) (k : Nat) (l : List Int) (U : Value) (h1 : Rep P w U 1 8 (inC l)) :
    PIn P w { p with L := updL p.L k { p.L k with done := l } } (v.upd k ⟨(v.l k).told, U, (v.l k).said, (v.l k).due⟩) := by
  refine ⟨h.ws, h.set, fun c hc => ?_, h.q⟩
  show LkIn P w (if c = k then _ else p.L c) (if c = k then _ else v.l c)
  by_cases e : c = k
  · subst e
    rw [if_pos rfl, if_pos rfl]
    have := h.lk c hc
    exact ⟨this.told, h1, this.said, this.due⟩
  · rw [if_neg e, if_neg e]
    exact h.lk c hc
theorem PIn.put {P : Nat → Prop} {w : World} {p : Pr} {v : PrV} (h : PIn P w p v) {g : Nat} (hg : ¬ P g) (o : Nat) (x : Value) : PIn P (w.setCell ⟨g, o, none⟩ x) p v := h.keep fun b hb _ => Below.heap_setCell _ _ _ _ (show b ≠ g from fun e => hg (by rw [← e]; exact hb))
theorem Rep.put {P : Nat → Prop} {w : World} {v : Value} {sz bts : Nat} {cs : List Value} (h : Rep P w v sz bts cs) {g : Nat} (hg : ¬ P g) (o : Nat) (x : Value) : Rep P (w.setCell ⟨g, o, none⟩ x) v sz bts cs := h.keep fun b hb _ => Below.heap_setCell _ _ _ _ (show b ≠ g from fun e => hg (by rw [← e]; exact hb))
theorem Alt.put {g : Nat} {w w' : World} (h : Alt g w w') (o : Nat) (x : Value) : Alt g w (w'.setCell ⟨g, o, none⟩ x) := ⟨h.os, h.tape, h.output, (by simp [World.setCell]; exact h.size), fun k hk hn => (Below.heap_setCell _ _ _ _ hn).trans (h.block k hk hn)⟩
/-- the end of dealWithDown: who is down is noted -/
theorem done_turns {g : Nat} {p p' : Pr} {v' : PrV} {P : Nat → Prop} {w w3 w4 : World} {c : Nat} (hc : c < 2) {u : Value} {l : List Int} (hgl : g < w.heap.size) (hg : ¬ P g) (hC : CAt 47 w3 g (prC p' v')) (hp : PIn (New P w 0) w3 p' v') (hA : Alt g w w3) (hU : Rep (New (New P w 0) w3 0) w4 u 1 8 (inC l)) (hB : Below w3.heap.size w3 w4)
    (hr : p = { p' with L := updL p'.L c { p'.L c with done := l } }) (b : Bool) :
    TurnsB w g P (p, b) (.returned (.bool b)) (w4.setCell ⟨g, 66 + c * 14 + 5, none⟩ u) := by
  subst hr
  have hn : ¬ New P w 0 g := new_not hg hgl
  have U2 : Rep (New P w 0) w4 u 1 8 (inC l) := hU.mono fun b _ h => by
    rcases h with ⟨h, _⟩ | h
    · exact h
    · exact .inr (by have := hA.size; omega)
  have C4 := (hC.over hB).set (66 + c * 14 + 5) u
  rw [lk_done c hc l u] at C4
  exact ⟨_, rfl, C4, done_pin ((hp.over hB).put hn _ _) c l u (U2.put hn _ _), (hA.trans (Alt.of hB)).put _ _⟩
attribute [local go_sem ↓] loadS_eq loadP_eq storeP_eq storeS_eq
set_option maxHeartbeats 8000000 in
theorem pdown_jailed (g : Nat) (p : Pr) (v : PrV) (P : Nat → Prop) (w : World) (c : Nat) (hc : c < 2) (n : Nat) (hn6 : n < 6) (hC : CAt 47 w g (prC p v)) (hp : PIn P w p v) (hg : ¬ P g) (hr : riseB (-1) (p.L c).done = true) (hj : (p.s.V n).jail = true) :
    Calls Tryz.prog 111 #[.pointer (some ⟨g, 0, none⟩), .pointer (some ⟨g, 66 + c * 14, none⟩), .int .i64 (n : Int)] w (TurnsB w g P ({ p with L := updL p.L c { p.L c with done := doneL (p.L c).done n } }, true)) := by
  have HW := hide (pwithV_any (p.L c).done (v.l c).done (New P w 0) w n (((hp.ofNew (Below.refl _ w) 0).lk c hc).done) hr (by omega) (by omega))
  have d3 := (pr_val hC hn6).2.1
  rw [hj] at d3
  have q5 : w.cell? ⟨g, 66 + c * 14 + 5, none⟩ = some (v.l c).done := (hC.lk hc).facts.2.2.2.2.2.1
  have hgl := hC.lt
  have HE := hide (fun (u : Value) (w2 : World) (hU : Rep (New (New P w 0) w 0) w2 u 1 8 (inC (doneL (p.L c).done n))) (hB : Below w.heap.size w w2) => done_turns (p := { p with L := updL p.L c { p.L c with done := doneL (p.L c).done n } }) hc hgl hg hC (hp.ofNew (Below.refl _ w) 0) (Alt.of (Below.refl _ w)) hU hB rfl true)
  obtain ⟨Ad, nd, Cd0, ed⟩ := (hp.lk c hc).done.one'
  rw [ed] at q5 HW
  have hnn : (n : Int) < 6 := by omega
  have hnz : (0 : Int) ≤ (n : Int) := by omega
  have HC := hide hC
  clear hC hp hr hj
  generalize 66 + c * 14 = o at *
  generalize doneL (p.L c).done n = dl at *
  go_enter Tryz.func111, Tryz.ntmps111
  go_wp2_with (go_at_call 149; refine HW.out.mono ?_; rintro e w2 ⟨u, rfl, U2, hb2⟩; have q6 : w2.cell? ⟨g, o + 5, none⟩ = some (.slice Ad nd Cd0) := (hb2.cell (p := ⟨g, o + 5, none⟩) hgl).trans q5; have fz : w2.frozen? ⟨g, o + 5, none⟩ = false := (HC.out.over hb2).free _; obtain ⟨Au, nu, Cu, rfl⟩ := U2.one'; have HU := hide (show _ ∧ _ from ⟨U2, hb2⟩); clear U2 hb2)
  go_ret
  exact HE.out _ _ HU.out.1 HU.out.2
/-- all orders come to one frame, with a block -/
def Joing (F : Nat → Act) (R : Nat → World → Prop) (ex : Exit) (a : Act) (w : World) : Prop := ∃ g, ex = Exit.normal ∧ a = F g ∧ R g w
theorem wp_joing {P : Program} {c : Code} {Q : Exit → Act → World → Prop} {a : Act} {w : World} (R : Nat → World → Prop) (F : Nat → Act) (h1 : Code.wp P c (Joing F R) a w) (h2 : ∀ g w', R g w' → Q Exit.normal (F g) w') : Code.wp P c Q a w :=
  Code.wp_mono (fun e a' w' h => by obtain ⟨g, rfl, rfl, h⟩ := h; exact h2 g w' h) h1
set_option maxHeartbeats 8000000 in
theorem pdown_free (g : Nat) (p : Pr) (v : PrV) (P : Nat → Prop) (w : World) (c : Nat) (hc : c < 2) (n : Nat) (hn6 : n < 6) (hC : CAt 47 w g (prC p v)) (hp : PIn P w p v) (hg : ¬ P g) (hr : riseB (-1) (p.L c).done = true) (hgs : goodS p.s = true) (hj : (p.s.V n).jail = false) (ht0 : 0 ≤ (p.s.V n).tok) (ht1 : (p.s.V n).tok ≤ 1125899906842624) :
    Calls Tryz.prog 111 #[.pointer (some ⟨g, 0, none⟩), .pointer (some ⟨g, 66 + c * 14, none⟩), .int .i64 (n : Int)] w (TurnsB w g P (if p.ml < 1 then (p, false) else ({ p with ml := wrap64 (p.ml - powV (p.s.V n)), s := setJ p.s n true (p.s.V n).dead, L := updL p.L c { p.L c with done := doneL (p.L c).done n } }, true))) := by
  generalize hD : (if p.ml < 1 then (p, false) else (_, true) : Pr × Bool) = D
  have HD := hide hD
  clear hD
  have d3 := (pr_val hC hn6).2.1
  rw [hj] at d3
  have hgl := hC.lt
  have hnn : (n : Int) < 6 := by omega
  have hnz : (0 : Int) ≤ (n : Int) := by omega
  have HS3 : Hid (∀ wx, Below w.heap.size w wx → wx.cell? ⟨g, 94, none⟩ = some (.int .i64 p.ml) ∧ wx.cell? ⟨g, 94 + 1, none⟩ = some (.int .i64 p.mn) ∧ wx.cell? ⟨g, 9 + n * 5, none⟩ = some (.int .i64 (p.s.V n).tok)) := fun wx hb => ⟨(hC.over hb).cell 94, (hC.over hb).cell 95, (pr_val (hC.over hb) hn6).1⟩
  have HPW : Hid (powV (p.s.V n) = if (p.s.V n).tok / 100 < 1 then 1 else (p.s.V n).tok / 100) := rfl
  generalize powV (p.s.V n) = pw at *
  have HT := hide (fun (wx : World) => Mt.mtake_any p.ml p.mn pw wx)
  have HQ : Hid (∀ wx, Below w.heap.size w wx → TurnsB w g P (p, false) (.returned (.bool false)) wx) := fun wx hb => ⟨v, rfl, hC.over hb, hp.ofNew hb 0, Alt.of hb⟩
  generalize hA : (if p.ml < 1 then p.ml else wrap64 (p.ml - pw)) = ml' at *
  generalize hB : (if p.ml < 1 then false else true) = may at *
  generalize (p.s.V n).tok = tk at *
  have hq : IntKind.i64.wrap (tk.tdiv 100) = tk / 100 := by rw [Int.tdiv_eq_ediv_of_nonneg ht0]; exact wrapI (by omega) (by omega)
  go_enter Tryz.func111, Tryz.ntmps111
  go_upto_region 3 with fail
  have HAL : Hid (Below w.heap.size w (w.alloc (.cells #[.int .i64 0, .int .i64 0] 44))) := (Below.refl _ w).alloc (Nat.le_refl _) _
  have HALd := hide HAL.out.drew
  have hmax : (if tk / 100 < 1 then 1 else tk / 100) = pw := HPW.out.symm
  have HAC : Hid (CAt 44 (w.alloc (.cells #[.int .i64 0, .int .i64 0] 44)).drew w.heap.size #[.int .i64 0, .int .i64 0]) := CAt.new 44 w _
  apply wp_joing (fun gm w' => CAt 44 w' gm #[.int .i64 ml', .int .i64 p.mn] ∧ w.heap.size ≤ gm ∧ Below w.heap.size w w')
  · refine wp_region_noPanic ?_
    have hb := Below.refl w.heap.size w
    go_region_held3 (fun wx => wx.cell? ⟨g, 94, none⟩ = some (.int .i64 p.ml) ∧ wx.cell? ⟨g, 94 + 1, none⟩ = some (.int .i64 p.mn) ∧ wx.cell? ⟨g, 9 + n * 5, none⟩ = some (.int .i64 tk)) ((refine HS3.out _ ?_; first | with_reducible exact hb | with_reducible exact hb.drew | with_reducible exact hb.alloc hb.size _ | with_reducible exact (hb.alloc hb.size _).drew | with_reducible exact hb.drew.alloc hb.drew.size _ | exact (hb.setCell (Nat.le_refl _) _).setCell (Nat.le_refl _) _ | exact ((hb.alloc hb.size _).setCell hb.size _).setCell hb.size _)) (first
      | (go_at_call 147; refine (HT.out w.drew).mono ?_; rintro e wb ⟨rfl, hbb⟩; have hb := (Below.refl w.heap.size w).drew.trans hbb; have HN1 : True := trivial; clear hbb; dsimp only)
      | (go_at_call 147; refine (HT.out (w.alloc (.cells #[.int .i64 0, .int .i64 0] 44)).drew).mono ?_; rintro e wb ⟨rfl, hbb⟩; have hb := HALd.out.trans (hbb.mono HALd.out.size); have HCb := hide (HAC.out.over hbb); have z0 := HCb.out.cell 0; have z1 : wb.cell? ⟨w.heap.size, 0 + 1, none⟩ = _ := HCb.out.cell 1; have zf0 := HCb.out.free 0; have zf1 := HCb.out.free (0 + 1); clear hbb; dsimp only))
    all_goals first
      | (have _m := HN1; obtain ⟨gn, hg'⟩ : ∃ gn, gn = wb.heap.size := ⟨_, rfl⟩; rw [← hg']; exact NoPanic.normal ⟨gn, rfl, rfl, by subst hg'; exact ⟨CAt.new _ _ _, hb.size, hb.alloc hb.size _⟩⟩)
      | (obtain ⟨gn, hg'⟩ : ∃ gn, gn = w.heap.size := ⟨_, rfl⟩; rw [← hg']; exact NoPanic.normal ⟨gn, rfl, rfl, by subst hg'; exact ⟨(HCb.out.set 0 _).set 1 _, Nat.le_refl _, (hb.setCell (Nat.le_refl _) _).setCell (Nat.le_refl _) _⟩⟩)
  rintro gm w3 ⟨M3, hgm, B3⟩
  have HB3 := hide B3
  have HM3 := hide M3
  have m0 : w3.cell? ⟨gm, 0, none⟩ = some (.int .i64 ml') := M3.cell 0
  have m1 : w3.cell? ⟨gm, 0 + 1, none⟩ = some (.int .i64 p.mn) := M3.cell 1
  clear HAL HALd HAC hmax HT HS3 d3 B3 M3
  simp only [Exit.then]
  apply_assumption
  by_cases hml : p.ml < 1
  · rw [if_pos hml] at hB
    subst hB
    have HD' := hide (HD.out.symm.trans (if_pos hml))
    clear HD
    go_wp2
    go_ret
    rw [HD'.out]
    exact HQ.out _ HB3.out
  · rw [if_neg hml] at hA hB
    subst hB
    have HD' := hide (HD.out.symm.trans (if_neg hml))
    clear HD HQ
    have C3 := hC.over HB3.out
    have e94 : w3.cell? ⟨g, 94, none⟩ = some (.int .i64 p.ml) := C3.cell 94
    have e95 : w3.cell? ⟨g, 94 + 1, none⟩ = some (.int .i64 p.mn) := C3.cell 95
    have z94 := C3.free 94
    have z95 := C3.free (94 + 1)
    have hgl3 := C3.lt
    have hgmg : ¬ gm = g := by omega
    have HHP := hide hp
    have HHR := hide hr
    have HHG := hide hg
    have HHS := hide hgs
    have HHJ := hide hj
    have HC3 := hide C3
    have HAA := hide hA
    clear hC hp hr hgs hj C3 hA hg hml
    go_upto_region 7 with fail
    have C4 : CAt 47 ((w3.setCell ⟨g, 94, none⟩ (.int .i64 ml')).setCell ⟨g, 95, none⟩ (.int .i64 p.mn)) g (prC { p with ml := ml' } v) := (HC3.out.set 94 _).set 95 _
    have A4 : Alt g w ((w3.setCell ⟨g, 94, none⟩ (.int .i64 ml')).setCell ⟨g, 95, none⟩ (.int .i64 p.mn)) := ((Alt.of (g := g) HB3.out).put 94 _).put 95 _
    have P4 : PIn (New P w 0) ((w3.setCell ⟨g, 94, none⟩ (.int .i64 ml')).setCell ⟨g, 95, none⟩ (.int .i64 p.mn)) { p with ml := ml' } v := by
      have := ((HHP.out.ofNew HB3.out 0).put (new_not HHG.out hgl) 94 (.int .i64 ml')).put (new_not HHG.out hgl) 95 (.int .i64 p.mn)
      exact ⟨this.ws, this.set, this.lk, this.q⟩
    clear e94 e95 z94 z95 m0 m1 HM3 HC3 HB3
    generalize (w3.setCell ⟨g, 94, none⟩ (.int .i64 ml')).setCell ⟨g, 95, none⟩ (.int .i64 p.mn) = w4 at *
    have hj4 : jailS p.s (n : Int) = (setJ p.s n true (p.s.V n).dead, 0) := by
      unfold jailS
      rw [if_pos (refE_good HHS.out hn6), Int.toNat_natCast, if_neg (by rw [HHJ.out]; simp)]
    have hjl := st_jail P4.ws (n : Int)
    dsimp only at hjl
    rw [hj4] at hjl
    have HJL := hide hjl
    have m4 := pr_loadS C4
    have HSW : Hid ((setJ p.s n true (p.s.V n).dead).W = p.s.W) := rfl
    generalize hS1 : setJ p.s n true (p.s.V n).dead = s1 at *
    have HS1 := hide hS1
    have hgl4 := C4.lt
    have hone := st_one s1 P4.ws.one'
    have H4 := hide (show _ ∧ _ ∧ _ from ⟨C4, P4, A4⟩)
    clear C4 P4 A4 hjl hj4 hS1
    go_upto_region 8 with (go_at_call 148; refine HJL.out.mono ?_; rintro e w5 ⟨rfl, hb5⟩; clear m4; have sS5 := pr_storeS (H4.out.1.over hb5) (prC_size _ _) (stC_size s1 v.ws) hone)
    have C6 := (H4.out.1.over hb5).stake s1 v.ws
    have A6 := (H4.out.2.2.trans (Alt.of hb5)).sets (stC s1 v.ws).toList 2
    have P6 := (H4.out.2.1.over hb5).sets (g := g) (new_not HHG.out hgl) 2 (stC s1 v.ws).toList
    have P6' : PIn (New P w 0) (w5.setCells g 2 (stC s1 v.ws).toList) { p with ml := ml', s := s1 } v := ⟨by rw [show ({ p with ml := ml', s := s1 } : Pr).s.W = p.s.W from HSW.out]; exact P6.ws, P6.set, P6.lk, P6.q⟩
    clear sS5 hb5 HJL H4 P6
    generalize w5.setCells g 2 (stC s1 v.ws).toList = w6 at *
    have HW := hide (pwithV_any (p.L c).done (v.l c).done (New P w 0) w6 n ((P6'.lk c hc).done) HHR.out (by omega) (by omega))
    have q5 : w6.cell? ⟨g, 66 + c * 14 + 5, none⟩ = some (v.l c).done := (C6.lk hc).facts.2.2.2.2.2.1
    obtain ⟨Ad, nd, Cd0, ed⟩ := (P6'.lk c hc).done.one'
    rw [ed] at q5 HW
    have hgl6 := C6.lt
    have HE := hide (fun (u : Value) (w2 : World) (hU : Rep (New (New P w 0) w6 0) w2 u 1 8 (inC (doneL (p.L c).done n))) (hB : Below w6.heap.size w6 w2) => done_turns (p := { p with ml := ml', s := s1, L := updL p.L c { p.L c with done := doneL (p.L c).done n } }) hc hgl HHG.out C6 P6' A6 hU hB rfl true)
    have HC6 := hide C6
    have HDD : Hid (D = ({ p with ml := ml', s := s1, L := updL p.L c { p.L c with done := doneL (p.L c).done n } }, true)) := by rw [Hid, HD'.out, HAA.out]
    clear HD' HS1 HAA C6 P6' A6 ed
    generalize 66 + c * 14 = o at *
    generalize doneL (p.L c).done n = dl at *
    go_wp2_with (go_at_call 149; refine HW.out.mono ?_; rintro e w7 ⟨u, rfl, U2, hb2⟩; have q6 : w7.cell? ⟨g, o + 5, none⟩ = some (.slice Ad nd Cd0) := (hb2.cell (p := ⟨g, o + 5, none⟩) hgl6).trans q5; have fz : w7.frozen? ⟨g, o + 5, none⟩ = false := (HC6.out.over hb2).free _; obtain ⟨Au, nu, Cu, rfl⟩ := U2.one'; have HU := hide (show _ ∧ _ from ⟨U2, hb2⟩); clear U2 hb2)
    go_ret
    rw [HDD.out]
    exact HE.out _ _ HU.out.1 HU.out.2
theorem vTok {s : St} (hg : goodS s = true) {n : Nat} (hn : n < 6) : 0 ≤ (s.V n).tok ∧ (s.V n).tok ≤ 1125899906842624 := ((vOk_iff _).1 (((goodS_iff s).1 hg).2.2.2.2.2.1 n hn).1).1
theorem pdown_any (g : Nat) (p : Pr) (v : PrV) (P : Nat → Prop) (w : World) (c : Nat) (hc : c < 2) (x : Pkt) (hC : CAt 47 w g (prC p v)) (hp : PIn P w p v) (hg : ¬ P g) (hk : x.k = 3) (hr : riseB (-1) (p.L c).done = true) (hgs : goodS p.s = true) (h0 : 0 ≤ x.v) (h6 : x.v < 6) :
    Calls Tryz.prog 111 #[.pointer (some ⟨g, 0, none⟩), .pointer (some ⟨g, 66 + c * 14, none⟩), .int .i64 x.v] w (TurnsB w g P (dealP p c x)) := by
  obtain ⟨n, hn, hn6⟩ : ∃ n : Nat, x.v = (n : Int) ∧ n < 6 := ⟨x.v.toNat, by omega, by omega⟩
  unfold dealP
  rw [if_neg (by omega), if_neg (by omega), hn, Int.toNat_natCast]
  cases hj : (p.s.V n).jail
  · rw [if_neg (by simp)]
    exact pdown_free g p v P w c hc n hn6 hC hp hg hr hgs hj (vTok hgs hn6).1 (vTok hgs hn6).2
  · rw [if_pos rfl]
    exact pdown_jailed g p v P w c hc n hn6 hC hp hg hr hj
end Go.Proofs.YtjghbciepinofaaGreat.Pv

