/- Parts of the proof: PQU RE1. -/
import Derived.Test.YtjghbciepinofaaGreatRows
import Derived.Test.YtjghbciepinofaaGreatPEK30
import Derived.Test.YtjghbciepinofaaGreatPEK32
import Derived.Test.YtjghbciepinofaaGreatPEK37
import Derived.Test.YtjghbciepinofaaGreatPEK53
set_option maxRecDepth 100000
namespace Go.Proofs.YtjghbciepinofaaGreat.Pv
open Go.RowKit
/-- what waits: a row of the call's own; what is in it lies where it lay -/
structure LeftIn (P : Nat → Prop) (w wl : World) (lv : Value) (l : List (Int × Pkt)) (z : List (Value × Value)) : Prop where
  len : z.length = l.length
  own : wl.ownsRow (w.heap.size + 1) 79 7 lv l.length (quL l z)
  ins : ∀ (i : Nat) (x : Int × Pkt) (y : Value × Value), l[i]? = some x → z[i]? = some y → Rep P w y.1 2 16 (pwC x.2.S) ∧ Rep P w y.2 1 8 (inC x.2.D)
theorem ask_news (w : World) (x : Int × Pkt) (y : Value × Value) (t : TypeId) : ∀ j u, (akL x y)[j]? = some u → (w.alloc (.cells #[.int .i64 x.1, .int .i64 x.2.k, .int .i64 x.2.i, .int .i64 x.2.v, .int .i64 x.2.n, y.1, y.2] t)).cell? ((⟨w.heap.size, 0, none⟩ : Addr).add j) = some u := fun j u hu => by
  rw [Addr.add_lit, Nat.zero_add]
  have h := (CAt.new t w #[.int .i64 x.1, .int .i64 x.2.k, .int .i64 x.2.i, .int .i64 x.2.v, .int .i64 x.2.n, y.1, y.2]).cell j
  rw [h]
  simpa [akL] using hu
theorem step_facts (z : QS) (a : Int × Pkt) : (stepQ z a).left.length ≤ z.left.length + 1 := by
  unfold stepQ
  split
  · simp
  · split
    · simp
    · simp
theorem deal_false {p : Pr} {c : Nat} {x : Pkt} (h : (dealP p c x).2 = false) : (dealP p c x).1 = p := by
  unfold dealP at *
  repeat' split at h
  all_goals first | (cases h; done) | skip
  all_goals simp_all
theorem deal_q (p : Pr) (c : Nat) (x : Pkt) : (dealP p c x).1.q = p.q := by
  unfold dealP
  repeat' split
  all_goals rfl
theorem steps_q : ∀ (l : List (Int × Pkt)) (z : QS), (l.foldl stepQ z).p.q = z.p.q ∧ (l.foldl stepQ z).left.length ≤ z.left.length + l.length
  | [], z => ⟨rfl, Nat.le_refl _⟩
  | a :: l, z => by
    have h := steps_q l (stepQ z a)
    rw [List.foldl_cons]
    refine ⟨h.1.trans ?_, by have := step_facts z a; rw [List.length_cons]; omega⟩
    unfold stepQ
    split
    · rfl
    · split
      · exact deal_q _ _ _
      · rfl
/-- what a round of the queue leaves -/
structure QuR (Inv : Pr → Prop) (P : Nat → Prop) (w : World) (g : Nat) (s : QS) (lv : Value) (wl : World) : Prop where
  st : ∃ (v : PrV) (Q : Nat → Prop), CAt 47 wl g (prC s.p v) ∧ PIn Q wl s.p v ∧ (∀ b, Q b → New P w 0 b) ∧ ¬ Q g ∧ ¬ Q w.heap.size ∧ (∀ r, lv.ownBlock = some r → ¬ Q r)
  wt : CAt 123 wl w.heap.size #[.bool (s.wt 0), .bool (s.wt 1)]
  lf : ∃ z, LeftIn P w wl lv s.left z
  A : Alt g w wl
  inv : Inv s.p
theorem Alt.past {g : Nat} {w w' : World} (h : Alt g w w') {b : Nat} (hb : w.heap.size ≤ b) (o : Nat) (x : Value) : Alt g w (w'.setCell ⟨b, o, none⟩ x) :=
  ⟨h.os, h.tape, h.output, (by simp [World.setCell]; exact h.size), fun k hk hn => (Below.heap_setCell _ _ _ _ (show k ≠ b by omega)).trans (h.block k hk hn)⟩
/-- one more waits -/
theorem QuR.wait {Inv : Pr → Prop} {P : Nat → Prop} {w w8 w9 : World} {g : Nat} {s : QS} {lv v' : Value} {v7 : PrV} {Q : Nat → Prop} {z5 : List (Value × Value)} {wt' : Nat → Bool} {x : Int × Pkt} {y : Value × Value} {ob : Obj}
    (hgw : g < w.heap.size) (C8 : CAt 47 w8 g (prC s.p v7)) (P8 : PIn Q w8 s.p v7) (hq1 : ∀ b, Q b → New P w 0 b) (hq2 : ¬ Q g) (hq3 : ¬ Q w.heap.size) (hq4 : ∀ r, lv.ownBlock = some r → ¬ Q r) (W8 : CAt 123 w8 w.heap.size #[.bool (wt' 0), .bool (wt' 1)])
    (O8 : w8.ownsRow (w.heap.size + 1) 79 7 lv s.left.length (quL s.left z5)) (hl : z5.length = s.left.length) (hi : ∀ (i : Nat) (x : Int × Pkt) (y : Value × Value), s.left[i]? = some x → z5[i]? = some y → Rep P w y.1 2 16 (pwC x.2.S) ∧ Rep P w y.2 1 8 (inC x.2.D)) (A8 : Alt g w w8) (I8 : Inv s.p)
    (hin : Rep P w y.1 2 16 (pwC x.2.S) ∧ Rep P w y.2 1 8 (inC x.2.D)) (ho : w9.ownsRow (w.heap.size + 1) 79 7 v' (s.left.length + 1) (quL s.left z5 ++ akL x y)) (hg : (w8.alloc ob).grownBy w9 lv.ownBlock) (hat : v'.ownBlock = lv.ownBlock ∨ v'.ownBlock = some (w8.alloc ob).heap.size) :
    QuR Inv P w g { s with wt := wt', left := s.left ++ [x] } v' w9 := by
  have bA : Below w8.heap.size w8 (w8.alloc ob) := (Below.refl _ w8).alloc (Nat.le_refl _) _
  have hsz := bA.size
  have hown : ∀ r, lv.ownBlock = some r → w.heap.size + 1 ≤ r ∧ r < w8.heap.size := fun r e => World.ownsRow.lt O8 r e
  have C9 : CAt 47 w9 g (prC s.p v7) := (hg.block g (Nat.lt_of_lt_of_le C8.lt hsz) (fun e => by have := (hown g e.symm).1; omega)).trans (C8.over bA)
  have W9 : CAt 123 w9 w.heap.size #[.bool (wt' 0), .bool (wt' 1)] := (hg.block w.heap.size (Nat.lt_of_lt_of_le W8.lt hsz) (fun e => by have := (hown _ e.symm).1; omega)).trans (W8.over bA)
  have hne : ∀ b, b < w8.heap.size → Q b → some b ≠ v'.ownBlock := fun b hb hq e => by
    rcases hat with h | h
    · exact hq4 b (by rw [← h, e]) hq
    · rw [h] at e; cases e; omega
  have P9 : PIn (fun b => Q b ∧ some b ≠ v'.ownBlock) w9 s.p v7 := ((P8.mono (P' := fun b => (Q b ∧ some b ≠ v'.ownBlock)) fun b hl' hb => ⟨hb, hne b hl' hb⟩).over bA).keep fun b hb hlt => hg.block b hlt fun e => hq4 b e.symm hb.1
  refine ⟨⟨v7, _, C9, P9, fun b h => hq1 b h.1, fun h => hq2 h.1, fun h => hq3 h.1, fun r e h => h.2 e.symm⟩, W9, ⟨z5 ++ [y], by simp [hl], ?_, fun i a b ha hb => ?_⟩, ?_, I8⟩
  · rw [quL_app s.left z5 x y hl, List.length_append]
    exact ho
  · by_cases h : i < s.left.length
    · rw [List.getElem?_append_left h] at ha
      rw [List.getElem?_append_left (by rw [hl]; exact h)] at hb
      exact hi i a b ha hb
    · rw [List.getElem?_append_right (by omega)] at ha
      rw [List.getElem?_append_right (by rw [hl]; omega), hl] at hb
      rcases Nat.eq_zero_or_pos (i - s.left.length) with h0 | h0
      · rw [h0] at ha hb
        simp at ha hb
        subst ha hb
        exact hin
      · rw [List.getElem?_eq_none (by simp; omega)] at ha
        cases ha
  · exact ⟨hg.os.trans A8.os, hg.tape.trans A8.tape, hg.output.trans A8.output, Nat.le_trans A8.size (Nat.le_trans hsz hg.size), fun k hk hn => ((hg.block k (by have := A8.size; omega) (fun e => by have := (hown k e.symm).1; omega)).trans (bA.block k (by have := A8.size; omega))).trans (A8.block k hk hn)⟩
theorem pr_q2 (p : Pr) (v : PrV) (l : List (Int × Pkt)) (x : Value) : (prC p v).setIfInBounds 96 x = prC { p with q := l } { v with q := x } := rfl
theorem wt_set (f : Nat → Bool) {m : Nat} (hm : m < 2) : (#[.bool (f 0), .bool (f 1)] : Array Value).setIfInBounds m (.bool true) = #[.bool ((fun i => if i = m then true else f i) 0), .bool ((fun i => if i = m then true else f i) 1)] := by
  rcases (show m = 0 ∨ m = 1 by omega) with rfl | rfl <;> rfl
set_option maxHeartbeats 8000000 in
theorem pqueue_of (Inv : Pr → Prop) (g : Nat) (p : Pr) (v : PrV) (P : Nat → Prop) (w : World) (hC : CAt 47 w g (prC p v)) (hp : PIn P w p v) (hg : ¬ P g) (h0 : Inv p) (hq88 : p.q.length * 88 ≤ 140737488355328) (hq : ∀ a ∈ p.q, 0 ≤ a.1 ∧ a.1 < 2)
    (HDL : ∀ a ∈ p.q, ∀ (p' : Pr) (v' : PrV) (P' : Nat → Prop) (wx : World) (y1 y2 : Value), Inv p' → CAt 47 wx g (prC p' v') → PIn P' wx p' v' → ¬ P' g → Calls Tryz.prog 67 #[.pointer (some ⟨g, 0, none⟩), .agg #[.int .i64 a.1, .int .i64 a.2.k, .int .i64 a.2.i, .int .i64 a.2.v, .int .i64 a.2.n, y1, y2]] wx (TurnsB wx g P' (dealP p' a.1.toNat a.2)))
    (hI : ∀ a ∈ p.q, ∀ p', Inv p' → Inv (dealP p' a.1.toNat a.2).1) :
    Calls Tryz.prog 30 #[.pointer (some ⟨g, 0, none⟩)] w (Turns w g P (queueP p)) := by
  obtain ⟨i0, hi, hz0, hz1, hz2⟩ := info_parts infoAs
  have hgl := hC.lt
  have hQP : queueP p = { (goQ p).p with q := (goQ p).left } := rfl
  have hGO : goQ p = p.q.foldl stepQ ⟨p, fun _ => false, []⟩ := rfl
  generalize queueP p = D at *
  generalize goQ p = G at *
  obtain ⟨z, hzl, hzr, hzi⟩ := id hp.q
  obtain ⟨Aq, Cq, eq, sq, -, cq, -⟩ := hzr.open (quL_length _ _ hzl) (by decide)
  have HZL := hide hzl
  have HZI := hide hzi
  have HCQ := hide cq
  have hqlen : p.q.length ≤ 1759218604390 := by omega
  have HHQ := hide hq
  have HDD := hide HDL
  have HII := hide hI
  have HQP := hide hQP
  have HGO := hide hGO
  have B0 : Below w.heap.size w (w.alloc (.cells #[.bool false, .bool false] 123)) := (Below.refl _ w).alloc (Nat.le_refl _) _
  have H0 : Hid (QuR Inv P w g ⟨p, fun _ => false, []⟩ (.slice none 0 0) (w.alloc (.cells #[.bool false, .bool false] 123))) := ⟨⟨v, fun b => P b ∧ b < w.heap.size, hC.over B0, (hp.mono fun b hl h => ⟨h, hl⟩).over B0, fun b h => .inl h, fun h => hg h.1, fun h => by have := h.2; omega, fun r e => by cases e⟩, CAt.new _ _ _, ⟨[], rfl, World.ownsRow_nil _ _ _ _, fun i x y h => by cases h⟩, Alt.of B0, h0⟩
  clear hzl hzi hzr cq hq HDL hI hQP hGO B0 h0 sq
  go_enter Tryz.func30, Tryz.ntmps30
  go_upto_region 2 with fail
  have c96 : (w.alloc (.cells #[.bool false, .bool false] 123)).cell? ⟨g, 96, none⟩ = some (.slice Aq p.q.length Cq) := by rw [← eq]; exact (hC.alloc _).cell 96
  generalize w.alloc (.cells #[.bool false, .bool false] 123) = w0 at *
  go_upto_region 3 with fail
  clear c96 eq
  go_loopw [3, 11] (fun lv i wl => ∃ (k : Nat), k ≤ p.q.length ∧ i = .int .i64 (k : Int) ∧ Hid (QuR Inv P w g ((p.q.take k).foldl stepQ ⟨p, fun _ => false, []⟩) lv wl)) (fun _ i _ => p.q.length - (intOf i).toNat)
  case atStart => exact ⟨0, Nat.zero_le _, rfl, H0⟩
  case round =>
    obtain ⟨k, hk, rfl, HR⟩ := hrel
    by_cases hlt : k < p.q.length
    · have hkI : (k : Int) < (p.q.length : Int) := by omega
      have hk0 : (0 : Int) ≤ (k : Int) := by omega
      have hx : p.q[k]? = some p.q[k] := List.getElem?_eq_getElem hlt
      have hzk : k < z.length := by rw [HZL.out]; exact hlt
      have hy : z[k]? = some z[k] := List.getElem?_eq_getElem hzk
      have hin := HZI.out k _ _ hx hy
      have hmem : p.q[k] ∈ p.q := List.getElem_mem hlt
      have hst : (p.q.take (k + 1)).foldl stepQ ⟨p, fun _ => false, []⟩ = stepQ ((p.q.take k).foldl stepQ ⟨p, fun _ => false, []⟩) p.q[k] := by rw [List.take_succ_eq_append_getElem hlt, List.foldl_append]; rfl
      have hll := (steps_q (p.q.take k) ⟨p, fun _ => false, []⟩).2
      rw [List.length_take, Nat.min_eq_left hk] at hll
      have HST := hide hst
      have hdl := HDD.out _ hmem
      have hii := HII.out _ hmem
      have hqq := HHQ.out _ hmem
      generalize (p.q.take k).foldl stepQ ⟨p, fun _ => false, []⟩ = s at *
      have hlen1 : s.left.length + 1 ≤ p.q.length := by simp at hll; omega
      obtain ⟨bq, oq, rfl, hPb, hbl, hcell⟩ := HCQ.out (by omega)
      have hbg : bq ≠ g := fun e => hg (e ▸ hPb)
      have hc : ∀ j, j < 7 → ∀ u, (akL p.q[k] z[k])[j]? = some u → wr.cell? ⟨bq, oq + k * 7 + j, none⟩ = some u := fun j hj u hu => by
        rw [World.cell?_of_block (w := w) (a := ⟨bq, oq + k * 7 + j, none⟩) (HR.out.A.block bq hbl hbg), Nat.add_assoc]
        exact hcell _ _ ((quL_get p.q z k _ _ j hx hy hj).trans hu)
      have e0 := hc 0 (by omega) _ rfl
      have e1 := hc 1 (by omega) _ rfl
      have e2 := hc 2 (by omega) _ rfl
      have e3 := hc 3 (by omega) _ rfl
      have e4 := hc 4 (by omega) _ rfl
      have e5 := hc 5 (by omega) _ rfl
      have e6 := hc 6 (by omega) _ rfl
      rw [Nat.add_zero] at e0
      generalize p.q[k] = x at *
      generalize z[k] = y at *
      obtain ⟨y1, y2⟩ := y
      dsimp only at hin e5 e6
      obtain ⟨⟨B1, n1, D1, ey1, -⟩, ⟨B2, n2, D2, ey2, -⟩⟩ := id hin
      subst ey1 ey2
      obtain ⟨x1, x2⟩ := x
      dsimp only at hqq hdl hii hin e0 e1 e2 e3 e4
      obtain ⟨m, rfl⟩ : ∃ m : Nat, x1 = (m : Int) := ⟨x1.toNat, by omega⟩
      have hm2 : m < 2 := by omega
      have hmI : (m : Int) < 2 := by omega
      have hm0 : (0 : Int) ≤ (m : Int) := by omega
      rw [Int.toNat_natCast] at hdl hii
      have HIN := hide hin
      have HDL1 := hide hdl
      have HII1 := hide hii
      have bA : Below wr.heap.size wr (wr.alloc (.cells #[.int .i64 (m : Int), .int .i64 x2.k, .int .i64 x2.i, .int .i64 x2.v, .int .i64 x2.n, .slice B1 n1 D1, .slice B2 n2 D2] 79)) := (Below.refl _ wr).alloc (Nat.le_refl _) _
      have K5 := CAt.new 79 wr #[.int .i64 (m : Int), .int .i64 x2.k, .int .i64 x2.i, .int .i64 x2.v, .int .i64 x2.n, .slice B1 n1 D1, .slice B2 n2 D2]
      clear hc hcell hx hy hin hdl hii hst hmem hbl hPb hbg hqq
      go_upto_region 5 with fail
      clear e0 e1 e2 e3 e4 e5 e6
      obtain ⟨w5, ew5⟩ : ∃ w5, w5 = wr.alloc (.cells #[.int .i64 (m : Int), .int .i64 x2.k, .int .i64 x2.i, .int .i64 x2.v, .int .i64 x2.n, .slice B1 n1 D1, .slice B2 n2 D2] 79) := ⟨_, rfl⟩
      rw [← ew5] at K5 bA
      rw [← ew5]
      clear ew5
      obtain ⟨⟨v5, Q, C5, P5, hq1, hq2, hq3, hq4⟩, W5, ⟨z5, L5⟩, A5, I5⟩ := HR.out
      have hzr0 : w.heap.size < wr.heap.size := W5.lt
      have C6 := C5.over bA
      have P6 := P5.over bA
      have W6 := W5.over bA
      have A6 := A5.trans (Alt.of bA)
      have O6 := Ln.own_over L5.own bA
      have hz5 := bA.size
      have hgw := hgl
      have k0 : w5.cell? ⟨wr.heap.size, 0, none⟩ = some (.int .i64 (m : Int)) := K5.cell 0
      have k1 : w5.cell? ⟨wr.heap.size, 1, none⟩ = some (.int .i64 x2.k) := K5.cell 1
      have k2 : w5.cell? ⟨wr.heap.size, 2, none⟩ = some (.int .i64 x2.i) := K5.cell 2
      have k3 : w5.cell? ⟨wr.heap.size, 3, none⟩ = some (.int .i64 x2.v) := K5.cell 3
      have k4 : w5.cell? ⟨wr.heap.size, 4, none⟩ = some (.int .i64 x2.n) := K5.cell 4
      have k5 : w5.cell? ⟨wr.heap.size, 5, none⟩ = some (.slice B1 n1 D1) := K5.cell 5
      have k6 : w5.cell? ⟨wr.heap.size, 6, none⟩ = some (.slice B2 n2 D2) := K5.cell 6
      have aW : w5.cell? ⟨w.heap.size, m, none⟩ = some (.bool (s.wt m)) := by
        rw [W6.cell m]
        rcases (show m = 0 ∨ m = 1 by omega) with rfl | rfl <;> rfl
      have HDC := hide (HDL1.out s.p v5 Q w5 (.slice B1 n1 D1) (.slice B2 n2 D2) I5 C6 P6 hq2)
      have hstep : stepQ s ((m : Int), x2) = if s.wt m = true then { s with left := s.left ++ [((m : Int), x2)] } else if (dealP s.p m x2).2 = true then { s with p := (dealP s.p m x2).1 } else { s with wt := fun i => if i = m then true else s.wt i, left := s.left ++ [((m : Int), x2)] } := by
        unfold stepQ
        rw [Int.toNat_natCast]
      have HSP := hide hstep
      have HID := hide (HII1.out s.p I5)
      have HDF := hide (fun h => deal_false (p := s.p) (c := m) (x := x2) h)
      have H6 := hide (show _ ∧ _ ∧ _ ∧ _ ∧ _ ∧ _ ∧ _ from ⟨C6, P6, W6, A6, O6, K5, I5⟩)
      have HL5 := hide (show _ ∧ _ from ⟨L5.len, L5.ins⟩)
      have HQS := hide (show _ ∧ _ ∧ _ ∧ _ from ⟨hq1, hq2, hq3, hq4⟩)
      clear C5 P5 W5 A5 L5 I5 C6 P6 W6 A6 O6 K5 hq1 hq2 hq3 hq4 hstep HR bA HDL1 HII1
      generalize dealP s.p m x2 = dl at *
      obtain ⟨p', b'⟩ := dl
      dsimp only at HSP HID HDF HDC
      cases hwt : s.wt m
      · rw [hwt] at aW
        replace HSP := hide (HSP.out.trans (if_neg (by simp [hwt])))
        cases b'
        · -- it waits
          replace HSP := hide (HSP.out.trans (if_neg (by simp)))
          have e := HDF.out rfl
          subst e
          go_upto_region 6 with (go_at_call 67; refine HDC.out.mono ?_; rintro e w7 ⟨v7, rfl, C7, P7, A7⟩; dsimp only at C7 P7; have HD7 := hide (show _ ∧ _ ∧ _ from ⟨C7, P7, A7⟩); clear C7 P7 A7; dsimp only)
          have hz7 : w5.heap.size ≤ w7.heap.size := HD7.out.2.2.size
          have HQ7 : Hid ((∀ b, New Q w5 0 b → New P w 0 b) ∧ ¬ New Q w5 0 g ∧ ¬ New Q w5 0 w.heap.size ∧ ∀ r, u3.ownBlock = some r → ¬ New Q w5 0 r) := by
            obtain ⟨hq1, hq2, hq3, hq4⟩ := HQS.out
            refine ⟨fun b h => ?_, new_not hq2 (by omega), new_not hq3 (by omega), fun r e => new_not (hq4 r e) (by have := (World.ownsRow.lt H6.out.2.2.2.2.1 r e).2; omega)⟩
            rcases h with ⟨h, _⟩ | h
            · exact hq1 b h
            · exact .inr (by omega)
          have HW7 := hide (show _ ∧ _ ∧ _ ∧ _ ∧ _ ∧ _ from ⟨HD7.out.1, HD7.out.2.1, HD7.out.2.2.cat (by omega) H6.out.2.2.1, Ln.own_of H6.out.2.2.2.2.1 fun r e => HD7.out.2.2.block r (World.ownsRow.lt H6.out.2.2.2.2.1 r e).2 (by have := (World.ownsRow.lt H6.out.2.2.2.2.1 r e).1; omega), HD7.out.2.2.cat (b := wr.heap.size) (by omega) H6.out.2.2.2.2.2.1, H6.out.2.2.2.1.trans HD7.out.2.2⟩)
          clear HD7 HDC
          have aW7 : w7.cell? ⟨w.heap.size, m, none⟩ = some (.bool (s.wt m)) := by
            rw [HW7.out.2.2.1.cell m]
            rcases (show m = 0 ∨ m = 1 by omega) with rfl | rfl <;> rfl
          have f7 := HW7.out.2.2.1.free m
          have j0 : w7.cell? ⟨wr.heap.size, 0, none⟩ = some (.int .i64 (m : Int)) := HW7.out.2.2.2.2.1.cell 0
          have hlt7 := HW7.out.2.2.1.lt
          have C8 := HW7.out.1.other (c := w.heap.size) (o := m) (by omega) (.bool true)
          have P8 := HW7.out.2.1.keep (w' := w7.setCell ⟨w.heap.size, m, none⟩ (.bool true)) fun b hb _ => Below.heap_setCell w7 ⟨w.heap.size, m, none⟩ (.bool true) b (show b ≠ w.heap.size from fun e => HQ7.out.2.2.1 (e ▸ hb))
          have W8 := HW7.out.2.2.1.set m (.bool true)
          rw [wt_set s.wt hm2] at W8
          have O8 := Ln.own_of HW7.out.2.2.2.1 (w' := w7.setCell ⟨w.heap.size, m, none⟩ (.bool true)) fun r e => Below.heap_setCell w7 ⟨w.heap.size, m, none⟩ (.bool true) r (show r ≠ w.heap.size by have := (World.ownsRow.lt HW7.out.2.2.2.1 r e).1; omega)
          have K8 := HW7.out.2.2.2.2.1.other (c := w.heap.size) (o := m) (by omega) (.bool true)
          have A8 := HW7.out.2.2.2.2.2.past (b := w.heap.size) (Nat.le_refl _) m (.bool true)
          have H8 := hide (show _ ∧ _ ∧ _ ∧ _ ∧ _ ∧ _ from ⟨C8, P8, W8, O8, K8, A8⟩)
          clear C8 P8 W8 O8 K8 A8 k0 k1 k2 k3 k4 k5 k6 aW
          go_upto_region 7 with fail
          clear aW7 f7 j0 hlt7
          generalize w7.setCell ⟨w.heap.size, m, none⟩ (.bool true) = w8 at *
          have k0 : w8.cell? ⟨wr.heap.size, 0, none⟩ = some (.int .i64 (m : Int)) := H8.out.2.2.2.2.1.cell 0
          have k1 : w8.cell? ⟨wr.heap.size, 1, none⟩ = some (.int .i64 x2.k) := H8.out.2.2.2.2.1.cell 1
          have k2 : w8.cell? ⟨wr.heap.size, 2, none⟩ = some (.int .i64 x2.i) := H8.out.2.2.2.2.1.cell 2
          have k3 : w8.cell? ⟨wr.heap.size, 3, none⟩ = some (.int .i64 x2.v) := H8.out.2.2.2.2.1.cell 3
          have k4 : w8.cell? ⟨wr.heap.size, 4, none⟩ = some (.int .i64 x2.n) := H8.out.2.2.2.2.1.cell 4
          have k5 : w8.cell? ⟨wr.heap.size, 5, none⟩ = some (.slice B1 n1 D1) := H8.out.2.2.2.2.1.cell 5
          have k6 : w8.cell? ⟨wr.heap.size, 6, none⟩ = some (.slice B2 n2 D2) := H8.out.2.2.2.2.1.cell 6
          have hw8 : w.heap.size < w8.heap.size := H8.out.2.2.1.lt
          have ho8 := World.ownsRow.alloc H8.out.2.2.2.1 (.cells #[.int .i64 (m : Int), .int .i64 x2.k, .int .i64 x2.i, .int .i64 x2.v, .int .i64 x2.n, .slice B1 n1 D1, .slice B2 n2 D2] 79)
          have HO8 := hide ho8
          clear ho8
          go_upto_region 8 with (at_builtin; refine wpList_append_own_at _ rfl _ _ 45 rfl (w.heap.size + 1) 79 i0 (.agg #[.int .i64 0, .int .i64 0, .int .i64 0, .int .i64 0, .int .i64 0, .slice none 0 0, .slice none 0 0]) 7 88 Tryz.underlying45 hi hz0 hz1 hz2 rfl (by decide) _ _ _ rfl HO8.out ⟨w8.heap.size, 0, none⟩ 1 1 (akL ((m : Int), x2) (.slice B1 n1 D1, .slice B2 n2 D2)) rfl rfl (ask_news w8 ((m : Int), x2) (.slice B1 n1 D1, .slice B2 n2 D2) 79) (by intro u hu; simp [akL] at hu; rcases hu with rfl | rfl | rfl | rfl | rfl | rfl | rfl <;> rfl) (by unfold maxLen; omega) (by omega) (by simp; omega) ?_; intro v9 w9 hown' hgrow _ hat; have HW9 := hide (show _ ∧ _ ∧ _ from ⟨hown', hgrow, hat⟩); clear hown' hgrow hat)
          have HN : Hid (QuR Inv P w g { s with wt := fun i => if i = m then true else s.wt i, left := s.left ++ [((m : Int), x2)] } v9 w9) := QuR.wait hgw H8.out.1 H8.out.2.1 HQ7.out.1 HQ7.out.2.1 HQ7.out.2.2.1 HQ7.out.2.2.2 H8.out.2.2.1 H8.out.2.2.2.1 HL5.out.1 HL5.out.2 H8.out.2.2.2.2.2 H6.out.2.2.2.2.2.2 HIN.out HW9.out.1 HW9.out.2.1 HW9.out.2.2
          clear k0 k1 k2 k3 k4 k5 k6
          go_wp2
          first | exact ⟨⟨k + 1, by omega, by go_num, by rw [HST.out, HSP.out]; exact HN.out⟩, by simp [intOf]; omega⟩ | ((repeat apply Exists.intro); exact ⟨⟨k + 1, by omega, by go_num, by rw [HST.out, HSP.out]; exact HN.out⟩, rfl⟩)
        · replace HSP := hide (HSP.out.trans (if_pos rfl))
          go_upto_region 8 with (go_at_call 67; refine HDC.out.mono ?_; rintro e w7 ⟨v7, rfl, C7, P7, A7⟩; dsimp only at C7 P7; have HW7 := hide (show _ ∧ _ ∧ _ from ⟨C7, P7, A7⟩); clear C7 P7 A7; dsimp only)
          clear k0 k1 k2 k3 k4 k5 k6 aW
          have HN : Hid (QuR Inv P w g { s with p := p' } u3 w7) := by
            obtain ⟨C7, P7, A7⟩ := HW7.out
            obtain ⟨hq1, hq2, hq3, hq4⟩ := HQS.out
            refine ⟨⟨v7, New Q w5 0, C7, P7, fun b h => ?_, new_not hq2 (by omega), new_not hq3 (by omega), fun r e => new_not (hq4 r e) (by have := (World.ownsRow.lt H6.out.2.2.2.2.1 r e).2; omega)⟩, A7.cat (by omega) H6.out.2.2.1, ⟨z5, HL5.out.1, Ln.own_of H6.out.2.2.2.2.1 fun r e => A7.block r (World.ownsRow.lt H6.out.2.2.2.2.1 r e).2 (by have := (World.ownsRow.lt H6.out.2.2.2.2.1 r e).1; omega), HL5.out.2⟩, H6.out.2.2.2.1.trans A7, HID.out⟩
            rcases h with ⟨h, _⟩ | h
            · exact hq1 b h
            · exact .inr (by omega)
          go_wp2
          first | exact ⟨⟨k + 1, by omega, by go_num, by rw [HST.out, HSP.out]; exact HN.out⟩, by simp [intOf]; omega⟩ | ((repeat apply Exists.intro); exact ⟨⟨k + 1, by omega, by go_num, by rw [HST.out, HSP.out]; exact HN.out⟩, rfl⟩)
      · have hwt' : (fun i => if i = m then true else s.wt i) = s.wt := funext fun i => by
          by_cases e : i = m
          · rw [if_pos e, e, hwt]
          · rw [if_neg e]
        rw [hwt] at aW
        replace HSP := hide ((HSP.out.trans (if_pos hwt)).trans (by rw [hwt'] : _ = ({ s with wt := fun i => if i = m then true else s.wt i, left := s.left ++ [((m : Int), x2)] } : QS)))
        clear hwt'
        go_upto_region 6 with fail
        obtain ⟨w7, ew7⟩ : ∃ w7, w7 = w5 := ⟨_, rfl⟩
        have HQ7 := HQS
        have HW7 : Hid (CAt 47 w7 g (prC s.p v5) ∧ PIn Q w7 s.p v5 ∧ CAt 123 w7 w.heap.size #[.bool (s.wt 0), .bool (s.wt 1)] ∧ w7.ownsRow (w.heap.size + 1) 79 7 u3 s.left.length (quL s.left z5) ∧ CAt 79 w7 wr.heap.size #[.int .i64 (m : Int), .int .i64 x2.k, .int .i64 x2.i, .int .i64 x2.v, .int .i64 x2.n, .slice B1 n1 D1, .slice B2 n2 D2] ∧ Alt g w w7) := by rw [ew7]; exact ⟨H6.out.1, H6.out.2.1, H6.out.2.2.1, H6.out.2.2.2.2.1, H6.out.2.2.2.2.2.1, H6.out.2.2.2.1⟩
        rw [← ew7]
        clear ew7 HDC
        have aW7 : w7.cell? ⟨w.heap.size, m, none⟩ = some (.bool (s.wt m)) := by
          rw [HW7.out.2.2.1.cell m]
          rcases (show m = 0 ∨ m = 1 by omega) with rfl | rfl <;> rfl
        have f7 := HW7.out.2.2.1.free m
        have j0 : w7.cell? ⟨wr.heap.size, 0, none⟩ = some (.int .i64 (m : Int)) := HW7.out.2.2.2.2.1.cell 0
        have hlt7 := HW7.out.2.2.1.lt
        have C8 := HW7.out.1.other (c := w.heap.size) (o := m) (by omega) (.bool true)
        have P8 := HW7.out.2.1.keep (w' := w7.setCell ⟨w.heap.size, m, none⟩ (.bool true)) fun b hb _ => Below.heap_setCell w7 ⟨w.heap.size, m, none⟩ (.bool true) b (show b ≠ w.heap.size from fun e => HQ7.out.2.2.1 (e ▸ hb))
        have W8 := HW7.out.2.2.1.set m (.bool true)
        rw [wt_set s.wt hm2] at W8
        have O8 := Ln.own_of HW7.out.2.2.2.1 (w' := w7.setCell ⟨w.heap.size, m, none⟩ (.bool true)) fun r e => Below.heap_setCell w7 ⟨w.heap.size, m, none⟩ (.bool true) r (show r ≠ w.heap.size by have := (World.ownsRow.lt HW7.out.2.2.2.1 r e).1; omega)
        have K8 := HW7.out.2.2.2.2.1.other (c := w.heap.size) (o := m) (by omega) (.bool true)
        have A8 := HW7.out.2.2.2.2.2.past (b := w.heap.size) (Nat.le_refl _) m (.bool true)
        have H8 := hide (show _ ∧ _ ∧ _ ∧ _ ∧ _ ∧ _ from ⟨C8, P8, W8, O8, K8, A8⟩)
        clear C8 P8 W8 O8 K8 A8 k0 k1 k2 k3 k4 k5 k6 aW
        go_upto_region 7 with fail
        clear aW7 f7 j0 hlt7
        generalize w7.setCell ⟨w.heap.size, m, none⟩ (.bool true) = w8 at *
        have k0 : w8.cell? ⟨wr.heap.size, 0, none⟩ = some (.int .i64 (m : Int)) := H8.out.2.2.2.2.1.cell 0
        have k1 : w8.cell? ⟨wr.heap.size, 1, none⟩ = some (.int .i64 x2.k) := H8.out.2.2.2.2.1.cell 1
        have k2 : w8.cell? ⟨wr.heap.size, 2, none⟩ = some (.int .i64 x2.i) := H8.out.2.2.2.2.1.cell 2
        have k3 : w8.cell? ⟨wr.heap.size, 3, none⟩ = some (.int .i64 x2.v) := H8.out.2.2.2.2.1.cell 3
        have k4 : w8.cell? ⟨wr.heap.size, 4, none⟩ = some (.int .i64 x2.n) := H8.out.2.2.2.2.1.cell 4
        have k5 : w8.cell? ⟨wr.heap.size, 5, none⟩ = some (.slice B1 n1 D1) := H8.out.2.2.2.2.1.cell 5
        have k6 : w8.cell? ⟨wr.heap.size, 6, none⟩ = some (.slice B2 n2 D2) := H8.out.2.2.2.2.1.cell 6
        have hw8 : w.heap.size < w8.heap.size := H8.out.2.2.1.lt
        have ho8 := World.ownsRow.alloc H8.out.2.2.2.1 (.cells #[.int .i64 (m : Int), .int .i64 x2.k, .int .i64 x2.i, .int .i64 x2.v, .int .i64 x2.n, .slice B1 n1 D1, .slice B2 n2 D2] 79)
        have HO8 := hide ho8
        clear ho8
        go_upto_region 8 with (at_builtin; refine wpList_append_own_at _ rfl _ _ 45 rfl (w.heap.size + 1) 79 i0 (.agg #[.int .i64 0, .int .i64 0, .int .i64 0, .int .i64 0, .int .i64 0, .slice none 0 0, .slice none 0 0]) 7 88 Tryz.underlying45 hi hz0 hz1 hz2 rfl (by decide) _ _ _ rfl HO8.out ⟨w8.heap.size, 0, none⟩ 1 1 (akL ((m : Int), x2) (.slice B1 n1 D1, .slice B2 n2 D2)) rfl rfl (ask_news w8 ((m : Int), x2) (.slice B1 n1 D1, .slice B2 n2 D2) 79) (by intro u hu; simp [akL] at hu; rcases hu with rfl | rfl | rfl | rfl | rfl | rfl | rfl <;> rfl) (by unfold maxLen; omega) (by omega) (by simp; omega) ?_; intro v9 w9 hown' hgrow _ hat; have HW9 := hide (show _ ∧ _ ∧ _ from ⟨hown', hgrow, hat⟩); clear hown' hgrow hat)
        have HN : Hid (QuR Inv P w g { s with wt := fun i => if i = m then true else s.wt i, left := s.left ++ [((m : Int), x2)] } v9 w9) := QuR.wait hgw H8.out.1 H8.out.2.1 HQ7.out.1 HQ7.out.2.1 HQ7.out.2.2.1 HQ7.out.2.2.2 H8.out.2.2.1 H8.out.2.2.2.1 HL5.out.1 HL5.out.2 H8.out.2.2.2.2.2 H6.out.2.2.2.2.2.2 HIN.out HW9.out.1 HW9.out.2.1 HW9.out.2.2
        clear k0 k1 k2 k3 k4 k5 k6
        go_wp2
        first | exact ⟨⟨k + 1, by omega, by go_num, by rw [HST.out, HSP.out]; exact HN.out⟩, by simp [intOf]; omega⟩ | ((repeat apply Exists.intro); exact ⟨⟨k + 1, by omega, by go_num, by rw [HST.out, HSP.out]; exact HN.out⟩, rfl⟩)
    · obtain rfl : k = p.q.length := by omega
      rw [List.take_length, ← HGO.out] at HR
      have hql := (steps_q p.q ⟨p, fun _ => false, []⟩).2
      rw [← HGO.out] at hql
      have hql' : G.left.length ≤ p.q.length := by simpa using hql
      have HQL := hide hql'
      clear hql hql'
      obtain ⟨⟨v5, Q, C5, P5, hq1, hq2, hq3, hq4⟩, W5, ⟨z5, L5⟩, A5, I5⟩ := HR.out
      obtain ⟨Al, Cl, el⟩ := Ln.own_form L5.own
      subst el
      have c96 : wr.cell? ⟨g, 96, none⟩ = some v5.q := C5.cell 96
      have f96 := C5.free 96
      have hlt5 := C5.lt
      have C6 := C5.set 96 (.slice Al G.left.length Cl)
      rw [pr_q2 G.p v5 G.left] at C6
      have A6 := A5.set 96 (.slice Al G.left.length Cl)
      have k6 : ∀ b, b ≠ g → (wr.setCell ⟨g, 96, none⟩ (.slice Al G.left.length Cl)).heap[b]? = wr.heap[b]? := fun b hb => Below.heap_setCell wr ⟨g, 96, none⟩ _ b hb
      have N6 : PIn (New P w 0) (wr.setCell ⟨g, 96, none⟩ (.slice Al G.left.length Cl)) { G.p with q := G.left } { v5 with q := .slice Al G.left.length Cl } := by
        have n5 := (P5.keep (w' := wr.setCell ⟨g, 96, none⟩ (.slice Al G.left.length Cl)) fun b hb _ => k6 b fun e => hq2 (e ▸ hb)).mono (P' := New P w 0) fun b _ hb => hq1 b hb
        refine ⟨n5.ws, n5.set, n5.lk, ⟨z5, L5.len, ?_, fun i x y hx hy => ?_⟩⟩
        · have o6 := Ln.own_of L5.own (w' := wr.setCell ⟨g, 96, none⟩ (.slice Al G.left.length Cl)) fun r e => k6 r (by have := (World.ownsRow.lt L5.own r e).1; omega)
          exact (Rep.own (bts := 80) o6 (by have := HQL.out; omega)).mono fun b _ hb => .inr (by omega)
        · have h2 := L5.ins i x y hx hy
          have key : ∀ {u : Value} {sz bts : Nat} {cs : List Value}, Rep P w u sz bts cs → Rep (New P w 0) (wr.setCell ⟨g, 96, none⟩ (.slice Al G.left.length Cl)) u sz bts cs := fun h => (A6.rep (P := fun b => P b ∧ b < w.heap.size) (fun h => hg h.1) (h.mono fun b hl hb => ⟨hb, hl⟩)).mono fun b _ hb => .inl hb
          exact ⟨key h2.1, key h2.2⟩
      have HZ := hide (show _ ∧ _ ∧ _ from ⟨C6, N6, A6⟩)
      have HQP' := HQP
      clear C5 P5 hq1 hq2 hq3 hq4 W5 L5 A5 I5 C6 A6 k6 N6 HR
      go_wp2
      go_end0
      rw [HQP'.out]
      exact ⟨_, rfl, HZ.out.1, HZ.out.2.1, HZ.out.2.2⟩
end Go.Proofs.YtjghbciepinofaaGreat.Pv

set_option maxRecDepth 100000
namespace Go.Proofs.YtjghbciepinofaaGreat
open Go.RowKit
theorem refOf_eq (s : St) (d v : Int) : refOfE s d v = if goodS s = true then if d < 0 ∨ 3 < d ∨ v < 0 ∨ 5 < v then 4 else 0 else 2 := by
  unfold refOfE refE isV isD
  simp only [decide_eq_true_eq]
  by_cases h : goodS s = true
  · rw [if_pos h, if_pos h]
    by_cases hv : 0 ≤ v ∧ v < 6
    · rw [if_pos hv, if_pos rfl]
      by_cases hd : 0 ≤ d ∧ d < 4
      · rw [if_pos hd, if_neg (by omega)]
      · rw [if_neg hd, if_pos (by omega)]
    · rw [if_neg hv, if_neg (by omega), if_pos (by omega)]
  · rw [if_neg h, if_neg h]
    rfl
set_option maxHeartbeats 1000000 in
theorem some_any (s : St) (ao : Option Addr) (sb so c : Nat) (d v : Int) (w : World) (hW : WsAt w ao sb so s.W) :
    Calls Tryz.prog 140 #[.agg (stC s (.slice ao s.W.length c)), .int .i64 d, .int .i64 v] w fun e w' => e = .returned (.int .i64 (refOfE s d v)) ∧ Below w.heap.size w w' := by
  have S0 := SAt.new w (stC s (.slice ao s.W.length c))
  have HB0 : Hid (Below w.heap.size w (w.alloc (.cells (stC s (.slice ao s.W.length c)) 32))) := (Below.refl _ w).alloc (Nat.le_refl _) _
  have hG := fun w h => rgoods_any s ao sb so c w h
  have HW := hide hW
  have HE := hide (refOf_eq s d v)
  generalize refOfE s d v = r at *
  generalize goodS s = t1 at *
  clear hW
  go_enter Tryz.func140, Tryz.ntmps140
  go_upto_region 1 with fail
  generalize w.alloc (.cells (stC s (.slice ao s.W.length c)) 32) = w0 at *
  apply wp_region_lit
  refine wpList_load_mid rfl 32 _ rfl _ 0 rfl _ _ S0.range Tryz.underlying32 rfl (by rw [infoS]; rfl) ?_
  clear S0
  go_wp2_with (go_at_call 91; refine (hG _ (by exact HW.out.over HB0.out)).mono ?_; rintro e w1 ⟨rfl, h1⟩; have HB1 := hide (HB0.out.trans (h1.mono HB0.out.size)); clear h1)
  all_goals (go_ret; refine ⟨?_, HB1.out⟩; have h := HE.out; clear HE; first | (simp_all; done) | (rw [h, if_pos (by simp_all), if_pos (by omega)]; rfl) | (rw [h, if_pos (by simp_all), if_neg (by omega)]; rfl))
end Go.Proofs.YtjghbciepinofaaGreat

