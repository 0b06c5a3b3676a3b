/- Parts of the proof: PRX PRL. -/
import Derived.Test.YtjghbciepinofaaGreatRows
import Derived.Test.YtjghbciepinofaaGreatPEK1
import Derived.Test.YtjghbciepinofaaGreatPEK3
import Derived.Test.YtjghbciepinofaaGreatPEK11
import Derived.Test.YtjghbciepinofaaGreatPEK48
set_option maxRecDepth 100000
namespace Go.Proofs.YtjghbciepinofaaGreat.Pv
open Go.RowKit
theorem DBeg.meter {P : Nat → Prop} {w : World} {p : Pr} {v : PrV} {c : Nat} {x : Pkt} {y1 y2 : Value} {wx : World} (h : DBeg P w p v c x y1 y2 wx) (m : Int) : DBeg P w { p with ml := m } v c x y1 y2 ((wx.setCell ⟨w.heap.size, 94, none⟩ (.int .i64 m)).setCell ⟨w.heap.size, 95, none⟩ (.int .i64 p.mn)) := by
  have hn : ¬ New P w 3 w.heap.size := New.no (Nat.le_refl _) (by omega)
  have I := (h.I.put hn 94 (.int .i64 m)).put hn 95 (.int .i64 p.mn)
  exact ⟨(h.C.set 94 _).set 95 _, (h.K.other (by omega) _).other (by omega) _, (h.R.other (by omega) _).other (by omega) _, (h.B.setCell (p := ⟨w.heap.size, 94, none⟩) (Nat.le_refl _) _).setCell (p := ⟨w.heap.size, 95, none⟩) (Nat.le_refl _) _, I.ws, I.set, I.lk, I.q⟩
attribute [local go_sem ↓] loadS_eq loadP_eq storeP_eq storeS_eq
set_option maxRecDepth 1000000 in
set_option maxHeartbeats 16000000 in
theorem rdeal_down (p : Pr) (v : PrV) (P : Nat → Prop) (w : World) (c : Nat) (hc : c < 2) (x : Pkt) (y1 y2 : Value) (hp : PInQ P w p v) (hgs : goodS p.s = true) (hk : x.k = 3) (n : Nat) (hn : x.v = (n : Int)) (hn6 : n < 6) (s1 : ∃ A m C, y1 = .slice A m C) (s2 : ∃ A m C, y2 = .slice A m C) :
    Calls Tryz.prog 48 #[.agg (prC p v), .agg #[.int .i64 (c : Int), .int .i64 x.k, .int .i64 x.i, .int .i64 x.v, .int .i64 x.n, y1, y2]] w (AnsD P w v.q (dealP p c x)) := by
  have hD : dealP p c x = if (p.s.V n).jail = true then ({ p with L := updL p.L c { p.L c with done := doneL (p.L c).done n } }, true) else if p.ml < 1 then (p, false) else ({ p with ml := wrap64 (p.ml - powV (p.s.V n)), s := setJ p.s n true (p.s.V n).dead, L := updL p.L c { p.L c with done := doneL (p.L c).done n } }, true) := by unfold dealP; rw [if_neg (by omega), if_neg (by omega), hn, Int.toNat_natCast]
  generalize dealP p c x = D at *
  have HD := hide hD
  obtain ⟨A1, m1, C1, rfl⟩ := s1
  obtain ⟨A2, m2, C2, rfl⟩ := s2
  have hnn : (n : Int) < 6 := by omega
  have hnz : (0 : Int) ≤ (n : Int) := by omega
  have HP := hide hp
  have HG := hide hgs
  have HXK := hide hk
  have HXV := hide hn
  clear hD hp hk hn hgs
  go_enter Tryz.func48, Tryz.ntmps48
  go_upto_region 1 with fail
  change Code.wp Tryz.prog _ _ _ (((w.alloc (.cells (prC p v) 47)).alloc (.cells #[.int .i64 (c : Int), .int .i64 x.k, .int .i64 x.i, .int .i64 x.v, .int .i64 x.n, .slice A1 m1 C1, .slice A2 m2 C2] 79)).alloc (.cells Tryz.zeroCells47 47))
  have D0 := DBeg.new HP.out c x (.slice A1 m1 C1) (.slice A2 m2 C2)
  generalize ((w.alloc (.cells (prC p v) 47)).alloc (.cells #[.int .i64 (c : Int), .int .i64 x.k, .int .i64 x.i, .int .i64 x.v, .int .i64 x.n, .slice A1 m1 C1, .slice A2 m2 C2] 79)).alloc (.cells Tryz.zeroCells47 47) = w0 at *
  have k3 : w0.cell? ⟨w.heap.size + 1, 3, none⟩ = some (.int .i64 (n : Int)) := by rw [← HXV.out]; exact D0.K.cell 3
  have k1 : w0.cell? ⟨w.heap.size + 1, 1, none⟩ = some (.int .i64 3) := by rw [← HXK.out]; exact D0.K.cell 1
  obtain ⟨t0, t1, t2, t3, t4⟩ := pr_val5 D0.C hn6
  have hlt0 := D0.R.lt
  have H0 := hide D0
  clear D0
  go_upto_region 3 with fail
  have D1 := H0.out.over ((Below.refl w0.heap.size w0).alloc (Nat.le_refl _) (.cells #[.int .i64 (p.s.V n).tok, .int .i64 (p.s.V n).sh, .int .i64 (p.s.V n).lost, .bool (p.s.V n).jail, .bool (p.s.V n).dead] 26))
  have X1 := CAt.new 26 w0 #[.int .i64 (p.s.V n).tok, .int .i64 (p.s.V n).sh, .int .i64 (p.s.V n).lost, .bool (p.s.V n).jail, .bool (p.s.V n).dead]
  clear H0 k3 k1 t0 t1 t2 t3 t4
  generalize w0.alloc (.cells #[.int .i64 (p.s.V n).tok, .int .i64 (p.s.V n).sh, .int .i64 (p.s.V n).lost, .bool (p.s.V n).jail, .bool (p.s.V n).dead] 26) = w1 at *
  have k1 : w1.cell? ⟨w.heap.size + 1, 1, none⟩ = some (.int .i64 3) := by rw [← HXK.out]; exact D1.K.cell 1
  have x3 : w1.cell? ⟨w0.heap.size, 3, none⟩ = some (.bool (p.s.V n).jail) := X1.cell 3
  have x0 : w1.cell? ⟨w0.heap.size, 0, none⟩ = some (.int .i64 (p.s.V n).tok) := X1.cell 0
  have hlt1 := D1.R.lt
  have hltx := X1.lt
  cases hj : (p.s.V n).jail
  rotate_left
  · rw [hj] at x3
    have HD1 := HD.out.trans (if_pos hj)
    clear HD
    have H1 := hide D1
    have HDD := hide HD1
    clear D1 X1 HD1
    go_upto_region 11 with fail
    apply wp_join (fun w' => w' = w1)
    · refine wp_region_noPanic ?_
      go_wp2
      exact NoPanic.normal ⟨rfl, rfl, rfl⟩
    rintro w' rfl
    simp only [Exit.then]
    apply_assumption
    refine wp_cond_false rfl ?_
    refine wp_skip ?_
    simp only [Exit.then]
    apply_assumption
    exact rdeal_tail p v P w w' c hc x _ _ n H1.out D HDD.out _ _ _ _ _ _ _ _ _ _ _ _ _ _ _ _ _ _ _ _ _ _ _ _ _ _ _ _ _ _ _ _ _ _ _ _ _ _ _ _ _ _ _ _ _ _ _ _ _ _ _ _ _ _ _ _ _ _ _ _ _ _ _ _ _ _ _ _ _ _ _ _ _ _ _ _ _ _ _ _ _ _ _ _ _ _ _ _ _ _ _ _ _ _ _ _ _ _ _ _ _ _ _ _ _ _ _ _ _ _ _ _ _ _ _ _ _ _ _ _ _ _ _ _ _ _ _ _ _ _ _
  rw [hj] at x3
  have HD1 := HD.out.trans (if_neg (by simp [hj]))
  clear HD
  obtain ⟨tk0, tk1⟩ := vTok HG.out hn6
  have hdead : (p.s.V n).dead = false := by
    have := ((vOk_iff _).1 (((goodS_iff p.s).1 HG.out).2.2.2.2.2.1 n hn6).1).2.2.2.2
    cases h : (p.s.V n).dead
    · rfl
    · rw [this h] at hj; cases hj
  have m0 : w1.cell? ⟨w.heap.size, 94, none⟩ = some (.int .i64 p.ml) := D1.C.cell 94
  have m1' : w1.cell? ⟨w.heap.size, 94 + 1, none⟩ = some (.int .i64 p.mn) := D1.C.cell 95
  have HPW : Hid (powV (p.s.V n) = if (p.s.V n).tok / 100 < 1 then 1 else (p.s.V n).tok / 100) := rfl
  have HDD := hide HD1
  have H1 := hide D1
  clear HD1 D1 X1
  generalize powV (p.s.V n) = pw at *
  have HT := hide (fun (wx : World) => Mt.rmtake_any p.ml p.mn pw wx)
  generalize hA : (if p.ml < 1 then p.ml else wrap64 (p.ml - pw)) = ml' at *
  generalize hB : (if p.ml < 1 then false else true) = may at *
  generalize htk : (p.s.V n).tok = tk at *
  have hq : IntKind.i64.wrap (tk.tdiv 100) = tk / 100 := by rw [Int.tdiv_eq_ediv_of_nonneg tk0]; exact wrapI (by omega) (by omega)
  have hmax : (if 1 < tk / 100 then tk / 100 else 1) = pw := by rw [HPW.out]; split <;> split <;> omega
  have hmax2 : (if tk / 100 < 1 then 1 else tk / 100) = pw := HPW.out.symm
  clear htk
  go_upto_region 13 with (go_at_call 99; refine (HT.out _).mono ?_; rintro e w2 ⟨rfl, hb2⟩; have HB2 := hide hb2; clear hb2 m0 m1' k1 x3 x0)
  have D3 := (H1.out.over HB2.out).over ((Below.refl w2.heap.size w2).alloc (Nat.le_refl _) (.cells #[.int .i64 ml', .int .i64 p.mn] 44))
  have M3 := CAt.new 44 w2 #[.int .i64 ml', .int .i64 p.mn]
  have hw2 : w.heap.size + 2 < w2.heap.size := Nat.lt_of_lt_of_le H1.out.R.lt HB2.out.size
  clear H1 HB2 HT
  generalize w2.alloc (.cells #[.int .i64 ml', .int .i64 p.mn] 44) = w3 at *
  generalize w2.heap.size = gm at *
  by_cases hml : p.ml < 1
  · rw [if_pos hml] at hB
    subst hB
    have HD2 := hide (HDD.out.trans (if_pos hml))
    have l3 := pr_loadP D3.C (prC_size _ _)
    have s3 := pr_storeP D3.R Z97_size (prC_size p v) (PInQ.one D3.I)
    have H3 := hide D3
    clear D3 M3 HDD hA
    go_wp2
    exact prov_endD Tryz.results48 H3.out.R Z97_size H3.out.B _ _ false _ HD2.out H3.out.I _ rfl _ rfl rfl rfl
  · rw [if_neg hml] at hB hA
    subst hB
    have HD2 := hide (HDD.out.trans (if_neg hml))
    have m0 : w3.cell? ⟨gm, 0, none⟩ = some (.int .i64 ml') := M3.cell 0
    have m1' : w3.cell? ⟨gm, 0 + 1, none⟩ = some (.int .i64 p.mn) := M3.cell 1
    have e94 : w3.cell? ⟨w.heap.size, 94, none⟩ = some (.int .i64 p.ml) := D3.C.cell 94
    have e95 : w3.cell? ⟨w.heap.size, 94 + 1, none⟩ = some (.int .i64 p.mn) := D3.C.cell 95
    have z94 := D3.C.free 94
    have z95 := D3.C.free (94 + 1)
    have hg1 : ¬ gm = w.heap.size := by omega
    have hlt3 := D3.C.lt
    have H4 := hide (D3.meter ml')
    have HAA := hide hA
    clear D3 M3 HDD hA hml
    go_upto_region 16 with fail
    have D4 := H4.out
    clear H4 m0 m1' e94 e95 z94 z95
    generalize (w3.setCell ⟨w.heap.size, 94, none⟩ (.int .i64 ml')).setCell ⟨w.heap.size, 95, none⟩ (.int .i64 p.mn) = w4 at *
    have hjl := rt_jail D4.I.ws n HG.out hn6 hj
    have HJL := hide hjl
    have m4 := pr_loadS D4.C
    have HSW : Hid ((setJ p.s n true false).W = p.s.W) := rfl
    have HSJ : Hid (setJ p.s n true (p.s.V n).dead = setJ p.s n true false) := by rw [Hid, hdead]
    rw [HSJ.out] at HD2
    dsimp only at HJL m4
    generalize setJ p.s n true false = s1 at *
    have H4 := hide D4
    have hlt4 := D4.R.lt
    have hlt4' := D4.C.lt
    clear D4 hjl HSJ
    apply wp_joinx (fun u w' => DBeg P w { p with ml := ml', s := s1 } { v with ws := u } c x (.slice A1 m1 C1) (.slice A2 m2 C2) w')
    · refine wp_region_noPanic ?_
      go_wp2_with (go_at_call 98; refine HJL.out.mono ?_; rintro e w5 ⟨u, rfl, U5, hb5⟩; have sS5 := pr_storeS (H4.out.over hb5).C (prC_size _ _) (stC_size s1 u) (st_one s1 U5.one'); have HU5 := hide (show _ ∧ _ from ⟨U5, hb5⟩); clear U5 hb5)
      exact NoPanic.normal ⟨u, rfl, rfl, (H4.out.over HU5.out.2).stake s1 u (by rw [HSW.out]; exact HU5.out.1.mono fun b _ h => .inr (by have := H4.out.R.lt; omega))⟩
    intro u w6 D6
    simp only [Exit.then]
    apply_assumption
    exact rdeal_tail { p with ml := ml', s := s1 } { v with ws := u } P w w6 c hc x _ _ n D6 D (by rw [HD2.out, HAA.out]) _ _ _ _ _ _ _ _ _ _ _ _ _ _ _ _ _ _ _ _ _ _ _ _ _ _ _ _ _ _ _ _ _ _ _ _ _ _ _ _ _ _ _ _ _ _ _ _ _ _ _ _ _ _ _ _ _ _ _ _ _ _ _ _ _ _ _ _ _ _ _ _ _ _ _ _ _ _ _ _ _ _ _ _ _ _ _ _ _ _ _ _ _ _ _ _ _ _ _ _ _ _ _ _ _ _ _ _ _ _ _ _ _ _ _ _ _ _ _ _ _ _ _ _ _ _ _ _ _ _ _
/-- P7.6: of any packet -/
theorem rdeal_any (p : Pr) (v : PrV) (P : Nat → Prop) (w : World) (c : Nat) (hc : c < 2) (x : Pkt) (y1 y2 : Value) (hp : PInQ P w p v) (hgs : goodS p.s = true) (hx : x.k = 2 ∨ x.k = 3 ∨ x.k = 4) (h0 : 0 ≤ x.v) (h6 : x.v < 6) (s1 : ∃ A m C, y1 = .slice A m C) (s2 : ∃ A m C, y2 = .slice A m C) :
    Calls Tryz.prog 48 #[.agg (prC p v), .agg #[.int .i64 (c : Int), .int .i64 x.k, .int .i64 x.i, .int .i64 x.v, .int .i64 x.n, y1, y2]] w (AnsD P w v.q (dealP p c x)) := by
  have hn : x.v = (x.v.toNat : Int) := by omega
  rcases hx with h | h | h
  · exact rdeal_matured p v P w c hc x y1 y2 hp hgs h x.v.toNat hn (by omega) s1 s2
  · exact rdeal_down p v P w c hc x y1 y2 hp hgs h x.v.toNat hn (by omega) s1 s2
  · exact rdeal_double p v P w c hc x y1 y2 hp hgs h x.v.toNat hn (by omega) s1 s2
end Go.Proofs.YtjghbciepinofaaGreat.Pv

set_option maxRecDepth 100000
namespace Go.Proofs.YtjghbciepinofaaGreat.Pv
open Go.RowKit
def okPv (x : Pkt) : Prop := (x.k = 2 ∨ x.k = 3 ∨ x.k = 4) ∧ 0 ≤ x.v ∧ x.v < 6
/-- how far the queue is -/
structure RQu (P : Nat → Prop) (w1 : World) (g : Nat) (r : Pr) (wl : World) : Prop where
  st : ∃ (v : PrV) (Q : Nat → Prop) (z : List (Value × Value)), CAt 47 wl g (prC r v) ∧ PInQ Q wl r v ∧ (∀ b, Q b → New P w1 0 b) ∧ ¬ Q g ∧ (∀ b, v.q.ownBlock = some b → ¬ Q b) ∧ z.length = r.q.length ∧ wl.ownsRow w1.heap.size 79 7 v.q r.q.length (quL r.q z) ∧ ∀ (i : Nat) (x : Int × Pkt) (y : Value × Value), r.q[i]? = some x → z[i]? = some y → Rep P w1 y.1 2 16 (pwC x.2.S) ∧ Rep P w1 y.2 1 8 (inC x.2.D)
  A : Alt g w1 wl
  inv : InvQ r
theorem pr_q3 (p : Pr) (v : PrV) (l : List (Int × Pkt)) (x : Value) : (prC p v).setIfInBounds 96 x = prC { p with q := l } { v with q := x } := rfl
theorem grown_cat {w1 w8 w9 : World} {g n : Nat} {cs : Array Value} {lv : Value} {xs : List Value} {ob : Obj} (hgw : g < w1.heap.size) (C8 : CAt 47 w8 g cs) (O8 : w8.ownsRow w1.heap.size 79 7 lv n xs) (hg : (w8.alloc ob).grownBy w9 lv.ownBlock) : CAt 47 w9 g cs := by
  have bA : Below w8.heap.size w8 (w8.alloc ob) := (Below.refl _ w8).alloc (Nat.le_refl _) _
  exact (hg.block g (Nat.lt_of_lt_of_le C8.lt bA.size) (fun e => by have := (World.ownsRow.lt O8 g e.symm).1; omega)).trans (C8.over bA)
/-- one more waits -/
theorem RQu.wait {P Q : Nat → Prop} {w1 w8 w9 : World} {g : Nat} {r : Pr} {v : PrV} {z : List (Value × Value)} {x : Int × Pkt} {y : Value × Value} {ob : Obj} {v' : Value} (hgw : g < w1.heap.size)
    (C8 : CAt 47 w8 g (prC r v)) (P8 : PInQ Q w8 r v) (hq1 : ∀ b, Q b → New P w1 0 b) (hq2 : ¬ Q g) (hq4 : ∀ b, v.q.ownBlock = some b → ¬ Q b) (hl : z.length = r.q.length) (O8 : w8.ownsRow w1.heap.size 79 7 v.q r.q.length (quL r.q z)) (hi : ∀ (i : Nat) (x : Int × Pkt) (y : Value × Value), r.q[i]? = some x → z[i]? = some y → Rep P w1 y.1 2 16 (pwC x.2.S) ∧ Rep P w1 y.2 1 8 (inC x.2.D)) (A8 : Alt g w1 w8) (I8 : InvQ r)
    (hin : Rep P w1 y.1 2 16 (pwC x.2.S) ∧ Rep P w1 y.2 1 8 (inC x.2.D)) (ho : w9.ownsRow w1.heap.size 79 7 v' (r.q.length + 1) (quL r.q z ++ akL x y)) (hg : (w8.alloc ob).grownBy w9 v.q.ownBlock) (hat : v'.ownBlock = v.q.ownBlock ∨ v'.ownBlock = some (w8.alloc ob).heap.size) :
    RQu P w1 g { r with q := r.q ++ [x] } (w9.setCell ⟨g, 96, none⟩ v') := by
  have bA : Below w8.heap.size w8 (w8.alloc ob) := (Below.refl _ w8).alloc (Nat.le_refl _) _
  have hsz := bA.size
  have hown : ∀ b, v.q.ownBlock = some b → w1.heap.size ≤ b ∧ b < w8.heap.size := fun b e => World.ownsRow.lt O8 b e
  have C9 : CAt 47 w9 g (prC r v) := (hg.block g (Nat.lt_of_lt_of_le C8.lt hsz) (fun e => by have := (hown g e.symm).1; omega)).trans (C8.over bA)
  have hne : ∀ b, b < w8.heap.size → Q b → some b ≠ v'.ownBlock := fun b hb hq e => by
    rcases hat with h | h
    · exact hq4 b (by rw [← h, e]) hq
    · rw [h] at e; cases e; omega
  have P9 : PInQ (fun b => Q b ∧ some b ≠ v'.ownBlock) w9 r v := ((P8.mono (P' := fun b => (Q b ∧ some b ≠ v'.ownBlock)) fun b hl' hb => ⟨hb, hne b hl' hb⟩).over bA).keep fun b hb hlt => hg.block b hlt fun e => hq4 b e.symm hb.1
  have hqg : ¬ (fun b => Q b ∧ some b ≠ v'.ownBlock) g := fun h => hq2 h.1
  have C10 := C9.set 96 v'
  rw [pr_q3 r v (r.q ++ [x]) v'] at C10
  have P10 := P9.put hqg 96 v'
  have hog : ∀ b, v'.ownBlock = some b → b ≠ g := fun b e hbg => by
    have := (World.ownsRow.lt ho b e).1
    omega
  have O10 := Ln.own_of ho (w' := w9.setCell ⟨g, 96, none⟩ v') fun b e => Below.heap_setCell w9 ⟨g, 96, none⟩ v' b (show b ≠ g from hog b e)
  have A9 : Alt g w1 w9 := ⟨hg.os.trans A8.os, hg.tape.trans A8.tape, hg.output.trans A8.output, Nat.le_trans A8.size (Nat.le_trans hsz hg.size), fun k hk hn => ((hg.block k (by have := A8.size; omega) (fun e => by have := (hown k e.symm).1; omega)).trans (bA.block k (by have := A8.size; omega))).trans (A8.block k hk hn)⟩
  refine ⟨⟨{ v with q := v' }, _, z ++ [y], C10, ⟨P10.ws, P10.set, P10.lk, (by obtain ⟨A, C, e⟩ := Ln.own_form ho; exact ⟨A, _, C, e⟩)⟩, fun b h => hq1 b h.1, hqg, fun b e h => h.2 e.symm, by simp [hl], ?_, fun i a b ha hb => ?_⟩, A9.put 96 v', I8⟩
  · rw [quL_app r.q z x y hl, List.length_append]
    exact O10
  · by_cases h : i < r.q.length
    · rw [List.getElem?_append_left h] at ha
      rw [List.getElem?_append_left (by rw [hl]; exact h)] at hb
      exact hi i a b ha hb
    · rw [List.getElem?_append_right (by omega)] at ha
      rw [List.getElem?_append_right (by rw [hl]; omega), hl] at hb
      rcases Nat.eq_zero_or_pos (i - r.q.length) with h0 | h0
      · rw [h0] at ha hb
        simp at ha hb
        subst ha hb
        exact hin
      · rw [List.getElem?_eq_none (by simp; omega)] at ha
        cases ha
theorem new_not' {P : Nat → Prop} {w : World} {g j : Nat} (hP : ¬ P g) (hg : g < w.heap.size) : ¬ New P w j g := fun h => by
  rcases h with ⟨h, _⟩ | h
  · exact hP h
  · omega
theorem RQu.start {P : Nat → Prop} {w1 : World} {g : Nat} {p : Pr} {v : PrV} (hC : CAt 47 w1 g (prC { p with q := [] } v)) (hvq : v.q = .slice none 0 0) (hp : PInQ P w1 { p with q := [] } v) (hg : ¬ P g) (hi : InvQ p) : RQu P w1 g { p with q := [] } w1 := by
  refine ⟨⟨v, fun b => P b ∧ b < w1.heap.size, [], hC, hp.mono fun b hl h => ⟨h, hl⟩, fun b h => .inl h, fun h => hg h.1, fun b e => ?_, rfl, ?_, fun i x y h => ?_⟩, Alt.of (Below.refl _ _), hi⟩
  · rw [hvq] at e; cases e
  · rw [hvq]; exact World.ownsRow_nil _ _ _ _
  · cases h
noncomputable def rqC : Code := subC [1, 1, 1, 1, 1, 1, 1, 1, 0] (Tryz.f17.body.getD .skip)
attribute [local go_sem ↓] loadS_eq loadP_eq storeP_eq storeS_eq
set_option maxRecDepth 1000000 in
set_option maxHeartbeats 16000000 in
theorem rqueue_piece (p : Pr) (P : Nat → Prop) (w1 : World) (g : Nat) (q : List (Int × Pkt)) (zq : List (Value × Value)) (Aq : Option Addr) (Cq : Nat) (hgw : g < w1.heap.size) (hg : ¬ P g) (h0 : RQu P w1 g { p with q := [] } w1) (hl : zq.length = q.length) (hr : Rep P w1 (.slice Aq q.length Cq) 7 80 (quL q zq)) (hi : ∀ (i : Nat) (x : Int × Pkt) (y : Value × Value), q[i]? = some x → zq[i]? = some y → Rep P w1 y.1 2 16 (pwC x.2.S) ∧ Rep P w1 y.2 1 8 (inC x.2.D)) (hok : ∀ a ∈ q, (0 ≤ a.1 ∧ a.1 < 2) ∧ okPv a.2) (h88 : q.length * 88 ≤ 140737488351232) (v0 v1 v2 v3 v4 v5 v6 v9 v10 v11 v12 v13 v14 v15 v16 v17 v18 v19 v20 v21 v22 v23 v24 v25 v26 v27 v28 v29 v30 v31 v32 v33 v34 v35 v36 v37 v38 v39 v40 v41 v42 v43 v44 v45 v46 v47 v48 v49 v50 v51 v52 v53 v54 v55 v56 v57 v58 v59 v60 v61 v62 v63 v64 v65 v66 v67 v68 v69 v70 v71 v72 v73 v74 v75 v76 v77 v78 v79 v80 v81 v82 v83 v84 v85 v86 v87 v88 v89 v90 v91 v92 v93 v94 v95 v96 v97 v98 v99 v100 v101 v102 v103 v104 v105 v106 v107 v108 v109 v110 v111 v112 v113 v114 v115 v116 v117 v118 v119 v120 v121 v122 v123 v124 v125 v126 v127 v128 v129 v130 v131 v132 v133 v134 v135 v136 v137 v138 v139 v140 v141 v142 v143 v144 v145 v146 v147 v148 v149 v150 v151 v152 v153 v154 v155 v156 v157 v158 v159 v160 v161 v162 v163 v164 v165 v166 v167 v168 v169 v170 v171 v172 v173 v174 v175 v176 v177 v178 v179 v180 v181 v182 v183 v184 v185 v186 v187 v188 : Value) {Q : Exit → Act → World → Prop}
    (hQ : ∀ (t9 t10 t11 t12 t13 t14 t55 t56 t57 t58 t59 t60 t61 t62 t63 t64 t65 t66 t67 t68 t69 t70 t71 t72 t73 t74 t75 t76 t77 t78 t79 t80 t81 t82 t83 t84 t85 t86 t87 t88 t89 t90 t91 t92 t93 : Value) (wz : World), RQu P w1 g (q.foldl refStep { p with q := [] }) wz → Q .normal ⟨List.toArray (v0 :: v1 :: v2 :: v3 :: v4 :: v5 :: v6 :: (.pointer (some ⟨g, 0, none⟩)) :: (.slice Aq q.length Cq) :: t9 :: t10 :: t11 :: t12 :: t13 :: t14 :: v15 :: v16 :: v17 :: v18 :: v19 :: v20 :: v21 :: v22 :: v23 :: v24 :: v25 :: v26 :: v27 :: v28 :: v29 :: v30 :: v31 :: v32 :: v33 :: v34 :: v35 :: v36 :: v37 :: v38 :: v39 :: v40 :: v41 :: v42 :: v43 :: v44 :: v45 :: v46 :: v47 :: v48 :: v49 :: v50 :: v51 :: v52 :: v53 :: v54 :: t55 :: t56 :: t57 :: t58 :: t59 :: t60 :: t61 :: t62 :: t63 :: t64 :: t65 :: t66 :: t67 :: t68 :: t69 :: t70 :: t71 :: t72 :: t73 :: t74 :: t75 :: t76 :: t77 :: t78 :: t79 :: t80 :: t81 :: t82 :: t83 :: t84 :: t85 :: t86 :: t87 :: t88 :: t89 :: t90 :: t91 :: t92 :: t93 :: v94 :: v95 :: v96 :: v97 :: v98 :: v99 :: v100 :: v101 :: v102 :: v103 :: v104 :: v105 :: v106 :: v107 :: v108 :: v109 :: v110 :: v111 :: v112 :: v113 :: v114 :: v115 :: v116 :: v117 :: v118 :: v119 :: v120 :: v121 :: v122 :: v123 :: v124 :: v125 :: v126 :: v127 :: v128 :: v129 :: v130 :: v131 :: v132 :: v133 :: v134 :: v135 :: v136 :: v137 :: v138 :: v139 :: v140 :: v141 :: v142 :: v143 :: v144 :: v145 :: v146 :: v147 :: v148 :: v149 :: v150 :: v151 :: v152 :: v153 :: v154 :: v155 :: v156 :: v157 :: v158 :: v159 :: v160 :: v161 :: v162 :: v163 :: v164 :: v165 :: v166 :: v167 :: v168 :: v169 :: v170 :: v171 :: v172 :: v173 :: v174 :: v175 :: v176 :: v177 :: v178 :: v179 :: v180 :: v181 :: v182 :: v183 :: v184 :: v185 :: v186 :: v187 :: v188 :: []), []⟩ wz) :
    Code.wp Tryz.prog rqC Q ⟨List.toArray (v0 :: v1 :: v2 :: v3 :: v4 :: v5 :: v6 :: (.pointer (some ⟨g, 0, none⟩)) :: (.slice Aq q.length Cq) :: v9 :: v10 :: v11 :: v12 :: v13 :: v14 :: v15 :: v16 :: v17 :: v18 :: v19 :: v20 :: v21 :: v22 :: v23 :: v24 :: v25 :: v26 :: v27 :: v28 :: v29 :: v30 :: v31 :: v32 :: v33 :: v34 :: v35 :: v36 :: v37 :: v38 :: v39 :: v40 :: v41 :: v42 :: v43 :: v44 :: v45 :: v46 :: v47 :: v48 :: v49 :: v50 :: v51 :: v52 :: v53 :: v54 :: v55 :: v56 :: v57 :: v58 :: v59 :: v60 :: v61 :: v62 :: v63 :: v64 :: v65 :: v66 :: v67 :: v68 :: v69 :: v70 :: v71 :: v72 :: v73 :: v74 :: v75 :: v76 :: v77 :: v78 :: v79 :: v80 :: v81 :: v82 :: v83 :: v84 :: v85 :: v86 :: v87 :: v88 :: v89 :: v90 :: v91 :: v92 :: v93 :: v94 :: v95 :: v96 :: v97 :: v98 :: v99 :: v100 :: v101 :: v102 :: v103 :: v104 :: v105 :: v106 :: v107 :: v108 :: v109 :: v110 :: v111 :: v112 :: v113 :: v114 :: v115 :: v116 :: v117 :: v118 :: v119 :: v120 :: v121 :: v122 :: v123 :: v124 :: v125 :: v126 :: v127 :: v128 :: v129 :: v130 :: v131 :: v132 :: v133 :: v134 :: v135 :: v136 :: v137 :: v138 :: v139 :: v140 :: v141 :: v142 :: v143 :: v144 :: v145 :: v146 :: v147 :: v148 :: v149 :: v150 :: v151 :: v152 :: v153 :: v154 :: v155 :: v156 :: v157 :: v158 :: v159 :: v160 :: v161 :: v162 :: v163 :: v164 :: v165 :: v166 :: v167 :: v168 :: v169 :: v170 :: v171 :: v172 :: v173 :: v174 :: v175 :: v176 :: v177 :: v178 :: v179 :: v180 :: v181 :: v182 :: v183 :: v184 :: v185 :: v186 :: v187 :: v188 :: []), []⟩ w1 := by
  obtain ⟨i0, hi0, hz0, hz1, hz2⟩ := info_parts infoAs
  have HK := hide hQ
  clear hQ
  conv => arg 2; whnf
  obtain ⟨Aq', Cq', eq, -, -, hcq, -⟩ := hr.open (quL_length _ _ hl) (by decide)
  cases eq
  have HCQ := hide hcq
  have HZ := hide (show _ ∧ _ ∧ _ from ⟨hl, hi, hok⟩)
  have H0 := hide h0
  have hqlen : q.length ≤ 1599289640354 := by omega
  clear hcq hl hi hok h0 hr
  go_upto_region 10 with fail
  go_loopw [57] (fun i wl => ∃ (k : Nat), k ≤ q.length ∧ i = .int .i64 (k : Int) ∧ Hid (RQu P w1 g ((q.take k).foldl refStep { p with q := [] }) wl ∧ ((q.take k).foldl refStep { p with q := [] }).q.length ≤ k)) (fun i _ => q.length - (intOf i).toNat)
  case atStart => exact ⟨0, Nat.zero_le _, rfl, H0.out, Nat.le_refl _⟩
  case round =>
    obtain ⟨k, hk, rfl, HR⟩ := hrel
    by_cases hlt : k < q.length
    rotate_left
    · obtain rfl : k = q.length := by omega
      have hz := HR.out.1
      rw [List.take_length] at hz
      have HZZ := hide hz
      clear hz HR
      go_wp2
      exact HK.out _ _ _ _ _ _ _ _ _ _ _ _ _ _ _ _ _ _ _ _ _ _ _ _ _ _ _ _ _ _ _ _ _ _ _ _ _ _ _ _ _ _ _ _ _ _ HZZ.out
    have hkI : (k : Int) < (q.length : Int) := by omega
    have hk0 : (0 : Int) ≤ (k : Int) := by omega
    have hx : q[k]? = some q[k] := List.getElem?_eq_getElem hlt
    have hzk : k < zq.length := by rw [HZ.out.1]; exact hlt
    have hy : zq[k]? = some zq[k] := List.getElem?_eq_getElem hzk
    have hin := HZ.out.2.1 k _ _ hx hy
    have hoka := HZ.out.2.2 _ (List.getElem_mem hlt)
    have hst : (q.take (k + 1)).foldl refStep { p with q := [] } = refStep ((q.take k).foldl refStep { p with q := [] }) q[k] := by rw [List.take_succ_eq_append_getElem hlt, List.foldl_append]; rfl
    have HST := hide hst
    generalize (q.take k).foldl refStep { p with q := [] } = r at *
    obtain ⟨bq, oq, rfl, hPb, hbl, hcell⟩ := HCQ.out (by omega)
    have hbg : bq ≠ g := fun e => hg (e ▸ hPb)
    have hc : ∀ j, j < 7 → ∀ u, (akL q[k] zq[k])[j]? = some u → wr.cell? ⟨bq, oq + k * 7 + j, none⟩ = some u := fun j hj u hu => by
      rw [World.cell?_of_block (w := w1) (a := ⟨bq, oq + k * 7 + j, none⟩) (HR.out.1.A.block bq hbl hbg), Nat.add_assoc]
      exact hcell _ _ ((quL_get q zq k _ _ j hx hy hj).trans hu)
    have e0 := hc 0 (by omega) _ rfl
    have e1 := hc 1 (by omega) _ rfl
    have e2 := hc 2 (by omega) _ rfl
    have e3 := hc 3 (by omega) _ rfl
    have e4 := hc 4 (by omega) _ rfl
    have e5 := hc 5 (by omega) _ rfl
    have e6 := hc 6 (by omega) _ rfl
    rw [Nat.add_zero] at e0
    generalize q[k] = x at *
    generalize zq[k] = y at *
    obtain ⟨y1, y2⟩ := y
    dsimp only at hin e5 e6
    obtain ⟨⟨B1, n1, D1, ey1, -⟩, ⟨B2, n2, D2, ey2, -⟩⟩ := id hin
    subst ey1 ey2
    obtain ⟨x1, x2⟩ := x
    dsimp only at hoka hin e0 e1 e2 e3 e4
    obtain ⟨m, rfl⟩ : ∃ m : Nat, x1 = (m : Int) := ⟨x1.toNat, by omega⟩
    have hm2 : m < 2 := by omega
    have HIN := hide hin
    have HOK := hide hoka
    have bA : Below wr.heap.size wr (wr.alloc (.cells #[.int .i64 (m : Int), .int .i64 x2.k, .int .i64 x2.i, .int .i64 x2.v, .int .i64 x2.n, .slice B1 n1 D1, .slice B2 n2 D2] 79)) := (Below.refl _ wr).alloc (Nat.le_refl _) _
    have K5 := CAt.new 79 wr #[.int .i64 (m : Int), .int .i64 x2.k, .int .i64 x2.i, .int .i64 x2.v, .int .i64 x2.n, .slice B1 n1 D1, .slice B2 n2 D2]
    clear hc hcell hx hy hin hst hbl hPb hbg hoka
    go_upto_region 13 with fail
    clear e0 e1 e2 e3 e4 e5 e6
    obtain ⟨w5, ew5⟩ : ∃ w5, w5 = wr.alloc (.cells #[.int .i64 (m : Int), .int .i64 x2.k, .int .i64 x2.i, .int .i64 x2.v, .int .i64 x2.n, .slice B1 n1 D1, .slice B2 n2 D2] 79) := ⟨_, rfl⟩
    rw [← ew5] at K5 bA
    rw [← ew5]
    clear ew5
    obtain ⟨⟨v5, Q5, z5, C5, P5, hq1, hq2, hq4, hzl5, O5, hi5⟩, A5, I5⟩ := HR.out.1
    obtain ⟨AL, CL, eL⟩ := Ln.own_form O5
    have hgr : g < wr.heap.size := C5.lt
    have C6 := C5.over bA
    have P6 := P5.over bA
    have A6 := A5.trans (Alt.of bA)
    have O6 := Ln.own_over O5 bA
    have c96 : w5.cell? ⟨g, 96, none⟩ = some (.slice AL r.q.length CL) := by rw [← eL]; exact C6.cell 96
    have hz5 := bA.size
    have hrl := HR.out.2
    have R6 := Rep.own (bts := 80) O6 (by omega)
    rw [eL] at R6
    obtain ⟨AL', CL', eL', -, -, hcl, -⟩ := R6.open (quL_length _ _ hzl5) (by decide)
    cases eL'
    have HCL := hide hcl
    have H6 := hide (show _ ∧ _ ∧ _ ∧ _ ∧ _ ∧ _ ∧ _ ∧ _ ∧ _ ∧ _ ∧ _ from ⟨C6, P6, A6, O6, K5, I5, hq1, hq2, hq4, hzl5, hi5⟩)
    have HEL := hide eL
    have hr5 : wr.heap.size < w5.heap.size := K5.lt
    clear C5 P5 A5 O5 C6 P6 A6 O6 K5 I5 hq1 hq2 hq4 hzl5 hi5 R6 hcl eL HR bA
    go_upto_region 14 with fail
    go_loopw [11, 64] (fun b j wl => ∃ (m' : Nat), m' ≤ r.q.length ∧ j = .int .i64 (m' : Int) ∧ b = .bool (anyC (r.q.take m') (m : Int)) ∧ Hid (Below w5.heap.size w5 wl)) (fun _ j _ => r.q.length - (intOf j).toNat)
    case atStart => exact ⟨0, Nat.zero_le _, rfl, rfl, Below.refl _ _⟩
    case round =>
      rename World => wo
      obtain ⟨m', hm', rfl, rfl, HB⟩ := hrel
      by_cases hml : m' < r.q.length
      · have hmI : (m' : Int) < (r.q.length : Int) := by omega
        have hm0 : (0 : Int) ≤ (m' : Int) := by omega
        have hx : r.q[m']? = some r.q[m'] := List.getElem?_eq_getElem hml
        have hzk' : m' < z5.length := by rw [H6.out.2.2.2.2.2.2.2.2.2.1]; exact hml
        have hy : z5[m']? = some z5[m'] := List.getElem?_eq_getElem hzk'
        have hin := H6.out.2.2.2.2.2.2.2.2.2.2 m' _ _ hx hy
        obtain ⟨bl, ol, rfl, -, hbl, hcell⟩ := HCL.out (by omega)
        have hc : ∀ j, j < 7 → ∀ u, (akL r.q[m'] z5[m'])[j]? = some u → wo.cell? ⟨bl, ol + m' * 7 + j, none⟩ = some u := fun j hj u hu => by
          rw [HB.out.cell (p := ⟨bl, ol + m' * 7 + j, none⟩) hbl, Nat.add_assoc]
          exact hcell _ _ ((quL_get r.q z5 m' _ _ j hx hy hj).trans hu)
        have e0 := hc 0 (by omega) _ rfl
        have e1 := hc 1 (by omega) _ rfl
        have e2 := hc 2 (by omega) _ rfl
        have e3 := hc 3 (by omega) _ rfl
        have e4 := hc 4 (by omega) _ rfl
        have e5 := hc 5 (by omega) _ rfl
        have e6 := hc 6 (by omega) _ rfl
        rw [Nat.add_zero] at e0
        have htk : r.q.take (m' + 1) = r.q.take m' ++ [r.q[m']] := List.take_succ_eq_append_getElem hml
        have HAN : Hid (anyC (r.q.take (m' + 1)) (m : Int) = (anyC (r.q.take m') (m : Int) || (r.q[m'].1 == (m : Int)))) := by rw [Hid, htk, any_app]
        generalize r.q[m'] = x' at *
        generalize z5[m'] = y' at *
        obtain ⟨y3, y4⟩ := y'
        dsimp only at hin e5 e6
        obtain ⟨⟨E1, l1, F1, ey1, -⟩, ⟨E2, l2, F2, ey2, -⟩⟩ := id hin
        subst ey1 ey2
        obtain ⟨x1, x3⟩ := x'
        dsimp only at hin e0 e1 e2 e3 e4 HAN
        have kk : wo.cell? ⟨wr.heap.size, 0, none⟩ = some (.int .i64 (m : Int)) := (HB.out.cell (p := ⟨wr.heap.size, 0, none⟩) hr5).trans (H6.out.2.2.2.2.1.cell 0)
        have hwo : wr.heap.size < wo.heap.size := Nat.lt_of_lt_of_le hr5 HB.out.size
        have HB2 := hide (HB.out.alloc HB.out.size (.cells #[.int .i64 x1, .int .i64 x3.k, .int .i64 x3.i, .int .i64 x3.v, .int .i64 x3.n, .slice E1 l1 F1, .slice E2 l2 F2] 79))
        clear hc hcell hx hy hin htk hbl HB
        generalize anyC (r.q.take m') (m : Int) = fl at *
        cases fl
        · go_wp2
          go_roundw
          case rel => exact ⟨m' + 1, by omega, by go_num, by rw [HAN.out, Bool.false_or], HB2⟩
          case measure => simp [intOf]; omega
        · go_wp2
          go_roundw
          case rel => exact ⟨m' + 1, by omega, by go_num, by rw [HAN.out, Bool.true_or], HB2⟩
          case measure => simp [intOf]; omega
      · obtain rfl : m' = r.q.length := by omega
        rw [List.take_length]
        obtain ⟨fl, hfl⟩ : ∃ fl, anyC r.q (m : Int) = fl := ⟨_, rfl⟩
        rw [hfl]
        have HFL := hide hfl
        clear hfl
        have C7 := H6.out.1.over HB.out
        have P7 := H6.out.2.1.over HB.out
        have A7 := H6.out.2.2.1.trans (Alt.of HB.out)
        have O7 := Ln.own_over H6.out.2.2.2.1 HB.out
        have K7 := H6.out.2.2.2.2.1.over HB.out
        have HQS := hide H6.out.2.2.2.2.2
        have H7 := hide (show _ ∧ _ ∧ _ ∧ _ ∧ _ from ⟨C7, P7, A7, O7, K7⟩)
        have hg7 := C7.lt
        have hw7 : wr.heap.size < wo.heap.size := K7.lt
        have hs7 : w1.heap.size ≤ wo.heap.size := A7.size
        have k0 : wo.cell? ⟨wr.heap.size, 0, none⟩ = some (.int .i64 (m : Int)) := K7.cell 0
        have k1 : wo.cell? ⟨wr.heap.size, 0 + 1, none⟩ = some (.int .i64 x2.k) := K7.cell 1
        have k2 : wo.cell? ⟨wr.heap.size, 0 + 2, none⟩ = some (.int .i64 x2.i) := K7.cell 2
        have k3 : wo.cell? ⟨wr.heap.size, 0 + 3, none⟩ = some (.int .i64 x2.v) := K7.cell 3
        have k4 : wo.cell? ⟨wr.heap.size, 0 + 4, none⟩ = some (.int .i64 x2.n) := K7.cell 4
        have k5 : wo.cell? ⟨wr.heap.size, 0 + 5, none⟩ = some (.slice B1 n1 D1) := K7.cell 5
        have k6 : wo.cell? ⟨wr.heap.size, 0 + 6, none⟩ = some (.slice B2 n2 D2) := K7.cell 6
        have c96' : wo.cell? ⟨g, 96, none⟩ = some (.slice AL r.q.length CL) := by rw [← HEL.out]; exact C7.cell 96
        have f96 := C7.free 96
        clear C7 P7 A7 O7 K7 H6 HCL HB c96
        cases fl
        · -- none of its consumer waits
          have hsp : refStep r ((m : Int), x2) = if (dealP r m x2).2 = true then (dealP r m x2).1 else { (dealP r m x2).1 with q := r.q ++ [((m : Int), x2)] } := by
            unfold refStep
            rw [if_neg (by rw [HFL.out]; simp), Int.toNat_natCast]
          have HSP := hide hsp
          have HDF := hide (fun h => deal_false (p := r) (c := m) (x := x2) h)
          have HDQ := hide (deal_q r m x2)
          have HIV := hide (inv_deal HQS.out.1 m (x := x2) ⟨HOK.out.2.1, fun _ => HOK.out.2.2⟩)
          have HDL := hide (rdeal_any r v5 Q5 wo m hm2 x2 (.slice B1 n1 D1) (.slice B2 n2 D2) H7.out.2.1 HQS.out.1.1 HOK.out.2.1 HOK.out.2.2.1 HOK.out.2.2.2 ⟨_, _, _, rfl⟩ ⟨_, _, _, rfl⟩)
          have l7 := pr_loadP H7.out.1 (prC_size _ _)
          clear hsp
          generalize dealP r m x2 = dl at *
          obtain ⟨r', b'⟩ := dl
          dsimp only at HSP HDF HDQ HIV HDL
          go_upto_region 21 with (go_at_call 48; refine HDL.out.mono ?_; rintro e w8 ⟨v8, rfl, P8, hv8, hb8⟩; dsimp only at P8; clear l7 k0 k1 k2 k3 k4 k5 k6; have s8 := pr_storeP (H7.out.1.over hb8) (prC_size _ _) (prC_size r' v8) P8.one; have HD8 := hide (show _ ∧ _ ∧ _ from ⟨P8, hv8, hb8⟩); clear P8 hv8 hb8; dsimp only)
          have hz8 := HD8.out.2.2.size
          have hng : ¬ New Q5 wo 3 g := new_not' HQS.out.2.2.1 hg7
          have C9 := (H7.out.1.over HD8.out.2.2).setAll (ds := prC r' v8) (by rw [prC_size, prC_size])
          have P9 := HD8.out.1.sets (g := g) hng 0 (prC r' v8).toList
          have A9 := (H7.out.2.2.1.trans (Alt.of HD8.out.2.2)).sets (prC r' v8).toList 0
          have hown : ∀ b, v5.q.ownBlock = some b → w1.heap.size ≤ b ∧ b < wo.heap.size := fun b e => World.ownsRow.lt H7.out.2.2.2.1 b e
          have O9 := Ln.own_of (Ln.own_over H7.out.2.2.2.1 HD8.out.2.2) (w' := w8.setCells g 0 (prC r' v8).toList) fun b e => heap_sets (show b ≠ g by have := (hown b e).1; omega) _ _ _
          have K9 := (H7.out.2.2.2.2.over HD8.out.2.2).others (c := g) (o := 0) (by omega) (prC r' v8).toList
          rw [← HD8.out.2.1] at O9
          have hq9 : ∀ b, v8.q.ownBlock = some b → ¬ New Q5 wo 3 b := fun b e => by
            rw [HD8.out.2.1] at e
            exact new_not' (HQS.out.2.2.2.1 b e) (hown b e).2
          have hq91 : ∀ b, New Q5 wo 3 b → New P w1 0 b := fun b h => by
            rcases h with ⟨h, _⟩ | h
            · exact HQS.out.2.1 b h
            · exact .inr (by omega)
          have HEQ9 := hide (HD8.out.2.1.trans HEL.out)
          have H9 := hide (show _ ∧ _ ∧ _ ∧ _ ∧ _ ∧ _ ∧ _ ∧ _ from ⟨C9, P9, A9, O9, K9, hq91, hng, hq9⟩)
          clear C9 P9 A9 O9 K9 hown hq9 hq91 hng HD8 s8 HDL c96' f96 H7 hz8
          generalize w8.setCells g 0 (prC r' v8).toList = w9 at *
          cases b'
          · have e := HDF.out rfl
            subst e
            replace HSP := hide (HSP.out.trans (if_neg (by simp)))
            have hg9' := H9.out.1.lt
            have hw9' : wr.heap.size < w9.heap.size := H9.out.2.2.2.2.1.lt
            have hs9 : w1.heap.size ≤ w9.heap.size := H9.out.2.2.1.size
            have k0 : w9.cell? ⟨wr.heap.size, 0, none⟩ = some (.int .i64 (m : Int)) := H9.out.2.2.2.2.1.cell 0
            have k1 : w9.cell? ⟨wr.heap.size, 0 + 1, none⟩ = some (.int .i64 x2.k) := H9.out.2.2.2.2.1.cell 1
            have k2 : w9.cell? ⟨wr.heap.size, 0 + 2, none⟩ = some (.int .i64 x2.i) := H9.out.2.2.2.2.1.cell 2
            have k3 : w9.cell? ⟨wr.heap.size, 0 + 3, none⟩ = some (.int .i64 x2.v) := H9.out.2.2.2.2.1.cell 3
            have k4 : w9.cell? ⟨wr.heap.size, 0 + 4, none⟩ = some (.int .i64 x2.n) := H9.out.2.2.2.2.1.cell 4
            have k5 : w9.cell? ⟨wr.heap.size, 0 + 5, none⟩ = some (.slice B1 n1 D1) := H9.out.2.2.2.2.1.cell 5
            have k6 : w9.cell? ⟨wr.heap.size, 0 + 6, none⟩ = some (.slice B2 n2 D2) := H9.out.2.2.2.2.1.cell 6
            have c96' : w9.cell? ⟨g, 96, none⟩ = some (.slice AL r'.q.length CL) := by rw [← HEQ9.out]; exact H9.out.1.cell 96
            have f96 := H9.out.1.free 96
            have ho9' := World.ownsRow.alloc H9.out.2.2.2.1 (.cells #[.int .i64 (m : Int), .int .i64 x2.k, .int .i64 x2.i, .int .i64 x2.v, .int .i64 x2.n, .slice B1 n1 D1, .slice B2 n2 D2] 79)
            have HO9 := hide ho9'
            clear ho9'
            go_upto_region 23 with (at_builtin; refine wpList_append_own_at _ rfl _ _ 45 rfl w1.heap.size 79 i0 (.agg #[.int .i64 0, .int .i64 0, .int .i64 0, .int .i64 0, .int .i64 0, .slice none 0 0, .slice none 0 0]) 7 88 Tryz.underlying45 hi0 hz0 hz1 hz2 rfl (by decide) _ _ _ rfl (by rw [← HEQ9.out]; exact HO9.out) ⟨w9.heap.size, 0, none⟩ 1 1 (akL ((m : Int), x2) (.slice B1 n1 D1, .slice B2 n2 D2)) rfl rfl (ask_news w9 ((m : Int), x2) (.slice B1 n1 D1, .slice B2 n2 D2) 79) (fun u hu => by simp only [akL, List.mem_cons, List.not_mem_nil, or_false] at hu; rcases hu with rfl | rfl | rfl | rfl | rfl | rfl | rfl <;> rfl) (by unfold maxLen; omega) (by omega) (by simp; omega) ?_; intro v9 w10 ho9 hgrow _ hat; rw [← HEQ9.out] at hgrow hat; obtain ⟨A9, C9, ev9⟩ := Ln.own_form ho9; subst ev9; have X9 := grown_cat hgw H9.out.1 H9.out.2.2.2.1 hgrow; have c9 : w10.cell? ⟨g, 96, none⟩ = some v8.q := X9.cell 96; rw [HEQ9.out] at c9; have f9 := X9.free 96; have hg9 := X9.lt; have HW9 := hide (show _ ∧ _ ∧ _ from ⟨ho9, hgrow, hat⟩); clear ho9 hgrow hat X9 k0 k1 k2 k3 k4 k5 k6 c96' f96)
            have HN : Hid (RQu P w1 g { r' with q := r'.q ++ [((m : Int), x2)] } (w10.setCell ⟨g, 96, none⟩ (.slice A9 (r'.q.length + 1) C9))) := RQu.wait hgw H9.out.1 H9.out.2.1 H9.out.2.2.2.2.2.1 H9.out.2.2.2.2.2.2.1 H9.out.2.2.2.2.2.2.2 HQS.out.2.2.2.2.1 H9.out.2.2.2.1 HQS.out.2.2.2.2.2 H9.out.2.2.1 HQS.out.1 HIN.out HW9.out.1 HW9.out.2.1 HW9.out.2.2
            clear c9 f9
            go_wp2
            exact ⟨⟨k + 1, by omega, by go_num, by rw [HST.out, HSP.out]; exact ⟨HN.out, by simp; omega⟩⟩, by simp [intOf]; omega⟩
          · replace HSP := hide (HSP.out.trans (if_pos rfl))
            have HN : Hid (RQu P w1 g r' w9) := ⟨⟨v8, _, z5, H9.out.1, H9.out.2.1, H9.out.2.2.2.2.2.1, H9.out.2.2.2.2.2.2.1, H9.out.2.2.2.2.2.2.2, by rw [HDQ.out]; exact HQS.out.2.2.2.2.1, by rw [HDQ.out]; exact H9.out.2.2.2.1, by rw [HDQ.out]; exact HQS.out.2.2.2.2.2⟩, H9.out.2.2.1, HIV.out⟩
            have hdq := HDQ.out
            go_wp2
            exact ⟨⟨k + 1, by omega, by go_num, by rw [HST.out, HSP.out]; exact ⟨HN.out, by rw [HDQ.out]; omega⟩⟩, by simp [intOf]; omega⟩
        · -- one of its consumer waits
          have HSP : Hid (refStep r ((m : Int), x2) = { r with q := r.q ++ [((m : Int), x2)] }) := by
            unfold refStep
            exact if_pos HFL.out
          have ho7 := World.ownsRow.alloc H7.out.2.2.2.1 (.cells #[.int .i64 (m : Int), .int .i64 x2.k, .int .i64 x2.i, .int .i64 x2.v, .int .i64 x2.n, .slice B1 n1 D1, .slice B2 n2 D2] 79)
          have HO7 := hide ho7
          clear ho7
          go_upto_region 23 with (at_builtin; refine wpList_append_own_at _ rfl _ _ 45 rfl w1.heap.size 79 i0 (.agg #[.int .i64 0, .int .i64 0, .int .i64 0, .int .i64 0, .int .i64 0, .slice none 0 0, .slice none 0 0]) 7 88 Tryz.underlying45 hi0 hz0 hz1 hz2 rfl (by decide) _ _ _ rfl (by rw [← HEL.out]; exact HO7.out) ⟨wo.heap.size, 0, none⟩ 1 1 (akL ((m : Int), x2) (.slice B1 n1 D1, .slice B2 n2 D2)) rfl rfl (ask_news wo ((m : Int), x2) (.slice B1 n1 D1, .slice B2 n2 D2) 79) (fun u hu => by simp only [akL, List.mem_cons, List.not_mem_nil, or_false] at hu; rcases hu with rfl | rfl | rfl | rfl | rfl | rfl | rfl <;> rfl) (by unfold maxLen; omega) (by omega) (by simp; omega) ?_; intro v9 w9 ho9 hgrow _ hat; rw [← HEL.out] at hgrow hat; obtain ⟨A9, C9, ev9⟩ := Ln.own_form ho9; subst ev9; have X9 := grown_cat hgw H7.out.1 H7.out.2.2.2.1 hgrow; have c9 : w9.cell? ⟨g, 96, none⟩ = some v5.q := X9.cell 96; rw [HEL.out] at c9; have f9 := X9.free 96; have hg9 := X9.lt; have HW9 := hide (show _ ∧ _ ∧ _ from ⟨ho9, hgrow, hat⟩); clear ho9 hgrow hat X9 k0 k1 k2 k3 k4 k5 k6 c96' f96)
          have HN : Hid (RQu P w1 g { r with q := r.q ++ [((m : Int), x2)] } (w9.setCell ⟨g, 96, none⟩ (.slice A9 (r.q.length + 1) C9))) := RQu.wait hgw H7.out.1 H7.out.2.1 HQS.out.2.1 HQS.out.2.2.1 HQS.out.2.2.2.1 HQS.out.2.2.2.2.1 H7.out.2.2.2.1 HQS.out.2.2.2.2.2 H7.out.2.2.1 HQS.out.1 HIN.out HW9.out.1 HW9.out.2.1 HW9.out.2.2
          clear c9 f9
          go_wp2
          exact ⟨⟨k + 1, by omega, by go_num, by rw [HST.out, HSP.out]; exact ⟨HN.out, by simp; omega⟩⟩, by simp [intOf]; omega⟩
end Go.Proofs.YtjghbciepinofaaGreat.Pv

