/- Parts of the proof: PRI PRJ PLE. -/
import Derived.Test.YtjghbciepinofaaGreatRows
import Derived.Test.YtjghbciepinofaaGreatPEK8
import Derived.Test.YtjghbciepinofaaGreatPEK14
import Derived.Test.YtjghbciepinofaaGreatPEK15
import Derived.Test.YtjghbciepinofaaGreatPEK16
import Derived.Test.YtjghbciepinofaaGreatPEK32
import Derived.Test.YtjghbciepinofaaGreatPEK37
import Derived.Test.YtjghbciepinofaaGreatPEK49
import Derived.Test.YtjghbciepinofaaGreatPEK52
import Derived.Test.YtjghbciepinofaaGreatPEK54
set_option maxRecDepth 100000
namespace Go.Proofs.YtjghbciepinofaaGreat.Pv
open Go.RowKit
theorem rst_pay {P : Nat → Prop} {w : World} {s : St} {u : Value} (hu : Rep P w u 8 64 (wsL s.W)) (t : Int) (hg : goodS s = true) : Calls Tryz.prog 49 #[.agg (stC s u), .int .i64 t] w fun e w' => ∃ u' x, e = .returned (.tuple #[.agg (stC (payS s t) u'), x, .int .i64 0]) ∧ Rep (fun b => w.heap.size ≤ b) w' u' 8 64 (wsL (payS s t).W) ∧ Rep (fun b => w.heap.size ≤ b) w' x 1 8 (inC (paidW t s.W)) ∧ Below w.heap.size w w' := by
  obtain ⟨A, C, b, o, rfl, W, -, -⟩ := hu.wsAt
  refine (rpayall_yes s A b o C t w W hg).mono ?_
  rintro e w' ⟨A', C', A2, C2, rfl, h1, h2, hb⟩
  have h60 := ((goodS_iff _).1 hg).2.2.2.1
  have hpl : (paidW t s.W).length ≤ s.W.length := by
    unfold paidW paidL
    rw [List.length_map]
    exact List.length_filter_le _ _
  exact ⟨_, _, rfl, OwnW.rep h1 (good_len (kp_pay hg t).good), OwnN.rep h2 (by omega), hb⟩
theorem rst_all {P : Nat → Prop} {w : World} {v : Value} {l : List (Int × Int)} (h : Rep P w v 2 16 (pwC l)) : Calls Tryz.prog 47 #[v] w fun e w' => e = .returned (.int .i64 (Df.allN l)) ∧ Below w.heap.size w w' := by
  obtain ⟨ao, c, b, off, rfl, hp⟩ := h.pin
  exact rall_any l ao c b off w hp
theorem rst_set {s : St} (hg : goodS s = true) (u : Value) (w : World) : Calls Tryz.prog 50 #[.agg (stC s u)] w fun e w' => ∃ v, e = .returned v ∧ Rep (fun b => w.heap.size ≤ b) w' v 2 16 (pwC (setS s.V)) ∧ Below w.heap.size w w' := rset_any s u w fun _ hk => vTok hg hk
/-- a provider's copy, under blocks of its own -/
theorem PIn.copy {w w1 wc wS : World} {p : Pr} {v : PrV} (h : PIn (fun b => w1.heap.size + 2 ≤ b) wc p v) (hw : w.heap.size ≤ w1.heap.size) (hb : Below wc.heap.size wc wS) : PIn (fun b => w.heap.size + 2 ≤ b ∧ b ≠ wc.heap.size) wS p v :=
  (h.mono (P' := fun b => w.heap.size + 2 ≤ b ∧ b ≠ wc.heap.size) fun b hl hb => ⟨by omega, by omega⟩).over hb
end Go.Proofs.YtjghbciepinofaaGreat.Pv

set_option maxRecDepth 100000
namespace Go.Proofs.YtjghbciepinofaaGreat.Pv
open Go.RowKit
attribute [local go_sem ↓] storeL_eq
attribute [local go_sem ↓] loadS_eq loadP_eq storeP_eq storeS_eq
set_option maxRecDepth 1000000 in
set_option maxHeartbeats 16000000 in
theorem rpend_any (p : Pr) (v : PrV) (P : Nat → Prop) (w : World) (now : Int) (hp : PIn P w p v) (hq88 : p.q.length * 88 ≤ 140737488351232) :
    Calls Tryz.prog 17 #[.agg (prC p v), .int .i64 now] w (AnsE P w (endP p now)) := by
  have hD : endP p now = if goodP p = true ∧ isT now = true ∧ p.t ≤ now then (tells (paidP (queueP (tickP p now)) now) 2, paidW now (queueP (tickP p now)).s.W, 0) else (p, [], 2) := rfl
  generalize endP p now = D at *
  have HD := hide hD
  clear hD
  have hone := pr_one hp
  have HGD := hide (fun (wx : World) (hb : Below w.heap.size w wx) => goodp_any p v P wx (hp.over hb))
  have HCP := hide (fun (wx : World) (hb : Below w.heap.size w wx) => copyp_any p v P wx (hp.over hb) hq88)
  have HN := hide (fun (wx : World) (hb : Below w.heap.size w wx) => hp.ofNew hb 2)
  have HP := hide hp
  have HGH : Hid (goodP p = true → 0 ≤ p.h ∧ p.h ≤ 1099511627775 ∧ 0 ≤ p.t) := fun h => by
    unfold goodP at h
    simp only [Bool.and_eq_true, decide_eq_true_eq] at h
    exact ⟨h.1.1.1.1.1.1.2, h.1.1.1.1.1.2, h.1.1.1.1.2⟩
  have HGF : Hid (goodP p = true → (∀ a ∈ p.q, (0 ≤ a.1 ∧ a.1 < 2) ∧ okPv a.2) ∧ InvQ (tickP p now) ∧ goodS (queueP (tickP p now)).s = true ∧ setB (-1) (paidP (queueP (tickP p now)) now).set = true ∧ ∀ c, c < 2 → setB (-1) ((paidP (queueP (tickP p now)) now).L c).told = true) := fun h => ⟨okv_queue h, inv_tick h now, (inv_queue h now).1, paid_set h now, paid_told h now⟩
  have HQL : Hid ((queueP (tickP p now)).q.length ≤ p.q.length) := by have := (steps_q (tickP p now).q ⟨tickP p now, fun _ => false, []⟩).2; simpa [Hid, queueP, goQ, tickP] using this
  have HTT : Hid ((paidP (queueP (tickP p now)) now).t = now) := paid_t p now
  have H88 := hide hq88
  clear hp hq88
  generalize goodP p = G at *
  go_enter Tryz.func17, Tryz.ntmps17
  go_upto_region 1 with fail
  change Code.wp Tryz.prog _ _ _ ((w.alloc (.cells (prC p v) 47)).alloc (.cells Tryz.zeroCells47 47))
  have C0 : CAt 47 ((w.alloc (.cells (prC p v) 47)).alloc (.cells Tryz.zeroCells47 47)) w.heap.size (prC p v) := (CAt.new _ w _).alloc _
  have R0 : CAt 47 ((w.alloc (.cells (prC p v) 47)).alloc (.cells Tryz.zeroCells47 47)) (w.heap.size + 1) Tryz.zeroCells47 := CAt.new2 _ w _ _
  have B0 : Below w.heap.size w ((w.alloc (.cells (prC p v) 47)).alloc (.cells Tryz.zeroCells47 47)) := ((Below.refl _ w).alloc (Nat.le_refl _) _).alloc (by simp) _
  generalize (w.alloc (.cells (prC p v) 47)).alloc (.cells Tryz.zeroCells47 47) = w0 at *
  have l0 := pr_loadP C0 (prC_size _ _)
  have H0 := hide (show _ ∧ _ ∧ _ from ⟨C0, R0, B0⟩)
  clear C0 R0 B0
  by_cases hok : G = true ∧ p.t ≤ now ∧ now ≤ 1099511627776
  · obtain ⟨rfl, htn, hmx⟩ := hok
    obtain ⟨hh0, hh1, ht0⟩ := HGH.out rfl
    have hti : isT now = true := by simp [isT]; omega
    replace HD := hide (HD.out.trans (if_pos ⟨rfl, hti, htn⟩))
    replace HGF := hide (HGF.out rfl)
    clear HGH
    go_upto_region 3 with (go_at_call 45; refine (HGD.out _ H0.out.2.2).mono ?_; rintro e w1 ⟨rfl, hb1⟩; clear l0; have a1 : w1.cell? ⟨w.heap.size, 1, none⟩ = some (.int .i64 p.t) := (H0.out.1.over hb1).cell 1)
    have C1 := H0.out.1.over hb1
    have R1 := H0.out.2.1.over hb1
    have B1 := H0.out.2.2.trans (hb1.mono H0.out.2.2.size)
    have l1 := pr_loadP C1 (prC_size _ _)
    have hlt1 := R1.lt
    have H1 := hide (show _ ∧ _ ∧ _ from ⟨C1, R1, B1⟩)
    clear C1 R1 B1 hb1 H0 HGD a1
    go_upto_region 4 with (go_at_call 16; refine (HCP.out _ H1.out.2.2).mono ?_; rintro e wc ⟨vc, rfl, hpc, hbc⟩; clear l1; have s1 := pr_storeP (CAt.new 47 wc Tryz.zeroCells47) Z97_size (prC_size p vc) (pr_one hpc.pin))
    have bS : Below wc.heap.size wc ((wc.alloc (.cells Tryz.zeroCells47 47)).setCells wc.heap.size 0 (prC p vc).toList) := below_sets (Nat.le_refl _) _ _ _ ((Below.refl _ wc).alloc (Nat.le_refl _) _)
    have N2 : CAt 47 ((wc.alloc (.cells Tryz.zeroCells47 47)).setCells wc.heap.size 0 (prC p vc).toList) wc.heap.size (prC p vc) := (CAt.new 47 wc Tryz.zeroCells47).setAll (by rw [Z97_size]; rfl)
    have b12 := hbc.trans (bS.mono hbc.size)
    have C2 := H1.out.1.over b12
    have R2 := H1.out.2.1.over b12
    have B2 := H1.out.2.2.trans (b12.mono H1.out.2.2.size)
    have P2 := PIn.copy (w := w) hpc.pin (by omega) bS
    have hsc := hbc.size
    clear bS s1 b12 hbc hpc H1
    generalize (wc.alloc (.cells Tryz.zeroCells47 47)).setCells wc.heap.size 0 (prC p vc).toList = w2 at *
    generalize wc.heap.size = gn at *
    have n0 : w2.cell? ⟨gn, 0, none⟩ = some (.int .i64 p.h) := N2.cell 0
    have n1 : w2.cell? ⟨gn, 1, none⟩ = some (.int .i64 p.t) := N2.cell 1
    have nf0 := N2.free 0
    have nf1 := N2.free 1
    have hws : IntKind.i64.wrap (p.h + 1) = p.h + 1 := wrapI (by omega) (by omega)
    have N4 := (N2.set 0 (.int .i64 (p.h + 1))).set 1 (.int .i64 now)
    rw [set_h, set_t] at N4
    have C4 := (C2.other (c := gn) (o := 0) (by omega) (.int .i64 (p.h + 1))).other (c := gn) (o := 1) (by omega) (.int .i64 now)
    have R4 := (R2.other (c := gn) (o := 0) (by omega) (.int .i64 (p.h + 1))).other (c := gn) (o := 1) (by omega) (.int .i64 now)
    have B4 := (B2.setCell (p := ⟨gn, 0, none⟩) (by show _ ≤ gn; omega) (.int .i64 (p.h + 1))).setCell (p := ⟨gn, 1, none⟩) (by show _ ≤ gn; omega) (.int .i64 now)
    have noP : ¬ (fun b => w.heap.size + 2 ≤ b ∧ b ≠ gn) gn := fun h => h.2 rfl
    have P4 := (P2.keep (w' := w2.setCell ⟨gn, 0, none⟩ (.int .i64 (p.h + 1))) fun b hb _ => Below.heap_setCell _ _ _ _ hb.2).keep (w' := (w2.setCell ⟨gn, 0, none⟩ (.int .i64 (p.h + 1))).setCell ⟨gn, 1, none⟩ (.int .i64 now)) fun b hb _ => Below.heap_setCell _ _ _ _ hb.2
    have hltn := N2.lt
    clear C2 R2 B2 N2 P2
    go_upto_region 6 with fail
    clear n0 n1 nf0 nf1
    generalize (w2.setCell ⟨gn, 0, none⟩ (.int .i64 (p.h + 1))).setCell ⟨gn, 1, none⟩ (.int .i64 now) = w4 at *
    obtain ⟨⟨-, -, c65, c94, c95, -⟩, -⟩ := pr_facts C4
    have m94 : w4.cell? ⟨gn, 94, none⟩ = some (.int .i64 p.ml) := N4.cell 94
    have m95 : w4.cell? ⟨gn, 95, none⟩ = some (.int .i64 p.mn) := N4.cell 95
    have f94 := N4.free 94
    have f95 := N4.free 95
    have hz4 := C4.lt
    have hzn := N4.lt
    have HAL := hide (fun (wx : World) (hb : Below w.heap.size w wx) => rst_all (HP.out.set.over hb))
    have H4 := hide (show _ ∧ _ ∧ _ ∧ _ ∧ _ from ⟨N4, C4, R4, B4, P4⟩)
    clear N4 C4 R4 B4 P4
    have HIA := hide (allN_I64 p.set)
    have HTK : Hid (tickP p now = { p with h := p.h + 1, t := now, ml := if now < p.mn then p.ml else Mt.alw (Df.allN p.set), mn := if now < p.mn then p.mn else wrap64 (now + 10) }) := rfl
    have HMT := hide (fun (wx : World) => Mt.rmtick_any p.ml p.mn (Df.allN p.set) now HIA.out wx)
    generalize Df.allN p.set = al at *
    generalize (if now < p.mn then p.ml else Mt.alw al) = ml' at *
    generalize (if now < p.mn then p.mn else wrap64 (now + 10)) = mn' at *
    apply wp_join (fun w' => ∃ w6, w' = (w6.setCell ⟨gn, 94, none⟩ (.int .i64 ml')).setCell ⟨gn, 95, none⟩ (.int .i64 mn') ∧ Below w4.heap.size w4 w6)
    · refine wp_region_noPanic ?_
      go_region_with (first
        | (go_at_call 47; refine (HAL.out _ (by exact H4.out.2.2.2.1.drew)).mono ?_; rintro e w5 ⟨rfl, hb5⟩; have N5 := H4.out.1.over ((Below.refl _ _).drew.trans hb5); have d94 : w5.cell? ⟨gn, 94, none⟩ = some (.int .i64 p.ml) := N5.cell 94; have d95 : w5.cell? ⟨gn, 95, none⟩ = some (.int .i64 p.mn) := N5.cell 95; clear N5)
        | (go_at_call 46; refine (HMT.out _).mono ?_; rintro e w6 ⟨rfl, hb6⟩; have N6 := (H4.out.1.over ((Below.refl _ _).drew.trans hb5)).over hb6; have n94 : w6.cell? ⟨gn, 94, none⟩ = some (.int .i64 p.ml) := N6.cell 94; have n95 : w6.cell? ⟨gn, 95, none⟩ = some (.int .i64 p.mn) := N6.cell 95; have nf94 := N6.free 94; have nf95 := N6.free 95; have hz6 := N6.lt; clear N6))
      all_goals
        have b46 := (Below.refl w4.heap.size w4).drew.trans hb5
        exact NoPanic.normal ⟨rfl, rfl, _, rfl, b46.trans (hb6.mono b46.size)⟩
    rintro w' ⟨w6, rfl, b6⟩
    have N7 := ((H4.out.1.over b6).set 94 (.int .i64 ml')).set 95 (.int .i64 mn')
    rw [set_ml, set_mn] at N7
    have R7 := ((H4.out.2.2.1.over b6).other (c := gn) (o := 94) (by omega) (.int .i64 ml')).other (c := gn) (o := 95) (by omega) (.int .i64 mn')
    have B7 := ((H4.out.2.2.2.1.trans (b6.mono H4.out.2.2.2.1.size)).setCell (p := ⟨gn, 94, none⟩) (by show _ ≤ gn; omega) (.int .i64 ml')).setCell (p := ⟨gn, 95, none⟩) (by show _ ≤ gn; omega) (.int .i64 mn')
    have hp6 := ((H4.out.2.2.2.2.over b6).keep (w' := w6.setCell ⟨gn, 94, none⟩ (.int .i64 ml')) fun b hb _ => Below.heap_setCell _ _ _ _ hb.2).keep (w' := (w6.setCell ⟨gn, 94, none⟩ (.int .i64 ml')).setCell ⟨gn, 95, none⟩ (.int .i64 mn')) fun b hb _ => Below.heap_setCell _ _ _ _ hb.2
    have hp7 : PIn (fun b => w.heap.size + 2 ≤ b ∧ b ≠ gn) _ (tickP p now) vc := ⟨hp6.ws, hp6.set, hp6.lk, hp6.q⟩
    clear hp6
    rw [← HTK.out] at N7
    have HQQ : Hid ((tickP p now).q = p.q) := by rw [Hid, HTK.out]
    clear b6 H4 c65 c94 c95 m94 m95 f94 f95 hz4 hzn HAL HIA HMT HTK
    generalize (w6.setCell ⟨gn, 94, none⟩ (.int .i64 ml')).setCell ⟨gn, 95, none⟩ (.int .i64 mn') = w7 at *
    generalize tickP p now = pt at *
    obtain ⟨zq, hzl, hzr, hzi⟩ := hp7.q
    obtain ⟨Aq, Cq, eq, -⟩ := hzr.open (quL_length _ _ hzl) (by decide)
    have n96 : w7.cell? ⟨gn, 96, none⟩ = some (.slice Aq pt.q.length Cq) := by rw [← eq]; exact N7.cell 96
    have nf96 := N7.free 96
    have hgl := N7.lt
    have hrl := R7.lt
    have H7 := hide (show _ ∧ _ ∧ _ ∧ _ from ⟨N7, R7, B7, hp7⟩)
    have HZ7 := hide (show _ ∧ _ ∧ _ from ⟨hzl, hzr, hzi⟩)
    have HEQ := hide eq
    clear N7 R7 B7 hp7 hzl hzr hzi eq
    simp only [Exit.then]
    apply_assumption
    go_upto_region 8 with fail
    apply wp_join (fun w' => w' = w7.setCell ⟨gn, 96, none⟩ (.slice none 0 0))
    · go_wp2
      exact ⟨rfl, rfl, rfl⟩
    rintro w8 rfl
    simp only [Exit.then]
    apply_assumption
    have N8 := H7.out.1.set 96 (.slice none 0 0)
    rw [pr_q3 pt vc [] (.slice none 0 0)] at N8
    have R8 := H7.out.2.1.other (c := gn) (o := 96) (by omega) (.slice none 0 0)
    have B8 := H7.out.2.2.1.setCell (p := ⟨gn, 96, none⟩) (by show _ ≤ gn; omega) (.slice none 0 0)
    have hk8 : ∀ b, (w.heap.size + 2 ≤ b ∧ b ≠ gn) → b < w7.heap.size → (w7.setCell ⟨gn, 96, none⟩ (.slice none 0 0)).heap[b]? = w7.heap[b]? := fun b hb _ => Below.heap_setCell _ _ _ _ hb.2
    have hp8 := H7.out.2.2.2.keep hk8
    have hzr8 := HZ7.out.2.1.keep hk8
    rw [HEQ.out] at hzr8
    have hzi8 := fun (i : Nat) (x : Int × Pkt) (y : Value × Value) (hx : pt.q[i]? = some x) (hy : zq[i]? = some y) => And.intro ((HZ7.out.2.2 i x y hx hy).1.keep hk8) ((HZ7.out.2.2 i x y hx hy).2.keep hk8)
    have Q8 : PInQ (fun b => w.heap.size + 2 ≤ b ∧ b ≠ gn) (w7.setCell ⟨gn, 96, none⟩ (.slice none 0 0)) { pt with q := [] } { vc with q := .slice none 0 0 } := ⟨hp8.ws, hp8.set, hp8.lk, _, _, _, rfl⟩
    have hRQ := RQu.start (p := pt) N8 rfl Q8 noP HGF.out.2.1
    have hzl := HZ7.out.1
    have hokq : ∀ a ∈ pt.q, (0 ≤ a.1 ∧ a.1 < 2) ∧ okPv a.2 := fun a ha => HGF.out.1 a (by rw [← HQQ.out]; exact ha)
    have h88 : pt.q.length * 88 ≤ 140737488351232 := by rw [HQQ.out]; exact H88.out
    have hgl8 := N8.lt
    have HRB := hide (show _ ∧ _ from ⟨R8, B8⟩)
    have h28 : w.heap.size + 2 ≤ (w7.setCell ⟨gn, 96, none⟩ (.slice none 0 0)).heap.size := by omega
    clear N8 R8 B8 hp8 Q8 H7 HZ7 HEQ n96 nf96 hk8
    generalize w7.setCell ⟨gn, 96, none⟩ (.slice none 0 0) = w8 at *
    refine wp_seq_k (fun K hK => ?_)
    refine rqueue_piece pt (fun b => w.heap.size + 2 ≤ b ∧ b ≠ gn) w8 gn pt.q zq Aq Cq hgl8 noP hRQ hzl hzr8 hzi8 hokq h88 _ _ _ _ _ _ _ _ _ _ _ _ _ _ _ _ _ _ _ _ _ _ _ _ _ _ _ _ _ _ _ _ _ _ _ _ _ _ _ _ _ _ _ _ _ _ _ _ _ _ _ _ _ _ _ _ _ _ _ _ _ _ _ _ _ _ _ _ _ _ _ _ _ _ _ _ _ _ _ _ _ _ _ _ _ _ _ _ _ _ _ _ _ _ _ _ _ _ _ _ _ _ _ _ _ _ _ _ _ _ _ _ _ _ _ _ _ _ _ _ _ _ _ _ _ _ _ _ _ _ _ _ _ _ _ _ _ _ _ _ _ _ _ _ _ _ _ _ _ _ _ _ _ _ _ _ _ _ _ _ _ _ _ _ _ _ _ _ _ _ _ _ _ _ _ _ _ _ _ _ _ _ _ _ _ _ _ ?_
    clear hRQ hzl hzr8 hzi8
    intro t9 t10 t11 t12 t13 t14 t55 t56 t57 t58 t59 t60 t61 t62 t63 t64 t65 t66 t67 t68 t69 t70 t71 t72 t73 t74 t75 t76 t77 t78 t79 t80 t81 t82 t83 t84 t85 t86 t87 t88 t89 t90 t91 t92 t93 w9 hQ9
    rw [ref_queue pt (fun a ha => (hokq a ha).1)] at hQ9
    have hTQ := hQ9.told noP hgl8 (by have := HQL.out; have := H88.out; omega)
    clear hQ9 hokq h88 HQL
    obtain ⟨hgs, hset, htold⟩ := HGF.out.2.2
    clear HGF
    have hge := (kp_pay hgs now).good
    have Hq0 : Hid (paidP (queueP pt) now = { queueP pt with s := payS (queueP pt).s now, set := setS (payS (queueP pt).s now).V }) := rfl
    generalize paidP (queueP pt) now = q0 at *
    generalize queueP pt = p2 at *
    obtain ⟨⟨v9, Q9, C9, P9q, hQn, -⟩, A9⟩ := hTQ
    have hs9 := A9.size
    have P9 : PIn (fun b => w.heap.size + 2 ≤ b ∧ b ≠ gn) w9 p2 v9 := P9q.mono fun b _ hb => by
      rcases hQn b hb with ⟨h, _⟩ | h
      · exact h
      · exact ⟨by omega, by omega⟩
    have R9 := A9.cat (b := w.heap.size + 1) (by omega) HRB.out.1
    have B9 := HRB.out.2.trans (A9.below (by omega) HRB.out.2.size)
    have m9 := pr_loadS C9
    have HPY := hide (rst_pay P9.ws now hgs)
    have hz9 := C9.lt
    have H9 := hide (show _ ∧ _ ∧ _ ∧ _ from ⟨C9, R9, B9, P9⟩)
    clear C9 R9 B9 P9 P9q A9 hQn HRB
    have HST := hide (fun (u : Value) (wx : World) => rst_set hge u wx)
    generalize payS p2.s now = s3 at *
    generalize setS s3.V = st3 at *
    simp only [Exit.then]
    apply hK
    clear hK K
    go_upto_region 26 with (go_at_call 49; refine HPY.out.mono ?_; rintro e wa ⟨ua, xa, rfl, Ua, Xa, hba⟩; clear m9; have onea := st_one s3 Ua.one'; have sSa := pr_storeS (H9.out.1.over hba) (prC_size _ _) (stC_size s3 ua) onea)
    have C10 := (H9.out.1.over hba).stake s3 ua
    have R10 := (H9.out.2.1.over hba).others (c := gn) (o := 2) (by omega) (stC s3 ua).toList
    have B10 := below_sets (b := gn) (B := w.heap.size) (by omega) (stC s3 ua).toList 2 _ (H9.out.2.2.1.trans (hba.mono H9.out.2.2.1.size))
    have A10 : Alt gn wa (wa.setCells gn 2 (stC s3 ua).toList) := Alt.sets (stC s3 ua).toList (Alt.refl gn wa) 2
    have P10 : PIn (fun b => w.heap.size + 2 ≤ b ∧ b ≠ gn) (wa.setCells gn 2 (stC s3 ua).toList) { p2 with s := s3 } { v9 with ws := ua } := by
      have p1 := A10.pin noP (H9.out.2.2.2.over hba)
      have hU : Rep (fun b => w.heap.size + 2 ≤ b ∧ b ≠ gn) wa ua 8 64 (wsL s3.W) := Ua.mono fun b _ hb => by have hb' : w9.heap.size ≤ b := hb; exact ⟨by omega, by omega⟩
      exact ⟨A10.rep noP hU, p1.set, p1.lk, p1.q⟩
    have X10 : Rep (fun b => w.heap.size + 2 ≤ b ∧ b ≠ gn) (wa.setCells gn 2 (stC s3 ua).toList) xa 1 8 (inC (paidW now p2.s.W)) := A10.rep noP (Xa.mono fun b _ hb => by have hb' : w9.heap.size ≤ b := hb; exact ⟨by omega, by omega⟩)
    have hsa := hba.size
    have hs10 := A10.size
    clear A10 Ua Xa hba sSa H9 HPY onea
    generalize wa.setCells gn 2 (stC s3 ua).toList = w10 at *
    have m10 := pr_loadS C10
    have H10 := hide (show _ ∧ _ ∧ _ ∧ _ ∧ _ from ⟨C10, R10, B10, P10, X10⟩)
    clear C10 R10 B10 P10 X10
    apply wp_joinx (fun sb w' => ∃ wb, w' = wb.setCell ⟨gn, 65, none⟩ sb ∧ Below w10.heap.size w10 wb ∧ Rep (fun b => w10.heap.size ≤ b) wb sb 2 16 (pwC st3))
    · go_upto_region 27 with (go_at_call 50; refine (HST.out _ _).mono ?_; rintro e wb ⟨sb, rfl, Sb, hbb⟩; have y65 : wb.cell? ⟨gn, 65, none⟩ = some v9.set := (H10.out.1.over hbb).cell 65; have yf65 := (H10.out.1.over hbb).free 65; have yz := (H10.out.1.over hbb).lt; have sLb := pr_storeL Sb.one' y65 yf65)
      exact ⟨sb, rfl, rfl, wb, rfl, hbb, Sb⟩
    rintro sb w' ⟨wb, rfl, hbb, Sb⟩
    have hsb := hbb.size
    have C11 := (H10.out.1.over hbb).set 65 sb
    rw [pr_set] at C11
    have A11 : Alt gn wb (wb.setCell ⟨gn, 65, none⟩ sb) := (Alt.refl gn wb).set 65 sb
    have R11 := (H10.out.2.1.over hbb).other (c := gn) (o := 65) (by omega) sb
    have B11 := (H10.out.2.2.1.trans (hbb.mono H10.out.2.2.1.size)).setCell (p := ⟨gn, 65, none⟩) (by show _ ≤ gn; omega) sb
    have P11 : PIn (fun b => w.heap.size + 2 ≤ b ∧ b ≠ gn) (wb.setCell ⟨gn, 65, none⟩ sb) q0 { v9 with ws := ua, set := sb } := by
      have p1 := A11.pin noP (H10.out.2.2.2.1.over hbb)
      have hS : Rep (fun b => w.heap.size + 2 ≤ b ∧ b ≠ gn) wb sb 2 16 (pwC st3) := Sb.mono fun b _ hb => by have hb' : w10.heap.size ≤ b := hb; exact ⟨by omega, by omega⟩
      rw [Hq0.out]
      exact ⟨p1.ws, A11.rep noP hS, p1.lk, p1.q⟩
    have X11 := A11.rep noP (H10.out.2.2.2.2.over hbb)
    have C11' : CAt 47 (wb.setCell ⟨gn, 65, none⟩ sb) gn (prC q0 { v9 with ws := ua, set := sb }) := by rw [Hq0.out]; exact C11
    have hs11 := A11.size
    clear C11 A11 hbb Sb H10 HST m10
    generalize wb.setCell ⟨gn, 65, none⟩ sb = w12 at *
    have hz12 := C11'.lt
    have hT : TQu (fun b => w.heap.size + 2 ≤ b ∧ b ≠ gn) w12 gn q0 w12 := ⟨⟨_, _, C11', P11, fun b hb => by by_cases hl : b < w12.heap.size; exact .inl ⟨hb, hl⟩; exact .inr (by omega), noP⟩, Alt.refl _ _⟩
    have H12 := hide (show _ ∧ _ ∧ _ from ⟨R11, B11, X11⟩)
    have hr12 := R11.lt
    clear C11' P11 R11 B11 X11 Hq0
    simp only [Exit.then]
    apply_assumption
    refine wp_seq_k (fun K hK => ?_)
    refine rtell_piece q0 (fun b => w.heap.size + 2 ≤ b ∧ b ≠ gn) w12 gn now HTT.out (by omega) hmx hz12 hT hset htold _ _ _ _ _ _ _ _ _ _ _ _ _ _ _ _ _ _ _ _ _ _ _ _ _ _ _ _ _ _ _ _ _ _ _ _ _ _ _ _ _ _ _ _ _ _ _ _ _ _ _ _ _ _ _ _ _ _ _ _ _ _ _ _ _ _ _ _ _ _ _ _ _ _ _ _ _ _ _ _ _ _ _ _ _ _ _ _ _ _ _ _ _ _ _ _ _ _ _ _ _ _ _ _ _ _ _ _ _ _ _ _ _ _ _ _ _ _ _ _ _ _ _ _ _ _ _ _ _ _ _ _ _ _ _ _ _ _ _ _ _ _ _ _ _ _ _ _ _ _ _ _ _ _ _ _ _ _ _ _ _ _ _ _ _ _ _ _ _ _ _ _ _ _ _ _ _ _ _ _ _ _ _ _ _ _ _ ?_
    clear hT hset htold
    intro t16 t17 t18 t19 t20 t21 t107 t108 t109 t110 t111 t112 t113 t114 t115 t116 t117 t118 t119 t120 t121 t122 t123 t124 t125 t126 t127 t128 t129 t130 t131 t132 t133 t134 t135 t136 t137 t138 t139 t140 t141 t142 t143 t144 t145 t146 t147 t148 t149 t150 t151 t152 t153 t154 t155 t156 t157 t158 t159 t160 t161 t162 t163 t164 t165 t166 t167 t168 t169 t170 t171 t172 t173 t174 t175 t176 t177 t178 t179 t180 t181 t182 t183 t184 t185 t186 w13 hT13
    obtain ⟨⟨v13, Q13, C13, P13, hQ13, -⟩, A13⟩ := hT13
    have hs13 := A13.size
    have R13 := A13.cat (b := w.heap.size + 1) (by omega) H12.out.1
    have B13 := H12.out.2.1.trans (A13.below (by omega) H12.out.2.1.size)
    have X13 := A13.rep noP H12.out.2.2
    have l13 := pr_loadP C13 (prC_size _ _)
    have s13 := pr_storeP R13 Z97_size (prC_size (tells q0 2) v13) (pr_one P13)
    have HZ := hide (show _ ∧ _ ∧ _ ∧ _ from ⟨R13, B13, P13.mono (P' := New P w 2) (fun b _ hb => by
      rcases hQ13 b hb with ⟨h, _⟩ | h
      · exact .inr h.1
      · exact .inr (by omega)), X13.mono (P' := New P w 2) (fun _ _ h => .inr h.1)⟩)
    clear C13 P13 A13 R13 B13 X13 hQ13 H12
    generalize tells q0 2 = q2 at *
    simp only [Exit.then]
    apply hK
    clear hK K
    go_wp2
    exact prov_end3 Tryz.results17 HZ.out.1 Z97_size HZ.out.2.1 q2 v13 xa _ 0 D HD.out HZ.out.2.2.1 HZ.out.2.2.2 _ rfl rfl rfl rfl
  · replace HD := hide (HD.out.trans (if_neg fun h => hok ⟨h.1, h.2.2, by have := h.2.1; simp [isT] at this; omega⟩))
    have hcs : G = false ∨ (G = true ∧ now < p.t) ∨ (G = true ∧ p.t ≤ now ∧ 1099511627776 < now) := by
      cases G
      · exact .inl rfl
      · by_cases h : now < p.t
        · exact .inr (.inl ⟨rfl, h⟩)
        · exact .inr (.inr ⟨rfl, by omega, by have := hok; simp only [true_and] at this; omega⟩)
    clear hok HGH HGF HQL HTT H88 HCP
    rcases hcs with rfl | ⟨rfl, h1⟩ | ⟨rfl, h1, h2⟩
    all_goals
      go_upto_region 2 with (go_at_call 45; refine (HGD.out _ H0.out.2.2).mono ?_; rintro e w1 ⟨rfl, hb1⟩; clear l0; have a1 : w1.cell? ⟨w.heap.size, 1, none⟩ = some (.int .i64 p.t) := (H0.out.1.over hb1).cell 1)
      have R1 := H0.out.2.1.over hb1
      have l1 := pr_loadP (H0.out.1.over hb1) (prC_size _ _)
      have s1 := pr_storeP R1 Z97_size (prC_size p v) hone
      have B1 := H0.out.2.2.trans (hb1.mono H0.out.2.2.size)
      have HZ := hide (show _ ∧ _ from ⟨R1, B1⟩)
      clear R1 B1 hb1 hone H0 HGD a1
      go_wp2
      exact prov_end3 Tryz.results17 HZ.out.1 Z97_size HZ.out.2 p v (.slice none 0 0) [] 2 D HD.out (HN.out _ HZ.out.2) (Rep.nil _ _ _ _) _ rfl rfl rfl rfl
end Go.Proofs.YtjghbciepinofaaGreat.Pv

set_option maxRecDepth 100000
namespace Go.Proofs.YtjghbciepinofaaGreat.Pv
open Go.RowKit
attribute [local go_sem ↓] loadS_eq loadP_eq storeP_eq storeS_eq
set_option maxHeartbeats 8000000 in
theorem lpends_walk (p : Pr) (v : PrV) (w : World) (now : Int) (hp : PIn (fun _ => True) w p v) (hq88 : p.q.length * 88 ≤ 140737488351232) :
    Calls Tryz.prog 5 #[.agg (prC p v), .int .i64 now] w fun e w' => e = .returned (.bool true) ∧ Below w.heap.size w w' := by
  have HCP := hide (fun (wx : World) (hb : Below w.heap.size w wx) => copyp_any p v (fun _ => True) wx (hp.over hb) hq88)
  have HPF0 := hide (fun (P : Nat → Prop) (wx : World) (u : PrV) (hu : PIn P wx p u) => pend_any p u P wx now hu (by omega))
  have HRF0 := hide (fun (wx : World) (hb : Below w.heap.size w wx) => rpend_any p v (fun _ => True) wx now (hp.over hb) hq88)
  have HP := hide hp
  generalize endP p now = r at *
  obtain ⟨r1, l, er⟩ := r
  have HPF : Hid (∀ (P : Nat → Prop) (wx : World) (u : PrV), PIn P wx p u → Calls Tryz.prog 9 #[.agg (prC p u), .int .i64 now] wx fun e w' => ∃ v' x, e = .returned (.tuple #[.agg (prC r1 v'), x, .int .i64 er]) ∧ PIn (New P wx 2) w' r1 v' ∧ Rep (New P wx 2) w' x 1 8 (inC l) ∧ Below wx.heap.size wx w') := fun P wx u hu => HPF0.out P wx u hu
  have HRF : Hid (∀ wx : World, Below w.heap.size w wx → Calls Tryz.prog 17 #[.agg (prC p v), .int .i64 now] wx fun e w' => ∃ v' x, e = .returned (.tuple #[.agg (prC r1 v'), x, .int .i64 er]) ∧ PIn (New (fun _ => True) wx 2) w' r1 v' ∧ Rep (New (fun _ => True) wx 2) w' x 1 8 (inC l) ∧ Below wx.heap.size wx w') := fun wx hb => HRF0.out wx hb
  clear hp hq88 HPF0 HRF0
  go_enter Tryz.func5, Tryz.ntmps5
  go_upto_region 1 with fail
  have C0 : CAt 47 (w.alloc (.cells (prC p v) 47)) w.heap.size (prC p v) := CAt.new _ w _
  have B0 : Below w.heap.size w (w.alloc (.cells (prC p v) 47)) := (Below.refl _ w).alloc (Nat.le_refl _) _
  generalize w.alloc (.cells (prC p v) 47) = w0 at *
  have l0 := pr_loadP C0 (prC_size _ _)
  have H0 := hide (show _ ∧ _ from ⟨C0, B0⟩)
  clear C0 B0
  go_upto_region 2 with (go_at_call 16; refine (HCP.out _ H0.out.2).mono ?_; rintro e w1 ⟨v1, rfl, P1, hb1⟩; clear l0; have s1 := pr_storeP (CAt.new 47 w1 Tryz.zeroCells47) Z97_size (prC_size p v1) (pr_one P1.pin))
  have bS : Below w1.heap.size w1 ((w1.alloc (.cells Tryz.zeroCells47 47)).setCells w1.heap.size 0 (prC p v1).toList) := below_sets (Nat.le_refl _) _ _ _ ((Below.refl _ w1).alloc (Nat.le_refl _) _)
  have D2 : CAt 47 ((w1.alloc (.cells Tryz.zeroCells47 47)).setCells w1.heap.size 0 (prC p v1).toList) w1.heap.size (prC p v1) := (CAt.new 47 w1 Tryz.zeroCells47).setAll (by rw [Z97_size]; rfl)
  have b2 := hb1.trans (bS.mono hb1.size)
  have C2 := H0.out.1.over b2
  have B2 := H0.out.2.trans (b2.mono H0.out.2.size)
  have Q2 := P1.pin.over bS
  clear s1 bS hb1 b2 P1 H0 HCP
  generalize (w1.alloc (.cells Tryz.zeroCells47 47)).setCells w1.heap.size 0 (prC p v1).toList = w2 at *
  generalize w1.heap.size = g5 at *
  have l2 := pr_loadP D2 (prC_size _ _)
  have h2 := D2.lt
  have H2 := hide (show _ ∧ _ ∧ _ ∧ _ from ⟨C2, D2, B2, Q2⟩)
  clear C2 D2 B2 Q2
  go_upto_region 3 with (go_at_call 9; refine (HPF.out _ _ _ H2.out.2.2.2).mono ?_; rintro e w3 ⟨v3, x3, rfl, P3, X3, hb3⟩; clear l2; have s3 := pr_storeP (CAt.new 47 w3 Tryz.zeroCells47) Z97_size (prC_size r1 v3) (pr_one P3))
  have bS : Below w3.heap.size w3 ((w3.alloc (.cells Tryz.zeroCells47 47)).setCells w3.heap.size 0 (prC r1 v3).toList) := below_sets (Nat.le_refl _) _ _ _ ((Below.refl _ w3).alloc (Nat.le_refl _) _)
  have E4 : CAt 47 ((w3.alloc (.cells Tryz.zeroCells47 47)).setCells w3.heap.size 0 (prC r1 v3).toList) w3.heap.size (prC r1 v3) := (CAt.new 47 w3 Tryz.zeroCells47).setAll (by rw [Z97_size]; rfl)
  have b4 := hb3.trans (bS.mono hb3.size)
  have C4 := H2.out.1.over b4
  have D4 := H2.out.2.1.over b4
  have B4 := H2.out.2.2.1.trans (b4.mono H2.out.2.2.1.size)
  have Q4 := H2.out.2.2.2.over b4
  have P4 := P3.over bS
  have X4 := X3.over bS
  clear s3 bS hb3 b4 P3 X3 H2 HPF
  generalize (w3.alloc (.cells Tryz.zeroCells47 47)).setCells w3.heap.size 0 (prC r1 v3).toList = w4 at *
  generalize w3.heap.size = g6 at *
  have l4 := pr_loadP C4 (prC_size _ _)
  have h4 := E4.lt
  have H4 := hide (show _ ∧ _ ∧ _ ∧ _ ∧ _ ∧ _ ∧ _ from ⟨C4, D4, E4, B4, Q4, P4, X4⟩)
  clear C4 D4 E4 B4 Q4 P4 X4
  go_upto_region 4 with (go_at_call 17; refine (HRF.out _ H4.out.2.2.2.1).mono ?_; rintro e w5 ⟨v5, x5, rfl, P5, X5, hb5⟩; clear l4; have s5 := pr_storeP (CAt.new 47 w5 Tryz.zeroCells47) Z97_size (prC_size r1 v5) (pr_one P5))
  have bS : Below w5.heap.size w5 ((w5.alloc (.cells Tryz.zeroCells47 47)).setCells w5.heap.size 0 (prC r1 v5).toList) := below_sets (Nat.le_refl _) _ _ _ ((Below.refl _ w5).alloc (Nat.le_refl _) _)
  have F6 : CAt 47 ((w5.alloc (.cells Tryz.zeroCells47 47)).setCells w5.heap.size 0 (prC r1 v5).toList) w5.heap.size (prC r1 v5) := (CAt.new 47 w5 Tryz.zeroCells47).setAll (by rw [Z97_size]; rfl)
  have b6 := hb5.trans (bS.mono hb5.size)
  have B6 := H4.out.2.2.2.1.trans (b6.mono H4.out.2.2.2.1.size)
  have H6 := hide (show _ ∧ _ ∧ _ ∧ _ from ⟨H4.out.1.over b6, H4.out.2.1.over b6, H4.out.2.2.1.over b6, F6⟩)
  have HQ6 := hide (H4.out.2.2.2.2.1.over b6)
  have HA6 := hide (H4.out.2.2.2.2.2.1.over b6)
  have HX6 := hide (H4.out.2.2.2.2.2.2.over b6)
  have HB6 := hide (P5.over bS)
  have HY6 := hide (X5.over bS)
  have HP6 := hide (HP.out.over B6)
  have HW6 := hide B6
  have h5 := hb5.size
  clear s5 bS hb5 b6 P5 X5 H4 HRF F6 B6 HP
  generalize (w5.alloc (.cells Tryz.zeroCells47 47)).setCells w5.heap.size 0 (prC r1 v5).toList = w6 at *
  generalize w5.heap.size = g9 at *
  have hz5 := H6.out.2.1.lt
  have hz6 := H6.out.2.2.1.lt
  have hz9 := H6.out.2.2.2.lt
  have hz0 := H6.out.1.lt
  have HSN := hide (samenm_rep l x3 x5 HX6.out HY6.out)
  have HSA := hide (fun (wx : World) (hb : Below w6.heap.size w6 wx) => samep_any r1 v3 v5 _ _ wx (HA6.out.over hb) (HB6.out.over hb))
  have HSB := hide (fun (wx : World) (hb : Below w6.heap.size w6 wx) => samep_any p v1 v _ _ wx (HQ6.out.over hb) (HP6.out.over hb))
  clear HX6 HY6 HA6 HB6 HQ6 HP6
  go_wp2_with (first
    | (go_at_call 18; refine HSN.out.mono ?_; rintro e w7 ⟨rfl, hb7⟩; have HB7 := hide hb7; clear hb7; have la := pr_loadP (H6.out.2.2.1.over HB7.out) (prC_size _ _); have lb := pr_loadP (H6.out.2.2.2.over HB7.out) (prC_size _ _))
    | (go_at_call 19; refine (HSA.out _ HB7.out).mono ?_; rintro e w8 ⟨rfl, hb8⟩; have HB8 := hide (HB7.out.trans (hb8.mono HB7.out.size)); clear hb8 la lb HSA; have lc := pr_loadP (H6.out.2.1.over HB8.out) (prC_size _ _); have ld := pr_loadP (H6.out.1.over HB8.out) (prC_size _ _))
    | (go_at_call 19; refine (HSB.out _ HB8.out).mono ?_; rintro e w9 ⟨rfl, hb9⟩; have HB9 := hide (HB8.out.trans (hb9.mono HB8.out.size)); clear hb9 lc ld)
    | (go_at_call 20; refine (lprovides_any _).mono ?_; rintro e wz ⟨rfl, hbz⟩; have HBZ := hide (HB9.out.trans (hbz.mono HB9.out.size)); clear hbz))
  go_ret
  exact ⟨rfl, HW6.out.trans (HBZ.out.mono HW6.out.size)⟩
end Go.Proofs.YtjghbciepinofaaGreat.Pv

