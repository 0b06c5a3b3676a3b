/- Parts of the proof: MS2 SV. -/
import Derived.Test.YtjghbciepinofaaGreatRows
import Derived.Test.YtjghbciepinofaaGreatPK7
import Derived.Test.YtjghbciepinofaaGreatPK53
set_option maxRecDepth 100000
namespace Go.Proofs.YtjghbciepinofaaGreat
def slashV (x : Vd) (pb pw : Int) : Vd := { x with tok := x.tok - pb, lost := x.lost + (pb + pw) }
def slashS (s : St) (v : Nat) (h f : Int) : St := { s with b := (burnR s.b (ptN (s.V v).tok f) (slN v h f s.W)).1, V := setV s.V v (slashV (s.V v) (ptN (s.V v).tok f) (slN v h f s.W)), W := slW v h f s.W }
theorem burn_zero {b : Bk} {x y : Int} (hg : b.good = true) (hx : 0 ≤ x ∧ x ≤ b.bo) (hy : 0 ≤ y ∧ y ≤ b.wa) : (burnR b x y).2 = 0 ∧ (burnR b x y).1.good = true ∧ (burnR b x y).1.bo = b.bo - x ∧ (burnR b x y).1.wa = b.wa - y ∧ (burnR b x y).1.bu = b.bu + (x + y) := by
  have hb := (good_iff b).1 hg
  have h1 := mv_make (f := 4) (t := 6) hg hx.1 (by omega) hx.2
  have g1 := (good_mv (f := 4) (t := 6) (.inr (.inr (.inr (.inl ⟨rfl, rfl⟩)))) hg hx.1 hx.2).1
  have h2 := mv_make (f := 5) (t := 6) g1 hy.1 (by omega) (show y ≤ b.wa from hy.2)
  have g2 := (good_mv (f := 5) (t := 6) (.inr (.inr (.inr (.inr ⟨rfl, rfl⟩)))) g1 hy.1 (show y ≤ b.wa from hy.2)).1
  unfold burnR
  rw [h1]
  simp only [if_true]
  rw [h2]
  simp only [if_true]
  refine ⟨trivial, g2, rfl, rfl, ?_⟩
  show b.bu + x + y = _
  omega
theorem slX_keeps (v h f : Int) (x : Wt) : (slX v h f x).num = x.num ∧ (slX v h f x).d = x.d ∧ (slX v h f x).v = x.v ∧ (slX v h f x).hei = x.hei ∧ (slX v h f x).due = x.due ∧ (slX v h f x).amt = x.amt - slP v h f x := by
  unfold slX slP
  split
  · exact ⟨rfl, rfl, rfl, rfl, rfl, rfl⟩
  · exact ⟨rfl, rfl, rfl, rfl, rfl, by omega⟩
theorem wOk_slash {next v h f : Int} (hf : 0 ≤ f ∧ f ≤ 1000) : ∀ {W : List Wt} {last : Int}, wOk next last W = true → wOk next last (slW v h f W) = true
  | [], _, _ => rfl
  | x :: W, last, hw => by
    obtain ⟨k1, k2, k3, k4, k5, k6⟩ := slX_keeps v h f x
    simp only [wOk, wOk1, Bool.and_eq_true, decide_eq_true_eq, isD_iff, isV_iff, inA_iff] at hw
    obtain ⟨⟨⟨⟨⟨⟨⟨h1, h2⟩, h3⟩, h4⟩, h5⟩, h6⟩, h7⟩, h8⟩ := hw
    have hp := slP_in (v := v) (h := h) h5 hf
    have ih := wOk_slash (v := v) (h := h) hf h8
    simp only [slW, List.map_cons, wOk, wOk1, Bool.and_eq_true, decide_eq_true_eq, isD_iff, isV_iff, inA_iff, k1, k2, k3, k4, k5, k6]
    exact ⟨⟨⟨⟨⟨⟨⟨h1, h2⟩, h3⟩, h4⟩, by omega⟩, h6⟩, h7⟩, ih⟩
theorem plost_ge {V : Nat → Vd} (h : ∀ k, k < 6 → 0 ≤ (V k).lost) {v : Nat} (hv : v < 6) : (V v).lost ≤ plost V 6 := by
  have h0 := h 0 (by omega); have h1 := h 1 (by omega); have h2 := h 2 (by omega); have h3 := h 3 (by omega); have h4 := h 4 (by omega); have h5 := h 5 (by omega)
  simp only [plost]
  rcases six hv with rfl | rfl | rfl | rfl | rfl | rfl <;> omega
/-- the numbers of a slash -/
theorem slash_nums {s : St} (hg : goodS s = true) {v : Nat} (hv : v < 6) (h : Int) {f : Int} (hf : 0 ≤ f ∧ f ≤ 1000) : ptE (s.V v).tok f = 0 ∧ (0 ≤ ptN (s.V v).tok f ∧ ptN (s.V v).tok f ≤ (s.V v).tok) ∧ (0 ≤ slN v h f s.W ∧ slN v h f s.W ≤ s.b.wa) ∧ (s.V v).tok ≤ s.b.bo ∧ (0 ≤ (s.V v).lost ∧ (s.V v).lost ≤ s.b.bu) ∧ s.b.bo ≤ 400000 ∧ s.b.wa ≤ 400000 ∧ s.b.bu ≤ 400000 ∧ amts s.W ≤ 400000 ∧ (∀ x ∈ s.W, 0 ≤ x.amt ∧ x.amt ≤ 1125899906842624) ∧ s.W.length ≤ 60 := by
  obtain ⟨h1, h2, h3, h4, h5, h6, h7, h8, h9⟩ := (goodS_iff s).1 hg
  have hb := (good_iff s.b).1 h1
  have hx := (vOk_iff _).1 (h6 v hv).1
  have hA : ∀ x ∈ s.W, 0 ≤ x.amt ∧ x.amt ≤ 1125899906842624 := fun x hx => (wOk_mem h5 x hx).2.2.2.2.1
  have hp := pt_in hx.1 hf
  have hn := slN_in (v := v) (h := h) hf hA
  have ht := ptok_ge (fun k hk => ((vOk_iff _).1 (h6 k hk).1).1.1) hv
  have hl := plost_ge (fun k hk => ((vOk_iff _).1 (h6 k hk).1).2.2.1.1) hv
  rw [h7] at ht
  rw [h8] at hn
  rw [h9] at hl
  exact ⟨hp.1, hp.2, hn, ht, ⟨hx.2.2.1.1, hl⟩, by omega, by omega, by omega, by omega, hA, h4⟩
theorem slash_burn {s : St} (hg : goodS s = true) {v : Nat} (hv : v < 6) (h : Int) {f : Int} (hf : 0 ≤ f ∧ f ≤ 1000) : (burnR s.b (ptN (s.V v).tok f) (slN v h f s.W)).2 = 0 ∧ (slashS s v h f).b.good = true ∧ (slashS s v h f).b.bo = s.b.bo - ptN (s.V v).tok f ∧ (slashS s v h f).b.wa = s.b.wa - slN v h f s.W ∧ (slashS s v h f).b.bu = s.b.bu + (ptN (s.V v).tok f + slN v h f s.W) := by
  have hs := slash_nums hg hv h hf
  exact burn_zero ((goodS_iff s).1 hg).1 ⟨hs.2.1.1, by omega⟩ hs.2.2.1
theorem slash_good {s : St} (hg : goodS s = true) {v : Nat} (hv : v < 6) (h : Int) {f : Int} (hf : 0 ≤ f ∧ f ≤ 1000) : goodS (slashS s v h f) = true := by
  obtain ⟨b0, b1, b2, b3, b4⟩ := slash_burn hg hv h hf
  obtain ⟨n1, n2, n3, n4, n5, n6, n7, n8, n9, n10, n11⟩ := slash_nums hg hv h hf
  rw [goodS_iff] at hg ⊢
  obtain ⟨h1, h2, h3, h4, h5, h6, h7, h8, h9⟩ := hg
  have hB := (good_iff _).1 b1
  refine ⟨b1, h2, h3, ?_, wOk_slash hf h5, fun k hk => ?_, ?_, ?_, ?_⟩
  · show (slW v h f s.W).length ≤ 60
    unfold slW
    rw [List.length_map]
    exact h4
  · obtain ⟨i1, i2, i3⟩ := h6 k hk
    show vOk (setV s.V v _ k) = true ∧ pshOk s.S k 4 = true ∧ psh s.S k 4 = (setV s.V v _ k).sh
    unfold setV
    by_cases hkv : k = v
    · subst hkv
      rw [if_pos rfl]
      rw [vOk_iff] at i1
      refine ⟨?_, i2, i3⟩
      rw [vOk_iff]
      refine ⟨⟨?_, ?_⟩, i1.2.1, ⟨?_, ?_⟩, ?_, i1.2.2.2.2⟩ <;> simp only [slashV] <;> first | omega | (intro hp; exact i1.2.2.2.1 (by omega))
    · rw [if_neg hkv]
      exact ⟨i1, i2, i3⟩
  · show ptok (setV s.V v _) 6 = _
    rw [ptok_set _ _ _ hv, h7, b2]
    simp only [slashV]
    omega
  · show amts (slW v h f s.W) = _
    rw [sl_amts, h8, b3]
  · show plost (setV s.V v _) 6 = _
    rw [plost_set _ _ _ hv, h9, b4]
    simp only [slashV]
    omega
end Go.Proofs.YtjghbciepinofaaGreat

set_option maxRecDepth 100000
namespace Go.Proofs.YtjghbciepinofaaGreat
open Go.RowKit
/-- a validator is jailed or not, dead or not -/
def setJ (s : St) (v : Nat) (j d : Bool) : St := { s with V := setV s.V v { s.V v with jail := j, dead := d } }
theorem set_J (s : St) (sl : Value) (v : Nat) (hv : v < 6) (x : Bool) : (stC s sl).setIfInBounds (7 + v * 5 + 3) (.bool x) = stC (setJ s v x (s.V v).dead) sl := set_jail s sl v hv x
theorem set_D (s : St) (sl : Value) (v : Nat) (hv : v < 6) (j d x : Bool) : (stC (setJ s v j d) sl).setIfInBounds (7 + v * 5 + 4) (.bool x) = stC (setJ s v j x) sl := by
  rw [set_dead _ sl v hv x]
  unfold setJ
  simp only [setV_setV, setV_at]
def jailS (s : St) (v : Int) : St × Int :=
  if refE s v = 0 then if (s.V v.toNat).jail = true then (s, 14) else (setJ s v.toNat true (s.V v.toNat).dead, 0) else (s, refE s v)
def buryS (s : St) (v : Int) : St × Int :=
  if refE s v = 0 then if (s.V v.toNat).dead = true then (s, 15) else (setJ s v.toNat true true, 0) else (s, refE s v)
theorem refE_zero {s : St} {v : Int} (h : refE s v = 0) : goodS s = true ∧ (0 ≤ v ∧ v < 6) := by
  unfold refE at h
  repeat' split at h
  all_goals first | (simp_all [isV_iff]; done) | omega
theorem refE_good {s : St} {v : Nat} (hg : goodS s = true) (hv : v < 6) : refE s v = 0 := by
  unfold refE
  rw [hg, isV_iff.2 (show (0 : Int) ≤ v ∧ (v : Int) < 6 by omega)]
  rfl
set_option maxHeartbeats 4000000 in
theorem sjail_no (s : St) (ao : Option Addr) (sb so c : Nat) (v : Int) (w : World) (hW : WsAt w ao sb so s.W) (r : St × Int) (h0 : refE s v ≠ 0) (hr : r = (s, refE s v)) :
    Calls Tryz.prog 148 #[.agg (stC s (.slice ao s.W.length c)), .int .i64 v] w fun e w' => e = .returned (.tuple #[.agg (stC r.1 (.slice ao s.W.length c)), .int .i64 r.2]) ∧ Below w.heap.size w w' := by
  have SS := (SAt.new w (stC s (.slice ao s.W.length c))).alloc (.cells Z63 32)
  have RR := SAt.new2 w (.cells (stC s (.slice ao s.W.length c)) 32) Z63
  have HB : Hid (Below w.heap.size w ((w.alloc (.cells (stC s (.slice ao s.W.length c)) 32)).alloc (.cells Z63 32))) := ((Below.refl _ w).alloc (Nat.le_refl _) _).alloc (by simp) _
  have HW := hide hW
  have HR := hide hr
  clear hW hr
  go_enter Tryz.func148, Tryz.ntmps148
  go_upto_region 1 with fail
  change Code.wp Tryz.prog _ _ _ ((w.alloc (.cells (stC s (.slice ao s.W.length c)) 32)).alloc (.cells Z63 32))
  generalize (w.alloc (.cells (stC s (.slice ao s.W.length c)) 32)).alloc (.cells Z63 32) = w0 at *
  go_upto_region 2 with (go_at_call 144; refine (refused_any s ao sb so c w.heap.size v _ SS (by exact HW.out.over HB.out)).mono ?_; rintro e w1 ⟨rfl, h1⟩)
  have HB1 := hide (HB.out.trans (h1.mono HB.out.size))
  have S1 := SS.later h1 SS.lt
  have R1 := RR.later h1 RR.lt
  clear SS RR h1 HB
  go_upto_region 3 with fail
  apply wp_region_lit
  refine wpList_load_mid rfl 32 _ rfl _ 0 rfl _ _ S1.range Tryz.underlying32 rfl (by rw [infoS]; rfl) ?_
  refine wpList_mv rfl _ rfl ?_
  refine wpList_store_mid rfl 32 _ _ rfl _ 0 (stC s (.slice ao s.W.length c)) rfl rfl (R1.there 0 _ (by rw [Z63_size, stC_size]; omega)) (by rw [infoS]; rfl) (stC_one _ _ _ _) ?_
  go_wp2
  exact stake_end2 Tryz.results148 R1 rfl HB1.out (by omega) s _ _ r HR.out _ rfl rfl rfl
set_option maxHeartbeats 4000000 in
theorem sjail_yes (s : St) (ao : Option Addr) (sb so c v : Nat) (w : World) (hW : WsAt w ao sb so s.W) (r : St × Int) (hg : goodS s = true) (hv : v < 6) (h1 : (s.V v).jail = true → r = (s, 14)) (h2 : (s.V v).jail = false → r = ((setJ s v true (s.V v).dead), 0)) :
    Calls Tryz.prog 148 #[.agg (stC s (.slice ao s.W.length c)), .int .i64 (v : Int)] w fun e w' => e = .returned (.tuple #[.agg (stC r.1 (.slice ao s.W.length c)), .int .i64 r.2]) ∧ Below w.heap.size w w' := by
  have SS := (SAt.new w (stC s (.slice ao s.W.length c))).alloc (.cells Z63 32)
  have RR := SAt.new2 w (.cells (stC s (.slice ao s.W.length c)) 32) Z63
  have HB : Hid (Below w.heap.size w ((w.alloc (.cells (stC s (.slice ao s.W.length c)) 32)).alloc (.cells Z63 32))) := ((Below.refl _ w).alloc (Nat.le_refl _) _).alloc (by simp) _
  have HW := hide hW
  have Hh1 := hide h1
  have Hh2 := hide h2
  have hRf := refE_good hg hv
  have hv' : (v : Int) < 6 := by omega
  have hv0 : (0 : Int) ≤ (v : Int) := by omega
  clear hW h1 h2
  go_enter Tryz.func148, Tryz.ntmps148
  go_upto_region 1 with fail
  change Code.wp Tryz.prog _ _ _ ((w.alloc (.cells (stC s (.slice ao s.W.length c)) 32)).alloc (.cells Z63 32))
  generalize (w.alloc (.cells (stC s (.slice ao s.W.length c)) 32)).alloc (.cells Z63 32) = w0 at *
  go_upto_region 2 with (go_at_call 144; refine (refused_any s ao sb so c w.heap.size v _ SS (by exact HW.out.over HB.out)).mono ?_; rintro e w1 ⟨rfl, h1⟩)
  have HB1 := hide (HB.out.trans (h1.mono HB.out.size))
  have S1 := SS.later h1 SS.lt
  have R1 := RR.later h1 RR.lt
  clear SS RR h1 HB
  obtain ⟨c0, c1, c2, c3, c4⟩ := S1.val v hv
  have hz1 : w.heap.size + 1 < w1.heap.size := R1.lt
  clear c0 c1 c2
  go_upto_region 7 with (first | ((fail_if_success (go_not_at_region 6)); apply wp_region_lit; refine wpList_load_mid rfl 32 _ rfl _ 0 rfl _ _ S1.range Tryz.underlying32 rfl (by rw [infoS]; rfl) ?_; refine wpList_store_mid rfl 32 _ _ rfl _ 0 (stC s (.slice ao s.W.length c)) rfl rfl (R1.there 0 _ (by rw [Z63_size, stC_size]; omega)) (by rw [infoS]; rfl) (stC_one _ _ _ _) ?_))
  · exact stake_end2 Tryz.results148 R1 rfl HB1.out (by omega) s _ _ r (Hh1.out ‹(s.V v).jail = true›) _ rfl rfl rfl
  · have HR := hide (Hh2.out ‹(s.V v).jail = false›)
    have f0 := S1.free (7 + v * 5 + 3)
    have S2 := S1.set (7 + v * 5 + 3) (.bool true)
    rw [set_J _ _ v hv] at S2
    have RZ : SAt (w1.setCell ⟨w.heap.size, 7 + v * 5 + 3, none⟩ (.bool true)) (w.heap.size + 1) Z63 := (R1.other (by omega) (.bool true) : SAt _ _ _)
    have HZ := hide (HB1.out.setCell (p := ⟨w.heap.size, 7 + v * 5 + 3, none⟩) (Nat.le_refl _) (.bool true))
    clear S1 R1 HB1
    go_upto_region 8 with fail
    generalize (w1.setCell ⟨w.heap.size, 7 + v * 5 + 3, none⟩ (.bool true)) = w9 at *
    apply wp_region_lit
    refine wpList_load_mid rfl 32 _ rfl _ 0 rfl _ _ S2.range Tryz.underlying32 rfl (by rw [infoS]; rfl) ?_
    refine wpList_store_mid rfl 32 _ _ rfl _ 0 (stC (setJ s v true (s.V v).dead) (.slice ao s.W.length c)) rfl rfl (RZ.there 0 _ (by rw [Z63_size, stC_size]; omega)) (by rw [infoS]; rfl) (stC_one _ _ _ _) ?_
    go_wp2
    exact stake_end2 Tryz.results148 RZ rfl HZ.out (by omega) (setJ s v true (s.V v).dead) (.slice ao s.W.length c) 0 r HR.out _ rfl rfl rfl
theorem sjail_any (s : St) (ao : Option Addr) (sb so c : Nat) (v : Int) (w : World) (hW : WsAt w ao sb so s.W) :
    Calls Tryz.prog 148 #[.agg (stC s (.slice ao s.W.length c)), .int .i64 v] w fun e w' => e = .returned (.tuple #[.agg (stC (jailS s v).1 (.slice ao s.W.length c)), .int .i64 (jailS s v).2]) ∧ Below w.heap.size w w' := by
  by_cases h : refE s v = 0
  · obtain ⟨hg, v0, v1⟩ := refE_zero h
    obtain ⟨v, rfl⟩ := Int.eq_ofNat_of_zero_le v0
    exact sjail_yes s ao sb so c v w hW _ hg (by omega) (fun h1 => by rw [jailS, if_pos h]; exact if_pos h1) (fun h1 => by rw [jailS, if_pos h]; exact if_neg (by simp [h1]))
  · exact sjail_no s ao sb so c v w hW _ h (by unfold jailS; exact if_neg h)
set_option maxHeartbeats 4000000 in
theorem sbury_no (s : St) (ao : Option Addr) (sb so c : Nat) (v : Int) (w : World) (hW : WsAt w ao sb so s.W) (r : St × Int) (h0 : refE s v ≠ 0) (hr : r = (s, refE s v)) :
    Calls Tryz.prog 151 #[.agg (stC s (.slice ao s.W.length c)), .int .i64 v] w fun e w' => e = .returned (.tuple #[.agg (stC r.1 (.slice ao s.W.length c)), .int .i64 r.2]) ∧ Below w.heap.size w w' := by
  have SS := (SAt.new w (stC s (.slice ao s.W.length c))).alloc (.cells Z63 32)
  have RR := SAt.new2 w (.cells (stC s (.slice ao s.W.length c)) 32) Z63
  have HB : Hid (Below w.heap.size w ((w.alloc (.cells (stC s (.slice ao s.W.length c)) 32)).alloc (.cells Z63 32))) := ((Below.refl _ w).alloc (Nat.le_refl _) _).alloc (by simp) _
  have HW := hide hW
  have HR := hide hr
  clear hW hr
  go_enter Tryz.func151, Tryz.ntmps151
  go_upto_region 1 with fail
  change Code.wp Tryz.prog _ _ _ ((w.alloc (.cells (stC s (.slice ao s.W.length c)) 32)).alloc (.cells Z63 32))
  generalize (w.alloc (.cells (stC s (.slice ao s.W.length c)) 32)).alloc (.cells Z63 32) = w0 at *
  go_upto_region 2 with (go_at_call 144; refine (refused_any s ao sb so c w.heap.size v _ SS (by exact HW.out.over HB.out)).mono ?_; rintro e w1 ⟨rfl, h1⟩)
  have HB1 := hide (HB.out.trans (h1.mono HB.out.size))
  have S1 := SS.later h1 SS.lt
  have R1 := RR.later h1 RR.lt
  clear SS RR h1 HB
  go_upto_region 3 with fail
  apply wp_region_lit
  refine wpList_load_mid rfl 32 _ rfl _ 0 rfl _ _ S1.range Tryz.underlying32 rfl (by rw [infoS]; rfl) ?_
  refine wpList_mv rfl _ rfl ?_
  refine wpList_store_mid rfl 32 _ _ rfl _ 0 (stC s (.slice ao s.W.length c)) rfl rfl (R1.there 0 _ (by rw [Z63_size, stC_size]; omega)) (by rw [infoS]; rfl) (stC_one _ _ _ _) ?_
  go_wp2
  exact stake_end2 Tryz.results151 R1 rfl HB1.out (by omega) s _ _ r HR.out _ rfl rfl rfl
set_option maxHeartbeats 4000000 in
theorem sbury_yes (s : St) (ao : Option Addr) (sb so c v : Nat) (w : World) (hW : WsAt w ao sb so s.W) (r : St × Int) (hg : goodS s = true) (hv : v < 6) (h1 : (s.V v).dead = true → r = (s, 15)) (h2 : (s.V v).dead = false → r = ((setJ s v true true), 0)) :
    Calls Tryz.prog 151 #[.agg (stC s (.slice ao s.W.length c)), .int .i64 (v : Int)] w fun e w' => e = .returned (.tuple #[.agg (stC r.1 (.slice ao s.W.length c)), .int .i64 r.2]) ∧ Below w.heap.size w w' := by
  have SS := (SAt.new w (stC s (.slice ao s.W.length c))).alloc (.cells Z63 32)
  have RR := SAt.new2 w (.cells (stC s (.slice ao s.W.length c)) 32) Z63
  have HB : Hid (Below w.heap.size w ((w.alloc (.cells (stC s (.slice ao s.W.length c)) 32)).alloc (.cells Z63 32))) := ((Below.refl _ w).alloc (Nat.le_refl _) _).alloc (by simp) _
  have HW := hide hW
  have Hh1 := hide h1
  have Hh2 := hide h2
  have hRf := refE_good hg hv
  have hv' : (v : Int) < 6 := by omega
  have hv0 : (0 : Int) ≤ (v : Int) := by omega
  clear hW h1 h2
  go_enter Tryz.func151, Tryz.ntmps151
  go_upto_region 1 with fail
  change Code.wp Tryz.prog _ _ _ ((w.alloc (.cells (stC s (.slice ao s.W.length c)) 32)).alloc (.cells Z63 32))
  generalize (w.alloc (.cells (stC s (.slice ao s.W.length c)) 32)).alloc (.cells Z63 32) = w0 at *
  go_upto_region 2 with (go_at_call 144; refine (refused_any s ao sb so c w.heap.size v _ SS (by exact HW.out.over HB.out)).mono ?_; rintro e w1 ⟨rfl, h1⟩)
  have HB1 := hide (HB.out.trans (h1.mono HB.out.size))
  have S1 := SS.later h1 SS.lt
  have R1 := RR.later h1 RR.lt
  clear SS RR h1 HB
  obtain ⟨c0, c1, c2, c3, c4⟩ := S1.val v hv
  have hz1 : w.heap.size + 1 < w1.heap.size := R1.lt
  clear c0 c1 c2
  go_upto_region 7 with (first | ((fail_if_success (go_not_at_region 6)); apply wp_region_lit; refine wpList_load_mid rfl 32 _ rfl _ 0 rfl _ _ S1.range Tryz.underlying32 rfl (by rw [infoS]; rfl) ?_; refine wpList_store_mid rfl 32 _ _ rfl _ 0 (stC s (.slice ao s.W.length c)) rfl rfl (R1.there 0 _ (by rw [Z63_size, stC_size]; omega)) (by rw [infoS]; rfl) (stC_one _ _ _ _) ?_))
  · exact stake_end2 Tryz.results151 R1 rfl HB1.out (by omega) s _ _ r (Hh1.out ‹(s.V v).dead = true›) _ rfl rfl rfl
  · have HR := hide (Hh2.out ‹(s.V v).dead = false›)
    have f0 := S1.free (7 + v * 5 + 3)
    have f1 := S1.free (7 + v * 5 + 4)
    have S2 := S1.set (7 + v * 5 + 3) (.bool true)
    rw [set_J _ _ v hv] at S2
    have S3 := S2.set (7 + v * 5 + 4) (.bool true)
    rw [set_D _ _ v hv] at S3
    have RZ : SAt ((w1.setCell ⟨w.heap.size, 7 + v * 5 + 3, none⟩ (.bool true)).setCell ⟨w.heap.size, 7 + v * 5 + 4, none⟩ (.bool true)) (w.heap.size + 1) Z63 := ((R1.other (by omega) (.bool true) : SAt _ _ _).other (by omega) (.bool true) : SAt _ _ _)
    have HZ := hide ((HB1.out.setCell (p := ⟨w.heap.size, 7 + v * 5 + 3, none⟩) (Nat.le_refl _) (.bool true)).setCell (p := ⟨w.heap.size, 7 + v * 5 + 4, none⟩) (Nat.le_refl _) (.bool true))
    clear S1 R1 HB1
    go_upto_region 8 with fail
    generalize ((w1.setCell ⟨w.heap.size, 7 + v * 5 + 3, none⟩ (.bool true)).setCell ⟨w.heap.size, 7 + v * 5 + 4, none⟩ (.bool true)) = w9 at *
    apply wp_region_lit
    refine wpList_load_mid rfl 32 _ rfl _ 0 rfl _ _ S3.range Tryz.underlying32 rfl (by rw [infoS]; rfl) ?_
    refine wpList_store_mid rfl 32 _ _ rfl _ 0 (stC (setJ s v true true) (.slice ao s.W.length c)) rfl rfl (RZ.there 0 _ (by rw [Z63_size, stC_size]; omega)) (by rw [infoS]; rfl) (stC_one _ _ _ _) ?_
    go_wp2
    exact stake_end2 Tryz.results151 RZ rfl HZ.out (by omega) (setJ s v true true) (.slice ao s.W.length c) 0 r HR.out _ rfl rfl rfl
theorem sbury_any (s : St) (ao : Option Addr) (sb so c : Nat) (v : Int) (w : World) (hW : WsAt w ao sb so s.W) :
    Calls Tryz.prog 151 #[.agg (stC s (.slice ao s.W.length c)), .int .i64 v] w fun e w' => e = .returned (.tuple #[.agg (stC (buryS s v).1 (.slice ao s.W.length c)), .int .i64 (buryS s v).2]) ∧ Below w.heap.size w w' := by
  by_cases h : refE s v = 0
  · obtain ⟨hg, v0, v1⟩ := refE_zero h
    obtain ⟨v, rfl⟩ := Int.eq_ofNat_of_zero_le v0
    exact sbury_yes s ao sb so c v w hW _ hg (by omega) (fun h1 => by rw [buryS, if_pos h]; exact if_pos h1) (fun h1 => by rw [buryS, if_pos h]; exact if_neg (by simp [h1]))
  · exact sbury_no s ao sb so c v w hW _ h (by unfold buryS; exact if_neg h)
end Go.Proofs.YtjghbciepinofaaGreat

