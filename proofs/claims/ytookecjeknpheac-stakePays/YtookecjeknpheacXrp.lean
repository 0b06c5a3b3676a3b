/- The reference's PayAll. The reference's SameNumbers, of two rows that hold the same. StakePays: the law's walk. -/
import Derived.Test.YtookecjeknpheacXtc
import Derived.Test.YtookecjeknpheacXpy
import Derived.Test.YtookecjeknpheacXta
import Derived.Test.YtookecjeknpheacXrl
import Derived.Test.YtookecjeknpheacXtd
import Derived.Test.YtookecjeknpheacXsd
import Derived.Test.YtookecjeknpheacXsa
import Derived.BigQuiet
import Derived.Deep.RegionHeld3
set_option maxRecDepth 100000
namespace Go.Proofs.Ytookecjeknpheac
open Go.RowKit
set_option maxHeartbeats 4000000 in
theorem rpayall_no (s : St) (ao : Option Addr) (sb so c : Nat) (t : Int) (w : World) (hW : WsAt w ao sb so s.W) (hg : goodS s = false) :
    Calls Try.prog 28 #[.agg (stC s (.slice ao s.W.length c)), .int .i64 t] w fun e w' => e = .returned (.tuple #[.agg (stC s (.slice ao s.W.length c)), .slice none 0 0, .int .i64 2]) ∧ Below w.heap.size w w' := by
  have SS := (SAt.new w (stC s (.slice ao s.W.length c))).alloc (.cells Z63 43)
  have RR := SAt.new2 w (.cells (stC s (.slice ao s.W.length c)) 43) Z63
  have HB : Hid (Below w.heap.size w ((w.alloc (.cells (stC s (.slice ao s.W.length c)) 43)).alloc (.cells Z63 43))) := ((Below.refl _ w).alloc (Nat.le_refl _) _).alloc (by simp) _
  have HW := hide hW
  have hG := fun w h => rgoods_any s ao sb so c w h
  rw [hg] at hG
  clear hW hg
  go_enter Try.func28, Try.ntmps28
  go_upto_region 1 with fail
  change Code.wp Try.prog _ _ _ ((w.alloc (.cells (stC s (.slice ao s.W.length c)) 43)).alloc (.cells Z63 43))
  generalize (w.alloc (.cells (stC s (.slice ao s.W.length c)) 43)).alloc (.cells Z63 43) = w0 at *
  apply wp_region_lit
  refine wpList_load_mid rfl 43 _ rfl _ 0 rfl _ _ SS.range Try.underlying43 rfl (by rw [infoS]; rfl) ?_
  go_upto_region 2 with (go_at_call 21; refine (hG _ (by exact HW.out.over HB.out)).mono ?_; rintro e w1 ⟨rfl, h1⟩)
  have HB1 := hide (HB.out.trans (h1.mono HB.out.size))
  have S1 := SS.later h1 SS.lt
  have R1 := RR.later h1 RR.lt
  apply wp_region_lit
  refine wpList_load_mid rfl 43 _ rfl _ 0 rfl _ _ S1.range Try.underlying43 rfl (by rw [infoS]; rfl) ?_
  refine wpList_store_mid rfl 43 _ _ rfl _ 0 (stC s (.slice ao s.W.length c)) rfl rfl (R1.there 0 _ (by rw [Z63_size, stC_size]; omega)) (by rw [infoS]; rfl) (stC_one _ _ _ _) ?_
  go_wp2
  exact stake_end3 Try.results28 R1 rfl s _ _ _ _ ⟨rfl, below_sets (by omega) _ _ _ HB1.out⟩ _ rfl rfl rfl rfl
/-- where the loop stands -/
structure PayQ (s : St) (t : Int) (B ob : Nat) (w : World) (k : Nat) (A : Option Addr) (C : Nat) (A' : Option Addr) (C' : Nat) (wl : World) : Prop where
  own9 : OwnW B wl A C (leftW t (s.W.take k))
  own10 : OwnN B wl A' C' (paidW t (s.W.take k))
  apart : ∀ k', (Value.slice A (leftW t (s.W.take k)).length C).ownBlock = some k' → some k' ≠ (Value.slice A' (paidW t (s.W.take k)).length C').ownBlock
  R : SAt wl (w.heap.size + 1) Z63
  O : SAt wl ob (stC { s with b := payF t s.b (s.W.take k) } (.slice A (leftW t (s.W.take k)).length C))
  below : Below w.heap.size w wl
  size : B ≤ wl.heap.size
theorem PayQ.over {s : St} {t : Int} {B ob : Nat} {w : World} {k : Nat} {A : Option Addr} {C : Nat} {A' : Option Addr} {C' : Nat} {wl w' : World} (h : PayQ s t B ob w k A C A' C' wl) (hb : Below wl.heap.size wl w') : PayQ s t B ob w k A C A' C' w' :=
  ⟨h.own9.over hb, h.own10.over hb, h.apart, h.R.later hb h.R.lt, h.O.later hb h.O.lt, h.below.trans (hb.mono h.below.size), Nat.le_trans h.size hb.size⟩
theorem PayQ.left {s : St} {t : Int} {B ob : Nat} {w : World} {k : Nat} {A : Option Addr} {C : Nat} {A' : Option Addr} {C' : Nat} {wl w' : World} (h : PayQ s t B ob w k A C A' C' wl) {x : Wt} (hx : s.W[k]? = some x) (hd : dueW t x = false) (hbb : ob < B) (hw : w.heap.size + 1 < ob) {g D : Nat} (hO : SAt w' ob (stC { s with b := payF t s.b (s.W.take k) } (.slice A (leftW t (s.W.take k)).length C)))
    (h1 : OwnW B w' (some ⟨g, 0, none⟩) D (leftW t (s.W.take k) ++ [x])) (h4 : Below B wl w') (h5 : ∀ k', k' < wl.heap.size → some k' ≠ (Value.slice A (leftW t (s.W.take k)).length C).ownBlock → g ≠ k' ∧ w'.heap[k']? = wl.heap[k']?) :
    PayQ s t B ob w (k + 1) (some ⟨g, 0, none⟩) D A' C' (w'.setCell ⟨ob, 61, none⟩ (.slice (some ⟨g, 0, none⟩) ((leftW t (s.W.take k)).length + 1) D)) := by
  have eL : leftW t (s.W.take (k + 1)) = leftW t (s.W.take k) ++ [x] := by rw [take_snoc hx, left_snoc, if_neg (by simp [hd])]
  have eP : paidW t (s.W.take (k + 1)) = paidW t (s.W.take k) := by unfold paidW; rw [take_snoc hx, paid_snoc, if_neg (by simp [hd])]
  have eB : payF t s.b (s.W.take (k + 1)) = payF t s.b (s.W.take k) := by rw [take_snoc hx, payF_snoc, if_neg (by simp [hd])]
  have hbt := (But.refl ob w').set 61 (.slice (some ⟨g, 0, none⟩) ((leftW t (s.W.take k)).length + 1) D)
  have hp : ∀ k', (Value.slice A' (paidW t (s.W.take k)).length C').ownBlock = some k' → g ≠ k' ∧ w'.heap[k']? = wl.heap[k']? := fun k' hk => h5 k' (World.ownsRow.lt h.own10 k' hk).2 fun he => h.apart k' he.symm hk.symm
  have O1 := hO.set 61 (.slice (some ⟨g, 0, none⟩) ((leftW t (s.W.take k)).length + 1) D)
  rw [set_sl] at O1
  refine ⟨by rw [eL]; exact own_of h1 fun k' hk => hbt.block _ (by have := (World.ownsRow.lt h1 k' hk).1; omega), by rw [eP]; exact own_of h.own10 fun k' hk => (hbt.block _ (by have := (World.ownsRow.lt h.own10 k' hk).1; omega)).trans (hp k' hk).2, ?_, hbt.stake (by omega) ((h4.block _ (by omega)).trans h.R), by rw [eB, eL, List.length_append]; exact O1, (h.below.trans (h4.mono (by omega))).trans (hbt.below (by omega)), by simp; exact Nat.le_trans h.size h4.size⟩
  rw [eP]
  intro k' hk he
  cases hk
  exact (hp g he.symm).1 rfl
theorem PayQ.paid {s : St} {t : Int} {B ob : Nat} {w : World} {k : Nat} {A : Option Addr} {C : Nat} {A' : Option Addr} {C' : Nat} {wl w' : World} (h9 : OwnW B wl A C (leftW t (s.W.take k)))
    (hap : ∀ k', (Value.slice A (leftW t (s.W.take k)).length C).ownBlock = some k' → some k' ≠ (Value.slice A' (paidW t (s.W.take k)).length C').ownBlock) (hR : SAt wl (w.heap.size + 1) Z63) (hO : SAt wl ob (stC { s with b := payF t s.b (s.W.take (k + 1)) } (.slice A (leftW t (s.W.take k)).length C))) (hbel : Below w.heap.size w wl) (hsz : B ≤ wl.heap.size)
    {x : Wt} (hx : s.W[k]? = some x) (hd : dueW t x = true) (hbb : ob < B) (hw : w.heap.size + 1 < ob) {g D : Nat}
    (h1 : OwnN B w' (some ⟨g, 0, none⟩) D (paidW t (s.W.take k) ++ [x.num])) (h4 : Below B wl w') (h5 : ∀ k', k' < wl.heap.size → some k' ≠ (Value.slice A' (paidW t (s.W.take k)).length C').ownBlock → g ≠ k' ∧ w'.heap[k']? = wl.heap[k']?) : PayQ s t B ob w (k + 1) A C (some ⟨g, 0, none⟩) D w' := by
  have eL : leftW t (s.W.take (k + 1)) = leftW t (s.W.take k) := by rw [take_snoc hx, left_snoc, if_pos hd]
  have eP : paidW t (s.W.take (k + 1)) = paidW t (s.W.take k) ++ [x.num] := by unfold paidW; rw [take_snoc hx, paid_snoc, if_pos hd, List.map_append]; rfl
  have hp : ∀ k', (Value.slice A (leftW t (s.W.take k)).length C).ownBlock = some k' → g ≠ k' ∧ w'.heap[k']? = wl.heap[k']? := fun k' hk => h5 k' (World.ownsRow.lt h9 k' hk).2 (hap k' hk)
  refine ⟨by rw [eL]; exact own_of h9 fun k' hk => (hp k' hk).2, by rw [eP]; exact h1, ?_, (h4.block _ (by omega)).trans hR, by rw [eL]; exact (h4.block _ hbb).trans hO, hbel.trans (h4.mono (by omega)), Nat.le_trans hsz h4.size⟩
  rw [eL]
  intro k' hk he
  cases he
  exact (hp g hk).1 rfl
set_option maxHeartbeats 8000000 in
theorem rpayall_yes (s : St) (ao : Option Addr) (sb so c : Nat) (t : Int) (w : World) (hW : WsAt w ao sb so s.W) (hg : goodS s = true) :
    Calls Try.prog 28 #[.agg (stC s (.slice ao s.W.length c)), .int .i64 t] w fun e w' => ∃ A C A' C', e = .returned (.tuple #[.agg (stC (payS s t) (.slice A (payS s t).W.length C)), .slice A' (paidW t s.W).length C', .int .i64 0]) ∧ OwnW w.heap.size w' A C (payS s t).W ∧ OwnN w.heap.size w' A' C' (paidW t s.W) ∧ Below w.heap.size w w' := by
  have SS := (SAt.new w (stC s (.slice ao s.W.length c))).alloc (.cells Z63 43)
  have RR := SAt.new2 w (.cells (stC s (.slice ao s.W.length c)) 43) Z63
  have HB : Hid (Below w.heap.size w ((w.alloc (.cells (stC s (.slice ao s.W.length c)) 43)).alloc (.cells Z63 43))) := ((Below.refl _ w).alloc (Nat.le_refl _) _).alloc (by simp) _
  have HW := hide hW
  have hG := fun w h => rgoods_any s ao sb so c w h
  rw [hg] at hG
  have hl60 : s.W.length ≤ 60 := ((goodS_iff s).1 hg).2.2.2.1
  have hPy := fun k x hx hd w => (pay_step hg t (k := k) (x := x) hx hd) ▸ rpay_any (payF t s.b (s.W.take k)) x.d x.amt w
  clear hW hg
  go_enter Try.func28, Try.ntmps28
  go_upto_region 1 with fail
  change Code.wp Try.prog _ _ _ ((w.alloc (.cells (stC s (.slice ao s.W.length c)) 43)).alloc (.cells Z63 43))
  generalize (w.alloc (.cells (stC s (.slice ao s.W.length c)) 43)).alloc (.cells Z63 43) = w0 at *
  apply wp_region_lit
  refine wpList_load_mid rfl 43 _ rfl _ 0 rfl _ _ SS.range Try.underlying43 rfl (by rw [infoS]; rfl) ?_
  go_upto_region 3 with (go_at_call 21; refine (hG _ (by exact HW.out.over HB.out)).mono ?_; rintro e w1 ⟨rfl, h1⟩)
  have HB1 := hide (HB.out.trans (h1.mono HB.out.size))
  have S1 := SS.later h1 SS.lt
  have R1 := RR.later h1 RR.lt
  have hz1 : w.heap.size + 1 < w1.heap.size := R1.lt
  clear SS RR h1 HB hG
  apply wp_region_lit
  refine wpList_load_mid rfl 43 _ rfl _ 0 rfl _ _ S1.range Try.underlying43 rfl (by rw [infoS]; rfl) ?_
  go_step
  go_step
  refine (copy_st s ao sb so c _ (by exact HW.out.over HB1.out)).mono ?_
  rintro e w6 ⟨A0, C0, g0, rfl, _, _, h6⟩
  dsimp only
  have S6 := S1.later h6 S1.lt
  have R6 := R1.later h6 R1.lt
  have HB6 := hide (HB1.out.trans (h6.mono (by omega)))
  have hz6 : w.heap.size + 1 < w6.heap.size := R6.lt
  clear h6 S1 R1 HB1
  iterate 4 go_step
  refine wpList_store_mid rfl 43 _ _ rfl _ 0 (stC s (.slice A0 s.W.length C0)) rfl rfl ((SAt.new w6 Z63).there 0 _ (by rw [Z63_size, stC_size]; omega)) (by rw [infoS]; rfl) (stC_one _ _ _ _) ?_
  change wpList Try.prog _ _ _ _ ((w6.alloc (.cells Z63 43)).setCells w6.heap.size 0 (stC s (.slice A0 s.W.length C0)).toList)
  have O7 := (SAt.new w6 Z63).setAll (ds := (stC s (.slice A0 s.W.length C0))) rfl
  have S7 : SAt ((w6.alloc (.cells Z63 43)).setCells w6.heap.size 0 (stC s (.slice A0 s.W.length C0)).toList) w.heap.size (stC s (.slice ao s.W.length c)) := (heap_sets (by omega) _ _ _).trans (S6.alloc _)
  have R7 : SAt ((w6.alloc (.cells Z63 43)).setCells w6.heap.size 0 (stC s (.slice A0 s.W.length C0)).toList) (w.heap.size + 1) Z63 := (heap_sets (by omega) _ _ _).trans (R6.alloc _)
  have HB7 := hide (below_sets (b := w6.heap.size) (by omega) (stC s (.slice A0 s.W.length C0)).toList 0 _ (HB6.out.alloc (by omega) (.cells Z63 43)))
  generalize (w6.alloc (.cells Z63 43)).setCells w6.heap.size 0 (stC s (.slice A0 s.W.length C0)).toList = w7 at *
  have hz7 : w6.heap.size < w7.heap.size := O7.lt
  have x61 := (st_cells O7).2.2.2.2.2.2.2.1
  have f61 := O7.free 61
  clear S6 R6 HB6
  go_upto_region 5 with fail
  have O8 := O7.set 61 (.slice none 0 0)
  rw [set_sl] at O8
  have hbt := (But.refl w6.heap.size w7).set 61 (.slice none 0 0)
  have S8 := hbt.stake (by omega) S7
  have R8 := hbt.stake (by omega) R7
  have HB8 := hide (HB7.out.trans (hbt.below (by omega)))
  generalize w7.setCell ⟨w6.heap.size, 61, none⟩ (.slice none 0 0) = w8 at *
  have hz8 : w6.heap.size < w8.heap.size := O8.lt
  have hz8a : w.heap.size < w8.heap.size := by omega
  have x7 := (st_cells S8).2.2.2.2.2.2.2.1
  have HP0 : Hid (PayQ s t w8.heap.size w6.heap.size w 0 none 0 none 0 w8) := ⟨⟨rfl, .inl ⟨rfl, rfl⟩⟩, ⟨rfl, .inl ⟨rfl, rfl⟩⟩, fun k' h => (by cases h), R8, O8, HB8.out, Nat.le_refl _⟩
  clear O7 S7 R7 HB7 x61 f61 hbt S8 R8 HB8 O8
  have hadr := HW.out.adr
  go_upto_region 7 with fail
  go_loopw [8, 21] (fun p10 i wl => ∃ (k : Nat) (A : Option Addr) (C : Nat) (A' : Option Addr) (C' : Nat), k ≤ s.W.length ∧ i = .int .i64 (k : Int) ∧ p10 = .slice A' (paidW t (s.W.take k)).length C' ∧ Hid (PayQ s t w8.heap.size w6.heap.size w k A C A' C' wl)) (fun _ i _ => s.W.length - (intOf i).toNat)
  case atStart => exact ⟨0, none, 0, none, 0, Nat.zero_le _, rfl, rfl, HP0⟩
  case round =>
    obtain ⟨k, A, C, A', C', hk, rfl, rfl, HP⟩ := hrel
    have hwr := HP.out.size
    clear HP0 x7
    by_cases hlt : k < s.W.length
    · obtain ⟨x, hx, _⟩ := drop_at hlt
      obtain ⟨c0, c1, c2, c3, c4, c5, c6, c7⟩ := (HW.out.over HP.out.below).cell k x hx
      obtain rfl := hadr (by omega)
      have h9 : (leftW t (s.W.take k)).length ≤ 60 := Nat.le_trans (List.length_filter_le _ _) (by rw [List.length_take]; omega)
      have h10 : (paidW t (s.W.take k)).length ≤ 60 := by unfold paidW; rw [List.length_map]; exact Nat.le_trans (List.length_filter_le _ _) (by rw [List.length_take]; omega)
      have hPk := hPy k x hx
      have HX := hide hx
      clear hadr hPy hx
      have Yq : YAt (wr.alloc (.cells #[.int .i64 x.num, .int .i64 x.d, .int .i64 x.v, .int .i64 x.amt, .int .i64 x.hei, .int .i64 x.due, .int .i64 x.h0, .int .i64 x.h1] 53)) wr.heap.size x := heap_alloc_new _ _
      have HQ := hide (HP.out.over ((Below.refl _ wr).alloc (Nat.le_refl _) (.cells #[.int .i64 x.num, .int .i64 x.d, .int .i64 x.v, .int .i64 x.amt, .int .i64 x.hei, .int .i64 x.due, .int .i64 x.h0, .int .i64 x.h1] 53)))
      have hzq : wr.heap.size < (wr.alloc (.cells #[.int .i64 x.num, .int .i64 x.d, .int .i64 x.v, .int .i64 x.amt, .int .i64 x.hei, .int .i64 x.due, .int .i64 x.h0, .int .i64 x.h1] 53)).heap.size := Yq.lt
      go_upto_region 9 with fail
      generalize wr.alloc (.cells #[.int .i64 x.num, .int .i64 x.d, .int .i64 x.v, .int .i64 x.amt, .int .i64 x.hei, .int .i64 x.due, .int .i64 x.h0, .int .i64 x.h1] 53) = wq at *
      clear c0 c1 c2 c3 c4 c5 c6 c7 HP
      have hwq := HQ.out.size
      by_cases hd1 : x.due ≤ t
      · by_cases hd2 : x.h0 = 0
        · by_cases hd3 : x.h1 = 0
          · have HD : Hid (dueW t x = true) := by show dueW t x = true; simp [dueW, hd1, hd2, hd3]
            have hPk2 := hPk HD.out
            have hd2' : (x.h0 == 0) = true := by simp [hd2]
            have hd3' : (x.h1 == 0) = true := by simp [hd3]
            clear hPk hd2 hd3
            obtain ⟨c0, c1, c2, c3, c4, c5, c6, c7⟩ := Yq.cells
            obtain ⟨x0, x1, x2, x3, x4, x5, x6, _, _⟩ := st_cells HQ.out.O
            simp only at x0 x1 x2 x3 x4 x5 x6
            have hzo := HQ.out.O.lt
            go_upto_region 11 with (go_at_call 62; refine (hPk2 _).mono ?_; rintro e wz ⟨rfl, h6⟩; have HQ6 := hide (HQ.out.over h6); have Y6 := Yq.later h6 Yq.lt; clear x0 x1 x2 x3 x4 x5 x6; obtain ⟨x0, x1, x2, x3, x4, x5, x6, _, _⟩ := st_cells HQ6.out.O; have f0 := HQ6.out.O.free 0; have f1 := HQ6.out.O.free 1; have f2 := HQ6.out.O.free 2; have f3 := HQ6.out.O.free 3; have f4 := HQ6.out.O.free 4; have f5 := HQ6.out.O.free 5; have f6 := HQ6.out.O.free 6; have hz6o := HQ6.out.O.lt; clear h6)
            change Code.wp Try.prog _ _ _ (bset wz w6.heap.size (payF t s.b (s.W.take (k + 1))))
            have hbt : But w6.heap.size wz (bset wz w6.heap.size (payF t s.b (s.W.take (k + 1)))) := (((((((But.refl _ _).set 0 _).set 1 _).set 2 _).set 3 _).set 4 _).set 5 _).set 6 _
            have O7 := set_bank HQ6.out.O (payF t s.b (s.W.take (k + 1)))
            have R7 := hbt.stake (by omega) HQ6.out.R
            have Y7 : YAt (bset wz w6.heap.size (payF t s.b (s.W.take (k + 1)))) wr.heap.size x := (hbt.block _ (by omega)).trans Y6
            have HO9 : Hid (OwnW w8.heap.size (bset wz w6.heap.size (payF t s.b (s.W.take (k + 1)))) A C (leftW t (s.W.take k))) := own_of HQ6.out.own9 fun k' hk => hbt.block _ (by have := (World.ownsRow.lt HQ6.out.own9 k' hk).1; omega)
            have HO10 : Hid (OwnN w8.heap.size (bset wz w6.heap.size (payF t s.b (s.W.take (k + 1)))) A' C' (paidW t (s.W.take k))) := own_of HQ6.out.own10 fun k' hk => hbt.block _ (by have := (World.ownsRow.lt HQ6.out.own10 k' hk).1; omega)
            have HB7 := hide (HQ6.out.below.trans (hbt.below (by omega)))
            have HAP := hide HQ6.out.apart
            generalize bset wz w6.heap.size (payF t s.b (s.W.take (k + 1))) = w9 at *
            clear c0 c1 c2 c3 c4 c5 c6 c7 x0 x1 x2 x3 x4 x5 x6 f0 f1 f2 f3 f4 f5 f6 hbt HQ6 Y6 HQ Yq
            have c0 := Y7.cells.1
            have hz9 := Y7.lt
            have hz9w : w8.heap.size ≤ w9.heap.size := by omega
            have HO7 := hide O7
            have HR7 := hide R7
            clear O7 R7
            go_wp2_with (at_builtin; refine wpList_ap3N rfl rfl _ _ rfl w8.heap.size A' C' w9.heap.size (paidW t (s.W.take k)) x.num rfl rfl (by exact HO10.out.over ((Below.refl _ w9).alloc (Nat.le_refl _) _)) (by omega) (by simp; omega) (by rw [World.cell?_alloc_at _ _ _ _ rfl]; rfl) ?_; rintro g D w13 ⟨hO13, hg1, hg2, hb13, hk13⟩; have HO13 := hide hO13; have HB13 := hide hb13; have HK13 := hide hk13; clear hO13 hb13 hk13)
            have hba := (Below.refl w9.heap.size w9).alloc (Nat.le_refl _) (.cells #[.int .i64 x.num] 3)
            have HP1 := hide (PayQ.paid (HO9.out.over hba) HAP.out (HR7.out.later hba HR7.out.lt) (HO7.out.later hba HO7.out.lt) (HB7.out.trans (hba.mono (by omega))) (Nat.le_trans hz9w hba.size) HX.out HD.out (by omega) (by omega) HO13.out HB13.out HK13.out)
            have hll := len_paid HX.out HD.out
            exact ⟨⟨k + 1, A, C, some ⟨g, 0, none⟩, D, by omega, by go_num, by rw [hll.2], HP1⟩, by simp [intOf]; omega⟩
          · have HD : Hid (dueW t x = false) := by show dueW t x = false; simp [dueW, hd3]
            have hd2' : (x.h0 == 0) = true := by simp [hd2]
            clear hd2
            obtain ⟨c0, c1, c2, c3, c4, c5, c6, c7⟩ := Yq.cells
            have x7 := (st_cells HQ.out.O).2.2.2.2.2.2.2.1
            have hzo := HQ.out.O.lt
            go_wp2_with (at_builtin; refine wpList_ap3 rfl rfl _ _ rfl w8.heap.size A C wq.heap.size (leftW t (s.W.take k)) x rfl rfl (by exact HQ.out.own9.over ((Below.refl _ wq).alloc (Nat.le_refl _) _)) (by omega) (by simp; omega) (by exact fun j u hj => wt_new wq x _ j u hj) ?_; rintro g D w13 ⟨hO13, hg1, hg2, hb13, hk13⟩; have O13 : SAt w13 w6.heap.size (stC { s with b := payF t s.b (s.W.take k) } (.slice A (leftW t (s.W.take k)).length C)) := (hb13.block _ (by omega)).trans (HQ.out.O.alloc _); have z7 := (st_cells O13).2.2.2.2.2.2.2.1; have fz := O13.free 61; have hz13 := O13.lt; have HO13 := hide hO13; have HB13 := hide hb13; have HK13 := hide hk13; have HOO := hide O13; clear hO13 hb13 hk13 O13)
            have hll := len_left HX.out HD.out
            have HP1 := hide ((HQ.out.over ((Below.refl _ wq).alloc (Nat.le_refl _) (.cells #[.int .i64 x.num, .int .i64 x.d, .int .i64 x.v, .int .i64 x.amt, .int .i64 x.hei, .int .i64 x.due, .int .i64 x.h0, .int .i64 x.h1] 53))).left HX.out HD.out (by omega) (by omega) HOO.out HO13.out HB13.out HK13.out)
            exact ⟨⟨k + 1, some ⟨g, 0, none⟩, D, A', C', by omega, by go_num, by rw [hll.2], HP1⟩, by simp [intOf]; omega⟩
        · have HD : Hid (dueW t x = false) := by show dueW t x = false; simp [dueW, hd2]
          obtain ⟨c0, c1, c2, c3, c4, c5, c6, c7⟩ := Yq.cells
          have x7 := (st_cells HQ.out.O).2.2.2.2.2.2.2.1
          have hzo := HQ.out.O.lt
          go_wp2_with (at_builtin; refine wpList_ap3 rfl rfl _ _ rfl w8.heap.size A C wq.heap.size (leftW t (s.W.take k)) x rfl rfl (by exact HQ.out.own9.over ((Below.refl _ wq).alloc (Nat.le_refl _) _)) (by omega) (by simp; omega) (by exact fun j u hj => wt_new wq x _ j u hj) ?_; rintro g D w13 ⟨hO13, hg1, hg2, hb13, hk13⟩; have O13 : SAt w13 w6.heap.size (stC { s with b := payF t s.b (s.W.take k) } (.slice A (leftW t (s.W.take k)).length C)) := (hb13.block _ (by omega)).trans (HQ.out.O.alloc _); have z7 := (st_cells O13).2.2.2.2.2.2.2.1; have fz := O13.free 61; have hz13 := O13.lt; have HO13 := hide hO13; have HB13 := hide hb13; have HK13 := hide hk13; have HOO := hide O13; clear hO13 hb13 hk13 O13)
          have hll := len_left HX.out HD.out
          have HP1 := hide ((HQ.out.over ((Below.refl _ wq).alloc (Nat.le_refl _) (.cells #[.int .i64 x.num, .int .i64 x.d, .int .i64 x.v, .int .i64 x.amt, .int .i64 x.hei, .int .i64 x.due, .int .i64 x.h0, .int .i64 x.h1] 53))).left HX.out HD.out (by omega) (by omega) HOO.out HO13.out HB13.out HK13.out)
          exact ⟨⟨k + 1, some ⟨g, 0, none⟩, D, A', C', by omega, by go_num, by rw [hll.2], HP1⟩, by simp [intOf]; omega⟩
      · have HD : Hid (dueW t x = false) := by show dueW t x = false; simp [dueW, hd1]
        obtain ⟨c0, c1, c2, c3, c4, c5, c6, c7⟩ := Yq.cells
        have x7 := (st_cells HQ.out.O).2.2.2.2.2.2.2.1
        have hzo := HQ.out.O.lt
        go_wp2_with (at_builtin; refine wpList_ap3 rfl rfl _ _ rfl w8.heap.size A C wq.heap.size (leftW t (s.W.take k)) x rfl rfl (by exact HQ.out.own9.over ((Below.refl _ wq).alloc (Nat.le_refl _) _)) (by omega) (by simp; omega) (by exact fun j u hj => wt_new wq x _ j u hj) ?_; rintro g D w13 ⟨hO13, hg1, hg2, hb13, hk13⟩; have O13 : SAt w13 w6.heap.size (stC { s with b := payF t s.b (s.W.take k) } (.slice A (leftW t (s.W.take k)).length C)) := (hb13.block _ (by omega)).trans (HQ.out.O.alloc _); have z7 := (st_cells O13).2.2.2.2.2.2.2.1; have fz := O13.free 61; have hz13 := O13.lt; have HO13 := hide hO13; have HB13 := hide hb13; have HK13 := hide hk13; have HOO := hide O13; clear hO13 hb13 hk13 O13)
        have hll := len_left HX.out HD.out
        have HP1 := hide ((HQ.out.over ((Below.refl _ wq).alloc (Nat.le_refl _) (.cells #[.int .i64 x.num, .int .i64 x.d, .int .i64 x.v, .int .i64 x.amt, .int .i64 x.hei, .int .i64 x.due, .int .i64 x.h0, .int .i64 x.h1] 53))).left HX.out HD.out (by omega) (by omega) HOO.out HO13.out HB13.out HK13.out)
        exact ⟨⟨k + 1, some ⟨g, 0, none⟩, D, A', C', by omega, by go_num, by rw [hll.2], HP1⟩, by simp [intOf]; omega⟩
    · obtain rfl : k = s.W.length := by omega
      clear hPy hadr
      rw [List.take_length]
      have HR := hide HP.out.R
      have O1 := HP.out.O
      have HO9 := hide HP.out.own9
      have HO10 := hide HP.out.own10
      have HBw := hide HP.out.below
      clear HP
      rw [List.take_length] at HO9 HO10 O1
      have S9 : SAt wr w6.heap.size (stC (payS s t) (.slice A (leftW t s.W).length C)) := O1
      have R8 := HR.out
      clear O1
      go_upto_region 14 with fail
      apply wp_region_lit
      refine wpList_load_mid rfl 43 _ rfl _ 0 rfl _ _ S9.range Try.underlying43 rfl (by rw [infoS]; rfl) ?_
      refine wpList_mv rfl _ rfl ?_
      refine wpList_store_mid rfl 43 _ _ rfl _ 0 (stC (payS s t) (.slice A (leftW t s.W).length C)) rfl rfl (R8.there 0 _ (by rw [Z63_size, stC_size]; omega)) (by rw [infoS]; rfl) (stC_one _ _ _ _) ?_
      go_wp2
      exact stake_end3 Try.results28 R8 rfl (payS s t) _ _ _ _ ⟨A, C, A', C', rfl, own_base (own_of HO9.out fun k' hk => heap_sets (by have := (World.ownsRow.lt HO9.out k' hk).1; omega) _ _ _) (by omega), own_base (own_of HO10.out fun k' hk => heap_sets (by have := (World.ownsRow.lt HO10.out k' hk).1; omega) _ _ _) (by omega), below_sets (by omega) _ _ _ HBw.out⟩ _ rfl rfl rfl rfl
end Go.Proofs.Ytookecjeknpheac
namespace Go.Proofs.Ytookecjeknpheac
open Go.RowKit
/-- numbers lie behind a slice -/
def NumAt (w : World) (A : Option Addr) (l : List Int) : Prop := 0 < l.length → ∃ g, A = some ⟨g, 0, none⟩ ∧ g < w.heap.size ∧ ∀ j n, l[j]? = some n → w.cell? ⟨g, j, none⟩ = some (.int .i64 n)
theorem NumAt.over {w w' : World} {A : Option Addr} {l : List Int} (h : NumAt w A l) (hb : Below w.heap.size w w') : NumAt w' A l := fun h0 => by
  obtain ⟨g, hg, hlt, hc⟩ := h h0
  exact ⟨g, hg, Nat.lt_of_lt_of_le hlt hb.size, fun j n hj => (hb.cell (p := ⟨g, j, none⟩) hlt).trans (hc j n hj)⟩
theorem OwnN.num {B : Nat} {w : World} {A : Option Addr} {C : Nat} {l : List Int} (h : OwnN B w A C l) : NumAt w A l := fun h0 => by
  obtain ⟨g, hg, hc⟩ := h.cell h0
  exact ⟨g, hg, by subst hg; exact (World.ownsRow.lt h g rfl).2, hc⟩
theorem samenums_any (l : List Int) (A A' : Option Addr) (C C' : Nat) (w : World) (h1 : NumAt w A l) (h2 : NumAt w A' l) (hl : l.length ≤ 60) :
    Calls Try.prog 29 #[.slice A l.length C, .slice A' l.length C'] w fun e w' => e = .returned (.bool true) ∧ Below w.heap.size w w' := by
  go_enter Try.func29, Try.ntmps29
  go_upto_region 4 with fail
  go_loopw [13] (fun i wl => ∃ (k : Nat), k ≤ l.length ∧ i = .int .i64 (k : Int) ∧ Hid (Below w.heap.size w wl)) (fun i _ => l.length - (intOf i).toNat)
  case atStart => exact ⟨0, Nat.zero_le _, rfl, Below.refl _ _⟩
  case round =>
    obtain ⟨k, hk, rfl, HR⟩ := hrel
    by_cases hlt : k < l.length
    · obtain ⟨g, rfl, hg1, hc1⟩ := h1.over HR.out (by omega)
      obtain ⟨g', rfl, hg2, hc2⟩ := h2.over HR.out (by omega)
      have hx : l[k]? = some l[k] := List.getElem?_eq_getElem hlt
      have c1 := hc1 k _ hx
      have c2 := hc2 k _ hx
      generalize l[k] = n at *
      clear hc1 hc2 h1 h2 hx
      have hkI : (k : Int) < (l.length : Int) := by omega
      go_upto_region 6 with fail
      go_quiet (fail)
      go_wp2
      exact ⟨⟨k + 1, by omega, by go_num, ⟨HR.out.os, HR.out.tape, HR.out.output, HR.out.size, HR.out.block⟩⟩, by simp [intOf]; omega⟩
    · obtain rfl : k = l.length := by omega
      go_wp2
      go_ret
      exact ⟨rfl, HR.out⟩
end Go.Proofs.Ytookecjeknpheac
namespace Go.Proofs.Ytookecjeknpheac
open Go.RowKit
def AnsP (w : World) (r : St) (l : List Int) (er : Int) (e : Ending) (w' : World) : Prop := ∃ A ab ao C A' C', e = .returned (.tuple #[.agg (stC r (.slice A r.W.length C)), .slice A' l.length C', .int .i64 er]) ∧ WsAt w' A ab ao r.W ∧ (0 < r.W.length → ab < w'.heap.size) ∧ NumAt w' A' l ∧ Below w.heap.size w w'
def AnsR (w : World) (q : St) (e : Ending) (w' : World) : Prop := ∃ A ab ao C, e = .returned (.agg (stC q (.slice A q.W.length C))) ∧ WsAt w' A ab ao q.W ∧ Below w.heap.size w w'
theorem NumAt.sets {w : World} {A : Option Addr} {l : List Int} (h : NumAt w A l) (o : Obj) (vs : List Value) : NumAt ((w.alloc o).setCells w.heap.size 0 vs) A l := fun h0 => by
  obtain ⟨g, hg, hlt, hc⟩ := h h0
  have hb : ((w.alloc o).setCells w.heap.size 0 vs).heap[g]? = w.heap[g]? := (heap_sets (by omega) _ _ _).trans (Below.heap_alloc w _ g hlt)
  refine ⟨g, hg, ?_, fun j n hj => (World.cell?_of_block (a := ⟨g, j, none⟩) hb).trans (hc j n hj)⟩
  rw [Array.getElem?_eq_getElem hlt] at hb
  exact (Array.getElem?_eq_some_iff.1 hb).1
attribute [local go_sem ↓] loadS_eq
set_option maxHeartbeats 8000000 in
theorem lpays_over (s : St) (ao : Option Addr) (sb so c : Nat) (i h t : Int) (w : World) (hW : WsAt w ao sb so s.W) (r q : St) (l : List Int) (hl : l.length ≤ 60) (er : Int)
    (hD : ∀ (A : Option Addr) (C g : Nat) (w : World), WsAt w A g 0 s.W → Calls Try.prog 27 #[.agg (stC s (.slice A s.W.length C)), .int .i64 t] w fun e w' => AnsP w r l er e w')
    (hR : ∀ w : World, WsAt w ao sb so s.W → Calls Try.prog 28 #[.agg (stC s (.slice ao s.W.length c)), .int .i64 t] w fun e w' => AnsP w r l er e w')
    (hS : ∀ (A : Option Addr) (C g : Nat) (w : World), WsAt w A g 0 s.W → Calls Try.prog 30 #[.agg (stC s (.slice A s.W.length C)), .int .i64 i, .int .i64 h] w fun e w' => AnsR w q e w')
    (hT : ∀ w : World, WsAt w ao sb so s.W → Calls Try.prog 31 #[.agg (stC s (.slice ao s.W.length c)), .int .i64 i, .int .i64 h] w fun e w' => AnsR w q e w') :
    Calls Try.prog 7 #[.agg (stC s (.slice ao s.W.length c)), .int .i64 i, .int .i64 h, .int .i64 t] w fun e w' => e = .returned (.bool true) ∧ Below w.heap.size w w' := by
  have S4 := SAt.new w (stC s (.slice ao s.W.length c))
  have HB0 : Hid (Below w.heap.size w (w.alloc (.cells (stC s (.slice ao s.W.length c)) 43))) := (Below.refl _ w).alloc (Nat.le_refl _) _
  have HW := hide hW
  clear hW
  go_enter Try.func7, Try.ntmps7
  go_upto_region 1 with fail
  generalize w.alloc (.cells (stC s (.slice ao s.W.length c)) 43) = w0 at *
  have hz0 : w.heap.size < w0.heap.size := S4.lt
  apply wp_region_lit
  refine wpList_load_mid rfl 43 _ rfl _ 0 rfl _ _ S4.range Try.underlying43 rfl (by rw [infoS]; rfl) ?_
  go_step
  go_step
  refine (copy_st s ao sb so c _ (by exact HW.out.over HB0.out)).mono ?_
  rintro e w1 ⟨A, C, g, rfl, hWg, _, h1⟩
  dsimp only
  have S4a := S4.later h1 S4.lt
  have HB1 := hide (HB0.out.trans (h1.mono HB0.out.size))
  have hz1 : w.heap.size < w1.heap.size := S4a.lt
  clear h1 S4 HB0
  iterate 6 go_step
  refine (hD A C g _ hWg).mono ?_
  rintro e w3 ⟨A1, ab1, ao1, C1, A1', C1', rfl, hW1, hab1, hN1, h3⟩
  dsimp only
  have S4c := S4a.later h3 S4a.lt
  have HB3 := hide (HB1.out.trans (h3.mono (by omega)))
  have hz3 : w.heap.size < w3.heap.size := S4c.lt
  clear h3 S4a HB1 hWg
  iterate 16 go_step
  refine wpList_store_mid rfl 43 _ _ rfl _ 0 (stC r (.slice A1 r.W.length C1)) rfl rfl ((SAt.new w3 Z63).there 0 _ (by rw [Z63_size, stC_size]; omega)) (by rw [infoS]; rfl) (stC_one _ _ _ _) ?_
  change wpList Try.prog _ _ _ _ ((w3.alloc (.cells Z63 43)).setCells w3.heap.size 0 (stC r (.slice A1 r.W.length C1)).toList)
  have S10 := (SAt.new w3 Z63).setAll (ds := (stC r (.slice A1 r.W.length C1))) rfl
  have S4d : SAt ((w3.alloc (.cells Z63 43)).setCells w3.heap.size 0 (stC r (.slice A1 r.W.length C1)).toList) w.heap.size (stC s (.slice ao s.W.length c)) := (heap_sets (by omega) _ _ _).trans (S4c.alloc _)
  have HB10 := hide (below_sets (b := w3.heap.size) (by omega) (stC r (.slice A1 r.W.length C1)).toList 0 _ (HB3.out.alloc (by omega) (.cells Z63 43)))
  have W1d := (hW1.alloc (.cells Z63 43)).sets (g := w3.heap.size) (fun h => by have := hab1 h; omega) (stC r (.slice A1 r.W.length C1)).toList 0
  have N1d := hN1.sets (.cells Z63 43) (stC r (.slice A1 r.W.length C1)).toList
  generalize ((w3.alloc (.cells Z63 43)).setCells w3.heap.size 0 (stC r (.slice A1 r.W.length C1)).toList) = w4 at *
  have hz4 : w3.heap.size < w4.heap.size := S10.lt
  clear S4c HB3 hW1 hN1
  go_upto_region 2 with fail
  have hWd1 := W1d.lt
  apply wp_region_lit
  refine wpList_load_mid rfl 43 _ rfl _ 0 rfl _ _ S4d.range Try.underlying43 rfl (by rw [infoS]; rfl) ?_
  iterate 5 go_step
  refine (hR _ (by exact HW.out.over HB10.out)).mono ?_
  rintro e w5 ⟨A2, ab2, ao2, C2, A2', C2', rfl, hW2, hab2, hN2, h5⟩
  dsimp only
  have S4e := S4d.later h5 S4d.lt
  have S10e := S10.later h5 S10.lt
  have W1e := W1d.over h5
  have N1e := N1d.over h5
  have HB5 := hide (HB10.out.trans (h5.mono (by omega)))
  have hz5 : w3.heap.size < w5.heap.size := S10e.lt
  clear h5 S4d S10 W1d N1d HB10
  iterate 16 go_step
  refine wpList_store_mid rfl 43 _ _ rfl _ 0 (stC r (.slice A2 r.W.length C2)) rfl rfl ((SAt.new w5 Z63).there 0 _ (by rw [Z63_size, stC_size]; omega)) (by rw [infoS]; rfl) (stC_one _ _ _ _) ?_
  change wpList Try.prog _ _ _ _ ((w5.alloc (.cells Z63 43)).setCells w5.heap.size 0 (stC r (.slice A2 r.W.length C2)).toList)
  have S12 := (SAt.new w5 Z63).setAll (ds := (stC r (.slice A2 r.W.length C2))) rfl
  have S4 : SAt ((w5.alloc (.cells Z63 43)).setCells w5.heap.size 0 (stC r (.slice A2 r.W.length C2)).toList) w.heap.size (stC s (.slice ao s.W.length c)) := (heap_sets (by omega) _ _ _).trans (S4e.alloc _)
  have S10 : SAt ((w5.alloc (.cells Z63 43)).setCells w5.heap.size 0 (stC r (.slice A2 r.W.length C2)).toList) w3.heap.size (stC r (.slice A1 r.W.length C1)) := (heap_sets (by omega) _ _ _).trans (S10e.alloc _)
  have HB12 := hide (below_sets (b := w5.heap.size) (by omega) (stC r (.slice A2 r.W.length C2)).toList 0 _ (HB5.out.alloc (by omega) (.cells Z63 43)))
  have W1 := (W1e.alloc (.cells Z63 43)).sets (g := w5.heap.size) (fun h => by have := hWd1 h; omega) (stC r (.slice A2 r.W.length C2)).toList 0
  have W2 := (hW2.alloc (.cells Z63 43)).sets (g := w5.heap.size) (fun h => by have := hab2 h; omega) (stC r (.slice A2 r.W.length C2)).toList 0
  have N1 := N1e.sets (.cells Z63 43) (stC r (.slice A2 r.W.length C2)).toList
  have N2 := hN2.sets (.cells Z63 43) (stC r (.slice A2 r.W.length C2)).toList
  generalize ((w5.alloc (.cells Z63 43)).setCells w5.heap.size 0 (stC r (.slice A2 r.W.length C2)).toList) = w6 at *
  have hz6 : w5.heap.size < w6.heap.size := S12.lt
  clear S4e S10e W1e N1e HB5 hW2 hN2
  go_upto_region 3 with fail
  have hc1 : ∀ wx, Below w6.heap.size w6 wx → Calls Try.prog 29 #[.slice A1' l.length C1', .slice A2' l.length C2'] wx fun e w' => e = .returned (.bool true) ∧ Below w6.heap.size w6 w' := fun wx h => (samenums_any l A1' A2' C1' C2' wx (N1.over h) (N2.over h) hl).mono fun _ _ hh => ⟨hh.1, h.trans (hh.2.mono h.size)⟩
  have hc2 : ∀ wx, Below w6.heap.size w6 wx → Calls Try.prog 19 #[.agg (stC r (.slice A1 r.W.length C1)), .agg (stC r (.slice A2 r.W.length C2))] wx fun e w' => e = .returned (.bool true) ∧ Below w6.heap.size w6 w' := fun wx h => (same_any r A1 A2 ab1 ao1 ab2 ao2 C1 C2 wx (W1.over h) (W2.over h)).mono fun _ _ hh => ⟨hh.1, h.trans (hh.2.mono h.size)⟩
  have hc3 : ∀ wx, Below w6.heap.size w6 wx → Calls Try.prog 16 #[.agg (stC s (.slice ao s.W.length c))] wx fun e w' => ∃ A C g, e = .returned (.agg (stC s (.slice A s.W.length C))) ∧ WsAt w' A g 0 s.W ∧ Below w6.heap.size w6 w' ∧ Below wx.heap.size wx w' := fun wx h => (copy_st s ao sb so c wx ((HW.out.over HB12.out).over h)).mono fun _ _ hh => by
    obtain ⟨A, C, g, he, hw, _, hb⟩ := hh
    exact ⟨A, C, g, he, hw, h.trans (hb.mono h.size), hb⟩
  have hc4 : ∀ A C g wx, WsAt wx A g 0 s.W → Below w6.heap.size w6 wx → Calls Try.prog 30 #[.agg (stC s (.slice A s.W.length C)), .int .i64 i, .int .i64 h] wx fun e w' => ∃ A ab ao C, e = .returned (.agg (stC q (.slice A q.W.length C))) ∧ WsAt w' A ab ao q.W ∧ Below w6.heap.size w6 w' ∧ Below wx.heap.size wx w' := fun A C g wx hw h => (hS A C g wx hw).mono fun _ _ hh => by
    obtain ⟨A, ab, ao, C, he, hw, hb⟩ := hh
    exact ⟨A, ab, ao, C, he, hw, h.trans (hb.mono h.size), hb⟩
  have hc5 : ∀ wx, Below w6.heap.size w6 wx → Calls Try.prog 31 #[.agg (stC s (.slice ao s.W.length c)), .int .i64 i, .int .i64 h] wx fun e w' => ∃ A ab ao C, e = .returned (.agg (stC q (.slice A q.W.length C))) ∧ WsAt w' A ab ao q.W ∧ Below w6.heap.size w6 w' ∧ Below wx.heap.size wx w' := fun wx h => (hT wx ((HW.out.over HB12.out).over h)).mono fun _ _ hh => by
    obtain ⟨A, ab, ao, C, he, hw, hb⟩ := hh
    exact ⟨A, ab, ao, C, he, hw, h.trans (hb.mono h.size), hb⟩
  have hc6 : ∀ (A A' : Option Addr) (ab ao ab' ao' C C' : Nat) wx, WsAt wx A ab ao q.W → WsAt wx A' ab' ao' q.W → Below w6.heap.size w6 wx → Calls Try.prog 19 #[.agg (stC q (.slice A q.W.length C)), .agg (stC q (.slice A' q.W.length C'))] wx fun e w' => e = .returned (.bool true) ∧ Below w6.heap.size w6 w' := fun A A' ab ao ab' ao' C C' wx h1 h2 h => (same_any q A A' ab ao ab' ao' C C' wx h1 h2).mono fun _ _ hh => ⟨hh.1, h.trans (hh.2.mono h.size)⟩
  have hc8 : ∀ wx, Below w6.heap.size w6 wx → Calls Try.prog 24 #[] wx fun e w' => e = .returned (.bool true) ∧ Below w6.heap.size w6 w' := fun wx h => (stakes_any wx).mono fun _ _ hh => ⟨hh.1, h.trans (hh.2.mono h.size)⟩
  have hSS : ∀ wx, Below w6.heap.size w6 wx → (loadS (.pointer (some ⟨w3.heap.size, 0, none⟩))).run Try.prog wx = .ok (.agg (stC r (.slice A1 r.W.length C1))) wx ∧ (loadS (.pointer (some ⟨w5.heap.size, 0, none⟩))).run Try.prog wx = .ok (.agg (stC r (.slice A2 r.W.length C2))) wx ∧ (loadS (.pointer (some ⟨w.heap.size, 0, none⟩))).run Try.prog wx = .ok (.agg (stC s (.slice ao s.W.length c))) wx := fun wx h => ⟨(S10.later h (by omega)).loadS rfl, (S12.later h (by omega)).loadS rfl, (S4.later h (by omega)).loadS rfl⟩
  clear hD hR hS hT S4 S10 S12 W1 W2 N1 N2 hab1 hab2 hWd1
  go_region_held3 (fun wx => (loadS (.pointer (some ⟨w3.heap.size, 0, none⟩))).run Try.prog wx = .ok (.agg (stC r (.slice A1 r.W.length C1))) wx ∧ (loadS (.pointer (some ⟨w5.heap.size, 0, none⟩))).run Try.prog wx = .ok (.agg (stC r (.slice A2 r.W.length C2))) wx ∧ (loadS (.pointer (some ⟨w.heap.size, 0, none⟩))).run Try.prog wx = .ok (.agg (stC s (.slice ao s.W.length c))) wx) (first | exact hSS _ hb | exact hSS _ hb.drew | exact hSS _ (Below.refl _ _).drew | exact hSS _ (Below.refl _ _))
    (first
      | (go_at_call 29; refine (hc1 _ (by first | exact hb | exact hb.drew | exact (Below.refl _ _).drew | exact Below.refl _ _)).mono ?_; rintro e wy ⟨rfl, hb⟩)
      | (go_at_call 19; have _m := HE; refine (hc6 _ _ _ _ _ _ _ _ _ (by first | exact HE.out | exact HE.out.over (below_drew _)) (by first | exact HF.out | exact HF.out.over (below_drew _)) (by first | exact hb | exact hb.drew | exact (Below.refl _ _).drew | exact Below.refl _ _)).mono ?_; rintro e wy ⟨rfl, hb⟩)
      | (go_at_call 19; refine (hc2 _ (by first | exact hb | exact hb.drew | exact (Below.refl _ _).drew | exact Below.refl _ _)).mono ?_; rintro e wy ⟨rfl, hb⟩)
      | (go_at_call 16; refine (hc3 _ (by first | exact hb | exact hb.drew | exact (Below.refl _ _).drew | exact Below.refl _ _)).mono ?_; rintro e wy ⟨AC, CX, gC, rfl, hwC, hb, hx⟩; (try (have HC := hide (HC.out.over ⟨hx.os, hx.tape, hx.output, hx.size, hx.block⟩))); (try (have HE := hide (HE.out.over ⟨hx.os, hx.tape, hx.output, hx.size, hx.block⟩))); (try (have HF := hide (HF.out.over ⟨hx.os, hx.tape, hx.output, hx.size, hx.block⟩))); have HC := hide hwC; clear hwC hx)
      | (go_at_call 30; refine (hc4 _ _ _ _ (by first | exact HC.out | exact HC.out.over (below_drew _)) (by first | exact hb | exact hb.drew | exact (Below.refl _ _).drew | exact Below.refl _ _)).mono ?_; rintro e wy ⟨AE, abE, aoE, CE, rfl, hwE, hb, hx⟩; (try (have HC := hide (HC.out.over ⟨hx.os, hx.tape, hx.output, hx.size, hx.block⟩))); (try (have HE := hide (HE.out.over ⟨hx.os, hx.tape, hx.output, hx.size, hx.block⟩))); (try (have HF := hide (HF.out.over ⟨hx.os, hx.tape, hx.output, hx.size, hx.block⟩))); have HE := hide hwE; clear hwE hx)
      | (go_at_call 31; refine (hc5 _ (by first | exact hb | exact hb.drew | exact (Below.refl _ _).drew | exact Below.refl _ _)).mono ?_; rintro e wy ⟨AF, abF, aoF, CF, rfl, hwF, hb, hx⟩; (try (have HC := hide (HC.out.over ⟨hx.os, hx.tape, hx.output, hx.size, hx.block⟩))); (try (have HE := hide (HE.out.over ⟨hx.os, hx.tape, hx.output, hx.size, hx.block⟩))); (try (have HF := hide (HF.out.over ⟨hx.os, hx.tape, hx.output, hx.size, hx.block⟩))); have HF := hide hwF; clear hwF hx)
      | (go_at_call 24; refine (hc8 _ (by first | exact hb | exact hb.drew | exact (Below.refl _ _).drew | exact Below.refl _ _)).mono ?_; rintro e wy ⟨rfl, hb⟩))
  all_goals
    have HBz := hide (HB12.out.trans (hb.mono HB12.out.size))
    clear hc1 hc2 hc3 hc4 hc5 hc6 hc8 hSS
    go_wp2
    go_ret
    exact ⟨rfl, HBz.out⟩
theorem ansP_own {w : World} {r : St} {l : List Int} {e : Ending} {w' : World} (h60 : r.W.length ≤ 60) (h : ∃ A C A' C', e = .returned (.tuple #[.agg (stC r (.slice A r.W.length C)), .slice A' l.length C', .int .i64 0]) ∧ OwnW w.heap.size w' A C r.W ∧ OwnN w.heap.size w' A' C' l ∧ Below w.heap.size w w') : AnsP w r l 0 e w' := by
  obtain ⟨A, C, A', C', he, hO, hN, hb⟩ := h
  obtain ⟨g, hW, hg⟩ := hO.ws (by omega)
  exact ⟨A, g, 0, C, A', C', he, hW, fun h => (hg h).2, hN.num, hb⟩
theorem ansR_own {w : World} {s : St} {F : Wt → Wt} {e : Ending} {w' : World} (hl : s.W.length * 64 ≤ 140737488351232) (h : ∃ A C, e = .returned (.agg (stC s (.slice A s.W.length C))) ∧ OwnW w.heap.size w' A C (s.W.map F) ∧ Below w.heap.size w w') : AnsR w { s with W := s.W.map F } e w' := by
  obtain ⟨A, C, he, hO, hb⟩ := h
  obtain ⟨g, hW, _⟩ := hO.ws (by rw [List.length_map]; exact hl)
  refine ⟨A, g, 0, C, ?_, hW, hb⟩
  rw [he]
  show _ = Ending.returned (.agg (stC s (.slice A (s.W.map F).length C)))
  rw [List.length_map]
theorem lpays_walk (s : St) (ao : Option Addr) (sb so c : Nat) (i h t : Int) (w : World) (_ : s.W.length ≤ c) (hW : WsAt w ao sb so s.W) :
    Calls Try.prog 7 #[.agg (stC s (.slice ao s.W.length c)), .int .i64 i, .int .i64 h, .int .i64 t] w fun e w' => e = .returned (.bool true) ∧ Below w.heap.size w w' := by
  have hlen := hW.len
  have key : ∀ (r : St) (l : List Int) (er : Int), l.length ≤ 60 → (∀ (A : Option Addr) (C g : Nat) (w : World), WsAt w A g 0 s.W → Calls Try.prog 27 #[.agg (stC s (.slice A s.W.length C)), .int .i64 t] w fun e w' => AnsP w r l er e w') → (∀ w : World, WsAt w ao sb so s.W → Calls Try.prog 28 #[.agg (stC s (.slice ao s.W.length c)), .int .i64 t] w fun e w' => AnsP w r l er e w') → Calls Try.prog 7 #[.agg (stC s (.slice ao s.W.length c)), .int .i64 i, .int .i64 h, .int .i64 t] w fun e w' => e = .returned (.bool true) ∧ Below w.heap.size w w' := by
    intro r l er hl hD hR
    by_cases h0 : i = 0
    · subst h0
      exact lpays_over s ao sb so c 0 h t w hW r { s with W := s.W.map (relX 0 h) } l hl er hD hR (fun A C g w hw => (srelease_0 s A g 0 C h w hw hlen).mono fun _ _ hh => ansR_own hlen hh) (fun w hw => (rrelease_0 s ao sb so c h w hw).mono fun _ _ hh => ansR_own hlen hh)
    · by_cases h1 : i = 1
      · subst h1
        exact lpays_over s ao sb so c 1 h t w hW r { s with W := s.W.map (relX 1 h) } l hl er hD hR (fun A C g w hw => (srelease_1 s A g 0 C h w hw hlen).mono fun _ _ hh => ansR_own hlen hh) (fun w hw => (rrelease_1 s ao sb so c h w hw).mono fun _ _ hh => ansR_own hlen hh)
      · have hi : i < 0 ∨ 2 ≤ i := by omega
        refine lpays_over s ao sb so c i h t w hW r s l hl er hD hR (fun A C g w hw => (srelease_out s A g 0 C i h w hw hi).mono fun _ _ hh => ⟨A, g, 0, C, hh.1, hw.over hh.2, hh.2⟩) (fun w hw => (rrelease_out s ao sb so c i hi h w hw).mono fun _ _ hh => ?_)
        have h2 := ansR_own hlen hh
        rwa [List.map_id] at h2
  rcases Bool.eq_false_or_eq_true (goodS s) with hg | hg
  · have h60 : (payS s t).W.length ≤ 60 := ((goodS_iff _).1 (pay_good hg t)).2.2.2.1
    have hl60 : (paidW t s.W).length ≤ 60 := by have := paid_len t s.W; have := ((goodS_iff s).1 hg).2.2.2.1; omega
    exact key (payS s t) (paidW t s.W) 0 hl60 (fun A C g w hw => (spay_yes s A g 0 C t w hw hg).mono fun _ _ hh => ansP_own h60 hh) (fun w hw => (rpayall_yes s ao sb so c t w hw hg).mono fun _ _ hh => ansP_own h60 hh)
  · exact key s [] 2 (by simp) (fun A C g w hw => (spay_no s A g 0 C t w hw hg).mono fun _ _ hh => ⟨A, g, 0, C, none, 0, hh.1, hw.over hh.2, (hw.over hh.2).lt, fun h => absurd h (by simp), hh.2⟩) (fun w hw => (rpayall_no s ao sb so c t w hw hg).mono fun _ _ hh => ⟨ao, sb, so, c, none, 0, hh.1, hw.over hh.2, (hw.over hh.2).lt, fun h => absurd h (by simp), hh.2⟩)
end Go.Proofs.Ytookecjeknpheac
