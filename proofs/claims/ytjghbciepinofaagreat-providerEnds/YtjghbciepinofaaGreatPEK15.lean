/- Parts of the proof: RPA PSR. -/
import Derived.Test.YtjghbciepinofaaGreatRows
import Derived.Test.YtjghbciepinofaaGreatPEK2
import Derived.Test.YtjghbciepinofaaGreatPEK5
import Derived.Test.YtjghbciepinofaaGreatPEK37
import Derived.Test.YtjghbciepinofaaGreatPEK46
set_option maxRecDepth 100000
namespace Go.Proofs.YtjghbciepinofaaGreat
open Go.RowKit
/-- where the loop stands -/
structure PayQ (s : St) (t : Int) (B ob : Nat) (w : World) (k : Nat) (A : Option Addr) (C : Nat) (A' : Option Addr) (C' : Nat) (wl : World) : Prop where
  own9 : OwnW B wl A C (leftW t (s.W.take k))
  own10 : OwnN B wl A' C' (paidW t (s.W.take k))
  apart : ∀ k', (Value.slice A (leftW t (s.W.take k)).length C).ownBlock = some k' → some k' ≠ (Value.slice A' (paidW t (s.W.take k)).length C').ownBlock
  R : SAt wl (w.heap.size + 1) Z63
  O : SAt wl ob (stC { s with b := payF t s.b (s.W.take k) } (.slice A (leftW t (s.W.take k)).length C))
  below : Below w.heap.size w wl
  size : B ≤ wl.heap.size
theorem PayQ.over {s : St} {t : Int} {B ob : Nat} {w : World} {k : Nat} {A : Option Addr} {C : Nat} {A' : Option Addr} {C' : Nat} {wl w' : World} (h : PayQ s t B ob w k A C A' C' wl) (hb : Below wl.heap.size wl w') : PayQ s t B ob w k A C A' C' w' :=
  ⟨h.own9.over hb, h.own10.over hb, h.apart, h.R.later hb h.R.lt, h.O.later hb h.O.lt, h.below.trans (hb.mono h.below.size), Nat.le_trans h.size hb.size⟩
theorem PayQ.left {s : St} {t : Int} {B ob : Nat} {w : World} {k : Nat} {A : Option Addr} {C : Nat} {A' : Option Addr} {C' : Nat} {wl w' : World} (h : PayQ s t B ob w k A C A' C' wl) {x : Wt} (hx : s.W[k]? = some x) (hd : dueW t x = false) (hbb : ob < B) (hw : w.heap.size + 1 < ob) {g D : Nat} (hO : SAt w' ob (stC { s with b := payF t s.b (s.W.take k) } (.slice A (leftW t (s.W.take k)).length C)))
    (h1 : OwnW B w' (some ⟨g, 0, none⟩) D (leftW t (s.W.take k) ++ [x])) (h4 : Below B wl w') (h5 : ∀ k', k' < wl.heap.size → some k' ≠ (Value.slice A (leftW t (s.W.take k)).length C).ownBlock → g ≠ k' ∧ w'.heap[k']? = wl.heap[k']?) :
    PayQ s t B ob w (k + 1) (some ⟨g, 0, none⟩) D A' C' (w'.setCell ⟨ob, 61, none⟩ (.slice (some ⟨g, 0, none⟩) ((leftW t (s.W.take k)).length + 1) D)) := by
  have eL : leftW t (s.W.take (k + 1)) = leftW t (s.W.take k) ++ [x] := by rw [take_snoc hx, left_snoc, if_neg (by simp [hd])]
  have eP : paidW t (s.W.take (k + 1)) = paidW t (s.W.take k) := by unfold paidW; rw [take_snoc hx, paid_snoc, if_neg (by simp [hd])]
  have eB : payF t s.b (s.W.take (k + 1)) = payF t s.b (s.W.take k) := by rw [take_snoc hx, payF_snoc, if_neg (by simp [hd])]
  have hbt := (But.refl ob w').set 61 (.slice (some ⟨g, 0, none⟩) ((leftW t (s.W.take k)).length + 1) D)
  have hp : ∀ k', (Value.slice A' (paidW t (s.W.take k)).length C').ownBlock = some k' → g ≠ k' ∧ w'.heap[k']? = wl.heap[k']? := fun k' hk => h5 k' (World.ownsRow.lt h.own10 k' hk).2 fun he => h.apart k' he.symm hk.symm
  have O1 := hO.set 61 (.slice (some ⟨g, 0, none⟩) ((leftW t (s.W.take k)).length + 1) D)
  rw [set_sl] at O1
  refine ⟨by rw [eL]; exact own_of h1 fun k' hk => hbt.block _ (by have := (World.ownsRow.lt h1 k' hk).1; omega), by rw [eP]; exact own_of h.own10 fun k' hk => (hbt.block _ (by have := (World.ownsRow.lt h.own10 k' hk).1; omega)).trans (hp k' hk).2, ?_, hbt.stake (by omega) ((h4.block _ (by omega)).trans h.R), by rw [eB, eL, List.length_append]; exact O1, (h.below.trans (h4.mono (by omega))).trans (hbt.below (by omega)), by simp; exact Nat.le_trans h.size h4.size⟩
  rw [eP]
  intro k' hk he
  cases hk
  exact (hp g he.symm).1 rfl
theorem PayQ.paid {s : St} {t : Int} {B ob : Nat} {w : World} {k : Nat} {A : Option Addr} {C : Nat} {A' : Option Addr} {C' : Nat} {wl w' : World} (h9 : OwnW B wl A C (leftW t (s.W.take k)))
    (hap : ∀ k', (Value.slice A (leftW t (s.W.take k)).length C).ownBlock = some k' → some k' ≠ (Value.slice A' (paidW t (s.W.take k)).length C').ownBlock) (hR : SAt wl (w.heap.size + 1) Z63) (hO : SAt wl ob (stC { s with b := payF t s.b (s.W.take (k + 1)) } (.slice A (leftW t (s.W.take k)).length C))) (hbel : Below w.heap.size w wl) (hsz : B ≤ wl.heap.size)
    {x : Wt} (hx : s.W[k]? = some x) (hd : dueW t x = true) (hbb : ob < B) (hw : w.heap.size + 1 < ob) {g D : Nat}
    (h1 : OwnN B w' (some ⟨g, 0, none⟩) D (paidW t (s.W.take k) ++ [x.num])) (h4 : Below B wl w') (h5 : ∀ k', k' < wl.heap.size → some k' ≠ (Value.slice A' (paidW t (s.W.take k)).length C').ownBlock → g ≠ k' ∧ w'.heap[k']? = wl.heap[k']?) : PayQ s t B ob w (k + 1) A C (some ⟨g, 0, none⟩) D w' := by
  have eL : leftW t (s.W.take (k + 1)) = leftW t (s.W.take k) := by rw [take_snoc hx, left_snoc, if_pos hd]
  have eP : paidW t (s.W.take (k + 1)) = paidW t (s.W.take k) ++ [x.num] := by unfold paidW; rw [take_snoc hx, paid_snoc, if_pos hd, List.map_append]; rfl
  have hp : ∀ k', (Value.slice A (leftW t (s.W.take k)).length C).ownBlock = some k' → g ≠ k' ∧ w'.heap[k']? = wl.heap[k']? := fun k' hk => h5 k' (World.ownsRow.lt h9 k' hk).2 (hap k' hk)
  refine ⟨by rw [eL]; exact own_of h9 fun k' hk => (hp k' hk).2, by rw [eP]; exact h1, ?_, (h4.block _ (by omega)).trans hR, by rw [eL]; exact (h4.block _ hbb).trans hO, hbel.trans (h4.mono (by omega)), Nat.le_trans hsz h4.size⟩
  rw [eL]
  intro k' hk he
  cases he
  exact (hp g hk).1 rfl
set_option maxHeartbeats 8000000 in
theorem rpayall_yes (s : St) (ao : Option Addr) (sb so c : Nat) (t : Int) (w : World) (hW : WsAt w ao sb so s.W) (hg : goodS s = true) :
    Calls Tryz.prog 49 #[.agg (stC s (.slice ao s.W.length c)), .int .i64 t] w fun e w' => ∃ A C A' C', e = .returned (.tuple #[.agg (stC (payS s t) (.slice A (payS s t).W.length C)), .slice A' (paidW t s.W).length C', .int .i64 0]) ∧ OwnW w.heap.size w' A C (payS s t).W ∧ OwnN w.heap.size w' A' C' (paidW t s.W) ∧ Below w.heap.size w w' := by
  have SS := (SAt.new w (stC s (.slice ao s.W.length c))).alloc (.cells Z63 32)
  have RR := SAt.new2 w (.cells (stC s (.slice ao s.W.length c)) 32) Z63
  have HB : Hid (Below w.heap.size w ((w.alloc (.cells (stC s (.slice ao s.W.length c)) 32)).alloc (.cells Z63 32))) := ((Below.refl _ w).alloc (Nat.le_refl _) _).alloc (by simp) _
  have HW := hide hW
  have hG := fun w h => rgoods_any s ao sb so c w h
  rw [hg] at hG
  have hl60 : s.W.length ≤ 60 := ((goodS_iff s).1 hg).2.2.2.1
  have hPy := fun k x hx hd w => (pay_step hg t (k := k) (x := x) hx hd) ▸ rpay_any (payF t s.b (s.W.take k)) x.d x.amt w
  clear hW hg
  go_enter Tryz.func49, Tryz.ntmps49
  go_upto_region 1 with fail
  change Code.wp Tryz.prog _ _ _ ((w.alloc (.cells (stC s (.slice ao s.W.length c)) 32)).alloc (.cells Z63 32))
  generalize (w.alloc (.cells (stC s (.slice ao s.W.length c)) 32)).alloc (.cells Z63 32) = w0 at *
  apply wp_region_lit
  refine wpList_load_mid rfl 32 _ rfl _ 0 rfl _ _ SS.range Tryz.underlying32 rfl (by rw [infoS]; rfl) ?_
  go_upto_region 3 with (go_at_call 91; refine (hG _ (by exact HW.out.over HB.out)).mono ?_; rintro e w1 ⟨rfl, h1⟩)
  have HB1 := hide (HB.out.trans (h1.mono HB.out.size))
  have S1 := SS.later h1 SS.lt
  have R1 := RR.later h1 RR.lt
  have hz1 : w.heap.size + 1 < w1.heap.size := R1.lt
  clear SS RR h1 HB hG
  apply wp_region_lit
  refine wpList_load_mid rfl 32 _ rfl _ 0 rfl _ _ S1.range Tryz.underlying32 rfl (by rw [infoS]; rfl) ?_
  go_step
  go_step
  refine (copy_st s ao sb so c _ (by exact HW.out.over HB1.out)).mono ?_
  rintro e w6 ⟨A0, C0, g0, rfl, _, _, h6⟩
  dsimp only
  have S6 := S1.later h6 S1.lt
  have R6 := R1.later h6 R1.lt
  have HB6 := hide (HB1.out.trans (h6.mono (by omega)))
  have hz6 : w.heap.size + 1 < w6.heap.size := R6.lt
  clear h6 S1 R1 HB1
  iterate 4 go_step
  refine wpList_store_mid rfl 32 _ _ rfl _ 0 (stC s (.slice A0 s.W.length C0)) rfl rfl ((SAt.new w6 Z63).there 0 _ (by rw [Z63_size, stC_size]; omega)) (by rw [infoS]; rfl) (stC_one _ _ _ _) ?_
  change wpList Tryz.prog _ _ _ _ ((w6.alloc (.cells Z63 32)).setCells w6.heap.size 0 (stC s (.slice A0 s.W.length C0)).toList)
  have O7 := (SAt.new w6 Z63).setAll (ds := (stC s (.slice A0 s.W.length C0))) rfl
  have S7 : SAt ((w6.alloc (.cells Z63 32)).setCells w6.heap.size 0 (stC s (.slice A0 s.W.length C0)).toList) w.heap.size (stC s (.slice ao s.W.length c)) := (heap_sets (by omega) _ _ _).trans (S6.alloc _)
  have R7 : SAt ((w6.alloc (.cells Z63 32)).setCells w6.heap.size 0 (stC s (.slice A0 s.W.length C0)).toList) (w.heap.size + 1) Z63 := (heap_sets (by omega) _ _ _).trans (R6.alloc _)
  have HB7 := hide (below_sets (b := w6.heap.size) (by omega) (stC s (.slice A0 s.W.length C0)).toList 0 _ (HB6.out.alloc (by omega) (.cells Z63 32)))
  generalize (w6.alloc (.cells Z63 32)).setCells w6.heap.size 0 (stC s (.slice A0 s.W.length C0)).toList = w7 at *
  have hz7 : w6.heap.size < w7.heap.size := O7.lt
  have x61 := (st_cells O7).2.2.2.2.2.2.2.1
  have f61 := O7.free 61
  clear S6 R6 HB6
  go_upto_region 5 with fail
  have O8 := O7.set 61 (.slice none 0 0)
  rw [set_sl] at O8
  have hbt := (But.refl w6.heap.size w7).set 61 (.slice none 0 0)
  have S8 := hbt.stake (by omega) S7
  have R8 := hbt.stake (by omega) R7
  have HB8 := hide (HB7.out.trans (hbt.below (by omega)))
  generalize w7.setCell ⟨w6.heap.size, 61, none⟩ (.slice none 0 0) = w8 at *
  have hz8 : w6.heap.size < w8.heap.size := O8.lt
  have hz8a : w.heap.size < w8.heap.size := by omega
  have x7 := (st_cells S8).2.2.2.2.2.2.2.1
  have HP0 : Hid (PayQ s t w8.heap.size w6.heap.size w 0 none 0 none 0 w8) := ⟨⟨rfl, .inl ⟨rfl, rfl⟩⟩, ⟨rfl, .inl ⟨rfl, rfl⟩⟩, fun k' h => (by cases h), R8, O8, HB8.out, Nat.le_refl _⟩
  clear O7 S7 R7 HB7 x61 f61 hbt S8 R8 HB8 O8
  have hadr := HW.out.adr
  go_upto_region 7 with fail
  go_loopw [8, 21] (fun p10 i wl => ∃ (k : Nat) (A : Option Addr) (C : Nat) (A' : Option Addr) (C' : Nat), k ≤ s.W.length ∧ i = .int .i64 (k : Int) ∧ p10 = .slice A' (paidW t (s.W.take k)).length C' ∧ Hid (PayQ s t w8.heap.size w6.heap.size w k A C A' C' wl)) (fun _ i _ => s.W.length - (intOf i).toNat)
  case atStart => exact ⟨0, none, 0, none, 0, Nat.zero_le _, rfl, rfl, HP0⟩
  case round =>
    obtain ⟨k, A, C, A', C', hk, rfl, rfl, HP⟩ := hrel
    have hwr := HP.out.size
    clear HP0 x7
    by_cases hlt : k < s.W.length
    · obtain ⟨x, hx, _⟩ := drop_at hlt
      obtain ⟨c0, c1, c2, c3, c4, c5, c6, c7⟩ := (HW.out.over HP.out.below).cell k x hx
      obtain rfl := hadr (by omega)
      have h9 : (leftW t (s.W.take k)).length ≤ 60 := Nat.le_trans (List.length_filter_le _ _) (by rw [List.length_take]; omega)
      have h10 : (paidW t (s.W.take k)).length ≤ 60 := by unfold paidW; rw [List.length_map]; exact Nat.le_trans (List.length_filter_le _ _) (by rw [List.length_take]; omega)
      have hPk := hPy k x hx
      have HX := hide hx
      clear hadr hPy hx
      have Yq : YAt (wr.alloc (.cells #[.int .i64 x.num, .int .i64 x.d, .int .i64 x.v, .int .i64 x.amt, .int .i64 x.hei, .int .i64 x.due, .int .i64 x.h0, .int .i64 x.h1] 127)) wr.heap.size x := heap_alloc_new _ _
      have HQ := hide (HP.out.over ((Below.refl _ wr).alloc (Nat.le_refl _) (.cells #[.int .i64 x.num, .int .i64 x.d, .int .i64 x.v, .int .i64 x.amt, .int .i64 x.hei, .int .i64 x.due, .int .i64 x.h0, .int .i64 x.h1] 127)))
      have hzq : wr.heap.size < (wr.alloc (.cells #[.int .i64 x.num, .int .i64 x.d, .int .i64 x.v, .int .i64 x.amt, .int .i64 x.hei, .int .i64 x.due, .int .i64 x.h0, .int .i64 x.h1] 127)).heap.size := Yq.lt
      go_upto_region 9 with fail
      generalize wr.alloc (.cells #[.int .i64 x.num, .int .i64 x.d, .int .i64 x.v, .int .i64 x.amt, .int .i64 x.hei, .int .i64 x.due, .int .i64 x.h0, .int .i64 x.h1] 127) = wq at *
      clear c0 c1 c2 c3 c4 c5 c6 c7 HP
      have hwq := HQ.out.size
      by_cases hd1 : x.due ≤ t
      · by_cases hd2 : x.h0 = 0
        · by_cases hd3 : x.h1 = 0
          · have HD : Hid (dueW t x = true) := by show dueW t x = true; simp [dueW, hd1, hd2, hd3]
            have hPk2 := hPk HD.out
            have hd2' : (x.h0 == 0) = true := by simp [hd2]
            have hd3' : (x.h1 == 0) = true := by simp [hd3]
            clear hPk hd2 hd3
            obtain ⟨c0, c1, c2, c3, c4, c5, c6, c7⟩ := Yq.cells
            obtain ⟨x0, x1, x2, x3, x4, x5, x6, _, _⟩ := st_cells HQ.out.O
            simp only at x0 x1 x2 x3 x4 x5 x6
            have hzo := HQ.out.O.lt
            go_upto_region 11 with (go_at_call 100; refine (hPk2 _).mono ?_; rintro e wz ⟨rfl, h6⟩; have HQ6 := hide (HQ.out.over h6); have Y6 := Yq.later h6 Yq.lt; clear x0 x1 x2 x3 x4 x5 x6; obtain ⟨x0, x1, x2, x3, x4, x5, x6, _, _⟩ := st_cells HQ6.out.O; have f0 := HQ6.out.O.free 0; have f1 := HQ6.out.O.free 1; have f2 := HQ6.out.O.free 2; have f3 := HQ6.out.O.free 3; have f4 := HQ6.out.O.free 4; have f5 := HQ6.out.O.free 5; have f6 := HQ6.out.O.free 6; have hz6o := HQ6.out.O.lt; clear h6)
            change Code.wp Tryz.prog _ _ _ (bset wz w6.heap.size (payF t s.b (s.W.take (k + 1))))
            have hbt : But w6.heap.size wz (bset wz w6.heap.size (payF t s.b (s.W.take (k + 1)))) := (((((((But.refl _ _).set 0 _).set 1 _).set 2 _).set 3 _).set 4 _).set 5 _).set 6 _
            have O7 := set_bank HQ6.out.O (payF t s.b (s.W.take (k + 1)))
            have R7 := hbt.stake (by omega) HQ6.out.R
            have Y7 : YAt (bset wz w6.heap.size (payF t s.b (s.W.take (k + 1)))) wr.heap.size x := (hbt.block _ (by omega)).trans Y6
            have HO9 : Hid (OwnW w8.heap.size (bset wz w6.heap.size (payF t s.b (s.W.take (k + 1)))) A C (leftW t (s.W.take k))) := own_of HQ6.out.own9 fun k' hk => hbt.block _ (by have := (World.ownsRow.lt HQ6.out.own9 k' hk).1; omega)
            have HO10 : Hid (OwnN w8.heap.size (bset wz w6.heap.size (payF t s.b (s.W.take (k + 1)))) A' C' (paidW t (s.W.take k))) := own_of HQ6.out.own10 fun k' hk => hbt.block _ (by have := (World.ownsRow.lt HQ6.out.own10 k' hk).1; omega)
            have HB7 := hide (HQ6.out.below.trans (hbt.below (by omega)))
            have HAP := hide HQ6.out.apart
            generalize bset wz w6.heap.size (payF t s.b (s.W.take (k + 1))) = w9 at *
            clear c0 c1 c2 c3 c4 c5 c6 c7 x0 x1 x2 x3 x4 x5 x6 f0 f1 f2 f3 f4 f5 f6 hbt HQ6 Y6 HQ Yq
            have c0 := Y7.cells.1
            have hz9 := Y7.lt
            have hz9w : w8.heap.size ≤ w9.heap.size := by omega
            have HO7 := hide O7
            have HR7 := hide R7
            clear O7 R7
            go_wp2_with (at_builtin; refine wpList_ap3N rfl rfl _ _ rfl w8.heap.size A' C' w9.heap.size (paidW t (s.W.take k)) x.num rfl rfl (by exact HO10.out.over ((Below.refl _ w9).alloc (Nat.le_refl _) _)) (by omega) (by simp; omega) (by rw [World.cell?_alloc_at _ _ _ _ rfl]; rfl) ?_; rintro g D w13 ⟨hO13, hg1, hg2, hb13, hk13⟩; have HO13 := hide hO13; have HB13 := hide hb13; have HK13 := hide hk13; clear hO13 hb13 hk13)
            have hba := (Below.refl w9.heap.size w9).alloc (Nat.le_refl _) (.cells #[.int .i64 x.num] 3)
            have HP1 := hide (PayQ.paid (HO9.out.over hba) HAP.out (HR7.out.later hba HR7.out.lt) (HO7.out.later hba HO7.out.lt) (HB7.out.trans (hba.mono (by omega))) (Nat.le_trans hz9w hba.size) HX.out HD.out (by omega) (by omega) HO13.out HB13.out HK13.out)
            have hll := len_paid HX.out HD.out
            exact ⟨⟨k + 1, A, C, some ⟨g, 0, none⟩, D, by omega, by go_num, by rw [hll.2], HP1⟩, by simp [intOf]; omega⟩
          · have HD : Hid (dueW t x = false) := by show dueW t x = false; simp [dueW, hd3]
            have hd2' : (x.h0 == 0) = true := by simp [hd2]
            clear hd2
            obtain ⟨c0, c1, c2, c3, c4, c5, c6, c7⟩ := Yq.cells
            have x7 := (st_cells HQ.out.O).2.2.2.2.2.2.2.1
            have hzo := HQ.out.O.lt
            go_wp2_with (at_builtin; refine wpList_ap3 rfl rfl _ _ rfl w8.heap.size A C wq.heap.size (leftW t (s.W.take k)) x rfl rfl (by exact HQ.out.own9.over ((Below.refl _ wq).alloc (Nat.le_refl _) _)) (by omega) (by simp; omega) (by exact fun j u hj => wt_new wq x _ j u hj) ?_; rintro g D w13 ⟨hO13, hg1, hg2, hb13, hk13⟩; have O13 : SAt w13 w6.heap.size (stC { s with b := payF t s.b (s.W.take k) } (.slice A (leftW t (s.W.take k)).length C)) := (hb13.block _ (by omega)).trans (HQ.out.O.alloc _); have z7 := (st_cells O13).2.2.2.2.2.2.2.1; have fz := O13.free 61; have hz13 := O13.lt; have HO13 := hide hO13; have HB13 := hide hb13; have HK13 := hide hk13; have HOO := hide O13; clear hO13 hb13 hk13 O13)
            have hll := len_left HX.out HD.out
            have HP1 := hide ((HQ.out.over ((Below.refl _ wq).alloc (Nat.le_refl _) (.cells #[.int .i64 x.num, .int .i64 x.d, .int .i64 x.v, .int .i64 x.amt, .int .i64 x.hei, .int .i64 x.due, .int .i64 x.h0, .int .i64 x.h1] 127))).left HX.out HD.out (by omega) (by omega) HOO.out HO13.out HB13.out HK13.out)
            exact ⟨⟨k + 1, some ⟨g, 0, none⟩, D, A', C', by omega, by go_num, by rw [hll.2], HP1⟩, by simp [intOf]; omega⟩
        · have HD : Hid (dueW t x = false) := by show dueW t x = false; simp [dueW, hd2]
          obtain ⟨c0, c1, c2, c3, c4, c5, c6, c7⟩ := Yq.cells
          have x7 := (st_cells HQ.out.O).2.2.2.2.2.2.2.1
          have hzo := HQ.out.O.lt
          go_wp2_with (at_builtin; refine wpList_ap3 rfl rfl _ _ rfl w8.heap.size A C wq.heap.size (leftW t (s.W.take k)) x rfl rfl (by exact HQ.out.own9.over ((Below.refl _ wq).alloc (Nat.le_refl _) _)) (by omega) (by simp; omega) (by exact fun j u hj => wt_new wq x _ j u hj) ?_; rintro g D w13 ⟨hO13, hg1, hg2, hb13, hk13⟩; have O13 : SAt w13 w6.heap.size (stC { s with b := payF t s.b (s.W.take k) } (.slice A (leftW t (s.W.take k)).length C)) := (hb13.block _ (by omega)).trans (HQ.out.O.alloc _); have z7 := (st_cells O13).2.2.2.2.2.2.2.1; have fz := O13.free 61; have hz13 := O13.lt; have HO13 := hide hO13; have HB13 := hide hb13; have HK13 := hide hk13; have HOO := hide O13; clear hO13 hb13 hk13 O13)
          have hll := len_left HX.out HD.out
          have HP1 := hide ((HQ.out.over ((Below.refl _ wq).alloc (Nat.le_refl _) (.cells #[.int .i64 x.num, .int .i64 x.d, .int .i64 x.v, .int .i64 x.amt, .int .i64 x.hei, .int .i64 x.due, .int .i64 x.h0, .int .i64 x.h1] 127))).left HX.out HD.out (by omega) (by omega) HOO.out HO13.out HB13.out HK13.out)
          exact ⟨⟨k + 1, some ⟨g, 0, none⟩, D, A', C', by omega, by go_num, by rw [hll.2], HP1⟩, by simp [intOf]; omega⟩
      · have HD : Hid (dueW t x = false) := by show dueW t x = false; simp [dueW, hd1]
        obtain ⟨c0, c1, c2, c3, c4, c5, c6, c7⟩ := Yq.cells
        have x7 := (st_cells HQ.out.O).2.2.2.2.2.2.2.1
        have hzo := HQ.out.O.lt
        go_wp2_with (at_builtin; refine wpList_ap3 rfl rfl _ _ rfl w8.heap.size A C wq.heap.size (leftW t (s.W.take k)) x rfl rfl (by exact HQ.out.own9.over ((Below.refl _ wq).alloc (Nat.le_refl _) _)) (by omega) (by simp; omega) (by exact fun j u hj => wt_new wq x _ j u hj) ?_; rintro g D w13 ⟨hO13, hg1, hg2, hb13, hk13⟩; have O13 : SAt w13 w6.heap.size (stC { s with b := payF t s.b (s.W.take k) } (.slice A (leftW t (s.W.take k)).length C)) := (hb13.block _ (by omega)).trans (HQ.out.O.alloc _); have z7 := (st_cells O13).2.2.2.2.2.2.2.1; have fz := O13.free 61; have hz13 := O13.lt; have HO13 := hide hO13; have HB13 := hide hb13; have HK13 := hide hk13; have HOO := hide O13; clear hO13 hb13 hk13 O13)
        have hll := len_left HX.out HD.out
        have HP1 := hide ((HQ.out.over ((Below.refl _ wq).alloc (Nat.le_refl _) (.cells #[.int .i64 x.num, .int .i64 x.d, .int .i64 x.v, .int .i64 x.amt, .int .i64 x.hei, .int .i64 x.due, .int .i64 x.h0, .int .i64 x.h1] 127))).left HX.out HD.out (by omega) (by omega) HOO.out HO13.out HB13.out HK13.out)
        exact ⟨⟨k + 1, some ⟨g, 0, none⟩, D, A', C', by omega, by go_num, by rw [hll.2], HP1⟩, by simp [intOf]; omega⟩
    · obtain rfl : k = s.W.length := by omega
      clear hPy hadr
      rw [List.take_length]
      have HR := hide HP.out.R
      have O1 := HP.out.O
      have HO9 := hide HP.out.own9
      have HO10 := hide HP.out.own10
      have HBw := hide HP.out.below
      clear HP
      rw [List.take_length] at HO9 HO10 O1
      have S9 : SAt wr w6.heap.size (stC (payS s t) (.slice A (leftW t s.W).length C)) := O1
      have R8 := HR.out
      clear O1
      go_upto_region 14 with fail
      apply wp_region_lit
      refine wpList_load_mid rfl 32 _ rfl _ 0 rfl _ _ S9.range Tryz.underlying32 rfl (by rw [infoS]; rfl) ?_
      refine wpList_mv rfl _ rfl ?_
      refine wpList_store_mid rfl 32 _ _ rfl _ 0 (stC (payS s t) (.slice A (leftW t s.W).length C)) rfl rfl (R8.there 0 _ (by rw [Z63_size, stC_size]; omega)) (by rw [infoS]; rfl) (stC_one _ _ _ _) ?_
      go_wp2
      exact stake_end3 Tryz.results49 R8 rfl (payS s t) _ _ _ _ ⟨A, C, A', C', rfl, own_base (own_of HO9.out fun k' hk => heap_sets (by have := (World.ownsRow.lt HO9.out k' hk).1; omega) _ _ _) (by omega), own_base (own_of HO10.out fun k' hk => heap_sets (by have := (World.ownsRow.lt HO10.out k' hk).1; omega) _ _ _) (by omega), below_sets (by omega) _ _ _ HBw.out⟩ _ rfl rfl rfl rfl
end Go.Proofs.YtjghbciepinofaaGreat

set_option maxRecDepth 100000
namespace Go.Proofs.YtjghbciepinofaaGreat.Pv
open Go.RowKit
/-- the power that counts -/
def nP (V : Nat → Vd) (k : Nat) : Int := if (V k).jail = true then 0 else (V k).tok / 100
/-- how many of the first k are ahead of v -/
def ahN (n : Nat → Int) (v : Nat) : Nat → Nat
  | 0 => 0
  | k + 1 => if n v < n k ∨ (n k = n v ∧ k < v) then ahN n v k + 1 else ahN n v k
theorem ahN_le (n : Nat → Int) (v : Nat) : ∀ k, ahN n v k ≤ k
  | 0 => Nat.le_refl _
  | k + 1 => by
    have := ahN_le n v k
    rw [ahN]
    split <;> omega
def rankS (n : Nat → Int) : List (Int × Int) := Df.those (fun v => decide (0 < n v) && decide (ahN n v 6 < 4)) n 6
theorem ah_count {V : Nat → Vd} (hV : ∀ k, k < 6 → 0 ≤ (V k).tok) {v : Nat} (hv : 0 < nP V v) : ∀ k, k ≤ 6 → ahN (nP V) v k = (cand V k).countP (fun y => ltP y ((v : Int), nP V v))
  | 0, _ => rfl
  | k + 1, hk6 => by
    rw [ahN, cand, ah_count hV hv k (by omega)]
    by_cases hc : (decide (0 < pwr (V k)) && !(V k).jail) = true
    · rw [if_pos hc, List.countP_append, List.countP_singleton]
      simp only [Bool.and_eq_true, decide_eq_true_eq, Bool.not_eq_true'] at hc
      have e : nP V k = pwr (V k) := by unfold nP pwr; rw [if_neg (by simp [hc.2])]
      have hl : ltP ((k : Int), pwr (V k)) ((v : Int), nP V v) = true ↔ (nP V v < nP V k ∨ (nP V k = nP V v ∧ k < v)) := by
        rw [ltP_iff, e]
        show nP V v < pwr (V k) ∨ (pwr (V k) = nP V v ∧ (k : Int) < (v : Int)) ↔ _
        omega
      by_cases h : nP V v < nP V k ∨ (nP V k = nP V v ∧ k < v)
      · rw [if_pos h, if_pos (hl.2 h)]
      · rw [if_neg h, if_neg (fun h' => h (hl.1 h')), Nat.add_zero]
    · rw [if_neg hc, if_neg]
      simp only [Bool.and_eq_true, decide_eq_true_eq, Bool.not_eq_true'] at hc
      have e : nP V k = 0 := by
        unfold nP
        cases hj : (V k).jail
        · rw [if_neg (by simp)]
          have h0 : ¬ 0 < pwr (V k) := fun h => hc ⟨h, hj⟩
          unfold pwr at h0
          have := hV k (by omega)
          omega
        · rw [if_pos rfl]
      rw [e]
      omega
/-- in a sorted row whoever is ahead is counted by the place -/
theorem rank_at {L : List Pw} (hs : Srt ltP L L.length) (hd : L.Pairwise (fun a b => a.1 ≠ b.1)) (i : Nat) (hi : i < L.length) : L.countP (fun y => ltP y L[i]) = i := by
  have hlt : ∀ (j : Nat) (hj : j < L.length), ltP L[j] L[i] = decide (j < i) := fun j hj => by
    have g : ∀ (a : Nat) (ha : a < L.length), L.getD a pz = L[a] := fun a ha => by simp [List.getD, ha]
    rw [List.pairwise_iff_getElem] at hd
    rcases Nat.lt_trichotomy j i with h | h | h
    · have h1 := hs j i h hi
      rw [g j hj, g i hi, ltP_no] at h1
      have h2 := hd j i hj hi h
      rw [show decide (j < i) = true by simpa using h, ltP_iff]
      omega
    · subst h
      rw [show decide (j < j) = false by simp, ltP_no]
      omega
    · have h1 := hs i j h hj
      rw [g j hj, g i hi] at h1
      rw [show decide (j < i) = false by simp; omega, h1]
  have key : ∀ n, n ≤ L.length → (L.take n).countP (fun y => ltP y L[i]) = min n i := by
    intro n
    induction n with
    | zero => intro _; simp
    | succ n ih =>
      intro hn
      rw [List.take_succ_eq_append_getElem (by omega), List.countP_append, ih (by omega), List.countP_singleton, hlt n (by omega)]
      by_cases h : n < i
      · rw [if_pos (by simpa using h)]; omega
      · rw [if_neg (by simpa using h)]; omega
  have := key L.length (Nat.le_refl _)
  rw [List.take_length] at this
  rw [this]
  omega
theorem mem_take_rank {L : List Pw} (hs : Srt ltP L L.length) (hd : L.Pairwise (fun a b => a.1 ≠ b.1)) {x : Pw} (hx : x ∈ L) : x ∈ L.take 4 ↔ L.countP (fun y => ltP y x) < 4 := by
  obtain ⟨i, hi, rfl⟩ := List.getElem_of_mem hx
  rw [rank_at hs hd i hi]
  constructor
  · intro h
    obtain ⟨j, hj, e⟩ := List.getElem_of_mem h
    rw [List.getElem_take] at e
    have hj' : j < 4 := by rw [List.length_take] at hj; omega
    rw [List.pairwise_iff_getElem] at hd
    rw [List.length_take] at hj
    rcases Nat.lt_trichotomy i j with h1 | h1 | h1
    · omega
    · omega
    · exact absurd (by rw [e]) (hd j i (by omega) hi h1)
  · intro h
    refine List.mem_iff_getElem.2 ⟨i, by rw [List.length_take]; omega, by rw [List.getElem_take]⟩
/-- the set, by ranks -/
theorem rank_set {V : Nat → Vd} (hV : ∀ k, k < 6 → 0 ≤ (V k).tok) (hV1 : ∀ k, k < 6 → (V k).tok ≤ 1125899906842624) : rankS (nP V) = setS V := by
  have hnd : (isort ltP (cand V 6)).Pairwise (fun a b => a.1 ≠ b.1) := (isort_perm ltP (cand V 6)).symm.pairwise (cand_nodup V 6) (fun h => h.symm)
  have hsr := isort_srt ordP (cand V 6)
  have hlen : (isort ltP (cand V 6)).length = (cand V 6).length := (isort_perm ltP _).length_eq
  rw [← hlen] at hsr
  have hmem : ∀ x, x ∈ rankS (nP V) ↔ x ∈ setS V := fun x => by
    unfold rankS
    rw [those_mem, set_mem]
    constructor
    · rintro ⟨i, hi, hc, rfl⟩
      simp only [Bool.and_eq_true, decide_eq_true_eq] at hc
      have hj : (V i).jail = false := by
        cases h : (V i).jail
        · rfl
        · have := hc.1; unfold nP at this; rw [if_pos h] at this; omega
      have e : nP V i = pwr (V i) := by unfold nP pwr; rw [if_neg (by simp [hj])]
      have hin : ((i : Int), nP V i) ∈ isort ltP (cand V 6) := (isort_perm ltP _).mem_iff.2 ((mem_cand V _ 6).2 ⟨i, hi, by rw [e], by rw [← e]; exact hc.1, hj⟩)
      rw [mem_take_rank hsr hnd hin, (isort_perm ltP (cand V 6)).countP_eq, ← ah_count hV hc.1 6 (Nat.le_refl _)]
      exact hc.2
    · intro hx
      have hin := List.mem_of_mem_take hx
      obtain ⟨i, hi, rfl, hp, hj⟩ := (mem_cand V x 6).1 ((isort_perm ltP _).mem_iff.1 hin)
      have e : nP V i = pwr (V i) := by unfold nP pwr; rw [if_neg (by simp [hj])]
      have hpos : 0 < nP V i := by rw [e]; exact hp
      rw [mem_take_rank hsr hnd hin, (isort_perm ltP (cand V 6)).countP_eq] at hx
      refine ⟨i, hi, ?_, by rw [e]⟩
      rw [ah_count hV hpos 6 (Nat.le_refl _), e]
      simp only [Bool.and_eq_true, decide_eq_true_eq]
      exact ⟨hp, hx⟩
  have h2 := setS_set hV1
  exact setB_ext _ _ (-1) (-1) (setB_of _ _ (fun x hx => setB_mem _ _ h2 x ((hmem x).1 hx)) (those_rise _ _ 6)) h2 hmem
end Go.Proofs.YtjghbciepinofaaGreat.Pv

