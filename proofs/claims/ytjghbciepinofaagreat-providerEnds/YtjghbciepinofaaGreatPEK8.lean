/- Parts of the proof: RRL PEC. -/
import Derived.Test.YtjghbciepinofaaGreatRows
import Derived.Test.YtjghbciepinofaaGreatPEK7
import Derived.Test.YtjghbciepinofaaGreatPEK9
import Derived.Test.YtjghbciepinofaaGreatPEK50
set_option maxRecDepth 100000
namespace Go.Proofs.YtjghbciepinofaaGreat
open Go.RowKit
theorem ixH0 (w : World) (a b : Int) : (Instr.index 125 (.agg #[.int .i64 a, .int .i64 b]) (.int .i64 0)).run Tryz.prog w = .ok (.int .i64 a) w := by kernel_rfl
theorem ixH1 (w : World) (a b : Int) : (Instr.index 125 (.agg #[.int .i64 a, .int .i64 b]) (.int .i64 1)).run Tryz.prog w = .ok (.int .i64 b) w := by kernel_rfl
/-- where the loops stand -/
structure RQl (s : St) (L : List Wt) (B ob : Nat) (w : World) (A : Option Addr) (C : Nat) (wl : World) : Prop where
  own : OwnW B wl A C L
  R : SAt wl (w.heap.size + 1) Z63
  O : SAt wl ob (stC s (.slice A s.W.length C))
  below : Below w.heap.size w wl
theorem RQl.over {s : St} {L : List Wt} {B ob : Nat} {w : World} {A : Option Addr} {C : Nat} {wl w' : World} (H : RQl s L B ob w A C wl) (hb : Below wl.heap.size wl w') : RQl s L B ob w A C w' :=
  ⟨H.own.over hb, H.R.later hb H.R.lt, H.O.later hb H.O.lt, H.below.trans (hb.mono H.below.size)⟩
set_option maxHeartbeats 8000000 in
theorem rrelease_0 (s : St) (ao : Option Addr) (sb so c : Nat)  (h : Int) (w : World) (hW : WsAt w ao sb so s.W) :
    Calls Tryz.prog 96 #[.agg (stC s (.slice ao s.W.length c)), .int .i64 0, .int .i64 h] w fun e w' => ∃ A C, e = .returned (.agg (stC s (.slice A s.W.length C))) ∧ OwnW w.heap.size w' A C (s.W.map (relX 0 h)) ∧ Below w.heap.size w w' := by
  have SS := (SAt.new w (stC s (.slice ao s.W.length c))).alloc (.cells Z63 32)
  have RR := SAt.new2 w (.cells (stC s (.slice ao s.W.length c)) 32) Z63
  have HB : Hid (Below w.heap.size w ((w.alloc (.cells (stC s (.slice ao s.W.length c)) 32)).alloc (.cells Z63 32))) := ((Below.refl _ w).alloc (Nat.le_refl _) _).alloc (by simp) _
  have HW := hide hW
  have hlen := hW.len
  clear hW
  go_enter Tryz.func96, Tryz.ntmps96
  go_upto_region 1 with fail
  change Code.wp Tryz.prog _ _ _ ((w.alloc (.cells (stC s (.slice ao s.W.length c)) 32)).alloc (.cells Z63 32))
  generalize (w.alloc (.cells (stC s (.slice ao s.W.length c)) 32)).alloc (.cells Z63 32) = w0 at *
  have hz0 : w.heap.size + 1 < w0.heap.size := RR.lt
  apply wp_region_lit
  refine wpList_load_mid rfl 32 _ rfl _ 0 rfl _ _ SS.range Tryz.underlying32 rfl (by rw [infoS]; rfl) ?_
  go_step
  go_step
  refine (copy_st3 s ao sb so c _ (by exact HW.out.over HB.out)).mono ?_
  rintro e w6 ⟨A, C, rfl, hO6, h6⟩
  dsimp only
  have R6 := RR.later h6 RR.lt
  have HB6 := hide (HB.out.trans (h6.mono (by omega)))
  have hz6 : w.heap.size + 1 < w6.heap.size := R6.lt
  have h56 : w0.heap.size ≤ w6.heap.size := h6.size
  have HOB : Hid (∀ k, A = some ⟨k, 0, none⟩ → w0.heap.size + 2 ≤ k ∧ k < w6.heap.size) := fun k hk => World.ownsRow.lt hO6 k (by rw [hk]; rfl)
  iterate 4 go_step
  refine wpList_store_mid rfl 32 _ _ rfl _ 0 (stC s (.slice A s.W.length C)) rfl rfl ((SAt.new w6 Z63).there 0 _ (by rw [Z63_size, stC_size]; omega)) (by rw [infoS]; rfl) (stC_one _ _ _ _) ?_
  change wpList Tryz.prog _ _ _ _ ((w6.alloc (.cells Z63 32)).setCells w6.heap.size 0 (stC s (.slice A s.W.length C)).toList)
  have O7 := (SAt.new w6 Z63).setAll (ds := (stC s (.slice A s.W.length C))) rfl
  have R7 : SAt ((w6.alloc (.cells Z63 32)).setCells w6.heap.size 0 (stC s (.slice A s.W.length C)).toList) (w.heap.size + 1) Z63 := (heap_sets (by omega) _ _ _).trans (R6.alloc _)
  have HB7 := hide (below_sets (b := w6.heap.size) (by omega) (stC s (.slice A s.W.length C)).toList 0 _ (HB6.out.alloc (by omega) (.cells Z63 32)))
  have HO7 : Hid (OwnW (w0.heap.size + 2) ((w6.alloc (.cells Z63 32)).setCells w6.heap.size 0 (stC s (.slice A s.W.length C)).toList) A C s.W) := hO6.to fun k _ hk => (heap_sets (by omega) _ _ _).trans (Below.heap_alloc w6 _ k hk)
  generalize (w6.alloc (.cells Z63 32)).setCells w6.heap.size 0 (stC s (.slice A s.W.length C)).toList = w7 at *
  have hz7 : w6.heap.size < w7.heap.size := O7.lt
  have HR0 : Hid (RQl s ((s.W.take 0).map (relX 0 h) ++ s.W.drop 0) (w0.heap.size + 2) w6.heap.size w A C w7) := ⟨HO7.out, R7, O7, HB7.out⟩
  have x7 := (st_cells O7).2.2.2.2.2.2.2.1
  clear SS RR HB R6 HB6 h6 hO6 O7 R7 HO7 HB7 HW
  go_upto_region 3 with fail
  go_loopw [17] (fun i wl => ∃ (k : Nat), k ≤ s.W.length ∧ i = .int .i64 (k : Int) ∧ Hid (RQl s ((s.W.take k).map (relX 0 h) ++ s.W.drop k) (w0.heap.size + 2) w6.heap.size w A C wl)) (fun i _ => s.W.length - (intOf i).toNat)
  case atStart => exact ⟨0, Nat.zero_le _, rfl, HR0⟩
  case round =>
    obtain ⟨k, hk, rfl, HR⟩ := hrel
    clear HR0 x7
    have hwr := HR.out.O.lt
    by_cases hlt : k < s.W.length
    · obtain ⟨x, hx, _⟩ := drop_at hlt
      obtain ⟨e1, e2, e3⟩ := map_step ((relX 0 h)) hx
      obtain ⟨g, rfl, hgB, hgs, _⟩ := HR.out.own.holds (by omega)
      have hob := HOB.out g rfl
      obtain ⟨c0, c1, c2, c3, c4, c5, c6, c7⟩ := (HR.out.own.wsg (by rw [e3]; exact hlen)).cell k x e2
      simp only [Nat.zero_add] at c0 c1 c2 c3 c4 c5 c6 c7
      have hcap := HR.out.own.cap
      rw [e3] at hcap
      have HE1 := hide e1
      have HE2 := hide e2
      clear e1 e2 hx
      have Yq : YAt (wr.alloc (.cells #[.int .i64 x.num, .int .i64 x.d, .int .i64 x.v, .int .i64 x.amt, .int .i64 x.hei, .int .i64 x.due, .int .i64 x.h0, .int .i64 x.h1] 127)) wr.heap.size x := heap_alloc_new _ _
      have HQ := hide (HR.out.over ((Below.refl _ wr).alloc (Nat.le_refl _) (.cells #[.int .i64 x.num, .int .i64 x.d, .int .i64 x.v, .int .i64 x.amt, .int .i64 x.hei, .int .i64 x.due, .int .i64 x.h0, .int .i64 x.h1] 127)))
      go_upto_region 5 with fail
      generalize wr.alloc (.cells #[.int .i64 x.num, .int .i64 x.d, .int .i64 x.v, .int .i64 x.amt, .int .i64 x.hei, .int .i64 x.due, .int .i64 x.h0, .int .i64 x.h1] 127) = wq at *
      clear c0 c1 c2 c3 c4 c5 c6 c7 HR
      have c6 := Yq.cells.2.2.2.2.2.2.1
      have c7 := Yq.cells.2.2.2.2.2.2.2
      have hzq := Yq.lt
      have hi0 := fun w => ixH0 w x.h0 x.h1
      have hi1 := fun w => ixH1 w x.h0 x.h1
      generalize hL : (s.W.take k).map (relX 0 h) ++ s.W.drop k = Lk at *
      clear hL
      have HQ0 : Hid (RQl s (Lk.set k (if 1 ≤ 0 then (relX 0 h) x else x)) (w0.heap.size + 2) w6.heap.size w (some ⟨g, 0, none⟩) C wq) := by show RQl _ _ _ _ _ _ _ _; rw [if_neg (by omega), set_same HE2.out]; exact HQ.out
      go_upto_region 6 with fail
      go_loopw [24] (fun i wl => ∃ (j : Nat), j ≤ 2 ∧ i = .int .i64 (j : Int) ∧ Hid (RQl s (Lk.set k (if 1 ≤ j then (relX 0 h) x else x)) (w0.heap.size + 2) w6.heap.size w (some ⟨g, 0, none⟩) C wl)) (fun i _ => 2 - (intOf i).toNat)
      case atStart => exact ⟨0, by omega, rfl, HQ0⟩
      case round =>
        obtain ⟨j, hj, rfl, HI⟩ := hrel
        clear HQ0
        have x7 := (st_cells HI.out.O).2.2.2.2.2.2.2.1
        have hzo := HI.out.O.lt
        rcases (show j = 0 ∨ j = 1 ∨ j = 2 by omega) with rfl | rfl | rfl
        · rw [if_neg (by omega), set_same HE2.out] at HI
          obtain ⟨g', hg', _, hgs', hcl⟩ := HI.out.own.holds (by have := (List.getElem?_eq_some_iff.1 HE2.out).1; omega)
          cases hg'
          obtain ⟨d6, d7, f6, f7⟩ := hcl k x HE2.out
          clear hcl
          by_cases hh : x.h0 ≤ h
          · have HX : Hid ((relX 0 h) x = { x with h0 := 0 }) := by show _ = _; unfold relX; simp [hh]
            go_wp2
            refine ⟨⟨1, by omega, by go_num, ?_⟩, by simp [intOf]⟩
            show RQl _ _ _ _ _ _ _ _
            rw [if_pos (by omega), HX.out]
            have hbt := (But.refl g wr).set (k * 8 + 6) (.int .i64 0)
            exact ⟨HI.out.own.put HE2.out _ 6 _ (by omega) rfl, hbt.stake (by omega) HI.out.R, hbt.stake (by omega) HI.out.O, HI.out.below.trans (hbt.below (by omega))⟩
          · have HX : Hid ((relX 0 h) x = x) := by show _ = _; unfold relX; simp [hh]
            have HI1 : Hid (RQl s (Lk.set k (if 1 ≤ 1 then (relX 0 h) x else x)) (w0.heap.size + 2) w6.heap.size w (some ⟨g, 0, none⟩) C wr) := by show RQl _ _ _ _ _ _ _ _; rw [if_pos (by omega), HX.out, set_same HE2.out]; exact HI.out
            go_wp2
            exact ⟨⟨1, by omega, by go_num, HI1⟩, by simp [intOf]⟩
        · have HI1 := hide HI.out
          clear HI
          go_wp2
          exact ⟨⟨2, by omega, by go_num, by show RQl _ _ _ _ _ _ _ _; have hq := HI1.out; rw [if_pos (by omega)] at hq ⊢; exact hq⟩, by simp [intOf]⟩
        · rw [if_pos (by omega), ← HE1.out] at HI
          go_wp2
          exact ⟨⟨k + 1, by omega, by go_num, HI⟩, by simp [intOf]; omega⟩
    · obtain rfl : k = s.W.length := by omega
      have hO := HR.out.own
      rw [List.take_length, List.drop_length, List.append_nil] at hO
      have HO := hide hO
      have S3 := HR.out.O
      have R3 := HR.out.R
      have HB3 := hide HR.out.below
      clear hO HR
      go_upto_region 12 with fail
      apply wp_region_lit
      refine wpList_load_mid rfl 32 _ rfl _ 0 rfl _ _ S3.range Tryz.underlying32 rfl (by rw [infoS]; rfl) ?_
      refine wpList_store_mid rfl 32 _ _ rfl _ 0 (stC s (.slice A s.W.length C)) rfl rfl (R3.there 0 _ (by rw [Z63_size, stC_size]; omega)) (by rw [infoS]; rfl) (stC_one _ _ _ _) ?_
      go_wp2
      exact stake_end1 Tryz.results96 R3 rfl s _ _ ⟨A, C, rfl, own_base (own_of HO.out fun k' hk => heap_sets (by have := (World.ownsRow.lt HO.out k' hk).1; omega) _ _ _) (by omega), below_sets (by omega) _ _ _ HB3.out⟩ _ rfl rfl
set_option maxHeartbeats 8000000 in
theorem rrelease_1 (s : St) (ao : Option Addr) (sb so c : Nat)  (h : Int) (w : World) (hW : WsAt w ao sb so s.W) :
    Calls Tryz.prog 96 #[.agg (stC s (.slice ao s.W.length c)), .int .i64 1, .int .i64 h] w fun e w' => ∃ A C, e = .returned (.agg (stC s (.slice A s.W.length C))) ∧ OwnW w.heap.size w' A C (s.W.map (relX 1 h)) ∧ Below w.heap.size w w' := by
  have SS := (SAt.new w (stC s (.slice ao s.W.length c))).alloc (.cells Z63 32)
  have RR := SAt.new2 w (.cells (stC s (.slice ao s.W.length c)) 32) Z63
  have HB : Hid (Below w.heap.size w ((w.alloc (.cells (stC s (.slice ao s.W.length c)) 32)).alloc (.cells Z63 32))) := ((Below.refl _ w).alloc (Nat.le_refl _) _).alloc (by simp) _
  have HW := hide hW
  have hlen := hW.len
  clear hW
  go_enter Tryz.func96, Tryz.ntmps96
  go_upto_region 1 with fail
  change Code.wp Tryz.prog _ _ _ ((w.alloc (.cells (stC s (.slice ao s.W.length c)) 32)).alloc (.cells Z63 32))
  generalize (w.alloc (.cells (stC s (.slice ao s.W.length c)) 32)).alloc (.cells Z63 32) = w0 at *
  have hz0 : w.heap.size + 1 < w0.heap.size := RR.lt
  apply wp_region_lit
  refine wpList_load_mid rfl 32 _ rfl _ 0 rfl _ _ SS.range Tryz.underlying32 rfl (by rw [infoS]; rfl) ?_
  go_step
  go_step
  refine (copy_st3 s ao sb so c _ (by exact HW.out.over HB.out)).mono ?_
  rintro e w6 ⟨A, C, rfl, hO6, h6⟩
  dsimp only
  have R6 := RR.later h6 RR.lt
  have HB6 := hide (HB.out.trans (h6.mono (by omega)))
  have hz6 : w.heap.size + 1 < w6.heap.size := R6.lt
  have h56 : w0.heap.size ≤ w6.heap.size := h6.size
  have HOB : Hid (∀ k, A = some ⟨k, 0, none⟩ → w0.heap.size + 2 ≤ k ∧ k < w6.heap.size) := fun k hk => World.ownsRow.lt hO6 k (by rw [hk]; rfl)
  iterate 4 go_step
  refine wpList_store_mid rfl 32 _ _ rfl _ 0 (stC s (.slice A s.W.length C)) rfl rfl ((SAt.new w6 Z63).there 0 _ (by rw [Z63_size, stC_size]; omega)) (by rw [infoS]; rfl) (stC_one _ _ _ _) ?_
  change wpList Tryz.prog _ _ _ _ ((w6.alloc (.cells Z63 32)).setCells w6.heap.size 0 (stC s (.slice A s.W.length C)).toList)
  have O7 := (SAt.new w6 Z63).setAll (ds := (stC s (.slice A s.W.length C))) rfl
  have R7 : SAt ((w6.alloc (.cells Z63 32)).setCells w6.heap.size 0 (stC s (.slice A s.W.length C)).toList) (w.heap.size + 1) Z63 := (heap_sets (by omega) _ _ _).trans (R6.alloc _)
  have HB7 := hide (below_sets (b := w6.heap.size) (by omega) (stC s (.slice A s.W.length C)).toList 0 _ (HB6.out.alloc (by omega) (.cells Z63 32)))
  have HO7 : Hid (OwnW (w0.heap.size + 2) ((w6.alloc (.cells Z63 32)).setCells w6.heap.size 0 (stC s (.slice A s.W.length C)).toList) A C s.W) := hO6.to fun k _ hk => (heap_sets (by omega) _ _ _).trans (Below.heap_alloc w6 _ k hk)
  generalize (w6.alloc (.cells Z63 32)).setCells w6.heap.size 0 (stC s (.slice A s.W.length C)).toList = w7 at *
  have hz7 : w6.heap.size < w7.heap.size := O7.lt
  have HR0 : Hid (RQl s ((s.W.take 0).map (relX 1 h) ++ s.W.drop 0) (w0.heap.size + 2) w6.heap.size w A C w7) := ⟨HO7.out, R7, O7, HB7.out⟩
  have x7 := (st_cells O7).2.2.2.2.2.2.2.1
  clear SS RR HB R6 HB6 h6 hO6 O7 R7 HO7 HB7 HW
  go_upto_region 3 with fail
  go_loopw [17] (fun i wl => ∃ (k : Nat), k ≤ s.W.length ∧ i = .int .i64 (k : Int) ∧ Hid (RQl s ((s.W.take k).map (relX 1 h) ++ s.W.drop k) (w0.heap.size + 2) w6.heap.size w A C wl)) (fun i _ => s.W.length - (intOf i).toNat)
  case atStart => exact ⟨0, Nat.zero_le _, rfl, HR0⟩
  case round =>
    obtain ⟨k, hk, rfl, HR⟩ := hrel
    clear HR0 x7
    have hwr := HR.out.O.lt
    by_cases hlt : k < s.W.length
    · obtain ⟨x, hx, _⟩ := drop_at hlt
      obtain ⟨e1, e2, e3⟩ := map_step ((relX 1 h)) hx
      obtain ⟨g, rfl, hgB, hgs, _⟩ := HR.out.own.holds (by omega)
      have hob := HOB.out g rfl
      obtain ⟨c0, c1, c2, c3, c4, c5, c6, c7⟩ := (HR.out.own.wsg (by rw [e3]; exact hlen)).cell k x e2
      simp only [Nat.zero_add] at c0 c1 c2 c3 c4 c5 c6 c7
      have hcap := HR.out.own.cap
      rw [e3] at hcap
      have HE1 := hide e1
      have HE2 := hide e2
      clear e1 e2 hx
      have Yq : YAt (wr.alloc (.cells #[.int .i64 x.num, .int .i64 x.d, .int .i64 x.v, .int .i64 x.amt, .int .i64 x.hei, .int .i64 x.due, .int .i64 x.h0, .int .i64 x.h1] 127)) wr.heap.size x := heap_alloc_new _ _
      have HQ := hide (HR.out.over ((Below.refl _ wr).alloc (Nat.le_refl _) (.cells #[.int .i64 x.num, .int .i64 x.d, .int .i64 x.v, .int .i64 x.amt, .int .i64 x.hei, .int .i64 x.due, .int .i64 x.h0, .int .i64 x.h1] 127)))
      go_upto_region 5 with fail
      generalize wr.alloc (.cells #[.int .i64 x.num, .int .i64 x.d, .int .i64 x.v, .int .i64 x.amt, .int .i64 x.hei, .int .i64 x.due, .int .i64 x.h0, .int .i64 x.h1] 127) = wq at *
      clear c0 c1 c2 c3 c4 c5 c6 c7 HR
      have c6 := Yq.cells.2.2.2.2.2.2.1
      have c7 := Yq.cells.2.2.2.2.2.2.2
      have hzq := Yq.lt
      have hi0 := fun w => ixH0 w x.h0 x.h1
      have hi1 := fun w => ixH1 w x.h0 x.h1
      generalize hL : (s.W.take k).map (relX 1 h) ++ s.W.drop k = Lk at *
      clear hL
      have HQ0 : Hid (RQl s (Lk.set k (if 2 ≤ 0 then (relX 1 h) x else x)) (w0.heap.size + 2) w6.heap.size w (some ⟨g, 0, none⟩) C wq) := by show RQl _ _ _ _ _ _ _ _; rw [if_neg (by omega), set_same HE2.out]; exact HQ.out
      go_upto_region 6 with fail
      go_loopw [24] (fun i wl => ∃ (j : Nat), j ≤ 2 ∧ i = .int .i64 (j : Int) ∧ Hid (RQl s (Lk.set k (if 2 ≤ j then (relX 1 h) x else x)) (w0.heap.size + 2) w6.heap.size w (some ⟨g, 0, none⟩) C wl)) (fun i _ => 2 - (intOf i).toNat)
      case atStart => exact ⟨0, by omega, rfl, HQ0⟩
      case round =>
        obtain ⟨j, hj, rfl, HI⟩ := hrel
        clear HQ0
        have x7 := (st_cells HI.out.O).2.2.2.2.2.2.2.1
        have hzo := HI.out.O.lt
        rcases (show j = 0 ∨ j = 1 ∨ j = 2 by omega) with rfl | rfl | rfl
        · have HI1 := hide HI.out
          clear HI
          go_wp2
          exact ⟨⟨1, by omega, by go_num, by show RQl _ _ _ _ _ _ _ _; have hq := HI1.out; rw [if_neg (by omega)] at hq ⊢; exact hq⟩, by simp [intOf]⟩
        · rw [if_neg (by omega), set_same HE2.out] at HI
          obtain ⟨g', hg', _, hgs', hcl⟩ := HI.out.own.holds (by have := (List.getElem?_eq_some_iff.1 HE2.out).1; omega)
          cases hg'
          obtain ⟨d6, d7, f6, f7⟩ := hcl k x HE2.out
          clear hcl
          by_cases hh : x.h1 ≤ h
          · have HX : Hid ((relX 1 h) x = { x with h1 := 0 }) := by show _ = _; unfold relX; simp [hh]
            go_wp2
            refine ⟨⟨2, by omega, by go_num, ?_⟩, by simp [intOf]⟩
            show RQl _ _ _ _ _ _ _ _
            rw [if_pos (by omega), HX.out]
            have hbt := (But.refl g wr).set (k * 8 + 7) (.int .i64 0)
            exact ⟨HI.out.own.put HE2.out _ 7 _ (by omega) rfl, hbt.stake (by omega) HI.out.R, hbt.stake (by omega) HI.out.O, HI.out.below.trans (hbt.below (by omega))⟩
          · have HX : Hid ((relX 1 h) x = x) := by show _ = _; unfold relX; simp [hh]
            have HI1 : Hid (RQl s (Lk.set k (if 2 ≤ 2 then (relX 1 h) x else x)) (w0.heap.size + 2) w6.heap.size w (some ⟨g, 0, none⟩) C wr) := by show RQl _ _ _ _ _ _ _ _; rw [if_pos (by omega), HX.out, set_same HE2.out]; exact HI.out
            go_wp2
            exact ⟨⟨2, by omega, by go_num, HI1⟩, by simp [intOf]⟩
        · rw [if_pos (by omega), ← HE1.out] at HI
          go_wp2
          exact ⟨⟨k + 1, by omega, by go_num, HI⟩, by simp [intOf]; omega⟩
    · obtain rfl : k = s.W.length := by omega
      have hO := HR.out.own
      rw [List.take_length, List.drop_length, List.append_nil] at hO
      have HO := hide hO
      have S3 := HR.out.O
      have R3 := HR.out.R
      have HB3 := hide HR.out.below
      clear hO HR
      go_upto_region 12 with fail
      apply wp_region_lit
      refine wpList_load_mid rfl 32 _ rfl _ 0 rfl _ _ S3.range Tryz.underlying32 rfl (by rw [infoS]; rfl) ?_
      refine wpList_store_mid rfl 32 _ _ rfl _ 0 (stC s (.slice A s.W.length C)) rfl rfl (R3.there 0 _ (by rw [Z63_size, stC_size]; omega)) (by rw [infoS]; rfl) (stC_one _ _ _ _) ?_
      go_wp2
      exact stake_end1 Tryz.results96 R3 rfl s _ _ ⟨A, C, rfl, own_base (own_of HO.out fun k' hk => heap_sets (by have := (World.ownsRow.lt HO.out k' hk).1; omega) _ _ _) (by omega), below_sets (by omega) _ _ _ HB3.out⟩ _ rfl rfl
end Go.Proofs.YtjghbciepinofaaGreat

set_option maxRecDepth 100000
namespace Go.Proofs.YtjghbciepinofaaGreat.Pv
open Go.RowKit
def oneP : Pr := (delegP newP 0 0 500).1
def twoP : Pr := paidP (tickP oneP 3) 3
theorem one_e : (delegP newP 0 0 500).2 = 0 := by decide +kernel
theorem one_good : goodP oneP = true := by decide +kernel
theorem two_good : goodP twoP = true := by decide +kernel
theorem one_goodS : goodS (tickP oneP 3).s = true := by decide +kernel
theorem two_set : twoP.set.length = 1 := by decide +kernel
theorem two_paid : paidW 3 (tickP oneP 3).s.W = [] := by decide +kernel
theorem two_h : twoP.h = 1 := by decide +kernel
theorem one_end : endP oneP 3 = (twoP, [], 0) := by
  unfold endP
  rw [if_pos ⟨one_good, by decide, by decide⟩, queue_none (p := tickP oneP 3) rfl, show paidP (tickP oneP 3) 3 = twoP from rfl, tell_off (p := twoP) (c := 0) rfl, tell_off (p := twoP) (c := 1) rfl, two_paid]
theorem pend_one (v : PrV) (P : Nat → Prop) (w : World) (hp : PIn P w oneP v) : Calls Tryz.prog 9 #[.agg (prC oneP v), .int .i64 3] w (AnsE P w (twoP, [], 0)) := by
  rw [← one_end]
  refine pend_of oneP v P w 3 hp twoP twoP twoP (fun _ _ _ g v wx P' hC hp hg => pqueue_none g (tickP oneP 3) v wx P' rfl hC hp hg) (fun _ => by rw [queue_none (p := tickP oneP 3) rfl]; exact one_goodS) ?_ (by rw [queue_none (p := tickP oneP 3) rfl]; rfl) (by rw [tell_off (p := twoP) (c := 0) rfl]) (by rw [tell_off (p := twoP) (c := 1) rfl])
  intro _ _ _ c hc g v wx P' hC hp hg
  rw [ite_self] at hC hp
  rw [ite_self]
  have h := ptell_off g twoP v wx P' c hc rfl hC hp
  rwa [tell_off (p := twoP) (c := c) rfl] at h
attribute [local go_sem ↓] loadS_eq loadP_eq storeP_eq storeS_eq
set_option maxHeartbeats 8000000 in
theorem lprovides_any (w : World) : Calls Tryz.prog 20 #[] w fun e w' => e = .returned (.bool true) ∧ Below w.heap.size w w' := by
  have HD := hide (fun (wx : World) => pdeleg_any newP nilPV (fun _ => True) wx 0 0 500 (pin_new _ wx))
  have hd1 : delegP newP 0 0 500 = (oneP, 0) := by
    have := one_e
    show ((delegP newP 0 0 500).1, (delegP newP 0 0 500).2) = _
    rw [this]
    rfl
  rw [hd1] at HD
  have HE := hide (fun (v : PrV) (P : Nat → Prop) (wx : World) (hp : PIn P wx oneP v) => pend_one v P wx hp)
  have HG := hide (fun (v : PrV) (P : Nat → Prop) (wx : World) (hp : PIn P wx twoP v) => pgood_any twoP v P wx hp)
  rw [two_good] at HG
  have H2 := hide (show _ ∧ _ from ⟨two_h, two_set⟩)
  have Ho := hide (fun (P : Nat → Prop) (wx : World) (v : PrV) (hp : PIn P wx oneP v) => pr_one hp)
  have Ht := hide (fun (P : Nat → Prop) (wx : World) (v : PrV) (hp : PIn P wx twoP v) => pr_one hp)
  clear hd1
  generalize oneP = p1 at *
  generalize twoP = p2 at *
  go_enter Tryz.func20, Tryz.ntmps20
  go_upto_region 2 with (first
    | (go_at_call 26; refine (pnew_any _).mono ?_; rintro e w1 ⟨rfl, hb1⟩)
    | (go_at_call 25; refine (HD.out _).mono ?_; rintro e w2 ⟨v2, rfl, P2, hb2⟩; have s2 := pr_storeP (CAt.new 47 w2 Tryz.zeroCells47) Z97_size (prC_size p1 v2) (Ho.out _ _ _ P2)))
  have bS : Below w2.heap.size w2 ((w2.alloc (.cells Tryz.zeroCells47 47)).setCells w2.heap.size 0 (prC p1 v2).toList) := below_sets (Nat.le_refl _) _ _ _ ((Below.refl _ w2).alloc (Nat.le_refl _) _)
  have C3 : CAt 47 ((w2.alloc (.cells Tryz.zeroCells47 47)).setCells w2.heap.size 0 (prC p1 v2).toList) w2.heap.size (prC p1 v2) := (CAt.new 47 w2 Tryz.zeroCells47).setAll (by rw [Z97_size]; rfl)
  have B3 := (hb1.trans (hb2.mono hb1.size)).trans (bS.mono (Nat.le_trans hb1.size hb2.size))
  have P3 := (P2.mono (P' := fun b => b < w2.heap.size) (fun _ h _ => h)).over bS
  have hgw : w.heap.size ≤ w2.heap.size := Nat.le_trans hb1.size hb2.size
  clear s2 bS hb1 hb2 P2 HD
  generalize (w2.alloc (.cells Tryz.zeroCells47 47)).setCells w2.heap.size 0 (prC p1 v2).toList = w3 at *
  generalize w2.heap.size = g at *
  have l3 := pr_loadP C3 (prC_size _ _)
  have hgl := C3.lt
  have H3 := hide (show _ ∧ _ ∧ _ from ⟨C3, B3, P3⟩)
  clear C3 B3 P3
  go_upto_region 3 with (go_at_call 9; refine (HE.out v2 _ _ H3.out.2.2).mono ?_; rintro e w4 ⟨v4, u4, rfl, P4, U4, hb4⟩; clear l3; have s4 := pr_storeP (H3.out.1.over hb4) (prC_size _ _) (prC_size p2 v4) (Ht.out _ _ _ P4))
  have C5 : CAt 47 (w4.setCells g 0 (prC p2 v4).toList) g (prC p2 v4) := (H3.out.1.over hb4).setAll rfl
  have B5 := below_sets (b := g) (B := w.heap.size) (by omega) (prC p2 v4).toList 0 _ (H3.out.2.1.trans (hb4.mono H3.out.2.1.size))
  have P5 := P4.sets (g := g) (fun h => by
    rcases h with ⟨h, _⟩ | h
    · have h' : g < g := h
      omega
    · omega) 0 (prC p2 v4).toList
  obtain ⟨A4, n4, D4, e4, l4, -⟩ := U4
  have hn4 : n4 = 0 := by simpa [inC] using l4.symm
  subst e4 hn4
  obtain ⟨AS, CS, eS, -⟩ := P5.set.open (pwC_length _) (by decide)
  rw [H2.out.2] at eS
  have q65 : (w4.setCells g 0 (prC p2 v4).toList).cell? ⟨g, 65, none⟩ = some (.slice AS 1 CS) := by rw [← eS]; exact C5.cell 65
  have q0 : (w4.setCells g 0 (prC p2 v4).toList).cell? ⟨g, 0, none⟩ = some (.int .i64 1) := by rw [← H2.out.1]; exact C5.cell 0
  have l5 := pr_loadP C5 (prC_size _ _)
  have H5 := hide (show _ ∧ _ from ⟨B5, P5⟩)
  clear C5 B5 P5 s4 P4 hb4 H3 HE H2
  generalize w4.setCells g 0 (prC p2 v4).toList = w5 at *
  go_wp2_with (go_at_call 10; refine (HG.out v4 _ _ H5.out.2).mono ?_; rintro e w6 ⟨rfl, hb6⟩)
  go_ret
  exact ⟨rfl, H5.out.1.trans (hb6.mono H5.out.1.size)⟩
end Go.Proofs.YtjghbciepinofaaGreat.Pv

