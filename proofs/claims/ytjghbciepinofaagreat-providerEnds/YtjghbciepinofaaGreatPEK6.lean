/- Parts of the proof: RSL PRST. -/
import Derived.Test.YtjghbciepinofaaGreatRows
import Derived.Test.YtjghbciepinofaaGreatPEK1
import Derived.Test.YtjghbciepinofaaGreatPEK4
import Derived.Test.YtjghbciepinofaaGreatPEK5
import Derived.Test.YtjghbciepinofaaGreatPEK39
import Derived.Test.YtjghbciepinofaaGreatPEK48
import Derived.Test.YtjghbciepinofaaGreatPEK49
set_option maxRecDepth 100000
namespace Go.Proofs.YtjghbciepinofaaGreat
open Go.RowKit
theorem refOf_z (s : St) (v : Int) : refOfE s 0 v = refE s v := by
  unfold refOfE
  split
  · rw [if_pos (by decide)]; omega
  · rfl
theorem rpart_any (n f : Int) (w : World) : Calls Tryz.prog 141 #[.int .i64 n, .int .i64 f] w fun e w' => e = .returned (.tuple #[.int .i64 (ptN n f), .int .i64 (ptE n f)]) ∧ Below w.heap.size w w' := Ra.part14 n f w
/-- where the loop stands -/
structure RSl (s : St) (ao : Option Addr) (c : Nat) (v h f : Int) (B ob : Nat) (w : World) (A : Option Addr) (C k : Nat) (wl : World) : Prop where
  own : OwnW B wl A C (slW v h f (s.W.take k) ++ s.W.drop k)
  S : SAt wl w.heap.size (stC s (.slice ao s.W.length c))
  R : SAt wl (w.heap.size + 1) Z63
  O : SAt wl ob (stC s (.slice A s.W.length C))
  below : Below w.heap.size w wl
theorem RSl.over {s : St} {ao : Option Addr} {c : Nat} {v h f : Int} {B ob : Nat} {w : World} {A : Option Addr} {C k : Nat} {wl w' : World} (H : RSl s ao c v h f B ob w A C k wl) (hb : Below wl.heap.size wl w') : RSl s ao c v h f B ob w A C k w' :=
  ⟨H.own.over hb, H.S.later hb H.S.lt, H.R.later hb H.R.lt, H.O.later hb H.O.lt, H.below.trans (hb.mono H.below.size)⟩
set_option maxHeartbeats 8000000 in
theorem rslash_yes (s : St) (ao : Option Addr) (sb so c v : Nat) (h f : Int) (w : World) (hW : WsAt w ao sb so s.W) (hg : goodS s = true) (hv : v < 6) (hf : 0 ≤ f ∧ f ≤ 1000) :
    Calls Tryz.prog 97 #[.agg (stC s (.slice ao s.W.length c)), .int .i64 (v : Int), .int .i64 h, .int .i64 f] w fun e w' => ∃ A C, e = .returned (.tuple #[.agg (stC (slashS s v h f) (.slice A (slashS s v h f).W.length C)), .int .i64 (ptN (s.V v).tok f + slN v h f s.W), .int .i64 0]) ∧ OwnW w.heap.size w' A C (slashS s v h f).W ∧ Below w.heap.size w w' := by
  have SS := (SAt.new w (stC s (.slice ao s.W.length c))).alloc (.cells Z63 32)
  have RR := SAt.new2 w (.cells (stC s (.slice ao s.W.length c)) 32) Z63
  have HB : Hid (Below w.heap.size w ((w.alloc (.cells (stC s (.slice ao s.W.length c)) 32)).alloc (.cells Z63 32))) := ((Below.refl _ w).alloc (Nat.le_refl _) _).alloc (by simp) _
  have HW := hide hW
  have hsm := fun w h => some_any s ao sb so c 0 v w h
  rw [refOf_z] at hsm
  have hRf := refE_good hg hv
  have hv' : (v : Int) < 6 := by omega
  have hv0 : (0 : Int) ≤ (v : Int) := by omega
  obtain ⟨n1, n2, n3, n4, n5, n6, n7, n8, n9, n10, n11⟩ := slash_nums hg hv h hf
  obtain ⟨b0, -⟩ := slash_burn hg hv h hf
  have hP := rpart_any (s.V v).tok f
  rw [n1] at hP
  have hBu := fun w => rburn_any s.b (ptN (s.V v).tok f) (slN v h f s.W) w
  rw [b0] at hBu
  have HN : Hid (∀ k, 0 ≤ slN v h f (s.W.take k) ∧ slN v h f (s.W.take k) ≤ 400000) := fun k => by
    have h1 := slN_in (v := v) (h := h) hf (W := s.W.take k) fun x hx => n10 x (List.mem_of_mem_take hx)
    have e1 : amts s.W = amts (s.W.take k) + amts (s.W.drop k) := by rw [← amts_append, List.take_append_drop]
    have e2 := amts_nonneg (W := s.W.drop k) fun y hy => (n10 y (List.mem_of_mem_drop hy)).1
    omega
  have eS : slashS s v h f = { s with b := (burnR s.b (ptN (s.V v).tok f) (slN v h f s.W)).1, V := setV s.V v (slashV (s.V v) (ptN (s.V v).tok f) (slN v h f s.W)), W := slW v h f s.W } := rfl
  generalize (burnR s.b (ptN (s.V v).tok f) (slN v h f s.W)).1 = B at *
  have hWs : (slashS s v h f).W = slW v h f s.W := rfl
  generalize slashS s v h f = r at *
  generalize ptN (s.V v).tok f = pb at *
  rw [hWs]
  obtain ⟨n20, n21⟩ := n2
  obtain ⟨n30, n31⟩ := n3
  obtain ⟨n50, n51⟩ := n5
  have hw0 : wrap64 (pb + slN v h f s.W) = pb + slN v h f s.W := wrap64_small (by omega) (by omega)
  have HES := hide eS
  have HF := hide hf
  have HA := hide n10
  clear hW hf hg n1 n9 n10 b0 eS hWs
  go_enter Tryz.func97, Tryz.ntmps97
  go_upto_region 1 with fail
  change Code.wp Tryz.prog _ _ _ ((w.alloc (.cells (stC s (.slice ao s.W.length c)) 32)).alloc (.cells Z63 32))
  generalize (w.alloc (.cells (stC s (.slice ao s.W.length c)) 32)).alloc (.cells Z63 32) = w0 at *
  apply wp_region_lit
  refine wpList_load_mid rfl 32 _ rfl _ 0 rfl _ _ SS.range Tryz.underlying32 rfl (by rw [infoS]; rfl) ?_
  go_upto_region 4 with (go_at_call 140; refine (hsm _ (by exact HW.out.over HB.out)).mono ?_; rintro e w1 ⟨rfl, h1⟩)
  have HB1 := hide (HB.out.trans (h1.mono HB.out.size))
  have S1 := SS.later h1 SS.lt
  have R1 := RR.later h1 RR.lt
  have hz1 : w.heap.size + 1 < w1.heap.size := R1.lt
  have hz1a : w.heap.size < w1.heap.size := by omega
  clear SS RR h1 HB hsm
  have c0 := (S1.val v hv).1
  go_upto_region 7 with (go_at_call 141; refine (hP _).mono ?_; rintro e w5 ⟨rfl, h2⟩)
  have HB5 := hide (HB1.out.trans (h2.mono (by omega)))
  have S5 := S1.later h2 S1.lt
  have R5 := R1.later h2 R1.lt
  have hz5 : w.heap.size + 1 < w5.heap.size := R5.lt
  clear h2 S1 R1 HB1 c0 hP
  apply wp_region_lit
  refine wpList_load_mid rfl 32 _ rfl _ 0 rfl _ _ S5.range Tryz.underlying32 rfl (by rw [infoS]; rfl) ?_
  go_step
  go_step
  refine (copy_st3 s ao sb so c _ (by exact HW.out.over HB5.out)).mono ?_
  rintro e w6 ⟨A, C, rfl, hO6, h6⟩
  dsimp only
  have S6 := S5.later h6 S5.lt
  have R6 := R5.later h6 R5.lt
  have HB6 := hide (HB5.out.trans (h6.mono (by omega)))
  have hz6 : w.heap.size + 1 < w6.heap.size := R6.lt
  have h56 : w5.heap.size ≤ w6.heap.size := h6.size
  have HOB : Hid (∀ k, A = some ⟨k, 0, none⟩ → w5.heap.size + 2 ≤ k ∧ k < w6.heap.size) := fun k hk => World.ownsRow.lt hO6 k (by rw [hk]; rfl)
  iterate 4 go_step
  refine wpList_store_mid rfl 32 _ _ rfl _ 0 (stC s (.slice A s.W.length C)) rfl rfl ((SAt.new w6 Z63).there 0 _ (by rw [Z63_size, stC_size]; omega)) (by rw [infoS]; rfl) (stC_one _ _ _ _) ?_
  change wpList Tryz.prog _ _ _ _ ((w6.alloc (.cells Z63 32)).setCells w6.heap.size 0 (stC s (.slice A s.W.length C)).toList)
  have O7 := (SAt.new w6 Z63).setAll (ds := (stC s (.slice A s.W.length C))) rfl
  have S7 : SAt ((w6.alloc (.cells Z63 32)).setCells w6.heap.size 0 (stC s (.slice A s.W.length C)).toList) w.heap.size (stC s (.slice ao s.W.length c)) := (heap_sets (by omega) _ _ _).trans (S6.alloc _)
  have R7 : SAt ((w6.alloc (.cells Z63 32)).setCells w6.heap.size 0 (stC s (.slice A s.W.length C)).toList) (w.heap.size + 1) Z63 := (heap_sets (by omega) _ _ _).trans (R6.alloc _)
  have HB7 := hide (below_sets (b := w6.heap.size) (by omega) (stC s (.slice A s.W.length C)).toList 0 _ (HB6.out.alloc (by omega) (.cells Z63 32)))
  have HO7 : Hid (OwnW (w5.heap.size + 2) ((w6.alloc (.cells Z63 32)).setCells w6.heap.size 0 (stC s (.slice A s.W.length C)).toList) A C s.W) := hO6.to fun k _ hk => (heap_sets (by omega) _ _ _).trans (Below.heap_alloc w6 _ k hk)
  generalize (w6.alloc (.cells Z63 32)).setCells w6.heap.size 0 (stC s (.slice A s.W.length C)).toList = w7 at *
  have hz7 : w6.heap.size < w7.heap.size := O7.lt
  have hz7a : w.heap.size < w7.heap.size := by omega
  have HR0 : Hid (RSl s ao c v h f (w5.heap.size + 2) w6.heap.size w A C 0 w7) := ⟨HO7.out, S7, R7, O7, HB7.out⟩
  have x7 := (st_cells S7).2.2.2.2.2.2.2.1
  clear S5 R5 HB5 S6 R6 HB6 h6 hO6 O7 R7 HO7 HB7 S7
  have hadr := HW.out.adr
  go_upto_region 10 with fail
  go_loopw [15, 46] (fun al i wl => ∃ (k : Nat), k ≤ s.W.length ∧ i = .int .i64 (k : Int) ∧ al = .int .i64 (slN v h f (s.W.take k)) ∧ Hid (RSl s ao c v h f (w5.heap.size + 2) w6.heap.size w A C k wl)) (fun _ i _ => s.W.length - (intOf i).toNat)
  case atStart => exact ⟨0, Nat.zero_le _, rfl, rfl, HR0⟩
  case round =>
    obtain ⟨k, hk, rfl, rfl, HR⟩ := hrel
    clear HR0 x7
    obtain ⟨m0, m1⟩ := HN.out k
    by_cases hlt : k < s.W.length
    · obtain ⟨x, hx, _⟩ := drop_at hlt
      obtain ⟨e1, e2, e3⟩ := sl_step v h f hx
      obtain ⟨m2, m3⟩ := HN.out (k + 1)
      have hxa := HA.out x (by obtain ⟨h1, h2⟩ := List.getElem?_eq_some_iff.1 hx; exact h2 ▸ List.getElem_mem h1)
      obtain ⟨c0, c1, c2, c3, c4, c5, c6, c7⟩ := (HW.out.over HR.out.below).cell k x hx
      obtain rfl := hadr (by omega)
      have hlen : (slW v h f (s.W.take k) ++ s.W.drop k).length = s.W.length := by unfold slW; rw [List.length_append, List.length_map, ← List.length_append, List.take_append_drop]
      obtain ⟨g, rfl, _, _, _⟩ := HR.out.own.at0 (by omega)
      have hgB := HOB.out g rfl
      have HE2 := hide e2
      have HE1 := hide e1
      have HLn := hide hlen
      clear e1 e2 hx hlen hadr hBu
      have hwr := HR.out.S.lt
      have Yq : YAt (wr.alloc (.cells #[.int .i64 x.num, .int .i64 x.d, .int .i64 x.v, .int .i64 x.amt, .int .i64 x.hei, .int .i64 x.due, .int .i64 x.h0, .int .i64 x.h1] 127)) wr.heap.size x := heap_alloc_new _ _
      have HQ := hide (HR.out.over ((Below.refl _ wr).alloc (Nat.le_refl _) (.cells #[.int .i64 x.num, .int .i64 x.d, .int .i64 x.v, .int .i64 x.amt, .int .i64 x.hei, .int .i64 x.due, .int .i64 x.h0, .int .i64 x.h1] 127)))
      go_upto_region 12 with fail
      generalize wr.alloc (.cells #[.int .i64 x.num, .int .i64 x.d, .int .i64 x.v, .int .i64 x.amt, .int .i64 x.hei, .int .i64 x.due, .int .i64 x.h0, .int .i64 x.h1] 127) = wq at *
      clear c0 c1 c2 c3 c4 c5 c6 c7 HR
      have c2 := Yq.cells.2.2.1
      have c3 := Yq.cells.2.2.2.1
      have c4 := Yq.cells.2.2.2.2.1
      have hzq := Yq.lt
      by_cases hh : x.v = v ∧ h ≤ x.hei
      · have hhit : hitW v h x = true := by simp [hitW, hh.1, hh.2]
        obtain ⟨s1, s2⟩ := sl_hit (f := f) hhit
        obtain ⟨p0, p1, p2⟩ := pt_in hxa HF.out
        rw [s1] at HE1
        rw [s2] at e3
        have hP := rpart_any x.amt f
        rw [p0] at hP
        obtain ⟨hh1, hh2⟩ := hh
        rw [hh1] at c2
        generalize ptN x.amt f = pn at *
        have hw1 : wrap64 (x.amt - pn) = x.amt - pn := wrap64_small (by omega) (by omega)
        rw [e3] at m2 m3
        have HE3 := hide e3
        generalize slN v h f (s.W.take k) = sk at *
        have hw2 : wrap64 (sk + pn) = sk + pn := wrap64_small (by omega) (by omega)
        clear hhit s1 s2 p0 e3 HN
        go_upto_region 14 with (go_at_call 141; refine (hP _).mono ?_; rintro e w2 ⟨rfl, h2⟩)
        have HQ2 := hide (HQ.out.over h2)
        have Y2 := Yq.later h2 hzq
        clear c2 c3 c4 HQ Yq h2
        have c3 := Y2.cells.2.2.2.1
        have hz2 := Y2.lt
        obtain ⟨g', hg', _, hgs2, hcl2⟩ := HQ2.out.own.at0 (by have := HLn.out; omega)
        cases hg'
        obtain ⟨_, d3, _, d5⟩ := hcl2 k x HE2.out
        have x7 := (st_cells HQ2.out.O).2.2.2.2.2.2.2.1
        have hz2o := HQ2.out.O.lt
        clear hcl2
        go_wp2
        refine ⟨⟨k + 1, by omega, by go_num, by rw [HE3.out], ?_⟩, by simp [intOf]; omega⟩
        have hbt := (But.refl g w2).set (k * 8 + 3) (.int .i64 (x.amt - pn))
        exact ⟨by rw [HE1.out]; exact HQ2.out.own.amt HE2.out _, hbt.stake (by omega) HQ2.out.S, hbt.stake (by omega) HQ2.out.R, hbt.stake (by omega) HQ2.out.O, HQ2.out.below.trans (hbt.below (by omega))⟩
      · have hhit : hitW v h x = false := by
          simp only [hitW, Bool.and_eq_false_iff, decide_eq_false_iff_not]
          by_cases h1 : x.v = v
          · exact .inr (fun h2 => hh ⟨h1, h2⟩)
          · exact .inl h1
        obtain ⟨s1, s2⟩ := sl_same (f := f) hhit
        rw [s1] at HE1
        rw [s2] at e3
        have HE3 := hide e3
        have hEq : Hid (slW v h f (s.W.take (k + 1)) ++ s.W.drop (k + 1) = slW v h f (s.W.take k) ++ s.W.drop k) := by show _ = _; rw [HE1.out]; exact set_same HE2.out
        have HQ1 : Hid (RSl s (some ⟨sb, so, none⟩) c v h f (w5.heap.size + 2) w6.heap.size w (some ⟨g, 0, none⟩) C (k + 1) wq) := ⟨by rw [hEq.out]; exact HQ.out.own, HQ.out.S, HQ.out.R, HQ.out.O, HQ.out.below⟩
        clear hhit s1 s2 e3 HN HE1
        go_wp2
        all_goals first
          | (exact ⟨⟨k + 1, by omega, by go_num, by rw [HE3.out, Int.add_zero], HQ1⟩, by simp [intOf]; omega⟩)
          | (exfalso; exact hh ⟨by first | assumption | omega, by omega⟩)
    · obtain rfl : k = s.W.length := by omega
      have hO : OwnW (w5.heap.size + 2) wr A C (slW v h f s.W) := by have := HR.out.own; rwa [List.take_length, List.drop_length, List.append_nil] at this
      have HO := hide hO
      have HLn : Hid ((slW v h f s.W).length = s.W.length) := by show _ = _; unfold slW; rw [List.length_map]
      rw [List.take_length]
      have S1 := HR.out.S
      have R1 := HR.out.R
      have O1 := HR.out.O
      have HB1 := hide HR.out.below
      clear HR hO HN HA HF hadr m0 m1
      obtain ⟨x0, x1, x2, x3, x4, x5, x6, _, _⟩ := st_cells S1
      have hz1w : w.heap.size < wr.heap.size := S1.lt
      have hz1o : w6.heap.size < wr.heap.size := O1.lt
      go_upto_region 18 with (go_at_call 142; refine (hBu _).mono ?_; rintro e w8 ⟨rfl, h8⟩; have R8 := R1.later h8 R1.lt; have O8 := O1.later h8 O1.lt; have HB8 := hide (HB1.out.trans (h8.mono (by omega))); have HO8 := hide (HO.out.over h8); obtain ⟨o0, o1, o2, o3, o4, o5, o6, _, _⟩ := st_cells O8; have g0 := O8.free 0; have g1 := O8.free 1; have g2 := O8.free 2; have g3 := O8.free 3; have g4 := O8.free 4; have g5 := O8.free 5; have g6 := O8.free 6; have hz8 := O8.lt; clear h8)
      change Code.wp Tryz.prog _ _ _ (bset w8 w6.heap.size B)
      have S9 := set_bank O8 B
      have hbt : But w6.heap.size w8 (bset w8 w6.heap.size B) := (((((((But.refl _ _).set 0 _).set 1 _).set 2 _).set 3 _).set 4 _).set 5 _).set 6 _
      have HBt := hide hbt
      generalize bset w8 w6.heap.size B = w9 at *
      clear hbt x0 x1 x2 x3 x4 x5 x6 o0 o1 o2 o3 o4 o5 o6 g0 g1 g2 g3 g4 g5 g6 O8 O1 R1 S1 HO HB1 hBu
      have c0 := (S9.val v hv).1
      simp only at c0
      have f0 := S9.free (7 + v * 5)
      have hz9 : w6.heap.size < w9.heap.size := S9.lt
      go_upto_region 19 with fail
      have S10 := S9.set (7 + v * 5) (.int .i64 ((s.V v).tok - pb))
      rw [set_tok _ _ v hv] at S10
      have HBt1 := hide (HBt.out.set (7 + v * 5) (.int .i64 ((s.V v).tok - pb)))
      generalize w9.setCell ⟨w6.heap.size, 7 + v * 5, none⟩ (.int .i64 ((s.V v).tok - pb)) = w10 at *
      clear c0 f0 S9 HBt
      have c2 := (S10.val v hv).2.2.1
      simp only [setV_at] at c2
      have f0 := S10.free (7 + v * 5 + 2)
      have hz10 : w6.heap.size < w10.heap.size := S10.lt
      go_upto_region 20 with fail
      have S11 := S10.set (7 + v * 5 + 2) (.int .i64 ((s.V v).lost + (pb + (slN v h f s.W))))
      rw [set_lost _ _ v hv] at S11
      have hbt := HBt1.out.set (7 + v * 5 + 2) (.int .i64 ((s.V v).lost + (pb + (slN v h f s.W))))
      have R11 := hbt.stake (by omega) R8
      have HO11 : Hid (OwnW (w5.heap.size + 2) (w10.setCell ⟨w6.heap.size, 7 + v * 5 + 2, none⟩ (.int .i64 ((s.V v).lost + (pb + (slN v h f s.W))))) A C (slW v h f s.W)) := own_of HO8.out fun k' hk => hbt.block _ (by
        have h1 : A = some ⟨k', 0, none⟩ := by
          rcases HO8.out.2 with ⟨hv1, _⟩ | ⟨g, cap, cur, hv1, _⟩
          · rw [hv1] at hk; cases hk
          · rw [hv1] at hk; cases hk; cases hv1; rfl
        have := (HOB.out k' h1).2
        omega)
      have HB11 := hide (HB8.out.trans (hbt.below (by omega)))
      generalize w10.setCell ⟨w6.heap.size, 7 + v * 5 + 2, none⟩ (.int .i64 ((s.V v).lost + (pb + (slN v h f s.W)))) = w11 at *
      clear c2 f0 S10 HBt1 hbt R8 HO8 HB8
      have S12 : SAt w11 w6.heap.size (stC r (.slice A s.W.length C)) := by
        have e : stC r (.slice A s.W.length C) = stC { ({ ({ s with b := B } : St) with V := setV (setV s.V v { s.V v with tok := (s.V v).tok - pb }) v { setV s.V v { s.V v with tok := (s.V v).tok - pb } v with lost := (s.V v).lost + (pb + (slN v h f s.W)) } } : St) with b := B } (.slice A s.W.length C) := by
          rw [HES.out, setV_at]
          have hV : setV (setV s.V v { s.V v with tok := (s.V v).tok - pb }) v { s.V v with tok := (s.V v).tok - pb, lost := (s.V v).lost + (pb + (slN v h f s.W)) } = setV s.V v (slashV (s.V v) pb (slN v h f s.W)) := by
            funext i
            unfold setV slashV
            split <;> rfl
          rw [hV]
          rfl
        rw [e]; exact S11
      clear S11
      apply wp_region_lit
      refine wpList_load_mid rfl 32 _ rfl _ 0 rfl _ _ S12.range Tryz.underlying32 rfl (by rw [infoS]; rfl) ?_
      iterate 9 go_step
      refine wpList_store_mid rfl 32 _ _ rfl _ 0 (stC r (.slice A s.W.length C)) rfl rfl (R11.there 0 _ (by rw [Z63_size, stC_size]; omega)) (by rw [infoS]; rfl) (stC_one _ _ _ _) ?_
      go_wp2
      exact stake_end3 Tryz.results97 R11 rfl r _ _ _ _ ⟨A, C, by rw [HLn.out]; rfl, own_base (own_of HO11.out fun k' hk => heap_sets (by have := (World.ownsRow.lt HO11.out k' hk).1; omega) _ _ _) (by omega), below_sets (by omega) _ _ _ HB11.out⟩ _ rfl rfl rfl rfl
end Go.Proofs.YtjghbciepinofaaGreat

set_option maxRecDepth 100000
namespace Go.Proofs.YtjghbciepinofaaGreat.Pv
open Go.RowKit
section
variable {P : Nat → Prop} {w : World} {s : St} {u : Value} (hu : Rep P w u 8 64 (wsL s.W))
include hu
theorem rt_slash (v : Nat) (h : Int) (hg : goodS s = true) (hv : v < 6) : Calls Tryz.prog 97 #[.agg (stC s u), .int .i64 (v : Int), .int .i64 h, .int .i64 50] w fun e w' => ∃ u' x, e = .returned (.tuple #[.agg (stC (slashS s v h 50) u'), x, .int .i64 0]) ∧ Rep (fun b => w.heap.size ≤ b) w' u' 8 64 (wsL (slashS s v h 50).W) ∧ Below w.heap.size w w' := by
  obtain ⟨A, C, b, o, rfl, W, -, -⟩ := hu.wsAt
  refine (rslash_yes s A b o C v h 50 w W hg hv (by decide)).mono ?_
  rintro e w' ⟨A', C', rfl, h1, hb⟩
  exact ⟨_, _, rfl, OwnW.rep h1 (good_len (kp_slash hg (v := v) hv h (f := 50) (by decide)).good), hb⟩
theorem rt_bury (v : Nat) (hg : goodS s = true) (hv : v < 6) (hd : (s.V v).dead = false) : Calls Tryz.prog 98 #[.agg (stC s u), .int .i64 (v : Int), .int .i64 2] w fun e w' => ∃ u', e = .returned (.tuple #[.agg (stC (setJ s v true true) u'), .int .i64 0]) ∧ Rep (fun b => w.heap.size ≤ b) w' u' 8 64 (wsL s.W) ∧ Below w.heap.size w w' := by
  obtain ⟨A, C, b, o, rfl, W, -, -⟩ := hu.wsAt
  refine (rjudge_own2 s A b o C v w W hg hv hd).mono ?_
  rintro e w' ⟨A', C', rfl, h1, hb⟩
  exact ⟨_, rfl, OwnW.rep h1 (good_len hg), hb⟩
theorem rt_jail (v : Nat) (hg : goodS s = true) (hv : v < 6) (hd : (s.V v).jail = false) : Calls Tryz.prog 98 #[.agg (stC s u), .int .i64 (v : Int), .int .i64 0] w fun e w' => ∃ u', e = .returned (.tuple #[.agg (stC (setJ s v true false) u'), .int .i64 0]) ∧ Rep (fun b => w.heap.size ≤ b) w' u' 8 64 (wsL s.W) ∧ Below w.heap.size w w' := by
  obtain ⟨A, C, b, o, rfl, W, -, -⟩ := hu.wsAt
  refine (rjudge_own0 s A b o C v w W hg hv hd).mono ?_
  rintro e w' ⟨A', C', rfl, h1, hb⟩
  exact ⟨_, rfl, OwnW.rep h1 (good_len hg), hb⟩
end
end Go.Proofs.YtjghbciepinofaaGreat.Pv

