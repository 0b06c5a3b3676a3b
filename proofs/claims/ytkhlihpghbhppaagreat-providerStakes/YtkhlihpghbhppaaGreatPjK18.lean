/- Parts of the proof: PRS2 PRD PRU. -/
import Derived.Test.YtkhlihpghbhppaaGreatRows
import Derived.Test.YtkhlihpghbhppaaGreatPjK9
import Derived.Test.YtkhlihpghbhppaaGreatPjK15
import Derived.Test.YtkhlihpghbhppaaGreatPjK17
import Derived.Test.YtkhlihpghbhppaaGreatPjK23
import Derived.Test.YtkhlihpghbhppaaGreatPjK48
import Derived.Test.YtkhlihpghbhppaaGreatPjK53
set_option maxRecDepth 100000
namespace Go.Proofs.YtkhlihpghbhppaaGreat.Pv
open Go.RowKit
theorem deleg_W (s : St) (d v n : Int) : (delegS s d v n).1.W = s.W := by
  unfold delegS
  repeat' split
  all_goals rfl
section
variable {P : Nat → Prop} {w : World} {s : St} {u : Value} (hu : Rep P w u 8 64 (wsL s.W))
include hu
theorem rt_deleg (d v n : Int) : Calls Tryz.prog 41 #[.agg (stC s u), .int .i64 d, .int .i64 v, .int .i64 n] w fun e w' => ∃ A m C, e = .returned (.tuple #[.agg (stC (delegS s d v n).1 (.slice A m C)), .int .i64 (delegS s d v n).2]) ∧ ((delegS s d v n).2 = 0 → Rep (fun b => w.heap.size ≤ b) w' (.slice A m C) 8 64 (wsL (delegS s d v n).1.W)) ∧ Below w.heap.size w w' := by
  obtain ⟨A, C, b, o, rfl, W, -, -⟩ := hu.wsAt
  refine (rdeleg_own s A b o C d v n w W).mono ?_
  rintro e w' ⟨A', C', rfl, h1, hb⟩
  exact ⟨A', _, C', rfl, fun h => OwnW.rep (h1 h) (by rw [deleg_W]; exact W.len), hb⟩
theorem rt_undel (d v n : Int) (y : Wt) : Calls Tryz.prog 58 #[.agg (stC s u), .int .i64 d, .int .i64 v, .int .i64 n, .agg #[.int .i64 y.num, .int .i64 y.d, .int .i64 y.v, .int .i64 y.amt, .int .i64 y.hei, .int .i64 y.due, .int .i64 y.h0, .int .i64 y.h1]] w fun e w' => ∃ A m C, e = .returned (.tuple #[.agg (stC (undelS s d v n y).1 (.slice A m C)), .int .i64 (undelS s d v n y).2]) ∧ ((undelS s d v n y).2 = 0 → Rep (New P w 0) w' (.slice A m C) 8 64 (wsL (undelS s d v n y).1.W)) ∧ Below w.heap.size w w' := by
  obtain ⟨A, C, b, o, e1, W, -, hP⟩ := hu.wsAt
  have hroom := (hu.room e1).1
  subst e1
  obtain ⟨b', o', W', hB'⟩ : ∃ b' o', WsAt w A b' o' s.W ∧ (New P w 0 b') := by
    by_cases hs : 0 < s.W.length
    · exact ⟨b, o, W, .inl ⟨hP hs, W.lt hs⟩⟩
    · exact ⟨w.heap.size, 0, ⟨fun h => absurd h hs, W.len, fun i x hx => absurd (List.getElem?_eq_some_iff.1 hx).1 (by omega)⟩, .inr (by omega)⟩
  refine (rundel_any s A b' o' C d v n y w hroom W').mono ?_
  rintro e w' ⟨A', ab, ao', C', rfl, h1, h2, h3, hb⟩
  refine ⟨A', _, C', rfl, fun h0 => ?_, hb⟩
  have hlen := undel_len h0
  refine rep_ws h2 h1 hlen ?_
  rcases (h3 hlen).2 with e | e
  · exact e ▸ hB'
  · exact .inr (by omega)
end
end Go.Proofs.YtkhlihpghbhppaaGreat.Pv

set_option maxRecDepth 100000
namespace Go.Proofs.YtkhlihpghbhppaaGreat.Pv
open Go.RowKit
attribute [local go_sem ↓] loadS_eq loadP_eq storeP_eq storeS_eq
set_option maxHeartbeats 8000000 in
theorem rpdeleg_any (p : Pr) (v : PrV) (P : Nat → Prop) (w : World) (d x n : Int) (hp : PIn P w p v) (hq88 : p.q.length * 88 ≤ 140737488351232) :
    Calls Tryz.prog 11 #[.agg (prC p v), .int .i64 d, .int .i64 x, .int .i64 n] w (AnsP P w (delegP p d x n)) := by
  have hD : delegP p d x n = if goodP p = true then ({ p with s := (delegS p.s d x n).1 }, (delegS p.s d x n).2) else (p, 2) := rfl
  generalize delegP p d x n = D at *
  have HD := hide hD
  clear hD
  have hone := pr_one hp
  have HGD := hide (fun (wx : World) (hb : Below w.heap.size w wx) => goodp_any p v P wx (hp.over hb))
  have HN := hide (fun (wx : World) (hb : Below w.heap.size w wx) => hp.ofNew hb 2)
  have HP := hide hp
  have HQ88 := hide hq88
  clear hp hq88
  generalize goodP p = G at *
  go_enter Tryz.func11, Tryz.ntmps11
  go_upto_region 1 with fail
  change Code.wp Tryz.prog _ _ _ ((w.alloc (.cells (prC p v) 47)).alloc (.cells Tryz.zeroCells47 47))
  have C0 : CAt 47 ((w.alloc (.cells (prC p v) 47)).alloc (.cells Tryz.zeroCells47 47)) w.heap.size (prC p v) := (CAt.new _ w _).alloc _
  have R0 : CAt 47 ((w.alloc (.cells (prC p v) 47)).alloc (.cells Tryz.zeroCells47 47)) (w.heap.size + 1) Tryz.zeroCells47 := CAt.new2 _ w _ _
  have B0 : Below w.heap.size w ((w.alloc (.cells (prC p v) 47)).alloc (.cells Tryz.zeroCells47 47)) := ((Below.refl _ w).alloc (Nat.le_refl _) _).alloc (by simp) _
  generalize (w.alloc (.cells (prC p v) 47)).alloc (.cells Tryz.zeroCells47 47) = w0 at *
  have l0 := pr_loadP C0 (prC_size _ _)
  have H0 := hide (show _ ∧ _ ∧ _ from ⟨C0, R0, B0⟩)
  clear C0 R0 B0
  cases G
  · have HR := hide (HD.out.trans (if_neg (by simp)))
    clear HD
    go_upto_region 2 with (go_at_call 14; refine (HGD.out _ H0.out.2.2).mono ?_; rintro e w1 ⟨rfl, hb1⟩; clear l0)
    have R1 := H0.out.2.1.over hb1
    have l1 := pr_loadP (H0.out.1.over hb1) (prC_size _ _)
    have s1 := pr_storeP R1 Z97_size (prC_size p v) hone
    have B1 := H0.out.2.2.trans (hb1.mono H0.out.2.2.size)
    have HZ := hide (show _ ∧ _ from ⟨R1, B1⟩)
    clear R1 B1 hb1 hone
    go_wp2
    exact prov_end2 Tryz.results11 HZ.out.1 Z97_size HZ.out.2 p v 2 D HR.out (HN.out _ HZ.out.2) _ rfl rfl rfl
  · have HR := hide (HD.out.trans (if_pos rfl))
    clear HD
    have HDL := hide (fun (wx : World) (hb : Below w.heap.size w wx) => rt_deleg (HP.out.ws.over hb) d x n)
    go_upto_region 3 with (go_at_call 14; refine (HGD.out _ H0.out.2.2).mono ?_; rintro e w1 ⟨rfl, hb1⟩; clear l0)
    have C1 := H0.out.1.over hb1
    have R1 := H0.out.2.1.over hb1
    have B1 := H0.out.2.2.trans (hb1.mono H0.out.2.2.size)
    have m1 := pr_loadS C1
    have H1 := hide (show _ ∧ _ ∧ _ from ⟨C1, R1, B1⟩)
    clear C1 R1 B1 hb1 H0
    have HSM : Hid ((delegS p.s d x n).2 ≠ 0 → (delegS p.s d x n).1 = p.s) := fun h => by
      unfold delegS at h ⊢
      repeat' split
      all_goals first | rfl | (simp_all; done)
    generalize delegS p.s d x n = r at *
    obtain ⟨s', er⟩ := r
    dsimp only at HR HDL HSM
    go_upto_region 4 with (go_at_call 41; refine (HDL.out _ H1.out.2.2).mono ?_; rintro e w2 ⟨A2, m2, D2, rfl, U2, hb2⟩; clear m1; have sS2 := st_storeS (CAt.new 32 w2 Z63) rfl (stC_size s' (.slice A2 m2 D2)) (stC_one _ _ _ _); unfold Z63 at sS2)
    change Code.wp Tryz.prog _ _ _ ((w2.alloc (.cells Z63 32)).setCells w2.heap.size 0 (stC s' (.slice A2 m2 D2)).toList)
    have hb3 : Below w2.heap.size w2 ((w2.alloc (.cells Z63 32)).setCells w2.heap.size 0 (stC s' (.slice A2 m2 D2)).toList) := below_sets (Nat.le_refl _) _ _ _ ((Below.refl _ w2).alloc (Nat.le_refl _) _)
    have T3 : CAt 32 ((w2.alloc (.cells Z63 32)).setCells w2.heap.size 0 (stC s' (.slice A2 m2 D2)).toList) w2.heap.size (stC s' (.slice A2 m2 D2)) := (CAt.new 32 w2 Z63).setAll rfl
    have C3 := (H1.out.1.over hb2).over hb3
    have R3 := (H1.out.2.1.over hb2).over hb3
    have B3 := (H1.out.2.2.trans (hb2.mono H1.out.2.2.size)).trans (hb3.mono (Nat.le_trans H1.out.2.2.size hb2.size))
    have U3 : er = 0 → Rep (fun b => w1.heap.size ≤ b ∧ b < w2.heap.size) _ (.slice A2 m2 D2) 8 64 (wsL s'.W) := fun h => ((U2 h).mono (P' := fun b => w1.heap.size ≤ b ∧ b < w2.heap.size) fun b hl hb => ⟨hb, hl⟩).over hb3
    have hz1 := H1.out.2.1.lt
    have hs2 := hb2.size
    clear sS2 hb2 hb3 HDL U2
    generalize (w2.alloc (.cells Z63 32)).setCells w2.heap.size 0 (stC s' (.slice A2 m2 D2)).toList = w3 at *
    generalize w2.heap.size = tb at *
    have hzt := T3.lt
    by_cases he : er = 0
    · subst he
      have l3 := pr_loadP C3 (prC_size _ _)
      have HCP := hide (copyp_any p v P w3 (HP.out.over B3) HQ88.out)
      have H3 := hide (show _ ∧ _ ∧ _ ∧ _ ∧ _ from ⟨C3, R3, B3, T3, U3 rfl⟩)
      clear C3 R3 B3 T3 U3 hone H1
      go_upto_region 7 with (go_at_call 10; refine HCP.out.mono ?_; rintro e w4 ⟨v4, rfl, P4, hb4⟩; clear l3; have s4 := pr_storeP (H3.out.1.over hb4) (prC_size _ _) (prC_size p v4) (pr_one P4.pin))
      have C5 : CAt 47 (w4.setCells w.heap.size 0 (prC p v4).toList) w.heap.size (prC p v4) := (H3.out.1.over hb4).setAll rfl
      have R5 := (H3.out.2.1.over hb4).others (c := w.heap.size) (o := 0) (by omega) (prC p v4).toList
      have B5 := below_sets (b := w.heap.size) (Nat.le_refl _) (prC p v4).toList 0 _ (H3.out.2.2.1.trans (hb4.mono H3.out.2.2.1.size))
      have T5 := (H3.out.2.2.2.1.over hb4).others (c := w.heap.size) (o := 0) (by omega) (prC p v4).toList
      have U5 := (H3.out.2.2.2.2.over hb4).sets (g := w.heap.size) (fun h => by have := h.1; omega) 0 (prC p v4).toList
      have N5 := P4.pin.sets (g := w.heap.size) (fun h => by have h' : w3.heap.size + 2 ≤ w.heap.size := h; omega) 0 (prC p v4).toList
      have hs4 := hb4.size
      clear s4 hb4 P4 HCP H3
      generalize w4.setCells w.heap.size 0 (prC p v4).toList = w5 at *
      have mS := st_loadS T5 (stC_size _ _)
      have sS := pr_storeS C5 (prC_size _ _) (stC_size s' (.slice A2 m2 D2)) (stC_one _ _ _ _)
      have C6 := C5.stake s' (.slice A2 m2 D2)
      have R6 := R5.others (c := w.heap.size) (o := 2) (by omega) (stC s' (.slice A2 m2 D2)).toList
      have B6 := below_sets (b := w.heap.size) (Nat.le_refl _) (stC s' (.slice A2 m2 D2)).toList 2 _ B5
      have N6 : PIn (New P w 2) (w5.setCells w.heap.size 2 (stC s' (.slice A2 m2 D2)).toList) { p with s := s' } { v4 with ws := .slice A2 m2 D2 } := by
        have h1 := (N5.sets (g := w.heap.size) (fun h => by have h' : w3.heap.size + 2 ≤ w.heap.size := h; omega) 2 (stC s' (.slice A2 m2 D2)).toList).mono (P' := New P w 2) (fun b _ hb => .inr (by have hb' : w3.heap.size + 2 ≤ b := hb; omega))
        have h2 := (U5.sets (g := w.heap.size) (fun h => by have := h.1; omega) 2 (stC s' (.slice A2 m2 D2)).toList).mono (P' := New P w 2) (fun b _ hb => .inr (by have := hb.1; omega))
        exact ⟨h2, h1.set, h1.lk, h1.q⟩
      have l6 := pr_loadP C6 (prC_size _ _)
      have s6 := pr_storeP R6 Z97_size (prC_size { p with s := s' } { v4 with ws := .slice A2 m2 D2 }) (pr_one N6)
      have HZ := hide (show _ ∧ _ ∧ _ from ⟨R6, B6, N6⟩)
      clear C5 R5 B5 T5 U5 N5 C6 R6 B6 N6
      go_upto_region 8 with fail
      generalize w5.setCells w.heap.size 2 (stC s' (.slice A2 m2 D2)).toList = w6 at *
      clear mS sS
      go_wp2
      exact prov_end2 Tryz.results11 HZ.out.1 Z97_size HZ.out.2.1 _ _ 0 D HR.out HZ.out.2.2 _ rfl rfl rfl
    · have l3 := pr_loadP C3 (prC_size _ _)
      have s3 := pr_storeP R3 Z97_size (prC_size p v) hone
      have heb : (er != 0) = true := by simpa using he
      have HZ := hide (show _ ∧ _ from ⟨R3, B3⟩)
      have hsame : s' = p.s := HSM.out he
      subst hsame
      clear C3 R3 B3 T3 hone
      go_wp2
      exact prov_end2 Tryz.results11 HZ.out.1 Z97_size HZ.out.2 p v er D HR.out (HN.out _ HZ.out.2) _ rfl rfl rfl
end Go.Proofs.YtkhlihpghbhppaaGreat.Pv

set_option maxRecDepth 100000
namespace Go.Proofs.YtkhlihpghbhppaaGreat.Pv
open Go.RowKit
attribute [local go_sem ↓] loadS_eq loadP_eq storeP_eq storeS_eq
set_option maxHeartbeats 8000000 in
theorem rpundel_any (p : Pr) (v : PrV) (P : Nat → Prop) (w : World) (d x n now : Int) (hp : PIn P w p v) (hq88 : p.q.length * 88 ≤ 140737488351232) :
    Calls Tryz.prog 16 #[.agg (prC p v), .int .i64 d, .int .i64 x, .int .i64 n, .int .i64 now] w (AnsP P w (undelP p d x n now)) := by
  have hD : undelP p d x n now = if goodP p = true ∧ isT now = true then if (undelS p.s d x n (newWt p now)).2 = 0 then ({ p with s := (undelS p.s d x n (newWt p now)).1, L := freshL p.L }, 0) else (p, (undelS p.s d x n (newWt p now)).2) else (p, 2) := rfl
  generalize undelP p d x n now = D at *
  have HD := hide hD
  clear hD
  have hone := pr_one hp
  have HGD := hide (fun (wx : World) (hb : Below w.heap.size w wx) => goodp_any p v P wx (hp.over hb))
  have HN := hide (fun (wx : World) (hb : Below w.heap.size w wx) => hp.ofNew hb 2)
  have HU := hide (fun (wx : World) (hb : Below w.heap.size w wx) => rt_undel ((hp.ws.mono (P' := fun b => P b ∧ b < w.heap.size) fun _ hl hP => ⟨hP, hl⟩).over hb) d x n (newWt p now))
  have HP := hide hp
  have HQ88 := hide hq88
  clear hp hq88
  have HGH : Hid (goodP p = true → 0 ≤ p.h ∧ p.h ≤ 1099511627775) := fun h => by
    unfold goodP at h
    simp only [Bool.and_eq_true, decide_eq_true_eq] at h
    exact ⟨h.1.1.1.1.1.1.2, h.1.1.1.1.1.2⟩
  have HTI : Hid (isT now = true → 0 ≤ now ∧ now ≤ 1099511627776) := fun h => by
    unfold isT at h
    simp only [Bool.and_eq_true, decide_eq_true_eq] at h
    exact h
  generalize goodP p = G at *
  go_enter Tryz.func16, Tryz.ntmps16
  go_upto_region 1 with fail
  change Code.wp Tryz.prog _ _ _ ((w.alloc (.cells (prC p v) 47)).alloc (.cells Tryz.zeroCells47 47))
  have C0 : CAt 47 ((w.alloc (.cells (prC p v) 47)).alloc (.cells Tryz.zeroCells47 47)) w.heap.size (prC p v) := (CAt.new _ w _).alloc _
  have R0 : CAt 47 ((w.alloc (.cells (prC p v) 47)).alloc (.cells Tryz.zeroCells47 47)) (w.heap.size + 1) Tryz.zeroCells47 := CAt.new2 _ w _ _
  have B0 : Below w.heap.size w ((w.alloc (.cells (prC p v) 47)).alloc (.cells Tryz.zeroCells47 47)) := ((Below.refl _ w).alloc (Nat.le_refl _) _).alloc (by simp) _
  generalize (w.alloc (.cells (prC p v) 47)).alloc (.cells Tryz.zeroCells47 47) = w0 at *
  have l0 := pr_loadP C0 (prC_size _ _)
  have H0 := hide (show _ ∧ _ ∧ _ from ⟨C0, R0, B0⟩)
  clear C0 R0 B0
  by_cases hok : G = true ∧ isT now = true
  · obtain ⟨rfl, hti⟩ := hok
    replace HD := hide (HD.out.trans (if_pos ⟨rfl, hti⟩))
    obtain ⟨hh0, hh1⟩ := HGH.out rfl
    obtain ⟨ht0, ht1⟩ := HTI.out hti
    have hh2 : p.h ≤ 1099511627776 := by omega
    clear HGH HTI
    go_upto_region 3 with (go_at_call 14; refine (HGD.out _ H0.out.2.2).mono ?_; rintro e w1 ⟨rfl, hb1⟩; clear l0)
    have C1 := H0.out.1.over hb1
    have R1 := H0.out.2.1.over hb1
    have B1 := H0.out.2.2.trans (hb1.mono H0.out.2.2.size)
    have l1 := pr_loadP C1 (prC_size _ _)
    have HCP := hide (copyp_any p v P w1 (HP.out.over B1) HQ88.out)
    have H1 := hide (show _ ∧ _ ∧ _ from ⟨C1, R1, B1⟩)
    have hz1 := R1.lt
    clear C1 R1 B1 hb1 H0 HGD
    go_upto_region 4 with (go_at_call 10; refine HCP.out.mono ?_; rintro e w4 ⟨v4, rfl, P4, hb4⟩; clear l1; have s4 := pr_storeP (CAt.new 47 w4 Tryz.zeroCells47) Z97_size (prC_size p v4) (pr_one P4.pin))
    have bS : Below w4.heap.size w4 ((w4.alloc (.cells Tryz.zeroCells47 47)).setCells w4.heap.size 0 (prC p v4).toList) := below_sets (Nat.le_refl _) _ _ _ ((Below.refl _ w4).alloc (Nat.le_refl _) _)
    have G5 : CAt 47 ((w4.alloc (.cells Tryz.zeroCells47 47)).setCells w4.heap.size 0 (prC p v4).toList) w4.heap.size (prC p v4) := (CAt.new 47 w4 Tryz.zeroCells47).setAll (by rw [Z97_size]; rfl)
    have b5 := hb4.trans (bS.mono hb4.size)
    have C5 := H1.out.1.over b5
    have R5 := H1.out.2.1.over b5
    have B5 := H1.out.2.2.trans (b5.mono H1.out.2.2.size)
    have N5 := (P4.pin.mono (P' := fun b => w1.heap.size + 2 ≤ b ∧ b < w4.heap.size) (fun b hlt hb => ⟨hb, hlt⟩)).over bS
    have hs4 := hb4.size
    clear s4 hb4 bS b5 P4 HCP H1
    generalize (w4.alloc (.cells Tryz.zeroCells47 47)).setCells w4.heap.size 0 (prC p v4).toList = w5 at *
    generalize w4.heap.size = g at *
    have a0 : w5.cell? ⟨w.heap.size, 0, none⟩ = some (.int .i64 p.h) := C5.cell 0
    have hg5 := G5.lt
    have H5 := hide (show _ ∧ _ ∧ _ ∧ _ ∧ _ from ⟨G5, C5, R5, B5, N5⟩)
    clear G5 C5 R5 B5 N5
    go_upto_region 5 with fail
    clear a0
    have Y2 : YC (w5.alloc (.cells #[.int .i64 0, .int .i64 0, .int .i64 0, .int .i64 0, .int .i64 (p.h + 1), .int .i64 (now + 20), .int .i64 0, .int .i64 0] 98)) w5.heap.size (p.h + 1) (now + 20) 0 0 := CAt.new _ w5 _
    have b2 : Below w5.heap.size w5 (w5.alloc (.cells #[.int .i64 0, .int .i64 0, .int .i64 0, .int .i64 0, .int .i64 (p.h + 1), .int .i64 (now + 20), .int .i64 0, .int .i64 0] 98)) := (Below.refl _ w5).alloc (Nat.le_refl _) _
    have H2 := hide (show _ ∧ _ ∧ _ ∧ _ ∧ _ ∧ _ from ⟨Y2, H5.out.1.over b2, H5.out.2.1.over b2, H5.out.2.2.1.over b2, H5.out.2.2.2.1.trans (b2.mono H5.out.2.2.2.1.size), H5.out.2.2.2.2.over b2⟩)
    clear b2 H5
    generalize w5.alloc (.cells #[.int .i64 0, .int .i64 0, .int .i64 0, .int .i64 0, .int .i64 (p.h + 1), .int .i64 (now + 20), .int .i64 0, .int .i64 0] 98) = w2 at *
    generalize w5.heap.size = yb at *
    have hz2 := CAt.lt Y2
    clear Y2
    go_upto_region 6 with fail
    go_loopw [37] (fun i wl => ∃ (k : Nat), k ≤ 2 ∧ i = .int .i64 (k : Int) ∧ Hid (YC wl yb (p.h + 1) (now + 20) (hk0 p k) (hk1 p k) ∧ CAt 47 wl g (prC { p with L := frL p.L k } v4) ∧ CAt 47 wl w.heap.size (prC p v) ∧ CAt 47 wl (w.heap.size + 1) Tryz.zeroCells47 ∧ Below w.heap.size w wl ∧ PIn (fun b => w1.heap.size + 2 ≤ b ∧ b < g) wl p v4)) (fun i _ => (2 - intOf i).toNat)
    case atStart => exact ⟨0, by omega, rfl, H2.out⟩
    case round =>
      obtain ⟨k, hk, rfl, HR⟩ := hrel
      by_cases hk2 : k < 2
      · have hkk : (k : Int) < 2 := by omega
        have hkz : (0 : Int) ≤ (k : Int) := by omega
        have hlk := CAt.lk HR.out.2.1 hk2
        have o1 : wr.cell? ⟨g, 66 + k * 14, none⟩ = some (.bool (p.L k).on) := by
          have := hlk.facts.1
          rwa [show ({ p with L := frL p.L k } : Pr).L k = p.L k from frL_at] at this
        obtain ⟨-, -, -, -, o5, -⟩ := hlk.facts
        have f5 := HR.out.2.1.free (66 + k * 14 + 4)
        have hzr := HR.out.2.1.lt
        obtain ⟨e6, c6⟩ := HR.out.1.at hk2
        have f6 := CAt.free HR.out.1 (6 + k)
        have a0 : wr.cell? ⟨w.heap.size, 0, none⟩ = some (.int .i64 p.h) := HR.out.2.2.1.cell 0
        have hzy := CAt.lt HR.out.1
        clear hlk
        cases hon : (p.L k).on
        · rw [hon] at o1
          have HF : Hid (YC wr yb (p.h + 1) (now + 20) (hk0 p (k + 1)) (hk1 p (k + 1)) ∧ CAt 47 wr g (prC { p with L := frL p.L (k + 1) } v4) ∧ CAt 47 wr w.heap.size (prC p v) ∧ CAt 47 wr (w.heap.size + 1) Tryz.zeroCells47 ∧ Below w.heap.size w wr ∧ PIn (fun b => w1.heap.size + 2 ≤ b ∧ b < g) wr p v4) := ⟨HR.out.1.skip hk2 hon, by rw [frL_off hon]; exact HR.out.2.1, HR.out.2.2⟩
          clear HR
          go_wp2
          first | exact ⟨⟨k + 1, by omega, by go_num, HF⟩, by simp [intOf]; omega⟩ | ((repeat apply Exists.intro); exact ⟨⟨k + 1, by omega, by go_num, HF⟩, rfl⟩)
        · rw [hon] at o1
          have C8 := (HR.out.2.1.other (c := yb) (o := 6 + k) (by omega) (.int .i64 (p.h + 1))).set (66 + k * 14 + 4) (.bool true)
          rw [pr_setLk k hk2 4 (.bool true) { p.L k with fresh := true } (v4.l k) (by omega) (by rw [show ({ p with L := frL p.L k } : Pr).L k = p.L k from frL_at]; rfl), upd_same, show updL ({ p with L := frL p.L k } : Pr).L k { p.L k with fresh := true } = frL p.L (k + 1) from frL_on hon] at C8
          have o5' : (wr.setCell ⟨yb, 6 + k, none⟩ (.int .i64 (p.h + 1))).cell? ⟨g, 66 + k * 14 + 4, none⟩ = _ := (World.cell?_of_block (w := wr) (a := ⟨g, 66 + k * 14 + 4, none⟩) (Below.heap_setCell wr ⟨yb, 6 + k, none⟩ _ g (by show g ≠ yb; omega))).trans o5
          have f5' := (HR.out.2.1.other (c := yb) (o := 6 + k) (by omega) (.int .i64 (p.h + 1))).free (66 + k * 14 + 4)
          have hk9 := fun (b : Nat) (h1 : b ≠ yb) (h2 : b ≠ g) => (Below.heap_setCell (wr.setCell ⟨yb, 6 + k, none⟩ (.int .i64 (p.h + 1))) ⟨g, 66 + k * 14 + 4, none⟩ (.bool true) b h2).trans (Below.heap_setCell wr ⟨yb, 6 + k, none⟩ (.int .i64 (p.h + 1)) b h1)
          have HF := hide (show _ ∧ _ ∧ _ ∧ _ ∧ _ ∧ _ from ⟨CAt.other (HR.out.1.hold hk2 hon) (c := g) (o := 66 + k * 14 + 4) (by omega) (.bool true), C8, HR.out.2.2.1.keep (hk9 _ (by omega) (by omega)), HR.out.2.2.2.1.keep (hk9 _ (by omega) (by omega)), (HR.out.2.2.2.2.1.setCell (p := ⟨yb, 6 + k, none⟩) (by show _ ≤ yb; omega) (.int .i64 (p.h + 1))).setCell (p := ⟨g, 66 + k * 14 + 4, none⟩) (by show _ ≤ g; omega) (.bool true), HR.out.2.2.2.2.2.keep fun b hb _ => hk9 b (by have := hb.2; omega) (by have := hb.2; omega)⟩)
          clear HR C8 hk9
          go_upto_region 10 with fail
          generalize wr.setCell ⟨yb, 6 + k, none⟩ (.int .i64 (p.h + 1)) = w3 at *
          have hz3 := World.block_lt_of_cell? w3 _ o5'
          clear o1 c6 f6 a0 o5 f5
          go_upto_region 11 with fail
          generalize w3.setCell ⟨g, 66 + k * 14 + 4, none⟩ (.bool true) = w8 at *
          clear o5' f5'
          go_wp2
          first | exact ⟨⟨k + 1, by omega, by go_num, HF⟩, by simp [intOf]; omega⟩ | ((repeat apply Exists.intro); exact ⟨⟨k + 1, by omega, by go_num, HF⟩, rfl⟩)
      · obtain rfl : k = 2 := by omega
        have Y4 : YC wr yb (p.h + 1) (now + 20) (holdOf p 0) (holdOf p 1) := HR.out.1
        have G4 : CAt 47 wr g (prC { p with L := freshL p.L } v4) := HR.out.2.1
        have m4 := pr_loadS HR.out.2.2.1
        have y0 : wr.cell? ⟨yb, 0, none⟩ = some (.int .i64 0) := CAt.cell Y4 0
        have y1 : wr.cell? ⟨yb, 1, none⟩ = some (.int .i64 0) := CAt.cell Y4 1
        have y2 : wr.cell? ⟨yb, 2, none⟩ = some (.int .i64 0) := CAt.cell Y4 2
        have y3 : wr.cell? ⟨yb, 3, none⟩ = some (.int .i64 0) := CAt.cell Y4 3
        have y4 : wr.cell? ⟨yb, 4, none⟩ = some (.int .i64 (p.h + 1)) := CAt.cell Y4 4
        have y5 : wr.cell? ⟨yb, 5, none⟩ = some (.int .i64 (now + 20)) := CAt.cell Y4 5
        have y6 : wr.cell? ⟨yb, 6, none⟩ = some (.int .i64 (holdOf p 0)) := CAt.cell Y4 6
        have y7 : wr.cell? ⟨yb, 7, none⟩ = some (.int .i64 (holdOf p 1)) := CAt.cell Y4 7
        have hz4 := CAt.lt Y4
        have hu := HU.out wr HR.out.2.2.2.2.1
        have HUN := hide hu
        have H4 := hide (show _ ∧ _ ∧ _ ∧ _ ∧ _ from ⟨G4, HR.out.2.2.1, HR.out.2.2.2.1, HR.out.2.2.2.2.1, HR.out.2.2.2.2.2⟩)
        clear Y4 G4 HR H2 hu HU
        have HNW : Hid (newWt p now = ⟨0, 0, 0, 0, p.h + 1, now + 20, holdOf p 0, holdOf p 1⟩) := rfl
        rw [HNW.out] at HUN HD
        dsimp only at HUN
        generalize holdOf p 0 = ho0 at *
        generalize holdOf p 1 = ho1 at *
        generalize undelS p.s d x n ⟨0, 0, 0, 0, p.h + 1, now + 20, ho0, ho1⟩ = r at *
        obtain ⟨s', er⟩ := r
        dsimp only at HUN HD
        clear HNW
        go_upto_region 13 with (go_at_call 58; refine HUN.out.mono ?_; rintro e w5 ⟨A5, m5, D5, rfl, U5, hb5⟩; clear m4; have sS5 := st_storeS (CAt.new 32 w5 Z63) rfl (stC_size s' (.slice A5 m5 D5)) (stC_one _ _ _ _); unfold Z63 at sS5)
        change Code.wp Tryz.prog _ _ _ ((w5.alloc (.cells Z63 32)).setCells w5.heap.size 0 (stC s' (.slice A5 m5 D5)).toList)
        have bS : Below w5.heap.size w5 ((w5.alloc (.cells Z63 32)).setCells w5.heap.size 0 (stC s' (.slice A5 m5 D5)).toList) := below_sets (Nat.le_refl _) _ _ _ ((Below.refl _ w5).alloc (Nat.le_refl _) _)
        have T6 : CAt 32 ((w5.alloc (.cells Z63 32)).setCells w5.heap.size 0 (stC s' (.slice A5 m5 D5)).toList) w5.heap.size (stC s' (.slice A5 m5 D5)) := (CAt.new 32 w5 Z63).setAll rfl
        have b6 := hb5.trans (bS.mono hb5.size)
        have G6 := H4.out.1.over b6
        have C6 := H4.out.2.1.over b6
        have R6 := H4.out.2.2.1.over b6
        have B6 := H4.out.2.2.2.1.trans (b6.mono H4.out.2.2.2.1.size)
        have N6 := H4.out.2.2.2.2.over b6
        have U6 : er = 0 → Rep (fun b => New (fun b => P b ∧ b < w.heap.size) wr 0 b ∧ b < w5.heap.size) _ (.slice A5 m5 D5) 8 64 (wsL s'.W) := fun h => ((U5 h).mono (P' := fun b => New (fun b => P b ∧ b < w.heap.size) wr 0 b ∧ b < w5.heap.size) fun b hl hb => ⟨hb, hl⟩).over bS
        have hs5 := hb5.size
        have hgr := H4.out.1.lt
        clear sS5 hb5 bS b6 U5 HUN H4 y0 y1 y2 y3 y4 y5 y6 y7
        generalize (w5.alloc (.cells Z63 32)).setCells w5.heap.size 0 (stC s' (.slice A5 m5 D5)).toList = w6 at *
        generalize w5.heap.size = tb at *
        have hzt := T6.lt
        by_cases he : er = 0
        · subst he
          have HRR := hide (HD.out.trans (if_pos rfl))
          have mS := st_loadS T6 (stC_size _ _)
          have sS := pr_storeS G6 (prC_size _ _) (stC_size s' (.slice A5 m5 D5)) (stC_one _ _ _ _)
          have G7 := G6.stake s' (.slice A5 m5 D5)
          have R7 := R6.others (c := g) (o := 2) (by omega) (stC s' (.slice A5 m5 D5)).toList
          have B7 := below_sets (b := g) (B := w.heap.size) (by omega) (stC s' (.slice A5 m5 D5)).toList 2 _ B6
          have N7 : PIn (New P w 2) (w6.setCells g 2 (stC s' (.slice A5 m5 D5)).toList) { p with s := s', L := freshL p.L } { v4 with ws := .slice A5 m5 D5 } := by
            have h1 := (N6.sets (g := g) (fun h => by have := h.2; omega) 2 (stC s' (.slice A5 m5 D5)).toList).mono (P' := New P w 2) (fun b _ hb => .inr (by have := hb.1; omega))
            have h2 := (U6 rfl).sets (g := g) (fun h => by
              rcases h.1 with ⟨h, _⟩ | h
              · have := h.2; omega
              · omega) 2 (stC s' (.slice A5 m5 D5)).toList
            exact ⟨h2.mono fun b _ hb => by
              rcases hb.1 with ⟨h, _⟩ | h
              · exact .inl h
              · exact .inr (by omega), h1.set, fun c hc => by
              have h := h1.lk c hc
              show LkIn _ _ (freshL p.L c) _
              unfold freshL
              split
              · exact ⟨h.told, h.done, h.said, h.due⟩
              · exact h, h1.q⟩
          have l7 := pr_loadP G7 (prC_size _ _)
          have s7 := pr_storeP R7 Z97_size (prC_size { p with s := s', L := freshL p.L } { v4 with ws := .slice A5 m5 D5 }) (pr_one N7)
          have HZ := hide (show _ ∧ _ ∧ _ from ⟨R7, B7, N7⟩)
          clear C6 R6 B6 G6 G7 R7 B7 N7 N6 T6 hone U6
          go_upto_region 16 with fail
          clear mS sS
          generalize w6.setCells g 2 (stC s' (.slice A5 m5 D5)).toList = w7 at *
          go_wp2
          exact prov_end2 Tryz.results16 HZ.out.1 Z97_size HZ.out.2.1 { p with s := s', L := freshL p.L } _ 0 D HRR.out HZ.out.2.2 _ rfl rfl rfl
        · have HRR := hide (HD.out.trans (if_neg he))
          have l6 := pr_loadP C6 (prC_size _ _)
          have s6 := pr_storeP R6 Z97_size (prC_size p v) hone
          have heb : (er != 0) = true := by simpa using he
          have HZ := hide (show _ ∧ _ from ⟨R6, B6⟩)
          clear C6 R6 B6 G6 N6 T6 hone U6
          go_wp2
          exact prov_end2 Tryz.results16 HZ.out.1 Z97_size HZ.out.2 p v er D HRR.out (HN.out _ HZ.out.2) _ rfl rfl rfl
  · replace HD := hide (HD.out.trans (if_neg hok))
    have hcs : G = false ∨ (G = true ∧ now < 0) ∨ (G = true ∧ 0 ≤ now ∧ 1099511627776 < now) := by
      cases G
      · exact .inl rfl
      · have h : ¬ isT now = true := fun h => hok ⟨rfl, h⟩
        unfold isT at h
        simp only [Bool.and_eq_true, decide_eq_true_eq] at h
        by_cases h0 : now < 0
        · exact .inr (.inl ⟨rfl, h0⟩)
        · exact .inr (.inr ⟨rfl, by omega, by omega⟩)
    clear hok HGH HTI HU
    rcases hcs with rfl | ⟨rfl, h1⟩ | ⟨rfl, h1, h2⟩
    all_goals
      go_upto_region 2 with (go_at_call 14; refine (HGD.out _ H0.out.2.2).mono ?_; rintro e w1 ⟨rfl, hb1⟩; clear l0)
      have R1 := H0.out.2.1.over hb1
      have l1 := pr_loadP (H0.out.1.over hb1) (prC_size _ _)
      have s1 := pr_storeP R1 Z97_size (prC_size p v) hone
      have B1 := H0.out.2.2.trans (hb1.mono H0.out.2.2.size)
      have HZ := hide (show _ ∧ _ from ⟨R1, B1⟩)
      clear R1 B1 hb1 hone H0 HGD
      go_wp2
      exact prov_end2 Tryz.results16 HZ.out.1 Z97_size HZ.out.2 p v 2 D HD.out (HN.out _ HZ.out.2) _ rfl rfl rfl
end Go.Proofs.YtkhlihpghbhppaaGreat.Pv

