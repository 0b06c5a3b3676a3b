/- StakeUndelegates: the law's walk. -/
import Derived.Test.YtookecjeknpheacXru
import Derived.Test.YtookecjeknpheacXtd
import Derived.Test.YtookecjeknpheacXsd
import Derived.Test.YtookecjeknpheacXsa
set_option maxRecDepth 100000
namespace Go.Proofs.Ytookecjeknpheac
open Go.RowKit
attribute [local go_sem ↓] loadS_eq
set_option maxHeartbeats 8000000 in
theorem lundel_walk (s : St) (ao : Option Addr) (sb so c : Nat) (d v n : Int) (y : Wt) (w : World) (hc : s.W.length ≤ c) (hW : WsAt w ao sb so s.W) :
    Calls Try.prog 6 #[.agg (stC s (.slice ao s.W.length c)), .int .i64 d, .int .i64 v, .int .i64 n, .agg #[.int .i64 y.num, .int .i64 y.d, .int .i64 y.v, .int .i64 y.amt, .int .i64 y.hei, .int .i64 y.due, .int .i64 y.h0, .int .i64 y.h1]] w fun e w' => e = .returned (.bool true) ∧ Below w.heap.size w w' := by
  have S4 := (SAt.new w (stC s (.slice ao s.W.length c))).alloc (.cells #[.int .i64 y.num, .int .i64 y.d, .int .i64 y.v, .int .i64 y.amt, .int .i64 y.hei, .int .i64 y.due, .int .i64 y.h0, .int .i64 y.h1] 53)
  have YY : YAt ((w.alloc (.cells (stC s (.slice ao s.W.length c)) 43)).alloc (.cells #[.int .i64 y.num, .int .i64 y.d, .int .i64 y.v, .int .i64 y.amt, .int .i64 y.hei, .int .i64 y.due, .int .i64 y.h0, .int .i64 y.h1] 53)) (w.heap.size + 1) y := by
    have h : YAt ((w.alloc (.cells (stC s (.slice ao s.W.length c)) 43)).alloc (.cells #[.int .i64 y.num, .int .i64 y.d, .int .i64 y.v, .int .i64 y.amt, .int .i64 y.hei, .int .i64 y.due, .int .i64 y.h0, .int .i64 y.h1] 53)) (w.alloc (.cells (stC s (.slice ao s.W.length c)) 43)).heap.size y := heap_alloc_new _ _
    rwa [show (w.alloc (.cells (stC s (.slice ao s.W.length c)) 43)).heap.size = w.heap.size + 1 by simp] at h
  have HB0 : Hid (Below w.heap.size w ((w.alloc (.cells (stC s (.slice ao s.W.length c)) 43)).alloc (.cells #[.int .i64 y.num, .int .i64 y.d, .int .i64 y.v, .int .i64 y.amt, .int .i64 y.hei, .int .i64 y.due, .int .i64 y.h0, .int .i64 y.h1] 53))) := ((Below.refl _ w).alloc (Nat.le_refl _) _).alloc (by simp) _
  have HW := hide hW
  have hD := fun A C g w h1 h2 => undel_any s A g 0 C d v n y w h1 h2
  have hR := fun w h => rundel_any s ao sb so c d v n y w hc h
  generalize undelS s d v n y = r at *
  have hWlt := hW.lt
  clear hW
  go_enter Try.func6, Try.ntmps6
  go_upto_region 1 with fail
  change Code.wp Try.prog _ _ _ ((w.alloc (.cells (stC s (.slice ao s.W.length c)) 43)).alloc (.cells #[.int .i64 y.num, .int .i64 y.d, .int .i64 y.v, .int .i64 y.amt, .int .i64 y.hei, .int .i64 y.due, .int .i64 y.h0, .int .i64 y.h1] 53))
  generalize (w.alloc (.cells (stC s (.slice ao s.W.length c)) 43)).alloc (.cells #[.int .i64 y.num, .int .i64 y.d, .int .i64 y.v, .int .i64 y.amt, .int .i64 y.hei, .int .i64 y.due, .int .i64 y.h0, .int .i64 y.h1] 53) = w0 at *
  have hz0 : w.heap.size + 1 < w0.heap.size := YY.lt
  apply wp_region_lit
  refine wpList_load_mid rfl 43 _ rfl _ 0 rfl _ _ S4.range Try.underlying43 rfl (by rw [infoS]; rfl) ?_
  go_step
  go_step
  refine (copy_st2 s ao sb so c _ (by exact HW.out.over HB0.out)).mono ?_
  rintro e w1 ⟨A, C, g, hCn, rfl, hWg, hgz, h1⟩
  dsimp only
  have S4a := S4.later h1 S4.lt
  have Ya := YY.later h1 YY.lt
  have HB1 := hide (HB0.out.trans (h1.mono HB0.out.size))
  have hz1 : w.heap.size + 1 < w1.heap.size := Ya.lt
  have hWg1 := hWg.lt
  clear h1 S4 YY HB0
  iterate 4 go_step
  refine wpList_store_mid rfl 43 _ _ rfl _ 0 (stC s (.slice A s.W.length C)) rfl rfl ((SAt.new w1 Z63).there 0 _ (by rw [Z63_size, stC_size]; omega)) (by rw [infoS]; rfl) (stC_one _ _ _ _) ?_
  change wpList Try.prog _ _ _ _ (((w1.alloc (.cells Z63 43)).setCells w1.heap.size 0 (stC s (.slice A s.W.length C)).toList))
  have S9 := (SAt.new w1 Z63).setAll (ds := (stC s (.slice A s.W.length C))) rfl
  have S4b : SAt (((w1.alloc (.cells Z63 43)).setCells w1.heap.size 0 (stC s (.slice A s.W.length C)).toList)) w.heap.size (stC s (.slice ao s.W.length c)) := (heap_sets (by omega) _ _ _).trans (S4a.alloc _)
  have Yb : YAt (((w1.alloc (.cells Z63 43)).setCells w1.heap.size 0 (stC s (.slice A s.W.length C)).toList)) (w.heap.size + 1) y := (heap_sets (by omega) _ _ _).trans (Ya.later ((Below.refl _ w1).alloc (Nat.le_refl _) (.cells Z63 43)) Ya.lt)
  have HB9 := hide (below_sets (b := w1.heap.size) (by omega) (stC s (.slice A s.W.length C)).toList 0 _ (HB1.out.alloc (by omega) (.cells Z63 43)))
  have W9 := (hWg.alloc (.cells Z63 43)).sets (g := w1.heap.size) (fun h => by have := hWg1 h; omega) (stC s (.slice A s.W.length C)).toList 0
  generalize (((w1.alloc (.cells Z63 43)).setCells w1.heap.size 0 (stC s (.slice A s.W.length C)).toList)) = w2 at *
  have hzw2 : w1.heap.size < w2.heap.size := S9.lt
  clear S4a Ya HB1 hWg
  go_upto_region 2 with fail
  obtain ⟨y0, y1, y2, y3, y4, y5, y6, y7⟩ := Yb.cells
  have hzy : w.heap.size + 1 < w2.heap.size := Yb.lt
  apply wp_region_lit
  refine wpList_load_mid rfl 43 _ rfl _ 0 rfl _ _ S9.range Try.underlying43 rfl (by rw [infoS]; rfl) ?_
  iterate 14 go_step
  refine (hD A C g _ hCn W9).mono ?_
  rintro e w3 ⟨A1, ab1, ao1, C1, rfl, _, hW1, hab1, h3⟩
  dsimp only
  have S4c := S4b.later h3 S4b.lt
  have Yc := Yb.later h3 Yb.lt
  have S9c := S9.later h3 S9.lt
  have W9c := W9.over h3
  have HB3 := hide (HB9.out.trans (h3.mono (by omega)))
  have hz3 : w1.heap.size < w3.heap.size := S9c.lt
  clear h3 S4b Yb S9 W9 HB9 y0 y1 y2 y3 y4 y5 y6 y7
  iterate 13 go_step
  refine wpList_store_mid rfl 43 _ _ rfl _ 0 (stC r.1 (.slice A1 r.1.W.length C1)) rfl rfl ((SAt.new w3 Z63).there 0 _ (by rw [Z63_size, stC_size]; omega)) (by rw [infoS]; rfl) (stC_one _ _ _ _) ?_
  change wpList Try.prog _ _ _ _ (((w3.alloc (.cells Z63 43)).setCells w3.heap.size 0 (stC r.1 (.slice A1 r.1.W.length C1)).toList))
  have S10 := (SAt.new w3 Z63).setAll (ds := (stC r.1 (.slice A1 r.1.W.length C1))) rfl
  have S4d : SAt (((w3.alloc (.cells Z63 43)).setCells w3.heap.size 0 (stC r.1 (.slice A1 r.1.W.length C1)).toList)) w.heap.size (stC s (.slice ao s.W.length c)) := (heap_sets (by omega) _ _ _).trans (S4c.alloc _)
  have Yd : YAt (((w3.alloc (.cells Z63 43)).setCells w3.heap.size 0 (stC r.1 (.slice A1 r.1.W.length C1)).toList)) (w.heap.size + 1) y := (heap_sets (by omega) _ _ _).trans (Yc.later ((Below.refl _ w3).alloc (Nat.le_refl _) (.cells Z63 43)) Yc.lt)
  have S9d : SAt (((w3.alloc (.cells Z63 43)).setCells w3.heap.size 0 (stC r.1 (.slice A1 r.1.W.length C1)).toList)) w1.heap.size (stC s (.slice A s.W.length C)) := (heap_sets (by omega) _ _ _).trans (S9c.alloc _)
  have HB10 := hide (below_sets (b := w3.heap.size) (by omega) (stC r.1 (.slice A1 r.1.W.length C1)).toList 0 _ (HB3.out.alloc (by omega) (.cells Z63 43)))
  have W9d := (W9c.alloc (.cells Z63 43)).sets (g := w3.heap.size) (fun h => by have := hWg1 h; omega) (stC r.1 (.slice A1 r.1.W.length C1)).toList 0
  have W1d := (hW1.alloc (.cells Z63 43)).sets (g := w3.heap.size) (fun h => by have := (hab1 h).1; omega) (stC r.1 (.slice A1 r.1.W.length C1)).toList 0
  generalize (((w3.alloc (.cells Z63 43)).setCells w3.heap.size 0 (stC r.1 (.slice A1 r.1.W.length C1)).toList)) = w4 at *
  have hzw4 : w3.heap.size < w4.heap.size := S10.lt
  clear S4c Yc S9c HB3 W9c hW1
  go_upto_region 3 with fail
  obtain ⟨y0, y1, y2, y3, y4, y5, y6, y7⟩ := Yd.cells
  have hzy4 : w.heap.size + 1 < w4.heap.size := Yd.lt
  have hWd1 := W1d.lt
  apply wp_region_lit
  refine wpList_load_mid rfl 43 _ rfl _ 0 rfl _ _ S4d.range Try.underlying43 rfl (by rw [infoS]; rfl) ?_
  iterate 14 go_step
  refine (hR _ (by exact HW.out.over HB10.out)).mono ?_
  rintro e w5 ⟨A2, ab2, ao2, C2, rfl, _, hW2, hab2, h5⟩
  dsimp only
  have S4e := S4d.later h5 S4d.lt
  have S9e := S9d.later h5 S9d.lt
  have S10e := S10.later h5 S10.lt
  have W9e := W9d.over h5
  have W1e := W1d.over h5
  have HB5 := hide (HB10.out.trans (h5.mono (by omega)))
  have hz5 : w3.heap.size < w5.heap.size := S10e.lt
  clear h5 S4d S9d S10 W9d W1d HB10 Yd y0 y1 y2 y3 y4 y5 y6 y7
  iterate 13 go_step
  refine wpList_store_mid rfl 43 _ _ rfl _ 0 (stC r.1 (.slice A2 r.1.W.length C2)) rfl rfl ((SAt.new w5 Z63).there 0 _ (by rw [Z63_size, stC_size]; omega)) (by rw [infoS]; rfl) (stC_one _ _ _ _) ?_
  change wpList Try.prog _ _ _ _ (((w5.alloc (.cells Z63 43)).setCells w5.heap.size 0 (stC r.1 (.slice A2 r.1.W.length C2)).toList))
  have S12 := (SAt.new w5 Z63).setAll (ds := (stC r.1 (.slice A2 r.1.W.length C2))) rfl
  have S4 : SAt (((w5.alloc (.cells Z63 43)).setCells w5.heap.size 0 (stC r.1 (.slice A2 r.1.W.length C2)).toList)) w.heap.size (stC s (.slice ao s.W.length c)) := (heap_sets (by omega) _ _ _).trans (S4e.alloc _)
  have S9 : SAt (((w5.alloc (.cells Z63 43)).setCells w5.heap.size 0 (stC r.1 (.slice A2 r.1.W.length C2)).toList)) w1.heap.size (stC s (.slice A s.W.length C)) := (heap_sets (by omega) _ _ _).trans (S9e.alloc _)
  have S10 : SAt (((w5.alloc (.cells Z63 43)).setCells w5.heap.size 0 (stC r.1 (.slice A2 r.1.W.length C2)).toList)) w3.heap.size (stC r.1 (.slice A1 r.1.W.length C1)) := (heap_sets (by omega) _ _ _).trans (S10e.alloc _)
  have HB12 := hide (below_sets (b := w5.heap.size) (by omega) (stC r.1 (.slice A2 r.1.W.length C2)).toList 0 _ (HB5.out.alloc (by omega) (.cells Z63 43)))
  have W9 := (W9e.alloc (.cells Z63 43)).sets (g := w5.heap.size) (fun h => by have := hWg1 h; omega) (stC r.1 (.slice A2 r.1.W.length C2)).toList 0
  have W1 := (W1e.alloc (.cells Z63 43)).sets (g := w5.heap.size) (fun h => by have := hWd1 h; omega) (stC r.1 (.slice A2 r.1.W.length C2)).toList 0
  have W2 := (hW2.alloc (.cells Z63 43)).sets (g := w5.heap.size) (fun h => by have := (hab2 h).1; omega) (stC r.1 (.slice A2 r.1.W.length C2)).toList 0
  generalize (((w5.alloc (.cells Z63 43)).setCells w5.heap.size 0 (stC r.1 (.slice A2 r.1.W.length C2)).toList)) = w6 at *
  have hzw6 : w5.heap.size < w6.heap.size := S12.lt
  clear S4e S9e S10e HB5 W9e W1e hW2
  go_upto_region 4 with fail
  have hc1 : ∀ wx, Below w6.heap.size w6 wx → Calls Try.prog 19 #[.agg (stC r.1 (.slice A1 r.1.W.length C1)), .agg (stC r.1 (.slice A2 r.1.W.length C2))] wx fun e w' => e = .returned (.bool true) ∧ Below w6.heap.size w6 w' := fun wx h => (same_any r.1 A1 A2 ab1 ao1 ab2 ao2 C1 C2 wx (W1.over h) (W2.over h)).mono fun _ _ hh => ⟨hh.1, h.trans (hh.2.mono h.size)⟩
  have hc2 : ∀ wx, Below w6.heap.size w6 wx → Calls Try.prog 19 #[.agg (stC s (.slice A s.W.length C)), .agg (stC s (.slice ao s.W.length c))] wx fun e w' => e = .returned (.bool true) ∧ Below w6.heap.size w6 w' := fun wx h => (same_any s A ao g 0 sb so C c wx (W9.over h) ((HW.out.over HB12.out).over h)).mono fun _ _ hh => ⟨hh.1, h.trans (hh.2.mono h.size)⟩
  have hc8 : ∀ wx, Below w6.heap.size w6 wx → Calls Try.prog 24 #[] wx fun e w' => e = .returned (.bool true) ∧ Below w6.heap.size w6 w' := fun wx h => (stakes_any wx).mono fun _ _ hh => ⟨hh.1, h.trans (hh.2.mono h.size)⟩
  have q1 := S10.loadS rfl
  have q2 := S12.loadS rfl
  clear hD hR hgz hWg1 hab1 hab2 hWlt hWd1
  go_wp2_with (first
    | (go_at_call 19; have _m := m1; refine (hc2 _ (by exact hb)).mono ?_; rintro e wz ⟨rfl, hb2⟩)
    | (go_at_call 19; refine (hc1 _ (Below.refl _ _)).mono ?_; rintro e wy ⟨rfl, hb⟩; have m1 : True := trivial; have q3 := (S9.later hb (by omega)).loadS rfl; have q4 := (S4.later hb (by omega)).loadS rfl)
    | (go_at_call 24; refine (hc8 _ (by exact hb2)).mono ?_; rintro e wu ⟨rfl, hb3⟩))
  go_ret
  exact ⟨rfl, HB12.out.trans (hb3.mono HB12.out.size)⟩
end Go.Proofs.Ytookecjeknpheac
