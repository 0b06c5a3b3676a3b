/- Parts of the proof: RJ1 RJ2. -/
import Derived.Test.YtjghbciepinofaaGreatRows
import Derived.Test.YtjghbciepinofaaGreatPEK1
import Derived.Test.YtjghbciepinofaaGreatPEK21
import Derived.Test.YtjghbciepinofaaGreatPEK24
import Derived.Test.YtjghbciepinofaaGreatPEK27
import Derived.Test.YtjghbciepinofaaGreatPEK36
import Derived.Test.YtjghbciepinofaaGreatPEK44
set_option maxRecDepth 100000
namespace Go.Proofs.YtjghbciepinofaaGreat
open Go.RowKit
theorem refOf_zero (s : St) (v : Int) : refOfE s 0 v = refE s v := by
  unfold refOfE
  split
  · rw [if_pos (by decide)]; omega
  · rfl
end Go.Proofs.YtjghbciepinofaaGreat

set_option maxRecDepth 100000
namespace Go.Proofs.YtjghbciepinofaaGreat
open Go.RowKit
set_option maxHeartbeats 4000000 in
theorem rjudge_own2 (s : St) (ao : Option Addr) (sb so c v : Nat) (w : World) (hW : WsAt w ao sb so s.W) (hg : goodS s = true) (hv : v < 6) (hd : (s.V v).dead = false) :
    Calls Tryz.prog 98 #[.agg (stC s (.slice ao s.W.length c)), .int .i64 (v : Int), .int .i64 2] w fun e w' => ∃ A C, e = .returned (.tuple #[.agg (stC (setJ s v true true) (.slice A s.W.length C)), .int .i64 0]) ∧ OwnW w.heap.size w' A C s.W ∧ Below w.heap.size w w' := by
  have SS := (SAt.new w (stC s (.slice ao s.W.length c))).alloc (.cells Z63 32)
  have RR := SAt.new2 w (.cells (stC s (.slice ao s.W.length c)) 32) Z63
  have HB : Hid (Below w.heap.size w ((w.alloc (.cells (stC s (.slice ao s.W.length c)) 32)).alloc (.cells Z63 32))) := ((Below.refl _ w).alloc (Nat.le_refl _) _).alloc (by simp) _
  have HW := hide hW
  have HDD := hide hd
  clear hd
  have hRf := refE_good hg hv
  have hv' : (v : Int) < 6 := by omega
  have hv0 : (0 : Int) ≤ (v : Int) := by omega
  have hsm := fun w h => some_any s ao sb so c 0 v w h
  rw [refOf_zero] at hsm
  clear hW
  go_enter Tryz.func98, Tryz.ntmps98
  go_upto_region 1 with fail
  change Code.wp Tryz.prog _ _ _ ((w.alloc (.cells (stC s (.slice ao s.W.length c)) 32)).alloc (.cells Z63 32))
  generalize (w.alloc (.cells (stC s (.slice ao s.W.length c)) 32)).alloc (.cells Z63 32) = w0 at *
  apply wp_region_lit
  refine wpList_load_mid rfl 32 _ rfl _ 0 rfl _ _ SS.range Tryz.underlying32 rfl (by rw [infoS]; rfl) ?_
  go_upto_region 4 with (go_at_call 140; refine (hsm _ (by exact HW.out.over HB.out)).mono ?_; rintro e w1 ⟨rfl, h1⟩)
  have HB1 := hide (HB.out.trans (h1.mono HB.out.size))
  have S1 := SS.later h1 SS.lt
  have R1 := RR.later h1 RR.lt
  have hz1 : w.heap.size + 1 < w1.heap.size := R1.lt
  obtain ⟨c0, c1, c2, c3, c4⟩ := S1.val v hv
  clear SS RR h1 HB hsm hRf
  go_upto_region 5 with fail
  have V2 : VAt (w1.alloc (.cells #[.int .i64 (s.V v).tok, .int .i64 (s.V v).sh, .int .i64 (s.V v).lost, .bool (s.V v).jail, .bool (s.V v).dead] 26)) w1.heap.size (s.V v) := heap_alloc_new _ _
  have S2 := S1.alloc (.cells #[.int .i64 (s.V v).tok, .int .i64 (s.V v).sh, .int .i64 (s.V v).lost, .bool (s.V v).jail, .bool (s.V v).dead] 26)
  have R2 := R1.alloc (.cells #[.int .i64 (s.V v).tok, .int .i64 (s.V v).sh, .int .i64 (s.V v).lost, .bool (s.V v).jail, .bool (s.V v).dead] 26)
  have HB2 := hide (HB1.out.alloc (by omega) (.cells #[.int .i64 (s.V v).tok, .int .i64 (s.V v).sh, .int .i64 (s.V v).lost, .bool (s.V v).jail, .bool (s.V v).dead] 26))
  generalize w1.alloc (.cells #[.int .i64 (s.V v).tok, .int .i64 (s.V v).sh, .int .i64 (s.V v).lost, .bool (s.V v).jail, .bool (s.V v).dead] 26) = w2 at *
  clear S1 R1 HB1 c0 c1 c2 c3 c4
  have hz2 : w.heap.size + 1 < w2.heap.size := R2.lt
  have hy2 : w1.heap.size < w2.heap.size := V2.lt
  apply wp_region_lit
  refine wpList_load_mid rfl 32 _ rfl _ 0 rfl _ _ S2.range Tryz.underlying32 rfl (by rw [infoS]; rfl) ?_
  go_step
  go_step
  refine (copy_st3 s ao sb so c _ (by exact HW.out.over HB2.out)).mono ?_
  rintro e w6 ⟨A, C, rfl, hOw, h6⟩
  dsimp only
  have R6 := R2.later h6 R2.lt
  have V6 := V2.later h6 V2.lt
  have S6 := S2.later h6 S2.lt
  have HB6 := hide (HB2.out.trans (h6.mono HB2.out.size))
  have hz6 : w.heap.size + 1 < w6.heap.size := R6.lt
  have hq6 : w1.heap.size < w6.heap.size := V6.lt
  have hW6 := fun k hk => World.ownsRow.lt hOw k hk
  iterate 4 go_step
  refine wpList_store_mid rfl 32 _ _ rfl _ 0 (stC s (.slice A s.W.length C)) rfl rfl ((SAt.new w6 Z63).there 0 _ (by rw [Z63_size, stC_size]; omega)) (by rw [infoS]; rfl) (stC_one _ _ _ _) ?_
  change wpList Tryz.prog _ _ _ _ ((w6.alloc (.cells Z63 32)).setCells w6.heap.size 0 (stC s (.slice A s.W.length C)).toList)
  have S7 := (SAt.new w6 Z63).setAll (ds := stC s (.slice A s.W.length C)) rfl
  have R7 : SAt ((w6.alloc (.cells Z63 32)).setCells w6.heap.size 0 (stC s (.slice A s.W.length C)).toList) (w.heap.size + 1) Z63 := (heap_sets (by omega) _ _ _).trans (R6.alloc _)
  have S7o : SAt ((w6.alloc (.cells Z63 32)).setCells w6.heap.size 0 (stC s (.slice A s.W.length C)).toList) w.heap.size (stC s (.slice ao s.W.length c)) := (heap_sets (by omega) _ _ _).trans (S6.alloc _)
  have V7 : VAt ((w6.alloc (.cells Z63 32)).setCells w6.heap.size 0 (stC s (.slice A s.W.length C)).toList) w1.heap.size (s.V v) := (heap_sets (by omega) _ _ _).trans (V6.later ((Below.refl _ w6).alloc (Nat.le_refl _) _) V6.lt)
  have HB7 := hide (below_sets (b := w6.heap.size) (by omega) (stC s (.slice A s.W.length C)).toList 0 _ (HB6.out.alloc (by omega) (.cells Z63 32)))
  have W7 : OwnW (w2.heap.size + 2) ((w6.alloc (.cells Z63 32)).setCells w6.heap.size 0 (stC s (.slice A s.W.length C)).toList) A C s.W := own_of hOw fun k hk => (heap_sets (by have := (hW6 k hk).2; omega) _ _ _).trans (Below.heap_alloc _ _ _ (hW6 k hk).2)
  generalize (w6.alloc (.cells Z63 32)).setCells w6.heap.size 0 (stC s (.slice A s.W.length C)).toList = w7 at *
  clear S2 R2 V2 R6 V6 S6 HB2 HB6 h6
  obtain ⟨_, _, _, e3, e4⟩ := V7.cells
  obtain ⟨_, _, _, c3, c4⟩ := S7.val v hv
  have f0 := S7.free (7 + v * 5 + 3)
  have f1 := S7.free (7 + v * 5 + 4)
  have hz7 : w6.heap.size < w7.heap.size := S7.lt
  rw [HDD.out] at e4
  go_upto_region 12 with fail
  have S8 := S7.set (7 + v * 5 + 3) (.bool true)
  rw [set_J _ _ v hv] at S8
  have S9 := S8.set (7 + v * 5 + 4) (.bool true)
  rw [set_D _ _ v hv] at S9
  have HS9 := hide S9
  have hBut := ((But.refl w6.heap.size w7).set (7 + v * 5 + 3) (.bool true)).set (7 + v * 5 + 4) (.bool true)
  have HR9 := hide (hBut.stake (by omega) R7)
  have HW9 := hide (own_of W7 (fun k hk => hBut.block k (by have := (hW6 k hk).2; omega)))
  have HB9 := hide (HB7.out.trans (hBut.below (by omega)))
  clear S7 S8 S9 S7o V7 e3 e4 hBut W7
  go_upto_region 14 with fail
  generalize ((w7.setCell ⟨w6.heap.size, 7 + v * 5 + 3, none⟩ (.bool true)).setCell ⟨w6.heap.size, 7 + v * 5 + 4, none⟩ (.bool true)) = w9 at *
  apply wp_region_lit
  refine wpList_load_mid rfl 32 _ rfl _ 0 rfl _ _ HS9.out.range Tryz.underlying32 rfl (by rw [infoS]; rfl) ?_
  refine wpList_store_mid rfl 32 _ _ rfl _ 0 (stC (setJ s v true true) (.slice A s.W.length C)) rfl rfl (HR9.out.there 0 _ (by rw [Z63_size, stC_size]; omega)) (by rw [infoS]; rfl) (stC_one _ _ _ _) ?_
  go_wp2
  have R3 := HR9.out.setAll (ds := stC (setJ s v true true) (.slice A s.W.length C)) rfl
  exact bodyPost_ret (v := .tuple #[.agg (stC (setJ s v true true) (.slice A s.W.length C)), .int .i64 0]) (results_stake2 Tryz.results98 _ _ _ _ _ rfl rfl R3 rfl) rfl ⟨A, C, rfl, Ln.own_base (own_of HW9.out fun k hk => heap_sets (by have := (hW6 k hk).1; omega) _ _ _) (by omega), below_sets (Nat.le_succ _) _ _ _ HB9.out⟩
set_option maxHeartbeats 4000000 in
theorem rjudge_own0 (s : St) (ao : Option Addr) (sb so c v : Nat) (w : World) (hW : WsAt w ao sb so s.W) (hg : goodS s = true) (hv : v < 6) (hd : (s.V v).jail = false) :
    Calls Tryz.prog 98 #[.agg (stC s (.slice ao s.W.length c)), .int .i64 (v : Int), .int .i64 0] w fun e w' => ∃ A C, e = .returned (.tuple #[.agg (stC (setJ s v true false) (.slice A s.W.length C)), .int .i64 0]) ∧ OwnW w.heap.size w' A C s.W ∧ Below w.heap.size w w' := by
  have SS := (SAt.new w (stC s (.slice ao s.W.length c))).alloc (.cells Z63 32)
  have RR := SAt.new2 w (.cells (stC s (.slice ao s.W.length c)) 32) Z63
  have HB : Hid (Below w.heap.size w ((w.alloc (.cells (stC s (.slice ao s.W.length c)) 32)).alloc (.cells Z63 32))) := ((Below.refl _ w).alloc (Nat.le_refl _) _).alloc (by simp) _
  have HW := hide hW
  have HDD := hide hd
  clear hd
  have hRf := refE_good hg hv
  have hv' : (v : Int) < 6 := by omega
  have hv0 : (0 : Int) ≤ (v : Int) := by omega
  have hsm := fun w h => some_any s ao sb so c 0 v w h
  rw [refOf_zero] at hsm
  clear hW
  go_enter Tryz.func98, Tryz.ntmps98
  go_upto_region 1 with fail
  change Code.wp Tryz.prog _ _ _ ((w.alloc (.cells (stC s (.slice ao s.W.length c)) 32)).alloc (.cells Z63 32))
  generalize (w.alloc (.cells (stC s (.slice ao s.W.length c)) 32)).alloc (.cells Z63 32) = w0 at *
  apply wp_region_lit
  refine wpList_load_mid rfl 32 _ rfl _ 0 rfl _ _ SS.range Tryz.underlying32 rfl (by rw [infoS]; rfl) ?_
  go_upto_region 4 with (go_at_call 140; refine (hsm _ (by exact HW.out.over HB.out)).mono ?_; rintro e w1 ⟨rfl, h1⟩)
  have HB1 := hide (HB.out.trans (h1.mono HB.out.size))
  have S1 := SS.later h1 SS.lt
  have R1 := RR.later h1 RR.lt
  have hz1 : w.heap.size + 1 < w1.heap.size := R1.lt
  obtain ⟨c0, c1, c2, c3, c4⟩ := S1.val v hv
  clear SS RR h1 HB hsm hRf
  go_upto_region 5 with fail
  have V2 : VAt (w1.alloc (.cells #[.int .i64 (s.V v).tok, .int .i64 (s.V v).sh, .int .i64 (s.V v).lost, .bool (s.V v).jail, .bool (s.V v).dead] 26)) w1.heap.size (s.V v) := heap_alloc_new _ _
  have S2 := S1.alloc (.cells #[.int .i64 (s.V v).tok, .int .i64 (s.V v).sh, .int .i64 (s.V v).lost, .bool (s.V v).jail, .bool (s.V v).dead] 26)
  have R2 := R1.alloc (.cells #[.int .i64 (s.V v).tok, .int .i64 (s.V v).sh, .int .i64 (s.V v).lost, .bool (s.V v).jail, .bool (s.V v).dead] 26)
  have HB2 := hide (HB1.out.alloc (by omega) (.cells #[.int .i64 (s.V v).tok, .int .i64 (s.V v).sh, .int .i64 (s.V v).lost, .bool (s.V v).jail, .bool (s.V v).dead] 26))
  generalize w1.alloc (.cells #[.int .i64 (s.V v).tok, .int .i64 (s.V v).sh, .int .i64 (s.V v).lost, .bool (s.V v).jail, .bool (s.V v).dead] 26) = w2 at *
  clear S1 R1 HB1 c0 c1 c2 c3 c4
  have hz2 : w.heap.size + 1 < w2.heap.size := R2.lt
  have hy2 : w1.heap.size < w2.heap.size := V2.lt
  apply wp_region_lit
  refine wpList_load_mid rfl 32 _ rfl _ 0 rfl _ _ S2.range Tryz.underlying32 rfl (by rw [infoS]; rfl) ?_
  go_step
  go_step
  refine (copy_st3 s ao sb so c _ (by exact HW.out.over HB2.out)).mono ?_
  rintro e w6 ⟨A, C, rfl, hOw, h6⟩
  dsimp only
  have R6 := R2.later h6 R2.lt
  have V6 := V2.later h6 V2.lt
  have S6 := S2.later h6 S2.lt
  have HB6 := hide (HB2.out.trans (h6.mono HB2.out.size))
  have hz6 : w.heap.size + 1 < w6.heap.size := R6.lt
  have hq6 : w1.heap.size < w6.heap.size := V6.lt
  have hW6 := fun k hk => World.ownsRow.lt hOw k hk
  iterate 4 go_step
  refine wpList_store_mid rfl 32 _ _ rfl _ 0 (stC s (.slice A s.W.length C)) rfl rfl ((SAt.new w6 Z63).there 0 _ (by rw [Z63_size, stC_size]; omega)) (by rw [infoS]; rfl) (stC_one _ _ _ _) ?_
  change wpList Tryz.prog _ _ _ _ ((w6.alloc (.cells Z63 32)).setCells w6.heap.size 0 (stC s (.slice A s.W.length C)).toList)
  have S7 := (SAt.new w6 Z63).setAll (ds := stC s (.slice A s.W.length C)) rfl
  have R7 : SAt ((w6.alloc (.cells Z63 32)).setCells w6.heap.size 0 (stC s (.slice A s.W.length C)).toList) (w.heap.size + 1) Z63 := (heap_sets (by omega) _ _ _).trans (R6.alloc _)
  have S7o : SAt ((w6.alloc (.cells Z63 32)).setCells w6.heap.size 0 (stC s (.slice A s.W.length C)).toList) w.heap.size (stC s (.slice ao s.W.length c)) := (heap_sets (by omega) _ _ _).trans (S6.alloc _)
  have V7 : VAt ((w6.alloc (.cells Z63 32)).setCells w6.heap.size 0 (stC s (.slice A s.W.length C)).toList) w1.heap.size (s.V v) := (heap_sets (by omega) _ _ _).trans (V6.later ((Below.refl _ w6).alloc (Nat.le_refl _) _) V6.lt)
  have HB7 := hide (below_sets (b := w6.heap.size) (by omega) (stC s (.slice A s.W.length C)).toList 0 _ (HB6.out.alloc (by omega) (.cells Z63 32)))
  have W7 : OwnW (w2.heap.size + 2) ((w6.alloc (.cells Z63 32)).setCells w6.heap.size 0 (stC s (.slice A s.W.length C)).toList) A C s.W := own_of hOw fun k hk => (heap_sets (by have := (hW6 k hk).2; omega) _ _ _).trans (Below.heap_alloc _ _ _ (hW6 k hk).2)
  generalize (w6.alloc (.cells Z63 32)).setCells w6.heap.size 0 (stC s (.slice A s.W.length C)).toList = w7 at *
  clear S2 R2 V2 R6 V6 S6 HB2 HB6 h6
  obtain ⟨_, _, _, e3, e4⟩ := V7.cells
  obtain ⟨_, _, _, c3, c4⟩ := S7.val v hv
  have f0 := S7.free (7 + v * 5 + 3)
  have f1 := S7.free (7 + v * 5 + 4)
  have hz7 : w6.heap.size < w7.heap.size := S7.lt
  rw [HDD.out] at e3
  go_upto_region 12 with fail
  have S8 := S7.set (7 + v * 5 + 3) (.bool true)
  rw [set_J _ _ v hv] at S8
  have S9 := S8.set (7 + v * 5 + 4) (.bool false)
  rw [set_D _ _ v hv] at S9
  have HS9 := hide S9
  have hBut := ((But.refl w6.heap.size w7).set (7 + v * 5 + 3) (.bool true)).set (7 + v * 5 + 4) (.bool false)
  have HR9 := hide (hBut.stake (by omega) R7)
  have HW9 := hide (own_of W7 (fun k hk => hBut.block k (by have := (hW6 k hk).2; omega)))
  have HB9 := hide (HB7.out.trans (hBut.below (by omega)))
  clear S7 S8 S9 S7o V7 e3 e4 hBut W7
  go_upto_region 14 with fail
  generalize ((w7.setCell ⟨w6.heap.size, 7 + v * 5 + 3, none⟩ (.bool true)).setCell ⟨w6.heap.size, 7 + v * 5 + 4, none⟩ (.bool false)) = w9 at *
  apply wp_region_lit
  refine wpList_load_mid rfl 32 _ rfl _ 0 rfl _ _ HS9.out.range Tryz.underlying32 rfl (by rw [infoS]; rfl) ?_
  refine wpList_store_mid rfl 32 _ _ rfl _ 0 (stC (setJ s v true false) (.slice A s.W.length C)) rfl rfl (HR9.out.there 0 _ (by rw [Z63_size, stC_size]; omega)) (by rw [infoS]; rfl) (stC_one _ _ _ _) ?_
  go_wp2
  have R3 := HR9.out.setAll (ds := stC (setJ s v true false) (.slice A s.W.length C)) rfl
  exact bodyPost_ret (v := .tuple #[.agg (stC (setJ s v true false) (.slice A s.W.length C)), .int .i64 0]) (results_stake2 Tryz.results98 _ _ _ _ _ rfl rfl R3 rfl) rfl ⟨A, C, rfl, Ln.own_base (own_of HW9.out fun k hk => heap_sets (by have := (hW6 k hk).1; omega) _ _ _) (by omega), below_sets (Nat.le_succ _) _ _ _ HB9.out⟩
end Go.Proofs.YtjghbciepinofaaGreat

