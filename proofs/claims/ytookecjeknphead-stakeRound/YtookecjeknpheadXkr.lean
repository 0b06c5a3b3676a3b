/- StakeRound: the law's walk. -/
import Derived.Test.YtookecjeknpheadXsw
import Derived.Test.YtookecjeknpheadXsd
import Derived.BigQuiet
set_option maxRecDepth 100000
namespace Go.Proofs.Ytookecjeknphead
open Go.RowKit
set_option maxHeartbeats 8000000 in
theorem kround_walk (s : St) (ao : Option Addr) (sb so c : Nat) (d v n : Int) (w : World) (hc : s.W.length ≤ c) (hW : WsAt w ao sb so s.W) :
    Calls Try.prog 4 #[.agg (stC s (.slice ao s.W.length c)), .int .i64 d, .int .i64 v, .int .i64 n] w fun e w' => e = .returned (.bool true) ∧ Below w.heap.size w w' := by
  have S4 := SAt.new w (stC s (.slice ao s.W.length c))
  have HB0 : Hid (Below w.heap.size w (w.alloc (.cells (stC s (.slice ao s.W.length c)) 32))) := (Below.refl _ w).alloc (Nat.le_refl _) _
  have HW := hide hW
  have hD := fun w h => deleg_any s ao sb so c d v n w h
  have HF := hide (round_facts (s := s) (d := d) (v := v) (n := n))
  have hU := fun (g : Int) (h : (delegS s d v n).1.W = s.W) w h1 => undel_any (delegS s d v n).1 ao sb so c d v g wt0 w (by rw [h]; exact hc) (by rw [h]; exact h1)
  generalize delegS s d v n = r at *
  obtain ⟨a, er⟩ := r
  dsimp only at *
  have hWlt := hW.lt
  clear hW
  go_enter Try.func4, Try.ntmps4
  go_upto_region 1 with fail
  generalize w.alloc (.cells (stC s (.slice ao s.W.length c)) 32) = w0 at *
  have hz0 : w.heap.size < w0.heap.size := S4.lt
  apply wp_region_lit
  refine wpList_load_mid rfl 32 _ rfl _ 0 rfl _ _ S4.range Try.underlying32 rfl (by rw [infoS]; rfl) ?_
  iterate 11 go_step
  refine (hD _ (by exact HW.out.over HB0.out)).mono ?_
  rintro e w3 ⟨rfl, h3⟩
  dsimp only
  have S4c := S4.later h3 S4.lt
  have HB3 := hide (HB0.out.trans (h3.mono HB0.out.size))
  have hz3 : w.heap.size < w3.heap.size := S4c.lt
  clear h3 S4 hD
  iterate 13 go_step
  refine wpList_store_mid rfl 32 _ _ rfl _ 0 (stC a (.slice ao s.W.length c)) rfl rfl ((SAt.new w3 Z63).there 0 _ (by rw [Z63_size, stC_size]; omega)) (by rw [infoS]; rfl) (stC_one _ _ _ _) ?_
  change wpList Try.prog _ _ _ _ ((w3.alloc (.cells Z63 32)).setCells w3.heap.size 0 (stC a (.slice ao s.W.length c)).toList)
  have S10 := (SAt.new w3 Z63).setAll (ds := (stC a (.slice ao s.W.length c))) rfl
  have S4d : SAt ((w3.alloc (.cells Z63 32)).setCells w3.heap.size 0 (stC a (.slice ao s.W.length c)).toList) w.heap.size (stC s (.slice ao s.W.length c)) := (heap_sets (by omega) _ _ _).trans (S4c.alloc _)
  have HB10 := hide (below_sets (b := w3.heap.size) (by omega) (stC a (.slice ao s.W.length c)).toList 0 _ (HB3.out.alloc (by omega) (.cells Z63 32)))
  generalize ((w3.alloc (.cells Z63 32)).setCells w3.heap.size 0 (stC a (.slice ao s.W.length c)).toList) = w4 at *
  have hz4 : w3.heap.size < w4.heap.size := S10.lt
  clear S4c HB3 HB0
  rcases Decidable.em (er = 0) with he | he
  case inr =>
    have he' : (er != 0) = true := by simpa using he
    clear HF hU S10 S4d
    go_wp2_with (go_at_call 16; refine (stakes_any _).mono ?_; rintro e w5 ⟨rfl, h5⟩)
    go_ret
    exact ⟨rfl, HB10.out.trans (h5.mono HB10.out.size)⟩
  subst he
  obtain ⟨i, j, g, rfl, rfl, hi, hj, hg0, hg1, ⟨hS0, hS1⟩, eS, eW, hF1, hF2⟩ := HF.out rfl
  have hU' := hU g eW
  clear hU HF
  rw [eW] at hU'
  have HF1 := hide hF1
  have HF2 := hide hF2
  clear hF1 hF2
  generalize undelS a i j g wt0 = r2 at *
  obtain ⟨b, ef⟩ := r2
  dsimp only at *
  go_upto_region 4 with (go_at_call 16; refine (stakes_any _).mono ?_; rintro e w5 ⟨rfl, h5⟩)
  have S4e := S4d.later h5 (by omega)
  have S10e := S10.later h5 S10.lt
  have HB5 := hide (HB10.out.trans (h5.mono (by omega)))
  have hz5 : w3.heap.size < w5.heap.size := S10e.lt
  have hz5' : w.heap.size < w5.heap.size := by omega
  clear S4d S10 HB10 h5
  have c1 := S4e.shr i j hi hj
  have c2 := S10e.shr i j hi hj
  rw [eS] at c2
  have hi' : (i : Int) < 4 := by omega
  have hj' : (j : Int) < 6 := by omega
  have hi0 : (0 : Int) ≤ (i : Int) := by omega
  have hj0 : (0 : Int) ≤ (j : Int) := by omega
  have hwr : IntKind.i64.wrap (s.S i j + g - s.S i j) = g := by
    have h : s.S i j + g - s.S i j = g := by omega
    rw [h]
    exact wrapI (n := g) (by omega) (by omega)
  go_quiet (fail)
  have HB6 : Hid (Below w.heap.size w (w5.drewN nq)) := ⟨HB5.out.os, HB5.out.tape, HB5.out.output, HB5.out.size, HB5.out.block⟩
  have S4f : SAt (w5.drewN nq) w.heap.size (stC s (.slice ao s.W.length c)) := S4e
  have S10f : SAt (w5.drewN nq) w3.heap.size (stC a (.slice ao s.W.length c)) := S10e
  clear S4e S10e HB5 c1 c2 hz5 hz5' hwr
  generalize w5.drewN nq = w6 at *
  have hz6 : w3.heap.size < w6.heap.size := S10f.lt
  go_upto_region 5 with fail
  apply wp_region_lit
  refine wpList_load_mid rfl 32 _ rfl _ 0 rfl _ _ S10f.range Try.underlying32 rfl (by rw [infoS]; rfl) ?_
  iterate 9 go_step
  iterate 5 go_step
  refine (hU' _ (by exact HW.out.over HB6.out)).mono ?_
  rintro e w7 ⟨A2, ab, ao2, C2, rfl, hC2, hW2, hab, h7⟩
  dsimp only
  have S4g := S4f.later h7 S4f.lt
  have HB7 := hide (HB6.out.trans (h7.mono (by omega)))
  have hz7 : w.heap.size < w7.heap.size := S4g.lt
  clear h7 S4f HB6 hU' S10f
  iterate 13 go_step
  refine wpList_store_mid rfl 32 _ _ rfl _ 0 (stC b (.slice A2 b.W.length C2)) rfl rfl ((SAt.new w7 Z63).there 0 _ (by rw [Z63_size, stC_size]; omega)) (by rw [infoS]; rfl) (stC_one _ _ _ _) ?_
  change wpList Try.prog _ _ _ _ ((w7.alloc (.cells Z63 32)).setCells w7.heap.size 0 (stC b (.slice A2 b.W.length C2)).toList)
  have S12 := (SAt.new w7 Z63).setAll (ds := (stC b (.slice A2 b.W.length C2))) rfl
  have S4h : SAt ((w7.alloc (.cells Z63 32)).setCells w7.heap.size 0 (stC b (.slice A2 b.W.length C2)).toList) w.heap.size (stC s (.slice ao s.W.length c)) := (heap_sets (by omega) _ _ _).trans (S4g.alloc _)
  have HB8 := hide (below_sets (b := w7.heap.size) (by omega) (stC b (.slice A2 b.W.length C2)).toList 0 _ (HB7.out.alloc (by omega) (.cells Z63 32)))
  have W8 := (hW2.alloc (.cells Z63 32)).sets (g := w7.heap.size) (fun h => by have := (hab h).1; omega) (stC b (.slice A2 b.W.length C2)).toList 0
  generalize ((w7.alloc (.cells Z63 32)).setCells w7.heap.size 0 (stC b (.slice A2 b.W.length C2)).toList) = w8 at *
  have hz8 : w7.heap.size < w8.heap.size := S12.lt
  have hz8' : w.heap.size < w8.heap.size := by omega
  clear S4g HB7 hW2 hab
  rcases Decidable.em (ef = 0) with he | he
  case inr =>
    have he' : (ef != 0) = true := by simpa using he
    have h86 := HF1.out he
    clear HF1 HF2 S12 S4h W8
    rcases h86 with rfl | rfl
    · go_wp2
      go_ret
      exact ⟨rfl, HB8.out⟩
    · go_wp2
      go_ret
      exact ⟨rfl, HB8.out⟩
  subst he
  obtain ⟨hl60, x, hbW, hx1, hx2, hx3, ht1, ht2⟩ := HF2.out rfl
  have hbl : b.W.length = s.W.length + 1 := by rw [hbW]; simp
  have hA2 := W8.adr (show 0 < b.W.length by omega)
  subst hA2
  obtain ⟨y0, y1, y2, y3, y4, y5, y6, y7⟩ := W8.cell s.W.length x (by rw [hbW]; simp)
  rw [hbl] at S12 hC2
  rw [hbl]
  rw [hx2] at y2
  rw [hx3] at y1
  have q0 := (S12.val j hj).1
  have q1 := (S12.val j hj).2.1
  have x7 := (st_cells S12).2.2.2.2.2.2.2.1
  have p0 := (S4h.val j hj).1
  have p1 := (S4h.val j hj).2.1
  rw [ht2] at q1
  generalize s.W.length = L at *
  generalize (b.V j).tok = bt at *
  generalize (s.V j).tok = st at *
  generalize (s.V j).sh = sh at *
  clear HF1 HF2 W8 hbW S12 S4h hx2 hx3 ht2 hbl
  go_upto_region 9 with fail
  have YY : YAt (w8.alloc (.cells #[.int .i64 x.num, .int .i64 (i : Int), .int .i64 (j : Int), .int .i64 x.amt, .int .i64 x.hei, .int .i64 x.due, .int .i64 x.h0, .int .i64 x.h1] 45)) w8.heap.size { x with d := i, v := j } := heap_alloc_new _ _
  have hbn := (Below.refl w8.heap.size w8).alloc (Nat.le_refl _) (.cells #[.int .i64 x.num, .int .i64 (i : Int), .int .i64 (j : Int), .int .i64 x.amt, .int .i64 x.hei, .int .i64 x.due, .int .i64 x.h0, .int .i64 x.h1] 45)
  have q0' := (hbn.cell (p := ⟨w7.heap.size, 7 + j * 5, none⟩) hz8).trans q0
  have q1' := (hbn.cell (p := ⟨w7.heap.size, 7 + j * 5 + 1, none⟩) hz8).trans q1
  have p0' := (hbn.cell (p := ⟨w.heap.size, 7 + j * 5, none⟩) hz8').trans p0
  have p1' := (hbn.cell (p := ⟨w.heap.size, 7 + j * 5 + 1, none⟩) hz8').trans p1
  have HB9 := hide (HB8.out.trans (hbn.mono (by omega)))
  obtain ⟨_, z1, z2, z3, _, _, _, _⟩ := YY.cells
  have hz9 := YY.lt
  have hz9a : w7.heap.size < (w8.alloc (.cells #[.int .i64 x.num, .int .i64 (i : Int), .int .i64 (j : Int), .int .i64 x.amt, .int .i64 x.hei, .int .i64 x.due, .int .i64 x.h0, .int .i64 x.h1] 45)).heap.size := by omega
  have hz9b : w.heap.size < (w8.alloc (.cells #[.int .i64 x.num, .int .i64 (i : Int), .int .i64 (j : Int), .int .i64 x.amt, .int .i64 x.hei, .int .i64 x.due, .int .i64 x.h0, .int .i64 x.h1] 45)).heap.size := by omega
  clear YY hbn q0 q1 p0 p1 y0 y1 y2 y3 y4 y5 y6 y7 x7 HB8
  generalize w8.alloc (.cells #[.int .i64 x.num, .int .i64 (i : Int), .int .i64 (j : Int), .int .i64 x.amt, .int .i64 x.hei, .int .i64 x.due, .int .i64 x.h0, .int .i64 x.h1] 45) = w9 at *
  generalize x.amt = am at *
  go_quiet (fail)
  go_wp2
  go_ret
  exact ⟨rfl, ⟨HB9.out.os, HB9.out.tape, HB9.out.output, HB9.out.size, HB9.out.block⟩⟩
end Go.Proofs.Ytookecjeknphead
