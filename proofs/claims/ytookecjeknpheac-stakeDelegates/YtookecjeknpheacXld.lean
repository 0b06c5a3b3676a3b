/- The reference's Delegate. StakeDelegates: the law's walk. -/
import Derived.Test.YtookecjeknpheacXtc
import Derived.Test.YtookecjeknpheacXtd
import Derived.Test.YtookecjeknpheacXsb
import Derived.Test.YtookecjeknpheacXsa
import Derived.Test.YtookecjeknpheacXtb
import Derived.Test.YtookecjeknpheacXta
import Derived.Deep.RegionHeld3
set_option maxRecDepth 100000
namespace Go.Proofs.Ytookecjeknpheac
open Go.RowKit
theorem rmuldiv_any (a b c : Int) (w : World) (a1 : a ≤ 9223372036854775807) (b1 : b ≤ 9223372036854775807) (c1 : c ≤ 9223372036854775807) :
    Calls Try.prog 48 #[.int .i64 a, .int .i64 b, .int .i64 c] w fun e w' => e = .returned (.tuple #[.int .i64 (mdN a b c), .int .i64 (mdE a b c)]) ∧ Below w.heap.size w w' := Ra.refmd a b c a1 b1 c1 w
set_option maxHeartbeats 4000000 in
theorem rdeleg_no (s : St) (ao : Option Addr) (sb so c : Nat) (d v n : Int) (w : World) (hW : WsAt w ao sb so s.W) (r : St × Int) (h0 : refOfE s d v ≠ 0) (hr : r = (s, refOfE s d v)) :
    Calls Try.prog 18 #[.agg (stC s (.slice ao s.W.length c)), .int .i64 d, .int .i64 v, .int .i64 n] w fun e w' => Answers w.heap.size w r e w' := by
  have SS := (SAt.new w (stC s (.slice ao s.W.length c))).alloc (.cells Z63 43)
  have RR := SAt.new2 w (.cells (stC s (.slice ao s.W.length c)) 43) Z63
  have HB : Hid (Below w.heap.size w ((w.alloc (.cells (stC s (.slice ao s.W.length c)) 43)).alloc (.cells Z63 43))) := ((Below.refl _ w).alloc (Nat.le_refl _) _).alloc (by simp) _
  have HW := hide hW
  have HR := hide hr
  have hsm := fun w h => some_any s ao sb so c d v w h
  clear hW hr
  go_enter Try.func18, Try.ntmps18
  go_upto_region 1 with fail
  change Code.wp Try.prog _ _ _ ((w.alloc (.cells (stC s (.slice ao s.W.length c)) 43)).alloc (.cells Z63 43))
  generalize (w.alloc (.cells (stC s (.slice ao s.W.length c)) 43)).alloc (.cells Z63 43) = w0 at *
  apply wp_region_lit
  refine wpList_load_mid rfl 43 _ rfl _ 0 rfl _ _ SS.range Try.underlying43 rfl (by rw [infoS]; rfl) ?_
  go_upto_region 3 with (go_at_call 47; refine (hsm _ (by exact HW.out.over HB.out)).mono ?_; rintro e w1 ⟨rfl, h1⟩)
  have HB1 := hide (HB.out.trans (h1.mono HB.out.size))
  have S1 := SS.later h1 SS.lt
  have R1 := RR.later h1 RR.lt
  apply wp_region_lit
  refine wpList_load_mid rfl 43 _ rfl _ 0 rfl _ _ S1.range Try.underlying43 rfl (by rw [infoS]; rfl) ?_
  refine wpList_mv rfl _ rfl ?_
  refine wpList_store_mid rfl 43 _ _ rfl _ 0 (stC s (.slice ao s.W.length c)) rfl rfl (R1.there 0 _ (by rw [Z63_size, stC_size]; omega)) (by rw [infoS]; rfl) (stC_one _ _ _ _) ?_
  go_wp2
  exact stake_endx Try.results18 R1 rfl HB1.out (by omega) s ao sb so c _ r HR.out (HW.out.over HB1.out) (fun h => by have := HW.out.lt h; omega) _ rfl rfl rfl
set_option maxHeartbeats 4000000 in
theorem rdeleg_yes (s : St) (ao : Option Addr) (sb so c d v : Nat) (n : Int) (w : World) (hW : WsAt w ao sb so s.W) (r : St × Int) (hg : goodS s = true) (hd : d < 4) (hv : v < 6) (B : Bk) (er : Int)
    (hBond : ∀ w : World, Calls Try.prog 49 #[.agg #[.int .i64 s.b.f0, .int .i64 s.b.f1, .int .i64 s.b.f2, .int .i64 s.b.f3, .int .i64 s.b.bo, .int .i64 s.b.wa, .int .i64 s.b.bu], .int .i64 (d : Int), .int .i64 n] w fun e w' => e = .returned (.tuple #[.agg #[.int .i64 B.f0, .int .i64 B.f1, .int .i64 B.f2, .int .i64 B.f3, .int .i64 B.bo, .int .i64 B.wa, .int .i64 B.bu], .int .i64 er]) ∧ Below w.heap.size w w')
    (h1 : (s.V v).dead = true → r = (s, 15)) (h2 : (s.V v).dead = false → (decide (0 < n) && inA n) = false → r = (s, 2))
    (h3 : (s.V v).dead = false → (decide (0 < n) && inA n) = true → shE (s.V v) n ≠ 0 → r = (s, shE (s.V v) n))
    (h4 : (s.V v).dead = false → (decide (0 < n) && inA n) = true → shE (s.V v) n = 0 → er ≠ 0 → r = (s, er))
    (h5 : (s.V v).dead = false → (decide (0 < n) && inA n) = true → shE (s.V v) n = 0 → er = 0 → r = (addS { s with b := B } d v n (shN (s.V v) n), 0)) :
    Calls Try.prog 18 #[.agg (stC s (.slice ao s.W.length c)), .int .i64 (d : Int), .int .i64 (v : Int), .int .i64 n] w fun e w' => Answers w.heap.size w r e w' := by
  have SS := (SAt.new w (stC s (.slice ao s.W.length c))).alloc (.cells Z63 43)
  have RR := SAt.new2 w (.cells (stC s (.slice ao s.W.length c)) 43) Z63
  have HB : Hid (Below w.heap.size w ((w.alloc (.cells (stC s (.slice ao s.W.length c)) 43)).alloc (.cells Z63 43))) := ((Below.refl _ w).alloc (Nat.le_refl _) _).alloc (by simp) _
  have HW := hide hW
  have H1 := hide h1
  have H2 := hide h2
  have H3 := hide h3
  have H4 := hide h4
  have H5 := hide h5
  obtain ⟨hvo, hps⟩ := good_vals hg v hv
  obtain ⟨k1, k2, _⟩ := vOk_amounts hvo
  rw [inA_iff] at k1 k2
  have hRf := ref_of_good hg hd hv
  have hd' : (d : Int) < 4 := by omega
  have hv' : (v : Int) < 6 := by omega
  have hd0 : (0 : Int) ≤ (d : Int) := by omega
  have hv0 : (0 : Int) ≤ (v : Int) := by omega
  have hsm := fun w h => some_any s ao sb so c d v w h
  clear hW h1 h2 h3 h4 h5
  go_enter Try.func18, Try.ntmps18
  go_upto_region 1 with fail
  change Code.wp Try.prog _ _ _ ((w.alloc (.cells (stC s (.slice ao s.W.length c)) 43)).alloc (.cells Z63 43))
  generalize (w.alloc (.cells (stC s (.slice ao s.W.length c)) 43)).alloc (.cells Z63 43) = w0 at *
  apply wp_region_lit
  refine wpList_load_mid rfl 43 _ rfl _ 0 rfl _ _ SS.range Try.underlying43 rfl (by rw [infoS]; rfl) ?_
  go_upto_region 4 with (go_at_call 47; refine (hsm _ (by exact HW.out.over HB.out)).mono ?_; rintro e w1 ⟨rfl, h1⟩)
  have HB1 := hide (HB.out.trans (h1.mono HB.out.size))
  have S1 := SS.later h1 SS.lt
  have R1 := RR.later h1 RR.lt
  have hz1 : w.heap.size + 1 < w1.heap.size := R1.lt
  obtain ⟨c0, c1, c2, c3, c4⟩ := S1.val v hv
  clear SS RR h1 HB hsm hRf
  go_upto_region 5 with fail
  have V2 : VAt (w1.alloc (.cells #[.int .i64 (s.V v).tok, .int .i64 (s.V v).sh, .int .i64 (s.V v).lost, .bool (s.V v).jail, .bool (s.V v).dead] 37)) w1.heap.size (s.V v) := heap_alloc_new _ _
  have S2 := S1.alloc (.cells #[.int .i64 (s.V v).tok, .int .i64 (s.V v).sh, .int .i64 (s.V v).lost, .bool (s.V v).jail, .bool (s.V v).dead] 37)
  have R2 := R1.alloc (.cells #[.int .i64 (s.V v).tok, .int .i64 (s.V v).sh, .int .i64 (s.V v).lost, .bool (s.V v).jail, .bool (s.V v).dead] 37)
  have HB2 := hide (HB1.out.alloc (by omega) (.cells #[.int .i64 (s.V v).tok, .int .i64 (s.V v).sh, .int .i64 (s.V v).lost, .bool (s.V v).jail, .bool (s.V v).dead] 37))
  generalize w1.alloc (.cells #[.int .i64 (s.V v).tok, .int .i64 (s.V v).sh, .int .i64 (s.V v).lost, .bool (s.V v).jail, .bool (s.V v).dead] 37) = w2 at *
  clear S1 R1 HB1 c0 c1 c2 c3 c4
  obtain ⟨x0, x1, x2, x3, x4, x5, x6, _, _⟩ := st_cells S2
  obtain ⟨e0, e1, e2, e3, e4⟩ := V2.cells
  have hz2 : w.heap.size + 1 < w2.heap.size := R2.lt
  have hy2 : w1.heap.size < w2.heap.size := V2.lt
  have HN := hide (shN_eq (s.V v) n)
  have HE := hide (shE_eq (s.V v) n)
  have hM := fun w (hn : n ≤ 1125899906842624) => rmuldiv_any n (s.V v).sh (s.V v).tok w (by omega) (by omega) (by omega)
  have hmb := mdN_bound n (s.V v).sh (s.V v).tok
  have HT : Hid ((decide (0 < n) && inA n) = true ↔ (1 ≤ n ∧ n ≤ 1125899906842624)) := by constructor <;> intro h <;> simp only [Bool.and_eq_true, decide_eq_true_eq, inA_iff] at * <;> omega
  have HI : Hid (inA ((s.V v).sh + mdN n (s.V v).sh (s.V v).tok) = true ↔ (s.V v).sh + mdN n (s.V v).sh (s.V v).tok ≤ 1125899906842624) := by rw [inA_iff]; exact ⟨fun h => h.2, fun h => ⟨by omega, h⟩⟩
  generalize (decide (0 < n) && inA n) = t at *
  generalize mdN n (s.V v).sh (s.V v).tok = m at *
  generalize mdE n (s.V v).sh (s.V v).tok = me at *
  generalize inA ((s.V v).sh + m) = ti at *
  generalize hsn : shN (s.V v) n = sN at *
  generalize hse : shE (s.V v) n = sE at *
  generalize hxd : (s.V v).dead = dd at *
  generalize hxs : (s.V v).sh = xs at *
  generalize hxt : (s.V v).tok = xt at *
  have HXS := hide hxs
  have HXT := hide hxt
  clear hsn hse hxd hxs hxt e2 e3
  go_upto_region 22 with (first
    | (go_at_call 48; refine (hM _ (by omega)).mono ?_; rintro e w3 ⟨rfl, h3⟩; have HB3 := hide (HB2.out.trans (h3.mono (by omega))); have S3 := S2.later h3 S2.lt; have R3 := R2.later h3 R2.lt; have V3 := V2.later h3 V2.lt; have hz3 : w.heap.size + 1 < w3.heap.size := R3.lt; have hy3 : w1.heap.size < w3.heap.size := V3.lt; have g1 := V3.cells.2.1; rw [HXS.out] at g1; clear x0 x1 x2 x3 x4 x5 x6; obtain ⟨x0, x1, x2, x3, x4, x5, x6, _, _⟩ := st_cells S3; clear h3 V3)
    | (go_at_call 49; refine (hBond _).mono ?_; rintro e w4 ⟨rfl, h4⟩; (first | (have HB4 := hide (HB3.out.trans (h4.mono (by omega))); have S4 := S3.later h4 S3.lt; have R4 := R3.later h4 R3.lt) | (have HB4 := hide (HB2.out.trans (h4.mono (by omega))); have S4 := S2.later h4 S2.lt; have R4 := R2.later h4 R2.lt)); have hz4 : w.heap.size + 1 < w4.heap.size := R4.lt; have S5 := S4.alloc (.cells #[.int .i64 B.f0, .int .i64 B.f1, .int .i64 B.f2, .int .i64 B.f3, .int .i64 B.bo, .int .i64 B.wa, .int .i64 B.bu] 24); have R5 := R4.alloc (.cells #[.int .i64 B.f0, .int .i64 B.f1, .int .i64 B.f2, .int .i64 B.f3, .int .i64 B.bo, .int .i64 B.wa, .int .i64 B.bu] 24); have HB5 := hide (HB4.out.alloc (by omega) (.cells #[.int .i64 B.f0, .int .i64 B.f1, .int .i64 B.f2, .int .i64 B.f3, .int .i64 B.bo, .int .i64 B.wa, .int .i64 B.bu] 24)); have B5 := BAt.new w4 B.f0 B.f1 B.f2 B.f3 B.bo B.wa B.bu; clear h4 x0 x1 x2 x3 x4 x5 x6 S4 R4)
    | ((fail_if_success (go_not_at_region 6)); apply wp_region_lit; refine wpList_load_mid rfl 43 _ rfl _ 0 rfl _ _ S2.range Try.underlying43 rfl (by rw [infoS]; rfl) ?_; refine wpList_store_mid rfl 43 _ _ rfl _ 0 (stC s (.slice ao s.W.length c)) rfl rfl (R2.there 0 _ (by rw [Z63_size, stC_size]; omega)) (by rw [infoS]; rfl) (stC_one _ _ _ _) ?_)
    | ((fail_if_success (go_not_at_region 8)); apply wp_region_lit; refine wpList_load_mid rfl 43 _ rfl _ 0 rfl _ _ S2.range Try.underlying43 rfl (by rw [infoS]; rfl) ?_; refine wpList_store_mid rfl 43 _ _ rfl _ 0 (stC s (.slice ao s.W.length c)) rfl rfl (R2.there 0 _ (by rw [Z63_size, stC_size]; omega)) (by rw [infoS]; rfl) (stC_one _ _ _ _) ?_)
    | ((fail_if_success (go_not_at_region 12)); apply wp_region_lit; refine wpList_load_mid rfl 43 _ rfl _ 0 rfl _ _ S2.range Try.underlying43 rfl (by rw [infoS]; rfl) ?_; refine wpList_store_mid rfl 43 _ _ rfl _ 0 (stC s (.slice ao s.W.length c)) rfl rfl (R2.there 0 _ (by rw [Z63_size, stC_size]; omega)) (by rw [infoS]; rfl) (stC_one _ _ _ _) ?_)
    | ((fail_if_success (go_not_at_region 16)); apply wp_region_lit; refine wpList_load_mid rfl 43 _ rfl _ 0 rfl _ _ S3.range Try.underlying43 rfl (by rw [infoS]; rfl) ?_; refine wpList_store_mid rfl 43 _ _ rfl _ 0 (stC s (.slice ao s.W.length c)) rfl rfl (R3.there 0 _ (by rw [Z63_size, stC_size]; omega)) (by rw [infoS]; rfl) (stC_one _ _ _ _) ?_)
    | ((fail_if_success (go_not_at_region 18)); apply wp_region_lit; refine wpList_load_mid rfl 43 _ rfl _ 0 rfl _ _ S3.range Try.underlying43 rfl (by rw [infoS]; rfl) ?_; refine wpList_store_mid rfl 43 _ _ rfl _ 0 (stC s (.slice ao s.W.length c)) rfl rfl (R3.there 0 _ (by rw [Z63_size, stC_size]; omega)) (by rw [infoS]; rfl) (stC_one _ _ _ _) ?_)
    | ((fail_if_success (go_not_at_region 18)); apply wp_region_lit; refine wpList_load_mid rfl 43 _ rfl _ 0 rfl _ _ S2.range Try.underlying43 rfl (by rw [infoS]; rfl) ?_; refine wpList_store_mid rfl 43 _ _ rfl _ 0 (stC s (.slice ao s.W.length c)) rfl rfl (R2.there 0 _ (by rw [Z63_size, stC_size]; omega)) (by rw [infoS]; rfl) (stC_one _ _ _ _) ?_)
    | ((fail_if_success (go_not_at_region 21)); apply wp_region_lit; refine wpList_load_mid rfl 43 _ rfl _ 0 rfl _ _ S5.range Try.underlying43 rfl (by rw [infoS]; rfl) ?_; refine wpList_mv rfl _ rfl ?_; refine wpList_store_mid rfl 43 _ _ rfl _ 0 (stC s (.slice ao s.W.length c)) rfl rfl (R5.there 0 _ (by rw [Z63_size, stC_size]; omega)) (by rw [infoS]; rfl) (stC_one _ _ _ _) ?_))
  · exact stake_endx Try.results18 R2 rfl HB2.out (by omega) s ao sb so c _ r (H1.out ‹dd = true›) (HW.out.over HB2.out) (fun h => by have := HW.out.lt h; omega) _ rfl rfl rfl
  · have ht : t = false := Bool.eq_false_iff.2 (fun h => by have := HT.out.1 h; omega)
    exact stake_endx Try.results18 R2 rfl HB2.out (by omega) s ao sb so c _ r (H2.out ‹dd = false› ht) (HW.out.over HB2.out) (fun h => by have := HW.out.lt h; omega) _ rfl rfl rfl
  · have ht : t = true := HT.out.2 (by omega)
    have hE : sE = 8 := by have n1 : ¬ xs = 0 := (by simpa using ‹(xs != 0) = true›); rw [HE.out, if_neg n1, if_pos (by simpa using ‹(xt == 0) = true›)]
    exact stake_endx Try.results18 R2 rfl HB2.out (by omega) s ao sb so c _ r (by rw [H3.out ‹dd = false› ht (by omega), hE]) (HW.out.over HB2.out) (fun h => by have := HW.out.lt h; omega) _ rfl rfl rfl
  · have ht : t = true := HT.out.2 (by omega)
    have hE : sE = 6 := by have n1 : ¬ xs = 0 := (by simpa using ‹(xs != 0) = true›); have n2 : ¬ xt = 0 := (by simpa using ‹(xt == 0) = false›); rw [HE.out, if_neg n1, if_neg n2, if_neg (fun h => by have := HI.out.1 h.2; omega)]
    exact stake_endx Try.results18 R3 rfl HB3.out (by omega) s ao sb so c _ r (by rw [H3.out ‹dd = false› ht (by omega), hE]) (HW.out.over HB3.out) (fun h => by have := HW.out.lt h; omega) _ rfl rfl rfl
  · have ht : t = true := HT.out.2 (by omega)
    have hE : sE = 8 := by have n1 : ¬ xs = 0 := (by simpa using ‹(xs != 0) = true›); have n2 : ¬ xt = 0 := (by simpa using ‹(xt == 0) = false›); rw [HE.out, if_neg n1, if_neg n2, if_pos ⟨by omega, HI.out.2 (by omega)⟩, if_pos (by omega)]
    exact stake_endx Try.results18 R3 rfl HB3.out (by omega) s ao sb so c _ r (by rw [H3.out ‹dd = false› ht (by omega), hE]) (HW.out.over HB3.out) (fun h => by have := HW.out.lt h; omega) _ rfl rfl rfl
  · have ht : t = true := HT.out.2 (by omega)
    have hE : sE = 0 := by have n1 : ¬ xs = 0 := (by simpa using ‹(xs != 0) = true›); have n2 : ¬ xt = 0 := (by simpa using ‹(xt == 0) = false›); rw [HE.out, if_neg n1, if_neg n2, if_pos ⟨by omega, HI.out.2 (by omega)⟩, if_neg (by omega)]
    exact stake_endx Try.results18 R5 rfl HB5.out (by omega) s ao sb so c _ r (H4.out ‹dd = false› ht hE (by simpa using ‹(er != 0) = true›)) (HW.out.over HB5.out) (fun h => by have := HW.out.lt h; omega) _ rfl rfl rfl
  · have ht : t = true := HT.out.2 (by omega)
    have hE : sE = 0 := by have n1 : ¬ xs = 0 := (by simpa using ‹(xs != 0) = true›); have n2 : ¬ xt = 0 := (by simpa using ‹(xt == 0) = false›); rw [HE.out, if_neg n1, if_neg n2, if_pos ⟨by omega, HI.out.2 (by omega)⟩, if_neg (by omega)]
    have hN : sN = m := by have n1 : ¬ xs = 0 := (by simpa using ‹(xs != 0) = true›); have n2 : ¬ xt = 0 := (by simpa using ‹(xt == 0) = false›); rw [HN.out, if_neg n1, if_neg n2, if_pos ⟨by omega, HI.out.2 (by omega)⟩]
    have hr := H5.out ‹dd = false› ht hE (by simpa using ‹(er != 0) = false›)
    rw [hN] at hr
    have HR := hide hr
    clear hr
    have k4 := psh_at hps hd
    rw [inA_iff] at k4
    have k1' := k1
    have k2' := k2
    rw [← HXT.out] at k1'
    rw [← HXS.out] at k2'
    clear H1 H2 H3 H4 H5 hM HN HE HT HI hBond
    apply wp_region_lit
    refine wpList_load_mid rfl 43 _ rfl _ 0 rfl _ _ S5.range Try.underlying43 rfl (by rw [infoS]; rfl) ?_
    go_step
    go_step
    refine (copy_st s ao sb so c _ (by exact HW.out.over HB5.out)).mono ?_
    rintro e w6 ⟨A, C, g, rfl, hWg, hgz, h6⟩
    dsimp only
    have R6 := R5.later h6 R5.lt
    have B6 := B5.later h6 B5.lt
    have HB6 := hide (HB5.out.trans (h6.mono HB5.out.size))
    have hz6 : w.heap.size + 1 < w6.heap.size := R6.lt
    have hq6 : w4.heap.size < w6.heap.size := B6.lt
    have hW6 := hWg.lt
    go_step
    go_step
    go_step
    go_step
    refine wpList_store_mid rfl 43 _ _ rfl _ 0 (stC s (.slice A s.W.length C)) rfl rfl ((SAt.new w6 Z63).there 0 _ (by rw [Z63_size, stC_size]; omega)) (by rw [infoS]; rfl) (stC_one _ _ _ _) ?_
    change wpList Try.prog _ _ _ _ ((w6.alloc (.cells Z63 43)).setCells w6.heap.size 0 (stC s (.slice A s.W.length C)).toList)
    have S7 := (SAt.new w6 Z63).setAll (ds := stC s (.slice A s.W.length C)) rfl
    have R7 : SAt ((w6.alloc (.cells Z63 43)).setCells w6.heap.size 0 (stC s (.slice A s.W.length C)).toList) (w.heap.size + 1) Z63 := (heap_sets (by omega) _ _ _).trans (R6.alloc _)
    have B7 : BAt ((w6.alloc (.cells Z63 43)).setCells w6.heap.size 0 (stC s (.slice A s.W.length C)).toList) w4.heap.size B.f0 B.f1 B.f2 B.f3 B.bo B.wa B.bu := (heap_sets (by omega) _ _ _).trans (B6.alloc _)
    have HB7 := hide (below_sets (b := w6.heap.size) (by omega) (stC s (.slice A s.W.length C)).toList 0 _ (HB6.out.alloc (by omega) (.cells Z63 43)))
    have W7 := (hWg.alloc (.cells Z63 43)).sets (g := w6.heap.size) (fun h => by have := hW6 h; omega) (stC s (.slice A s.W.length C)).toList 0
    generalize (w6.alloc (.cells Z63 43)).setCells w6.heap.size 0 (stC s (.slice A s.W.length C)).toList = w7 at *
    clear S5 R5 B5 R6 B6 HB5 HB6 h6 hWg
    obtain ⟨x0, x1, x2, x3, x4, x5, x6, _, _⟩ := st_cells S7
    obtain ⟨y0, y1, y2, y3, y4, y5, y6⟩ := B7.cells
    have f0 := S7.free 0
    have f1 := S7.free 1
    have f2 := S7.free 2
    have f3 := S7.free 3
    have f4 := S7.free 4
    have f5 := S7.free 5
    have f6 := S7.free 6
    have hne : w4.heap.size ≠ w6.heap.size := by omega
    go_upto_region 24 with fail
    change Code.wp Try.prog _ _ _ (bset w7 w6.heap.size B)
    have S8 := set_bank S7 B
    have R8 := R7.bset (b := w6.heap.size) (by omega) B
    have HB8 := hide (bset_below (b := w6.heap.size) HB7.out (by omega) B)
    have W8 := ((((((W7.set (g := w6.heap.size) (p := 0) (v := .int .i64 B.f0) (fun h => by have := hW6 h; omega)).set (g := w6.heap.size) (p := 1) (v := .int .i64 B.f1) (fun h => by have := hW6 h; omega)).set (g := w6.heap.size) (p := 2) (v := .int .i64 B.f2) (fun h => by have := hW6 h; omega)).set (g := w6.heap.size) (p := 3) (v := .int .i64 B.f3) (fun h => by have := hW6 h; omega)).set (g := w6.heap.size) (p := 4) (v := .int .i64 B.bo) (fun h => by have := hW6 h; omega)).set (g := w6.heap.size) (p := 5) (v := .int .i64 B.wa) (fun h => by have := hW6 h; omega)).set (g := w6.heap.size) (p := 6) (v := .int .i64 B.bu) (fun h => by have := hW6 h; omega)
    change WsAt (bset w7 w6.heap.size B) _ _ _ _ at W8
    generalize bset w7 w6.heap.size B = w8 at *
    clear x0 x1 x2 x3 x4 x5 x6 y0 y1 y2 y3 y4 y5 y6 f0 f1 f2 f3 f4 f5 f6 S7 R7 B7 HB7 W7
    have HBut0 := hide (But.refl w6.heap.size w8)
    obtain ⟨c0, c1, _, _, _⟩ := S8.val v hv
    have f0 := S8.free (7 + v * 5)
    have HXT2 : Hid (xt = (s.V v).tok) := HXT.out.symm
    simp only at c0 c1
    go_upto_region 25 with fail
    have S9 := S8.set (7 + v * 5) (.int .i64 ((s.V v).tok + n))
    rw [set_tok _ _ v hv] at S9
    have HBut1 := hide (HBut0.out.set (7 + v * 5) (.int .i64 ((s.V v).tok + n)))
    generalize w8.setCell ⟨w6.heap.size, 7 + v * 5, none⟩ (.int .i64 ((s.V v).tok + n)) = w9 at *
    clear c0 c1 f0
    obtain ⟨_, c1, _, _, _⟩ := S9.val v hv
    simp only [setV_at] at c1
    have f0 := S9.free (7 + v * 5 + 1)
    go_upto_region 26 with fail
    have S10 := S9.set (7 + v * 5 + 1) (.int .i64 ((s.V v).sh + m))
    rw [set_sh _ _ v hv] at S10
    have HBut2 := hide (HBut1.out.set (7 + v * 5 + 1) (.int .i64 ((s.V v).sh + m)))
    generalize w9.setCell ⟨w6.heap.size, 7 + v * 5 + 1, none⟩ (.int .i64 ((s.V v).sh + m)) = w10 at *
    clear c1 f0 S9 HBut1
    have c0 := S10.shr d v hd hv
    have f0 := S10.free (37 + d * 6 + v)
    have S11 := S10.set (37 + d * 6 + v) (.int .i64 (s.S d v + m))
    rw [set_shr _ _ d v hd hv] at S11
    have HS11 : Hid (SAt (w10.setCell ⟨w6.heap.size, 37 + d * 6 + v, none⟩ (.int .i64 (s.S d v + m))) w6.heap.size (stC (addS { s with b := B } d v n m) (.slice A s.W.length C))) := by rw [add_eq]; exact S11
    have HBut3 := hide (HBut2.out.set (37 + d * 6 + v) (.int .i64 (s.S d v + m)))
    clear S10 S11 HBut2
    simp only at c0
    go_region
    have S12 : SAt (w10.setCell ⟨w6.heap.size, 37 + d * 6 + v, none⟩ (.int .i64 (s.S d v + m))).drew w6.heap.size (stC (addS { s with b := B } d v n m) (.slice A s.W.length C)) := HS11.out
    have hBut := HBut3.out.drew
    have R12 := hBut.stake (by omega) R8
    have W12 := W8.but hBut (fun h => by have := hW6 h; omega)
    have HB12 := hide (HB8.out.trans (hBut.below (by omega)))
    generalize (w10.setCell ⟨w6.heap.size, 37 + d * 6 + v, none⟩ (.int .i64 (s.S d v + m))).drew = w12 at *
    clear c0 f0
    go_upto_region 27 with fail
    apply wp_region_lit
    refine wpList_load_mid rfl 43 _ rfl _ 0 rfl _ _ S12.range Try.underlying43 rfl (by rw [infoS]; rfl) ?_
    refine wpList_store_mid rfl 43 _ _ rfl _ 0 (stC (addS { s with b := B } d v n m) (.slice A s.W.length C)) rfl rfl (R12.there 0 _ (by rw [Z63_size, stC_size]; omega)) (by rw [infoS]; rfl) (stC_one _ _ _ _) ?_
    go_wp2
    exact stake_endx Try.results18 R12 rfl HB12.out (by omega) (addS { s with b := B } d v n m) A g 0 C _ r HR.out W12 (fun h => by have h1 := hgz h; simp at h1; omega) _ rfl rfl rfl
  · have ht : t = true := HT.out.2 (by omega)
    have hE : sE = 6 := by have n1 : ¬ xs = 0 := (by simpa using ‹(xs != 0) = true›); have n2 : ¬ xt = 0 := (by simpa using ‹(xt == 0) = false›); rw [HE.out, if_neg n1, if_neg n2, if_neg (fun h => absurd h.1 ‹¬ me = 0›)]
    exact stake_endx Try.results18 R3 rfl HB3.out (by omega) s ao sb so c _ r (by rw [H3.out ‹dd = false› ht (by omega), hE]) (HW.out.over HB3.out) (fun h => by have := HW.out.lt h; omega) _ rfl rfl rfl
  · have ht : t = true := HT.out.2 (by omega)
    have hE : sE = 0 := by rw [HE.out, if_pos (by simpa using ‹(xs != 0) = false›)]
    exact stake_endx Try.results18 R5 rfl HB5.out (by omega) s ao sb so c _ r (H4.out ‹dd = false› ht hE (by simpa using ‹(er != 0) = true›)) (HW.out.over HB5.out) (fun h => by have := HW.out.lt h; omega) _ rfl rfl rfl
  · have ht : t = true := HT.out.2 (by omega)
    have hE : sE = 0 := by rw [HE.out, if_pos (by simpa using ‹(xs != 0) = false›)]
    have hN : sN = n := by rw [HN.out, if_pos (by simpa using ‹(xs != 0) = false›)]
    have hr := H5.out ‹dd = false› ht hE (by simpa using ‹(er != 0) = false›)
    rw [hN] at hr
    have HR := hide hr
    clear hr
    have k4 := psh_at hps hd
    rw [inA_iff] at k4
    have k1' := k1
    have k2' := k2
    rw [← HXT.out] at k1'
    rw [← HXS.out] at k2'
    clear H1 H2 H3 H4 H5 hM HN HE HT HI hBond
    apply wp_region_lit
    refine wpList_load_mid rfl 43 _ rfl _ 0 rfl _ _ S5.range Try.underlying43 rfl (by rw [infoS]; rfl) ?_
    go_step
    go_step
    refine (copy_st s ao sb so c _ (by exact HW.out.over HB5.out)).mono ?_
    rintro e w6 ⟨A, C, g, rfl, hWg, hgz, h6⟩
    dsimp only
    have R6 := R5.later h6 R5.lt
    have B6 := B5.later h6 B5.lt
    have HB6 := hide (HB5.out.trans (h6.mono HB5.out.size))
    have hz6 : w.heap.size + 1 < w6.heap.size := R6.lt
    have hq6 : w4.heap.size < w6.heap.size := B6.lt
    have hW6 := hWg.lt
    go_step
    go_step
    go_step
    go_step
    refine wpList_store_mid rfl 43 _ _ rfl _ 0 (stC s (.slice A s.W.length C)) rfl rfl ((SAt.new w6 Z63).there 0 _ (by rw [Z63_size, stC_size]; omega)) (by rw [infoS]; rfl) (stC_one _ _ _ _) ?_
    change wpList Try.prog _ _ _ _ ((w6.alloc (.cells Z63 43)).setCells w6.heap.size 0 (stC s (.slice A s.W.length C)).toList)
    have S7 := (SAt.new w6 Z63).setAll (ds := stC s (.slice A s.W.length C)) rfl
    have R7 : SAt ((w6.alloc (.cells Z63 43)).setCells w6.heap.size 0 (stC s (.slice A s.W.length C)).toList) (w.heap.size + 1) Z63 := (heap_sets (by omega) _ _ _).trans (R6.alloc _)
    have B7 : BAt ((w6.alloc (.cells Z63 43)).setCells w6.heap.size 0 (stC s (.slice A s.W.length C)).toList) w4.heap.size B.f0 B.f1 B.f2 B.f3 B.bo B.wa B.bu := (heap_sets (by omega) _ _ _).trans (B6.alloc _)
    have HB7 := hide (below_sets (b := w6.heap.size) (by omega) (stC s (.slice A s.W.length C)).toList 0 _ (HB6.out.alloc (by omega) (.cells Z63 43)))
    have W7 := (hWg.alloc (.cells Z63 43)).sets (g := w6.heap.size) (fun h => by have := hW6 h; omega) (stC s (.slice A s.W.length C)).toList 0
    generalize (w6.alloc (.cells Z63 43)).setCells w6.heap.size 0 (stC s (.slice A s.W.length C)).toList = w7 at *
    clear S5 R5 B5 R6 B6 HB5 HB6 h6 hWg
    obtain ⟨x0, x1, x2, x3, x4, x5, x6, _, _⟩ := st_cells S7
    obtain ⟨y0, y1, y2, y3, y4, y5, y6⟩ := B7.cells
    have f0 := S7.free 0
    have f1 := S7.free 1
    have f2 := S7.free 2
    have f3 := S7.free 3
    have f4 := S7.free 4
    have f5 := S7.free 5
    have f6 := S7.free 6
    have hne : w4.heap.size ≠ w6.heap.size := by omega
    go_upto_region 24 with fail
    change Code.wp Try.prog _ _ _ (bset w7 w6.heap.size B)
    have S8 := set_bank S7 B
    have R8 := R7.bset (b := w6.heap.size) (by omega) B
    have HB8 := hide (bset_below (b := w6.heap.size) HB7.out (by omega) B)
    have W8 := ((((((W7.set (g := w6.heap.size) (p := 0) (v := .int .i64 B.f0) (fun h => by have := hW6 h; omega)).set (g := w6.heap.size) (p := 1) (v := .int .i64 B.f1) (fun h => by have := hW6 h; omega)).set (g := w6.heap.size) (p := 2) (v := .int .i64 B.f2) (fun h => by have := hW6 h; omega)).set (g := w6.heap.size) (p := 3) (v := .int .i64 B.f3) (fun h => by have := hW6 h; omega)).set (g := w6.heap.size) (p := 4) (v := .int .i64 B.bo) (fun h => by have := hW6 h; omega)).set (g := w6.heap.size) (p := 5) (v := .int .i64 B.wa) (fun h => by have := hW6 h; omega)).set (g := w6.heap.size) (p := 6) (v := .int .i64 B.bu) (fun h => by have := hW6 h; omega)
    change WsAt (bset w7 w6.heap.size B) _ _ _ _ at W8
    generalize bset w7 w6.heap.size B = w8 at *
    clear x0 x1 x2 x3 x4 x5 x6 y0 y1 y2 y3 y4 y5 y6 f0 f1 f2 f3 f4 f5 f6 S7 R7 B7 HB7 W7
    have HBut0 := hide (But.refl w6.heap.size w8)
    obtain ⟨c0, c1, _, _, _⟩ := S8.val v hv
    have f0 := S8.free (7 + v * 5)
    have HXT2 : Hid (xt = (s.V v).tok) := HXT.out.symm
    simp only at c0 c1
    go_upto_region 25 with fail
    have S9 := S8.set (7 + v * 5) (.int .i64 ((s.V v).tok + n))
    rw [set_tok _ _ v hv] at S9
    have HBut1 := hide (HBut0.out.set (7 + v * 5) (.int .i64 ((s.V v).tok + n)))
    generalize w8.setCell ⟨w6.heap.size, 7 + v * 5, none⟩ (.int .i64 ((s.V v).tok + n)) = w9 at *
    clear c0 c1 f0
    obtain ⟨_, c1, _, _, _⟩ := S9.val v hv
    simp only [setV_at] at c1
    have f0 := S9.free (7 + v * 5 + 1)
    go_upto_region 26 with fail
    have S10 := S9.set (7 + v * 5 + 1) (.int .i64 ((s.V v).sh + n))
    rw [set_sh _ _ v hv] at S10
    have HBut2 := hide (HBut1.out.set (7 + v * 5 + 1) (.int .i64 ((s.V v).sh + n)))
    generalize w9.setCell ⟨w6.heap.size, 7 + v * 5 + 1, none⟩ (.int .i64 ((s.V v).sh + n)) = w10 at *
    clear c1 f0 S9 HBut1
    have c0 := S10.shr d v hd hv
    have f0 := S10.free (37 + d * 6 + v)
    have S11 := S10.set (37 + d * 6 + v) (.int .i64 (s.S d v + n))
    rw [set_shr _ _ d v hd hv] at S11
    have HS11 : Hid (SAt (w10.setCell ⟨w6.heap.size, 37 + d * 6 + v, none⟩ (.int .i64 (s.S d v + n))) w6.heap.size (stC (addS { s with b := B } d v n n) (.slice A s.W.length C))) := by rw [add_eq]; exact S11
    have HBut3 := hide (HBut2.out.set (37 + d * 6 + v) (.int .i64 (s.S d v + n)))
    clear S10 S11 HBut2
    simp only at c0
    go_region
    have S12 : SAt (w10.setCell ⟨w6.heap.size, 37 + d * 6 + v, none⟩ (.int .i64 (s.S d v + n))).drew w6.heap.size (stC (addS { s with b := B } d v n n) (.slice A s.W.length C)) := HS11.out
    have hBut := HBut3.out.drew
    have R12 := hBut.stake (by omega) R8
    have W12 := W8.but hBut (fun h => by have := hW6 h; omega)
    have HB12 := hide (HB8.out.trans (hBut.below (by omega)))
    generalize (w10.setCell ⟨w6.heap.size, 37 + d * 6 + v, none⟩ (.int .i64 (s.S d v + n))).drew = w12 at *
    clear c0 f0
    go_upto_region 27 with fail
    apply wp_region_lit
    refine wpList_load_mid rfl 43 _ rfl _ 0 rfl _ _ S12.range Try.underlying43 rfl (by rw [infoS]; rfl) ?_
    refine wpList_store_mid rfl 43 _ _ rfl _ 0 (stC (addS { s with b := B } d v n n) (.slice A s.W.length C)) rfl rfl (R12.there 0 _ (by rw [Z63_size, stC_size]; omega)) (by rw [infoS]; rfl) (stC_one _ _ _ _) ?_
    go_wp2
    exact stake_endx Try.results18 R12 rfl HB12.out (by omega) (addS { s with b := B } d v n n) A g 0 C _ r HR.out W12 (fun h => by have h1 := hgz h; simp at h1; omega) _ rfl rfl rfl
  · have ht : t = false := Bool.eq_false_iff.2 (fun h => by have := HT.out.1 h; omega)
    exact stake_endx Try.results18 R2 rfl HB2.out (by omega) s ao sb so c _ r (H2.out ‹dd = false› ht) (HW.out.over HB2.out) (fun h => by have := HW.out.lt h; omega) _ rfl rfl rfl
theorem rdeleg_any (s : St) (ao : Option Addr) (sb so c : Nat) (d v n : Int) (w : World) (hW : WsAt w ao sb so s.W) :
    Calls Try.prog 18 #[.agg (stC s (.slice ao s.W.length c)), .int .i64 d, .int .i64 v, .int .i64 n] w fun e w' => Answers w.heap.size w (delegS s d v n) e w' := by
  by_cases h : refOfE s d v = 0
  · obtain ⟨hg, ⟨v0, v1⟩, d0, d1⟩ := ref_zero h
    obtain ⟨v, rfl⟩ := Int.eq_ofNat_of_zero_le v0
    obtain ⟨d, rfl⟩ := Int.eq_ofNat_of_zero_le d0
    exact rdeleg_yes s ao sb so c d v n w hW _ hg (by omega) (by omega) _ _ (rbond_any s.b d n) (deleg_dead h) (deleg_range h) (deleg_shE h) (deleg_bond h) (deleg_ok h)
  · exact rdeleg_no s ao sb so c d v n w hW _ h (deleg_ref h)
end Go.Proofs.Ytookecjeknpheac
namespace Go.Proofs.Ytookecjeknpheac
open Go.RowKit
attribute [local go_sem ↓] loadS_eq
theorem deleg_W (s : St) (d v n : Int) : (delegS s d v n).1.W = s.W := by
  unfold delegS
  repeat' split
  all_goals rfl
set_option maxHeartbeats 8000000 in
theorem ldeleg_walk (s : St) (ao : Option Addr) (sb so c : Nat) (d v n : Int) (w : World) (hW : WsAt w ao sb so s.W) :
    Calls Try.prog 5 #[.agg (stC s (.slice ao s.W.length c)), .int .i64 d, .int .i64 v, .int .i64 n] w fun e w' => e = .returned (.bool true) ∧ Below w.heap.size w w' := by
  have S4 := SAt.new w (stC s (.slice ao s.W.length c))
  have HB0 : Hid (Below w.heap.size w (w.alloc (.cells (stC s (.slice ao s.W.length c)) 43))) := (Below.refl _ w).alloc (Nat.le_refl _) _
  have HW := hide hW
  have hD := fun A C g w h => deleg_any s A g 0 C d v n w h
  have hR := fun w h => rdeleg_any s ao sb so c d v n w h
  have HrW := hide (deleg_W s d v n)
  generalize delegS s d v n = r at *
  have hWlt := hW.lt
  clear hW
  go_enter Try.func5, Try.ntmps5
  go_upto_region 1 with fail
  generalize w.alloc (.cells (stC s (.slice ao s.W.length c)) 43) = w0 at *
  have hz0 : w.heap.size < w0.heap.size := S4.lt
  apply wp_region_lit
  refine wpList_load_mid rfl 43 _ rfl _ 0 rfl _ _ S4.range Try.underlying43 rfl (by rw [infoS]; rfl) ?_
  go_step
  go_step
  refine (copy_st s ao sb so c _ (by exact HW.out.over HB0.out)).mono ?_
  rintro e w1 ⟨A, C, g, rfl, hWg, hgz, h1⟩
  dsimp only
  have S4a := S4.later h1 S4.lt
  have HB1 := hide (HB0.out.trans (h1.mono HB0.out.size))
  have hz1 : w.heap.size < w1.heap.size := S4a.lt
  have hWg1 := hWg.lt
  clear h1 S4
  iterate 4 go_step
  refine wpList_store_mid rfl 43 _ _ rfl _ 0 (stC s (.slice A s.W.length C)) rfl rfl ((SAt.new w1 Z63).there 0 _ (by rw [Z63_size, stC_size]; omega)) (by rw [infoS]; rfl) (stC_one _ _ _ _) ?_
  change wpList Try.prog _ _ _ _ ((w1.alloc (.cells Z63 43)).setCells w1.heap.size 0 (stC s (.slice A s.W.length C)).toList)
  have S9 := (SAt.new w1 Z63).setAll (ds := (stC s (.slice A s.W.length C))) rfl
  have S4b : SAt ((w1.alloc (.cells Z63 43)).setCells w1.heap.size 0 (stC s (.slice A s.W.length C)).toList) w.heap.size (stC s (.slice ao s.W.length c)) := (heap_sets (by omega) _ _ _).trans (S4a.alloc _)
  have HB9 := hide (below_sets (b := w1.heap.size) (by omega) (stC s (.slice A s.W.length C)).toList 0 _ (HB1.out.alloc (by omega) (.cells Z63 43)))
  have W9 := (hWg.alloc (.cells Z63 43)).sets (g := w1.heap.size) (fun h => by have := hWg1 h; omega) (stC s (.slice A s.W.length C)).toList 0
  generalize ((w1.alloc (.cells Z63 43)).setCells w1.heap.size 0 (stC s (.slice A s.W.length C)).toList) = w2 at *
  have hz2 : w1.heap.size < w2.heap.size := S9.lt
  clear S4a HB1 hWg
  go_upto_region 2 with fail
  apply wp_region_lit
  refine wpList_load_mid rfl 43 _ rfl _ 0 rfl _ _ S9.range Try.underlying43 rfl (by rw [infoS]; rfl) ?_
  iterate 11 go_step
  refine (hD A C g _ W9).mono ?_
  rintro e w3 ⟨rfl, h3⟩
  dsimp only
  have S4c := S4b.later h3 S4b.lt
  have S9c := S9.later h3 S9.lt
  have W9c := W9.over h3
  have HB3 := hide (HB9.out.trans (h3.mono (by omega)))
  have hz3 : w1.heap.size < w3.heap.size := S9c.lt
  clear h3 S4b S9 W9 HB9
  iterate 13 go_step
  refine wpList_store_mid rfl 43 _ _ rfl _ 0 (stC r.1 (.slice A s.W.length C)) rfl rfl ((SAt.new w3 Z63).there 0 _ (by rw [Z63_size, stC_size]; omega)) (by rw [infoS]; rfl) (stC_one _ _ _ _) ?_
  change wpList Try.prog _ _ _ _ ((w3.alloc (.cells Z63 43)).setCells w3.heap.size 0 (stC r.1 (.slice A s.W.length C)).toList)
  have S10 := (SAt.new w3 Z63).setAll (ds := (stC r.1 (.slice A s.W.length C))) rfl
  have S4d : SAt ((w3.alloc (.cells Z63 43)).setCells w3.heap.size 0 (stC r.1 (.slice A s.W.length C)).toList) w.heap.size (stC s (.slice ao s.W.length c)) := (heap_sets (by omega) _ _ _).trans (S4c.alloc _)
  have S9d : SAt ((w3.alloc (.cells Z63 43)).setCells w3.heap.size 0 (stC r.1 (.slice A s.W.length C)).toList) w1.heap.size (stC s (.slice A s.W.length C)) := (heap_sets (by omega) _ _ _).trans (S9c.alloc _)
  have HB10 := hide (below_sets (b := w3.heap.size) (by omega) (stC r.1 (.slice A s.W.length C)).toList 0 _ (HB3.out.alloc (by omega) (.cells Z63 43)))
  have W9d := (W9c.alloc (.cells Z63 43)).sets (g := w3.heap.size) (fun h => by have := hWg1 h; omega) (stC r.1 (.slice A s.W.length C)).toList 0
  generalize ((w3.alloc (.cells Z63 43)).setCells w3.heap.size 0 (stC r.1 (.slice A s.W.length C)).toList) = w4 at *
  have hz4 : w3.heap.size < w4.heap.size := S10.lt
  clear S4c S9c W9c HB3
  go_upto_region 3 with fail
  apply wp_region_lit
  refine wpList_load_mid rfl 43 _ rfl _ 0 rfl _ _ S4d.range Try.underlying43 rfl (by rw [infoS]; rfl) ?_
  iterate 11 go_step
  refine (hR _ (by exact HW.out.over HB10.out)).mono ?_
  rintro e w5 ⟨A2, ab, ao2, C2, rfl, hW2, hab, h5⟩
  rw [HrW.out] at hW2 hab
  rw [HrW.out]
  dsimp only
  have S4e := S4d.later h5 S4d.lt
  have S9e := S9d.later h5 S9d.lt
  have S10e := S10.later h5 S10.lt
  have W9e := W9d.over h5
  have HB5 := hide (HB10.out.trans (h5.mono (by omega)))
  have hz5 : w3.heap.size < w5.heap.size := S10e.lt
  clear h5 S4d S9d S10 W9d HB10
  iterate 13 go_step
  refine wpList_store_mid rfl 43 _ _ rfl _ 0 (stC r.1 (.slice A2 s.W.length C2)) rfl rfl ((SAt.new w5 Z63).there 0 _ (by rw [Z63_size, stC_size]; omega)) (by rw [infoS]; rfl) (stC_one _ _ _ _) ?_
  change wpList Try.prog _ _ _ _ ((w5.alloc (.cells Z63 43)).setCells w5.heap.size 0 (stC r.1 (.slice A2 s.W.length C2)).toList)
  have S12 := (SAt.new w5 Z63).setAll (ds := (stC r.1 (.slice A2 s.W.length C2))) rfl
  have S4 : SAt ((w5.alloc (.cells Z63 43)).setCells w5.heap.size 0 (stC r.1 (.slice A2 s.W.length C2)).toList) w.heap.size (stC s (.slice ao s.W.length c)) := (heap_sets (by omega) _ _ _).trans (S4e.alloc _)
  have S9 : SAt ((w5.alloc (.cells Z63 43)).setCells w5.heap.size 0 (stC r.1 (.slice A2 s.W.length C2)).toList) w1.heap.size (stC s (.slice A s.W.length C)) := (heap_sets (by omega) _ _ _).trans (S9e.alloc _)
  have S10 : SAt ((w5.alloc (.cells Z63 43)).setCells w5.heap.size 0 (stC r.1 (.slice A2 s.W.length C2)).toList) w3.heap.size (stC r.1 (.slice A s.W.length C)) := (heap_sets (by omega) _ _ _).trans (S10e.alloc _)
  have HB12 := hide (below_sets (b := w5.heap.size) (by omega) (stC r.1 (.slice A2 s.W.length C2)).toList 0 _ (HB5.out.alloc (by omega) (.cells Z63 43)))
  have W9 := (W9e.alloc (.cells Z63 43)).sets (g := w5.heap.size) (fun h => by have := hWg1 h; omega) (stC r.1 (.slice A2 s.W.length C2)).toList 0
  have W12 := (hW2.alloc (.cells Z63 43)).sets (g := w5.heap.size) (fun h => by have := hab h; omega) (stC r.1 (.slice A2 s.W.length C2)).toList 0
  generalize ((w5.alloc (.cells Z63 43)).setCells w5.heap.size 0 (stC r.1 (.slice A2 s.W.length C2)).toList) = w6 at *
  have hz6 : w5.heap.size < w6.heap.size := S12.lt
  clear S4e S9e S10e W9e HB5 hW2
  go_upto_region 4 with fail
  have hsR := fun wx h1 h2 => same_any r.1 A A2 g 0 ab ao2 C C2 wx h1 h2
  rw [HrW.out] at hsR
  have hc1 : ∀ wx, Below w6.heap.size w6 wx → Calls Try.prog 19 #[.agg (stC r.1 (.slice A s.W.length C)), .agg (stC r.1 (.slice A2 s.W.length C2))] wx fun e w' => e = .returned (.bool true) ∧ Below w6.heap.size w6 w' := fun wx h => (hsR wx (W9.over h) (W12.over h)).mono fun _ _ hh => ⟨hh.1, h.trans (hh.2.mono h.size)⟩
  have hc2 : ∀ wx, Below w6.heap.size w6 wx → Calls Try.prog 19 #[.agg (stC s (.slice A s.W.length C)), .agg (stC s (.slice ao s.W.length c))] wx fun e w' => e = .returned (.bool true) ∧ Below w6.heap.size w6 w' := fun wx h => (same_any s A ao g 0 sb so C c wx (W9.over h) ((HW.out.over HB12.out).over h)).mono fun _ _ hh => ⟨hh.1, h.trans (hh.2.mono h.size)⟩
  have hc3 : ∀ wx, Below w6.heap.size w6 wx → Calls Try.prog 20 #[.agg (stC s (.slice A s.W.length C))] wx fun e w' => e = .returned (.bool (goodS s)) ∧ Below w6.heap.size w6 w' := fun wx h => (sgood_any s A g 0 C wx (W9.over h)).mono fun _ _ hh => ⟨hh.1, h.trans (hh.2.mono h.size)⟩
  have hc4 : ∀ wx, Below w6.heap.size w6 wx → Calls Try.prog 21 #[.agg (stC s (.slice ao s.W.length c))] wx fun e w' => e = .returned (.bool (goodS s)) ∧ Below w6.heap.size w6 w' := fun wx h => (rgoods_any s ao sb so c wx ((HW.out.over HB12.out).over h)).mono fun _ _ hh => ⟨hh.1, h.trans (hh.2.mono h.size)⟩
  have hc5 : ∀ wx, Below w6.heap.size w6 wx → Calls Try.prog 22 #[] wx fun e w' => e = .returned (.agg (stC newS (.slice none 0 0))) ∧ Below w6.heap.size w6 w' := fun wx h => (snew_any wx).mono fun _ _ hh => ⟨hh.1, h.trans (hh.2.mono h.size)⟩
  have hc6 : ∀ wx, Below w6.heap.size w6 wx → Calls Try.prog 23 #[] wx fun e w' => e = .returned (.agg (stC newS (.slice none 0 0))) ∧ Below w6.heap.size w6 w' := fun wx h => (rnews_any wx).mono fun _ _ hh => ⟨hh.1, h.trans (hh.2.mono h.size)⟩
  have hc7 : ∀ wx, Below w6.heap.size w6 wx → Calls Try.prog 19 #[.agg (stC newS (.slice none 0 0)), .agg (stC newS (.slice none 0 0))] wx fun e w' => e = .returned (.bool true) ∧ Below w6.heap.size w6 w' := fun wx h => (same_any newS none none 0 0 0 0 0 0 wx (wsNil wx) (wsNil wx)).mono fun _ _ hh => ⟨hh.1, h.trans (hh.2.mono h.size)⟩
  have hc8 : ∀ wx, Below w6.heap.size w6 wx → Calls Try.prog 24 #[] wx fun e w' => e = .returned (.bool true) ∧ Below w6.heap.size w6 w' := fun wx h => (stakes_any wx).mono fun _ _ hh => ⟨hh.1, h.trans (hh.2.mono h.size)⟩
  have hS : ∀ wx, Below w6.heap.size w6 wx → (loadS (.pointer (some ⟨w3.heap.size, 0, none⟩))).run Try.prog wx = .ok (.agg (stC r.1 (.slice A s.W.length C))) wx ∧ (loadS (.pointer (some ⟨w5.heap.size, 0, none⟩))).run Try.prog wx = .ok (.agg (stC r.1 (.slice A2 s.W.length C2))) wx ∧ (loadS (.pointer (some ⟨w1.heap.size, 0, none⟩))).run Try.prog wx = .ok (.agg (stC s (.slice A s.W.length C))) wx ∧ (loadS (.pointer (some ⟨w.heap.size, 0, none⟩))).run Try.prog wx = .ok (.agg (stC s (.slice ao s.W.length c))) wx := fun wx h => ⟨(S10.later h (by omega)).loadS rfl, (S12.later h (by omega)).loadS rfl, (S9.later h (by omega)).loadS rfl, (S4.later h (by omega)).loadS rfl⟩
  generalize goodS s = gs at *
  clear hD hR hsR S4 S9 S10 S12 W9 W12 hgz hWg1 hab hWlt
  go_region_held3 (fun wx => (loadS (.pointer (some ⟨w3.heap.size, 0, none⟩))).run Try.prog wx = .ok (.agg (stC r.1 (.slice A s.W.length C))) wx ∧ (loadS (.pointer (some ⟨w5.heap.size, 0, none⟩))).run Try.prog wx = .ok (.agg (stC r.1 (.slice A2 s.W.length C2))) wx ∧ (loadS (.pointer (some ⟨w1.heap.size, 0, none⟩))).run Try.prog wx = .ok (.agg (stC s (.slice A s.W.length C))) wx ∧ (loadS (.pointer (some ⟨w.heap.size, 0, none⟩))).run Try.prog wx = .ok (.agg (stC s (.slice ao s.W.length c))) wx) (first | exact hS _ hb | exact hS _ hb.drew | exact hS _ (Below.refl _ _).drew | exact hS _ (Below.refl _ _))
    (first
      | (go_at_call 19; have _m := m2; refine (hc7 _ (by first | exact hb | exact hb.drew | exact (Below.refl _ _).drew | exact Below.refl _ _)).mono ?_; rintro e wy ⟨rfl, hb⟩; have m3 : True := trivial)
      | (go_at_call 19; have _m := m1; refine (hc2 _ (by first | exact hb | exact hb.drew | exact (Below.refl _ _).drew | exact Below.refl _ _)).mono ?_; rintro e wy ⟨rfl, hb⟩; have m2 : True := trivial)
      | (go_at_call 19; refine (hc1 _ (by first | exact hb | exact hb.drew | exact (Below.refl _ _).drew | exact Below.refl _ _)).mono ?_; rintro e wy ⟨rfl, hb⟩; have m1 : True := trivial)
      | (go_at_call 20; refine (hc3 _ (by first | exact hb | exact hb.drew | exact (Below.refl _ _).drew | exact Below.refl _ _)).mono ?_; rintro e wy ⟨rfl, hb⟩)
      | (go_at_call 21; refine (hc4 _ (by first | exact hb | exact hb.drew | exact (Below.refl _ _).drew | exact Below.refl _ _)).mono ?_; rintro e wy ⟨rfl, hb⟩)
      | (go_at_call 22; refine (hc5 _ (by first | exact hb | exact hb.drew | exact (Below.refl _ _).drew | exact Below.refl _ _)).mono ?_; rintro e wy ⟨rfl, hb⟩)
      | (go_at_call 23; refine (hc6 _ (by first | exact hb | exact hb.drew | exact (Below.refl _ _).drew | exact Below.refl _ _)).mono ?_; rintro e wy ⟨rfl, hb⟩)
      | (go_at_call 24; refine (hc8 _ (by first | exact hb | exact hb.drew | exact (Below.refl _ _).drew | exact Below.refl _ _)).mono ?_; rintro e wy ⟨rfl, hb⟩))
  have HBz := hide (HB12.out.trans (hb.mono HB12.out.size))
  clear hc1 hc2 hc3 hc4 hc5 hc6 hc7 hc8 hS
  go_wp2
  go_ret
  exact ⟨rfl, HBz.out⟩
end Go.Proofs.Ytookecjeknpheac
