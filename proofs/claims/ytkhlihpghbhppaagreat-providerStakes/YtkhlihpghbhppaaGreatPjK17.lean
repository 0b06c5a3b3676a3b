/- Parts of the proof: RU1. -/
import Derived.Test.YtkhlihpghbhppaaGreatRows
import Derived.Test.YtkhlihpghbhppaaGreatPjK16
import Derived.Test.YtkhlihpghbhppaaGreatPjK20
import Derived.Test.YtkhlihpghbhppaaGreatPjK42
set_option maxRecDepth 100000
namespace Go.Proofs.YtkhlihpghbhppaaGreat
open Go.RowKit
set_option maxHeartbeats 4000000 in
theorem rundel_no (s : St) (ao : Option Addr) (sb so c : Nat) (d v n : Int) (y : Wt) (w : World) (hc : s.W.length ≤ c) (hW : WsAt w ao sb so s.W) (r : St × Int) (h0 : refOfE s d v ≠ 0) (hr : r = (s, refOfE s d v)) :
    Calls Tryz.prog 58 #[.agg (stC s (.slice ao s.W.length c)), .int .i64 d, .int .i64 v, .int .i64 n, .agg #[.int .i64 y.num, .int .i64 y.d, .int .i64 y.v, .int .i64 y.amt, .int .i64 y.hei, .int .i64 y.due, .int .i64 y.h0, .int .i64 y.h1]] w fun e w' => AnswersC w.heap.size sb w r e w' := by
  have SS := ((SAt.new w (stC s (.slice ao s.W.length c))).alloc (.cells #[.int .i64 y.num, .int .i64 y.d, .int .i64 y.v, .int .i64 y.amt, .int .i64 y.hei, .int .i64 y.due, .int .i64 y.h0, .int .i64 y.h1] 98)).alloc (.cells Z63 32)
  have RR := SAt.new3 w (.cells (stC s (.slice ao s.W.length c)) 32) (.cells #[.int .i64 y.num, .int .i64 y.d, .int .i64 y.v, .int .i64 y.amt, .int .i64 y.hei, .int .i64 y.due, .int .i64 y.h0, .int .i64 y.h1] 98) Z63
  have YY := YAt.new w (.cells (stC s (.slice ao s.W.length c)) 32) (.cells Z63 32) y
  have HB : Hid (Below w.heap.size w (((w.alloc (.cells (stC s (.slice ao s.W.length c)) 32)).alloc (.cells #[.int .i64 y.num, .int .i64 y.d, .int .i64 y.v, .int .i64 y.amt, .int .i64 y.hei, .int .i64 y.due, .int .i64 y.h0, .int .i64 y.h1] 98)).alloc (.cells Z63 32))) := (((Below.refl _ w).alloc (Nat.le_refl _) _).alloc (by simp) _).alloc (by simp; omega) _
  have HW := hide hW
  have HR := hide hr
  have HC := hide hc
  have hsm := fun w h => some_any s ao sb so c d v w h
  clear hW hr hc YY
  go_enter Tryz.func58, Tryz.ntmps58
  go_upto_region 1 with fail
  change Code.wp Tryz.prog _ _ _ (((w.alloc (.cells (stC s (.slice ao s.W.length c)) 32)).alloc (.cells #[.int .i64 y.num, .int .i64 y.d, .int .i64 y.v, .int .i64 y.amt, .int .i64 y.hei, .int .i64 y.due, .int .i64 y.h0, .int .i64 y.h1] 98)).alloc (.cells Z63 32))
  generalize ((w.alloc (.cells (stC s (.slice ao s.W.length c)) 32)).alloc (.cells #[.int .i64 y.num, .int .i64 y.d, .int .i64 y.v, .int .i64 y.amt, .int .i64 y.hei, .int .i64 y.due, .int .i64 y.h0, .int .i64 y.h1] 98)).alloc (.cells Z63 32) = w0 at *
  apply wp_region_lit
  refine wpList_load_mid rfl 32 _ rfl _ 0 rfl _ _ SS.range Tryz.underlying32 rfl (by rw [infoS]; rfl) ?_
  go_upto_region 3 with (go_at_call 99; refine (hsm _ (by exact HW.out.over HB.out)).mono ?_; rintro e w1 ⟨rfl, h1⟩)
  have HB1 := hide (HB.out.trans (h1.mono HB.out.size))
  have S1 := SS.later h1 SS.lt
  have R1 := RR.later h1 RR.lt
  apply wp_region_lit
  refine wpList_load_mid rfl 32 _ rfl _ 0 rfl _ _ S1.range Tryz.underlying32 rfl (by rw [infoS]; rfl) ?_
  refine wpList_mv rfl _ rfl ?_
  refine wpList_store_mid rfl 32 _ _ rfl _ 0 (stC s (.slice ao s.W.length c)) rfl rfl (R1.there 0 _ (by rw [Z63_size, stC_size]; omega)) (by rw [infoS]; rfl) (stC_one _ _ _ _) ?_
  go_wp2
  exact stake_endz Tryz.results58 R1 rfl HB1.out (by omega) s ao sb so c _ r (HR.out) HC.out (HW.out.over HB1.out) (fun h => by have := HW.out.lt h; omega) (fun _ => .inl rfl) _ rfl rfl rfl
theorem OwnW.wsg {B : Nat} {w : World} {g C : Nat} {W : List Wt} (h : OwnW B w (some ⟨g, 0, none⟩) C W) (hl : W.length * 64 ≤ 140737488351232) : WsAt w (some ⟨g, 0, none⟩) g 0 W :=
  ws_of_cells hl fun j v hj => by
    have := World.ownsRow.cells h (g := g) rfl j v hj
    rwa [Addr.add_lit, Nat.zero_add] at this
set_option maxHeartbeats 8000000 in
theorem rundel_yes (s : St) (ao : Option Addr) (sb so c d v : Nat) (n : Int) (y : Wt) (w : World) (hc : s.W.length ≤ c) (hW : WsAt w ao sb so s.W) (r : St × Int) (hg : goodS s = true) (hd : d < 4) (hv : v < 6) (B : Bk) (er wN : Int) (hN : mdN n (s.V v).tok (s.V v).sh = wN)
    (hUn : ∀ w : World, Calls Tryz.prog 119 #[.agg #[.int .i64 s.b.f0, .int .i64 s.b.f1, .int .i64 s.b.f2, .int .i64 s.b.f3, .int .i64 s.b.bo, .int .i64 s.b.wa, .int .i64 s.b.bu], .int .i64 wN] w fun e w' => e = .returned (.tuple #[.agg #[.int .i64 B.f0, .int .i64 B.f1, .int .i64 B.f2, .int .i64 B.f3, .int .i64 B.bo, .int .i64 B.wa, .int .i64 B.bu], .int .i64 er]) ∧ Below w.heap.size w w')
    (h1 : ¬ ((decide (0 < n) && inA n) = true ∧ 0 ≤ y.hei ∧ 0 ≤ y.due) → r = (s, 2))
    (h2 : (decide (0 < n) && inA n) = true ∧ 0 ≤ y.hei ∧ 0 ≤ y.due → ¬ n ≤ s.S d v → r = (s, 7))
    (h3 : (decide (0 < n) && inA n) = true ∧ 0 ≤ y.hei ∧ 0 ≤ y.due → n ≤ s.S d v → ¬ (s.W.length < 60 ∧ s.next < 1125899906842624) → r = (s, 6))
    (h4 : (decide (0 < n) && inA n) = true ∧ 0 ≤ y.hei ∧ 0 ≤ y.due → n ≤ s.S d v → (s.W.length < 60 ∧ s.next < 1125899906842624) → wN < 1 → r = (s, 8))
    (h5 : (decide (0 < n) && inA n) = true ∧ 0 ≤ y.hei ∧ 0 ≤ y.due → n ≤ s.S d v → (s.W.length < 60 ∧ s.next < 1125899906842624) → 1 ≤ wN → er ≠ 0 → r = (s, er))
    (h6 : (decide (0 < n) && inA n) = true ∧ 0 ≤ y.hei ∧ 0 ≤ y.due → n ≤ s.S d v → (s.W.length < 60 ∧ s.next < 1125899906842624) → 1 ≤ wN → er = 0 → r = (outS s d v wN n B { y with num := s.next, d := d, v := v, amt := wN }, 0)) :
    Calls Tryz.prog 58 #[.agg (stC s (.slice ao s.W.length c)), .int .i64 (d : Int), .int .i64 (v : Int), .int .i64 n, .agg #[.int .i64 y.num, .int .i64 y.d, .int .i64 y.v, .int .i64 y.amt, .int .i64 y.hei, .int .i64 y.due, .int .i64 y.h0, .int .i64 y.h1]] w fun e w' => AnswersC w.heap.size sb w r e w' := by
  have SS := ((SAt.new w (stC s (.slice ao s.W.length c))).alloc (.cells #[.int .i64 y.num, .int .i64 y.d, .int .i64 y.v, .int .i64 y.amt, .int .i64 y.hei, .int .i64 y.due, .int .i64 y.h0, .int .i64 y.h1] 98)).alloc (.cells Z63 32)
  have RR := SAt.new3 w (.cells (stC s (.slice ao s.W.length c)) 32) (.cells #[.int .i64 y.num, .int .i64 y.d, .int .i64 y.v, .int .i64 y.amt, .int .i64 y.hei, .int .i64 y.due, .int .i64 y.h0, .int .i64 y.h1] 98) Z63
  have YY := YAt.new w (.cells (stC s (.slice ao s.W.length c)) 32) (.cells Z63 32) y
  have HB : Hid (Below w.heap.size w (((w.alloc (.cells (stC s (.slice ao s.W.length c)) 32)).alloc (.cells #[.int .i64 y.num, .int .i64 y.d, .int .i64 y.v, .int .i64 y.amt, .int .i64 y.hei, .int .i64 y.due, .int .i64 y.h0, .int .i64 y.h1] 98)).alloc (.cells Z63 32))) := (((Below.refl _ w).alloc (Nat.le_refl _) _).alloc (by simp) _).alloc (by simp; omega) _
  have HW := hide hW
  have HC := hide hc
  have H1 := hide h1
  have H2 := hide h2
  have H3 := hide h3
  have H4 := hide h4
  have H5 := hide h5
  have H6 := hide h6
  obtain ⟨hvo, hps⟩ := good_vals hg v hv
  obtain ⟨k1, k2, _⟩ := vOk_amounts hvo
  have k4 := psh_at hps hd
  rw [inA_iff] at k1 k2 k4
  have hl60 : s.W.length ≤ 60 := ((goodS_iff s).1 hg).2.2.2.1
  have hnx := good_next hg
  have hRf := ref_of_good hg hd hv
  have hd' : (d : Int) < 4 := by omega
  have hv' : (v : Int) < 6 := by omega
  have hd0 : (0 : Int) ≤ (d : Int) := by omega
  have hv0 : (0 : Int) ≤ (v : Int) := by omega
  have hsm := fun w h => some_any s ao sb so c d v w h
  have hM := fun w (hn : n ≤ 1125899906842624) => rmuldiv_any n (s.V v).tok (s.V v).sh w (by omega) (by omega) (by omega)
  have hmb := mdN_bound n (s.V v).tok (s.V v).sh
  rw [hN] at hM hmb
  generalize mdE n (s.V v).tok (s.V v).sh = me at *
  have HT : Hid ((decide (0 < n) && inA n) = true ↔ (1 ≤ n ∧ n ≤ 1125899906842624)) := by constructor <;> intro h <;> simp only [Bool.and_eq_true, decide_eq_true_eq, inA_iff] at * <;> omega
  generalize (decide (0 < n) && inA n) = t at *
  clear hW h1 h2 h3 h4 h5 h6 hc hN
  go_enter Tryz.func58, Tryz.ntmps58
  go_upto_region 1 with fail
  change Code.wp Tryz.prog _ _ _ (((w.alloc (.cells (stC s (.slice ao s.W.length c)) 32)).alloc (.cells #[.int .i64 y.num, .int .i64 y.d, .int .i64 y.v, .int .i64 y.amt, .int .i64 y.hei, .int .i64 y.due, .int .i64 y.h0, .int .i64 y.h1] 98)).alloc (.cells Z63 32))
  generalize ((w.alloc (.cells (stC s (.slice ao s.W.length c)) 32)).alloc (.cells #[.int .i64 y.num, .int .i64 y.d, .int .i64 y.v, .int .i64 y.amt, .int .i64 y.hei, .int .i64 y.due, .int .i64 y.h0, .int .i64 y.h1] 98)).alloc (.cells Z63 32) = w0 at *
  apply wp_region_lit
  refine wpList_load_mid rfl 32 _ rfl _ 0 rfl _ _ SS.range Tryz.underlying32 rfl (by rw [infoS]; rfl) ?_
  go_upto_region 4 with (go_at_call 99; refine (hsm _ (by exact HW.out.over HB.out)).mono ?_; rintro e w1 ⟨rfl, h1⟩)
  have HB1 := hide (HB.out.trans (h1.mono HB.out.size))
  have S1 := SS.later h1 SS.lt
  have R1 := RR.later h1 RR.lt
  have Y1 := YY.later h1 YY.lt
  have hz1 : w.heap.size + 2 < w1.heap.size := R1.lt
  have hz1a : w.heap.size < w1.heap.size := by omega
  have hz1b : w.heap.size + 1 < w1.heap.size := by omega
  clear SS RR YY h1 HB hsm hRf
  have y4 := Y1.cells.2.2.2.2.1
  have y5 := Y1.cells.2.2.2.2.2.1
  have c4 := S1.shr d v hd hv
  have x7 := (st_cells S1).2.2.2.2.2.2.2.1
  have x8 := (st_cells S1).2.2.2.2.2.2.2.2
  generalize hS : s.S d v = sd at *
  have HS := hide hS
  clear hS
  go_upto_region 10 with (first
    | ((fail_if_success (go_not_at_region 5)); apply wp_region_lit; refine wpList_load_mid rfl 32 _ rfl _ 0 rfl _ _ S1.range Tryz.underlying32 rfl (by rw [infoS]; rfl) ?_; refine wpList_store_mid rfl 32 _ _ rfl _ 0 (stC s (.slice ao s.W.length c)) rfl rfl (R1.there 0 _ (by rw [Z63_size, stC_size]; omega)) (by rw [infoS]; rfl) (stC_one _ _ _ _) ?_)
    | ((fail_if_success (go_not_at_region 7)); apply wp_region_lit; refine wpList_load_mid rfl 32 _ rfl _ 0 rfl _ _ S1.range Tryz.underlying32 rfl (by rw [infoS]; rfl) ?_; refine wpList_store_mid rfl 32 _ _ rfl _ 0 (stC s (.slice ao s.W.length c)) rfl rfl (R1.there 0 _ (by rw [Z63_size, stC_size]; omega)) (by rw [infoS]; rfl) (stC_one _ _ _ _) ?_)
    | ((fail_if_success (go_not_at_region 9)); apply wp_region_lit; refine wpList_load_mid rfl 32 _ rfl _ 0 rfl _ _ S1.range Tryz.underlying32 rfl (by rw [infoS]; rfl) ?_; refine wpList_store_mid rfl 32 _ _ rfl _ 0 (stC s (.slice ao s.W.length c)) rfl rfl (R1.there 0 _ (by rw [Z63_size, stC_size]; omega)) (by rw [infoS]; rfl) (stC_one _ _ _ _) ?_))
  · exact stake_endz Tryz.results58 R1 rfl HB1.out (by omega) s ao sb so c _ r (H1.out (fun h => by have := HT.out.1 h.1; have := h.2; omega)) HC.out (HW.out.over HB1.out) (fun h => by have := HW.out.lt h; omega) (fun _ => .inl rfl) _ rfl rfl rfl
  · exact stake_endz Tryz.results58 R1 rfl HB1.out (by omega) s ao sb so c _ r (H2.out ⟨HT.out.2 (by omega), by omega, by omega⟩ (by omega)) HC.out (HW.out.over HB1.out) (fun h => by have := HW.out.lt h; omega) (fun _ => .inl rfl) _ rfl rfl rfl
  · exact stake_endz Tryz.results58 R1 rfl HB1.out (by omega) s ao sb so c _ r (H3.out ⟨HT.out.2 (by omega), by omega, by omega⟩ (by omega) (by omega)) HC.out (HW.out.over HB1.out) (fun h => by have := HW.out.lt h; omega) (fun _ => .inl rfl) _ rfl rfl rfl
  · have hnn : s.next = 1125899906842624 := by
      have hh := ‹((s.W.length : Int) == 60) = true ∨ (s.next == 1125899906842624) = true›
      simp only [beq_iff_eq] at hh
      omega
    exact stake_endz Tryz.results58 R1 rfl HB1.out (by omega) s ao sb so c _ r (H3.out ⟨HT.out.2 (by omega), by omega, by omega⟩ (by omega) (by omega)) HC.out (HW.out.over HB1.out) (fun h => by have := HW.out.lt h; omega) (fun _ => .inl rfl) _ rfl rfl rfl
  rotate_left
  · exact stake_endz Tryz.results58 R1 rfl HB1.out (by omega) s ao sb so c _ r (H1.out (fun h => by have := HT.out.1 h.1; have := h.2; omega)) HC.out (HW.out.over HB1.out) (fun h => by have := HW.out.lt h; omega) (fun _ => .inl rfl) _ rfl rfl rfl
  · exact stake_endz Tryz.results58 R1 rfl HB1.out (by omega) s ao sb so c _ r (H1.out (fun h => by have := HT.out.1 h.1; have := h.2; omega)) HC.out (HW.out.over HB1.out) (fun h => by have := HW.out.lt h; omega) (fun _ => .inl rfl) _ rfl rfl rfl
  · exact stake_endz Tryz.results58 R1 rfl HB1.out (by omega) s ao sb so c _ r (H1.out (fun h => by have := HT.out.1 h.1; have := h.2; omega)) HC.out (HW.out.over HB1.out) (fun h => by have := HW.out.lt h; omega) (fun _ => .inl rfl) _ rfl rfl rfl
  have ht : t = true ∧ 0 ≤ y.hei ∧ 0 ≤ y.due := ⟨HT.out.2 (by omega), by omega, by omega⟩
  have hsd : n ≤ sd := by omega
  have hnf : s.W.length < 60 ∧ s.next < 1125899906842624 := by
    have hh := ‹((s.W.length : Int) == 60) = false ∧ (s.next == 1125899906842624) = false›
    simp only [beq_eq_false_iff_ne, ne_eq] at hh
    omega
  have hn1 : 1 ≤ n ∧ n ≤ 1125899906842624 := HT.out.1 ht.1
  have HH4 := hide (H4.out ht hsd hnf)
  have HH5 := hide (H5.out ht hsd hnf)
  have HH6 := hide (H6.out ht hsd hnf)
  clear H1 H2 H3 H4 H5 H6 y4 y5 x7 x8 c4 HT ht
  obtain ⟨c0, c1, c2, c3, c5⟩ := S1.val v hv
  go_upto_region 11 with fail
  have V2 : VAt (w1.alloc (.cells #[.int .i64 (s.V v).tok, .int .i64 (s.V v).sh, .int .i64 (s.V v).lost, .bool (s.V v).jail, .bool (s.V v).dead] 26)) w1.heap.size (s.V v) := heap_alloc_new _ _
  have S2 := S1.alloc (.cells #[.int .i64 (s.V v).tok, .int .i64 (s.V v).sh, .int .i64 (s.V v).lost, .bool (s.V v).jail, .bool (s.V v).dead] 26)
  have R2 := R1.alloc (.cells #[.int .i64 (s.V v).tok, .int .i64 (s.V v).sh, .int .i64 (s.V v).lost, .bool (s.V v).jail, .bool (s.V v).dead] 26)
  have Y2 := Y1.later ((Below.refl _ w1).alloc (Nat.le_refl _) (.cells #[.int .i64 (s.V v).tok, .int .i64 (s.V v).sh, .int .i64 (s.V v).lost, .bool (s.V v).jail, .bool (s.V v).dead] 26)) Y1.lt
  have HB2 := hide (HB1.out.alloc (by omega) (.cells #[.int .i64 (s.V v).tok, .int .i64 (s.V v).sh, .int .i64 (s.V v).lost, .bool (s.V v).jail, .bool (s.V v).dead] 26))
  generalize w1.alloc (.cells #[.int .i64 (s.V v).tok, .int .i64 (s.V v).sh, .int .i64 (s.V v).lost, .bool (s.V v).jail, .bool (s.V v).dead] 26) = w2 at *
  clear S1 R1 Y1 HB1 c0 c1 c2 c3 c5
  obtain ⟨e0, e1, _, _, _⟩ := V2.cells
  have hz2 : w.heap.size + 2 < w2.heap.size := R2.lt
  have hz2a : w.heap.size < w2.heap.size := by omega
  have hz2b : w1.heap.size < w2.heap.size := V2.lt
  go_upto_region 17 with (first
    | (go_at_call 100; refine (hM _ (by omega)).mono ?_; rintro e w3 ⟨rfl, h3⟩; have HB3 := hide (HB2.out.trans (h3.mono (by omega))); have S3 := S2.later h3 S2.lt; have R3 := R2.later h3 R2.lt; have Y3 := Y2.later h3 Y2.lt; have hz3 : w.heap.size + 2 < w3.heap.size := R3.lt; have hz3a : w.heap.size < w3.heap.size := (by omega); obtain ⟨x0, x1, x2, x3, x4, x5, x6, _, _⟩ := st_cells S3; clear h3)
    | (go_at_call 119; refine (hUn _).mono ?_; rintro e w4 ⟨rfl, h4⟩; have HB4 := hide (HB3.out.trans (h4.mono (by omega))); have S4 := S3.later h4 S3.lt; have R4 := R3.later h4 R3.lt; have Y4 := Y3.later h4 Y3.lt; have hz4 : w.heap.size + 2 < w4.heap.size := R4.lt; have S5 := S4.alloc (.cells #[.int .i64 B.f0, .int .i64 B.f1, .int .i64 B.f2, .int .i64 B.f3, .int .i64 B.bo, .int .i64 B.wa, .int .i64 B.bu] 24); have R5 := R4.alloc (.cells #[.int .i64 B.f0, .int .i64 B.f1, .int .i64 B.f2, .int .i64 B.f3, .int .i64 B.bo, .int .i64 B.wa, .int .i64 B.bu] 24); have Y5 := Y4.later ((Below.refl _ w4).alloc (Nat.le_refl _) (.cells #[.int .i64 B.f0, .int .i64 B.f1, .int .i64 B.f2, .int .i64 B.f3, .int .i64 B.bo, .int .i64 B.wa, .int .i64 B.bu] 24)) Y4.lt; have HB5 := hide (HB4.out.alloc (by omega) (.cells #[.int .i64 B.f0, .int .i64 B.f1, .int .i64 B.f2, .int .i64 B.f3, .int .i64 B.bo, .int .i64 B.wa, .int .i64 B.bu] 24)); have B5 : BAt (w4.alloc (.cells #[.int .i64 B.f0, .int .i64 B.f1, .int .i64 B.f2, .int .i64 B.f3, .int .i64 B.bo, .int .i64 B.wa, .int .i64 B.bu] 24)) w4.heap.size B.f0 B.f1 B.f2 B.f3 B.bo B.wa B.bu := heap_alloc_new _ _; clear h4 S4 R4 Y4 HB4 x0 x1 x2 x3 x4 x5 x6)
    | ((fail_if_success (go_not_at_region 13)); apply wp_region_lit; refine wpList_load_mid rfl 32 _ rfl _ 0 rfl _ _ S3.range Tryz.underlying32 rfl (by rw [infoS]; rfl) ?_; refine wpList_store_mid rfl 32 _ _ rfl _ 0 (stC s (.slice ao s.W.length c)) rfl rfl (R3.there 0 _ (by rw [Z63_size, stC_size]; omega)) (by rw [infoS]; rfl) (stC_one _ _ _ _) ?_)
    | ((fail_if_success (go_not_at_region 16)); apply wp_region_lit; refine wpList_load_mid rfl 32 _ rfl _ 0 rfl _ _ S5.range Tryz.underlying32 rfl (by rw [infoS]; rfl) ?_; refine wpList_mv rfl _ rfl ?_; refine wpList_store_mid rfl 32 _ _ rfl _ 0 (stC s (.slice ao s.W.length c)) rfl rfl (R5.there 0 _ (by rw [Z63_size, stC_size]; omega)) (by rw [infoS]; rfl) (stC_one _ _ _ _) ?_))
  · exact stake_endz Tryz.results58 R3 rfl HB3.out (by omega) s ao sb so c _ r (HH4.out (by omega)) HC.out (HW.out.over HB3.out) (fun h => by have := HW.out.lt h; omega) (fun _ => .inl rfl) _ rfl rfl rfl
  · exact stake_endz Tryz.results58 R5 rfl HB5.out (by omega) s ao sb so c _ r (HH5.out (by omega) (by simpa using ‹(er != 0) = true›)) HC.out (HW.out.over HB5.out) (fun h => by have := HW.out.lt h; omega) (fun _ => .inl rfl) _ rfl rfl rfl
  have HR := hide (HH6.out (by omega) (by simpa using ‹(er != 0) = false›))
  obtain ⟨k10, k11⟩ := k1
  obtain ⟨k20, k21⟩ := k2
  obtain ⟨m0, m1⟩ := hmb
  rw [← HS.out] at k4
  obtain ⟨k40, k41⟩ := k4
  clear HH4 HH5 HH6 hM hUn S3 R3 Y3 HB3 V2 S2 R2 Y2 HB2 e0 e1 HS
  have hq5 : w4.heap.size < (w4.alloc (.cells #[.int .i64 B.f0, .int .i64 B.f1, .int .i64 B.f2, .int .i64 B.f3, .int .i64 B.bo, .int .i64 B.wa, .int .i64 B.bu] 24)).heap.size := B5.lt
  generalize w4.alloc (.cells #[.int .i64 B.f0, .int .i64 B.f1, .int .i64 B.f2, .int .i64 B.f3, .int .i64 B.bo, .int .i64 B.wa, .int .i64 B.bu] 24) = w5 at *
  have hz5 : w.heap.size + 2 < w5.heap.size := R5.lt
  apply wp_region_lit
  refine wpList_load_mid rfl 32 _ rfl _ 0 rfl _ _ S5.range Tryz.underlying32 rfl (by rw [infoS]; rfl) ?_
  go_step
  go_step
  refine (copy_st3 s ao sb so c _ (by exact HW.out.over HB5.out)).mono ?_
  rintro e w6 ⟨A, C, rfl, hO6, h6⟩
  dsimp only
  have S6 := S5.later h6 S5.lt
  have R6 := R5.later h6 R5.lt
  have Y6 := Y5.later h6 Y5.lt
  have B6 := B5.later h6 B5.lt
  have HB6 := hide (HB5.out.trans (h6.mono (by omega)))
  have hz6 : w.heap.size + 2 < w6.heap.size := R6.lt
  have hq6 : w4.heap.size < w6.heap.size := B6.lt
  have h56 : w5.heap.size ≤ w6.heap.size := h6.size
  have HOB : Hid (∀ k, (Value.slice A s.W.length C).ownBlock = some k → w5.heap.size + 2 ≤ k ∧ k < w6.heap.size) := fun k hk => World.ownsRow.lt hO6 k hk
  iterate 4 go_step
  refine wpList_store_mid rfl 32 _ _ rfl _ 0 (stC s (.slice A s.W.length C)) rfl rfl ((SAt.new w6 Z63).there 0 _ (by rw [Z63_size, stC_size]; omega)) (by rw [infoS]; rfl) (stC_one _ _ _ _) ?_
  change wpList Tryz.prog _ _ _ _ ((w6.alloc (.cells Z63 32)).setCells w6.heap.size 0 (stC s (.slice A s.W.length C)).toList)
  have S7 := (SAt.new w6 Z63).setAll (ds := stC s (.slice A s.W.length C)) rfl
  have Z7 : SAt ((w6.alloc (.cells Z63 32)).setCells w6.heap.size 0 (stC s (.slice A s.W.length C)).toList) w.heap.size (stC s (.slice ao s.W.length c)) := (heap_sets (by omega) _ _ _).trans (S6.alloc _)
  have R7 : SAt ((w6.alloc (.cells Z63 32)).setCells w6.heap.size 0 (stC s (.slice A s.W.length C)).toList) (w.heap.size + 2) Z63 := (heap_sets (by omega) _ _ _).trans (R6.alloc _)
  have B7 : BAt ((w6.alloc (.cells Z63 32)).setCells w6.heap.size 0 (stC s (.slice A s.W.length C)).toList) w4.heap.size B.f0 B.f1 B.f2 B.f3 B.bo B.wa B.bu := (heap_sets (by omega) _ _ _).trans (B6.alloc _)
  have Y7 : YAt ((w6.alloc (.cells Z63 32)).setCells w6.heap.size 0 (stC s (.slice A s.W.length C)).toList) (w.heap.size + 1) y := (heap_sets (by omega) _ _ _).trans (Y6.later ((Below.refl _ w6).alloc (Nat.le_refl _) (.cells Z63 32)) Y6.lt)
  have HB7 := hide (below_sets (b := w6.heap.size) (by omega) (stC s (.slice A s.W.length C)).toList 0 _ (HB6.out.alloc (by omega) (.cells Z63 32)))
  have HO7 : Hid (OwnW (w5.heap.size + 2) ((w6.alloc (.cells Z63 32)).setCells w6.heap.size 0 (stC s (.slice A s.W.length C)).toList) A C s.W) := hO6.to fun k _ hk => (heap_sets (by omega) _ _ _).trans (Below.heap_alloc w6 _ k hk)
  have hz7 : w6.heap.size < ((w6.alloc (.cells Z63 32)).setCells w6.heap.size 0 (stC s (.slice A s.W.length C)).toList).heap.size := S7.lt
  generalize (w6.alloc (.cells Z63 32)).setCells w6.heap.size 0 (stC s (.slice A s.W.length C)).toList = w7 at *
  clear S5 R5 B5 Y5 S6 R6 B6 Y6 HB5 HB6 h6 hO6
  obtain ⟨x0, x1, x2, x3, x4, x5, x6, _, _⟩ := st_cells S7
  obtain ⟨y0, y1, y2, y3, y4, y5, y6⟩ := B7.cells
  have f0 := S7.free 0
  have f1 := S7.free 1
  have f2 := S7.free 2
  have f3 := S7.free 3
  have f4 := S7.free 4
  have f5 := S7.free 5
  have f6 := S7.free 6
  have hne : w4.heap.size ≠ w6.heap.size := by omega
  go_upto_region 19 with fail
  change Code.wp Tryz.prog _ _ _ (bset w7 w6.heap.size B)
  have S8 := set_bank S7 B
  have hbt : But w6.heap.size w7 (bset w7 w6.heap.size B) := (((((((But.refl _ _).set 0 _).set 1 _).set 2 _).set 3 _).set 4 _).set 5 _).set 6 _
  have HBut0 := hide hbt
  clear hbt
  generalize bset w7 w6.heap.size B = w8 at *
  clear x0 x1 x2 x3 x4 x5 x6 y0 y1 y2 y3 y4 y5 y6 f0 f1 f2 f3 f4 f5 f6 S7 B7
  obtain ⟨c0, c1, _, _, _⟩ := S8.val v hv
  have f0 := S8.free (7 + v * 5)
  simp only at c0 c1
  go_upto_region 20 with fail
  have S9 := S8.set (7 + v * 5) (.int .i64 ((s.V v).tok - wN))
  rw [set_tok _ _ v hv] at S9
  have HBut1 := hide (HBut0.out.set (7 + v * 5) (.int .i64 ((s.V v).tok - wN)))
  generalize w8.setCell ⟨w6.heap.size, 7 + v * 5, none⟩ (.int .i64 ((s.V v).tok - wN)) = w9 at *
  clear c0 c1 f0 HBut0 S8
  have c1 := (S9.val v hv).2.1
  simp only [setV_at] at c1
  have f0 := S9.free (7 + v * 5 + 1)
  go_upto_region 21 with fail
  have S10 := S9.set (7 + v * 5 + 1) (.int .i64 ((s.V v).sh - n))
  rw [set_sh _ _ v hv] at S10
  have HBut2 := hide (HBut1.out.set (7 + v * 5 + 1) (.int .i64 ((s.V v).sh - n)))
  generalize w9.setCell ⟨w6.heap.size, 7 + v * 5 + 1, none⟩ (.int .i64 ((s.V v).sh - n)) = w10 at *
  clear c1 f0 S9 HBut1
  have c0 := S10.shr d v hd hv
  have f0 := S10.free (37 + d * 6 + v)
  have S11 := S10.set (37 + d * 6 + v) (.int .i64 (s.S d v - n))
  rw [set_shr _ _ d v hd hv] at S11
  have HS11 : Hid (SAt (w10.setCell ⟨w6.heap.size, 37 + d * 6 + v, none⟩ (.int .i64 (s.S d v - n))) w6.heap.size (stC (addS { s with b := B } d v (-wN) (-n)) (.slice A s.W.length C))) := by rw [add_eq]; exact S11
  have HBut3 := hide (HBut2.out.set (37 + d * 6 + v) (.int .i64 (s.S d v - n)))
  have hz10 : w6.heap.size < w10.heap.size := S10.lt
  clear S10 S11 HBut2
  simp only at c0
  go_region
  have S12 : SAt (w10.setCell ⟨w6.heap.size, 37 + d * 6 + v, none⟩ (.int .i64 (s.S d v - n))).drew w6.heap.size (stC (addS { s with b := B } d v (-wN) (-n)) (.slice A s.W.length C)) := HS11.out
  have hBut := HBut3.out.drew
  have Z12 := hBut.stake (by omega) Z7
  have R12 := hBut.stake (by omega) R7
  have Y12 : YAt (w10.setCell ⟨w6.heap.size, 37 + d * 6 + v, none⟩ (.int .i64 (s.S d v - n))).drew (w.heap.size + 1) y := (hBut.block _ (by omega)).trans Y7
  have HO12 : Hid (OwnW (w5.heap.size + 2) (w10.setCell ⟨w6.heap.size, 37 + d * 6 + v, none⟩ (.int .i64 (s.S d v - n))).drew A C s.W) := own_of HO7.out fun k hk => hBut.block _ (by have := HOB.out k hk; omega)
  have HB12 := hide (HB7.out.trans (hBut.below (by omega)))
  generalize (w10.setCell ⟨w6.heap.size, 37 + d * 6 + v, none⟩ (.int .i64 (s.S d v - n))).drew = w12 at *
  clear c0 f0 HS11 HBut3 hBut Z7 R7 Y7 HO7 HB7
  have x7 := (st_cells S12).2.2.2.2.2.2.2.1
  have x8 := (st_cells Z12).2.2.2.2.2.2.2.2
  obtain ⟨_, _, _, _, y4, y5, y6, y7⟩ := Y12.cells
  have hz12 : w6.heap.size < w12.heap.size := S12.lt
  have hz12a : w.heap.size < w12.heap.size := by omega
  have hz12b : w.heap.size + 1 < w12.heap.size := by omega
  have HS12 := hide S12
  clear S12
  go_upto_region 22 with fail
  apply wp_region_lit
  iterate 45 go_step
  refine wpList_ap3 rfl rfl _ _ rfl (w5.heap.size + 2) A C w12.heap.size s.W { y with num := s.next, d := (d : Int), v := (v : Int), amt := wN } rfl rfl (by exact HO12.out.over ((Below.refl _ w12).alloc (Nat.le_refl _) _)) (by omega) (by simp; omega) (by exact fun j u hj => wt_new w12 { y with num := s.next, d := (d : Int), v := (v : Int), amt := wN } _ j u hj) ?_
  rintro g C' w13 ⟨hO13, hg1, hg2, hb13, hk13⟩
  have hk6 := hk13 w6.heap.size (by simp; omega) (fun h => by have := HOB.out _ h.symm; omega)
  have S13 : SAt w13 w6.heap.size (stC (addS { s with b := B } d v (-wN) (-n)) (.slice A s.W.length C)) := hk6.2.trans (HS12.out.alloc _)
  have z7 := (st_cells S13).2.2.2.2.2.2.2.1
  have fz := S13.free 61
  have hz13 := S13.lt
  have HS13 := hide S13
  have HO13 := hide hO13
  have HK13 := hide hk13
  have HB13 := hide hb13
  have HK6 := hide hk6.1
  clear S13 hO13 hk13 hb13 hk6
  go_upto_region 23 with fail
  have hC13 := HO13.out.cap
  rw [List.length_append, List.length_singleton] at hC13
  have hbX := (HB12.out.alloc (by omega) (.cells #[.int .i64 s.next, .int .i64 (d : Int), .int .i64 (v : Int), .int .i64 wN, .int .i64 y.hei, .int .i64 y.due, .int .i64 y.h0, .int .i64 y.h1] 98)).trans (HB13.out.mono (by omega))
  have hzX : ∀ k, k < w5.heap.size + 2 → k < w12.heap.size → w13.heap[k]? = w12.heap[k]? := fun k h1 h2 => (HB13.out.block k h1).trans (Below.heap_alloc w12 _ k h2)
  have Z13 : SAt w13 w.heap.size (stC s (.slice ao s.W.length c)) := (hzX _ (by omega) (by omega)).trans Z12
  have R13 : SAt w13 (w.heap.size + 2) Z63 := (hzX _ (by omega) (by omega)).trans R12
  have S14 := HS13.out.set 61 (.slice (some ⟨g, 0, none⟩) (s.W.length + 1) C')
  rw [set_sl] at S14
  have hb4 := (But.refl w6.heap.size w13).set 61 (.slice (some ⟨g, 0, none⟩) (s.W.length + 1) C')
  have HB14 := hide hbX
  generalize w13.setCell ⟨w6.heap.size, 61, none⟩ (.slice (some ⟨g, 0, none⟩) (s.W.length + 1) C') = w14 at *
  have Z14 := hb4.stake (by omega) Z13
  have x9 := (st_cells Z14).2.2.2.2.2.2.2.2
  have x10 := (st_cells S14).2.2.2.2.2.2.2.2
  have f10 := S14.free 62
  have hz14 : w6.heap.size < w14.heap.size := S14.lt
  have hz14a : w.heap.size < w14.heap.size := Z14.lt
  have HS14 := hide S14
  have HBt4 := hide hb4
  clear S14 hb4 x7 x8 y4 y5 y6 y7 z7 fz hbX Z13 Z14 Y12 Z12 R12
  go_upto_region 24 with fail
  have S15 := HS14.out.set 62 (.int .i64 (s.next + 1))
  rw [set_next] at S15
  have hb5 := HBt4.out.set 62 (.int .i64 (s.next + 1))
  have S16 : SAt (w14.setCell ⟨w6.heap.size, 62, none⟩ (.int .i64 (s.next + 1))) w6.heap.size (stC (outS s d v wN n B { y with num := s.next, d := (d : Int), v := (v : Int), amt := wN }) (.slice (some ⟨g, 0, none⟩) (s.W.length + 1) C')) := by rw [out_stC]; exact S15
  have R16 := hb5.stake (by omega) R13
  have HO16 : Hid (OwnW (w5.heap.size + 2) (w14.setCell ⟨w6.heap.size, 62, none⟩ (.int .i64 (s.next + 1))) (some ⟨g, 0, none⟩) C' (s.W ++ [{ y with num := s.next, d := (d : Int), v := (v : Int), amt := wN }])) := own_of HO13.out fun k hk => hb5.block _ (by cases hk; exact HK6.out)
  have HB16 := hide (HB14.out.trans (hb5.below (by omega)))
  generalize w14.setCell ⟨w6.heap.size, 62, none⟩ (.int .i64 (s.next + 1)) = w16 at *
  have W16 := HO16.out.wsg (by rw [List.length_append, List.length_singleton]; omega)
  have HW16 := hide W16
  have hg0 : g < w16.heap.size := (World.ownsRow.lt HO16.out g rfl).2
  clear W16 S15 HS14 hb5 x9 x10 f10 HBt4 HO16 HO13 HB14 HB13 HK13 HS13 hzX R13 HO12
  apply wp_region_lit
  refine wpList_load_mid rfl 32 _ rfl _ 0 rfl _ _ S16.range Tryz.underlying32 rfl (by rw [infoS]; rfl) ?_
  refine wpList_store_mid rfl 32 _ _ rfl _ 0 (stC (outS s d v wN n B { y with num := s.next, d := (d : Int), v := (v : Int), amt := wN }) (.slice (some ⟨g, 0, none⟩) (s.W.length + 1) C')) rfl rfl (R16.there 0 _ (by rw [Z63_size, stC_size]; omega)) (by rw [infoS]; rfl) (stC_one _ _ _ _) ?_
  go_wp2
  exact stake_endn Tryz.results58 R16 rfl HB16.out (by omega) (outS s d v wN n B { y with num := s.next, d := (d : Int), v := (v : Int), amt := wN }) (some ⟨g, 0, none⟩) g 0 C' (s.W.length + 1) 0 r HR.out (by simp [outS]) hC13 HW16.out (fun _ => by omega) (fun _ => .inr (by omega)) _ rfl rfl rfl
theorem rundel_any (s : St) (ao : Option Addr) (sb so c : Nat) (d v n : Int) (y : Wt) (w : World) (hc : s.W.length ≤ c) (hW : WsAt w ao sb so s.W) :
    Calls Tryz.prog 58 #[.agg (stC s (.slice ao s.W.length c)), .int .i64 d, .int .i64 v, .int .i64 n, .agg #[.int .i64 y.num, .int .i64 y.d, .int .i64 y.v, .int .i64 y.amt, .int .i64 y.hei, .int .i64 y.due, .int .i64 y.h0, .int .i64 y.h1]] w fun e w' => AnswersC w.heap.size sb w (undelS s d v n y) e w' := by
  by_cases h : refOfE s d v = 0
  · obtain ⟨hg, ⟨v0, v1⟩, d0, d1⟩ := ref_zero h
    obtain ⟨v, rfl⟩ := Int.eq_ofNat_of_zero_le v0
    obtain ⟨d, rfl⟩ := Int.eq_ofNat_of_zero_le d0
    have hd : d < 4 := by omega
    have hv : v < 6 := by omega
    have hx := good_vals hg v hv
    have hpe := ((goodS_iff s).1 hg).2.2.2.2.2.1 v hv
    have hge := psh_ge hpe.2.1 hd
    rw [hpe.2.2] at hge
    have hme : (decide (0 < n) && inA n) = true → n ≤ s.S d v → mdE n (s.V v).tok (s.V v).sh = 0 := fun h1 h2 => by
      simp only [Bool.and_eq_true, decide_eq_true_eq] at h1
      have hx' := (vOk_iff _).1 hx.1
      exact (wo_le (k := (s.V v).tok) hx.1 h1.1 (by omega) (by rw [Int.mul_comm (s.V v).tok]; exact Int.mul_le_mul_of_nonneg_right (by omega) hx'.1.1)).1
    have hmb := mdN_bound n (s.V v).tok (s.V v).sh
    have eN : (decide (0 < n) && inA n) = true → n ≤ s.S d v → woN (s.V v) n = mdN n (s.V v).tok (s.V v).sh := fun h1 h2 => by unfold woN; rw [if_pos (hme h1 h2)]
    have eE : (decide (0 < n) && inA n) = true → n ≤ s.S d v → woE (s.V v) n = if mdN n (s.V v).tok (s.V v).sh = 0 then 8 else 0 := fun h1 h2 => by unfold woE; rw [if_pos (hme h1 h2)]
    refine rundel_yes s ao sb so c d v n y w hc hW _ hg hd hv _ _ _ rfl (runbond_any s.b _) (undel_1 h) (undel_2 h) (undel_3 h) (fun h1 h2 h3 h4 => ?_) (fun h1 h2 h3 h4 h5 => ?_) (fun h1 h2 h3 h4 h5 => ?_)
    · have e := eE h1.1 h2
      rw [if_pos (by omega)] at e
      have := undel_4 (y := y) h h1 h2 h3 (by simp only [Int.toNat_natCast]; rw [e]; decide)
      simp only [Int.toNat_natCast] at this
      rw [this, e]
    · have e := eE h1.1 h2
      rw [if_neg (by omega)] at e
      rw [← eN h1.1 h2] at h5 ⊢
      exact undel_5 (y := y) h h1 h2 h3 (by simpa using e) h5
    · have e := eE h1.1 h2
      rw [if_neg (by omega)] at e
      rw [← eN h1.1 h2] at h5 ⊢
      exact undel_6 (y := y) h h1 h2 h3 (by simpa using e) h5
  · exact rundel_no s ao sb so c d v n y w hc hW _ h (undel_ref h)
end Go.Proofs.YtkhlihpghbhppaaGreat

