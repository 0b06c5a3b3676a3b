/- StakePaid: the law's walk. -/
import Derived.Test.YtookecjeknpheadXpy
import Derived.Test.YtookecjeknpheadXsd
set_option maxRecDepth 100000
namespace Go.Proofs.Ytookecjeknphead
open Go.RowKit
/-- is a number one of the first j? -/
def anyN (l : List Int) (n : Int) : Nat → Bool
  | 0 => false
  | j + 1 => anyN l n j || decide (l.getD j 0 = n)
theorem anyN_iff (l : List Int) (n : Int) : ∀ j, anyN l n j = true ↔ ∃ i, i < j ∧ l.getD i 0 = n
  | 0 => by simp [anyN]
  | j + 1 => by
    simp only [anyN, Bool.or_eq_true, anyN_iff l n j, decide_eq_true_eq]
    constructor
    · rintro (⟨i, h1, h2⟩ | h)
      · exact ⟨i, by omega, h2⟩
      · exact ⟨j, by omega, h⟩
    · rintro ⟨i, h1, h2⟩
      by_cases h : i = j
      · subst h; exact .inr h2
      · exact .inl ⟨i, by omega, h2⟩
theorem paid_iff {s : St} (hg : goodS s = true) (t : Int) {x : Wt} (hx : x ∈ s.W) : anyN (paidW t s.W) x.num (paidW t s.W).length = dueW t x := by
  have hn := wOk_num ((goodS_iff s).1 hg).2.2.2.2.1
  apply Bool.eq_iff_iff.2
  rw [anyN_iff]
  constructor
  · rintro ⟨i, hi, he⟩
    have h1 : (paidW t s.W).getD i 0 ∈ paidW t s.W := by rw [show (paidW t s.W).getD i 0 = (paidW t s.W)[i] by simp [List.getD, hi]]; exact List.getElem_mem hi
    rw [he] at h1
    obtain ⟨y, hy, e⟩ := List.mem_map.1 h1
    obtain ⟨hy1, hy2⟩ := List.mem_filter.1 hy
    rw [← hn y hy1 x hx e]
    exact hy2
  · intro hd
    have h1 : x.num ∈ paidW t s.W := List.mem_map.2 ⟨x, List.mem_filter.2 ⟨hx, hd⟩, rfl⟩
    obtain ⟨i, hi, e⟩ := List.getElem_of_mem h1
    exact ⟨i, hi, by rw [show (paidW t s.W).getD i 0 = (paidW t s.W)[i] by simp [List.getD, hi]]; exact e⟩
theorem amts_paid {t : Int} {W : List Wt} {k : Nat} {x : Wt} (hx : W[k]? = some x) : amts (paidL t (W.take (k + 1))) = if dueW t x = true then amts (paidL t (W.take k)) + x.amt else amts (paidL t (W.take k)) := by
  rw [take_snoc hx, paid_snoc]
  split
  · rw [amts_append]; simp [amts]
  · rfl
theorem amts_small {s : St} (hg : goodS s = true) (t : Int) : ∀ k, 0 ≤ amts (paidL t (s.W.take k)) ∧ amts (paidL t (s.W.take k)) ≤ 400000 := by
  intro k
  obtain ⟨h1, h2, h3, h4, h5, h6, h7, h8, h9⟩ := (goodS_iff s).1 hg
  have hmem := wOk_mem h5
  have hb := (good_iff s.b).1 h1
  have e1 : amts s.W = amts (s.W.take k) + amts (s.W.drop k) := by rw [← amts_append, List.take_append_drop]
  have e3 := amts_split (dueW t) (s.W.take k)
  have n0 := amts_nonneg (W := (s.W.take k).filter (dueW t)) fun y hy => (hmem y (List.mem_of_mem_take (List.mem_filter.1 hy).1)).2.2.2.2.1.1
  have n1 := amts_nonneg (W := (s.W.take k).filter fun x => !dueW t x) fun y hy => (hmem y (List.mem_of_mem_take (List.mem_filter.1 hy).1)).2.2.2.2.1.1
  have n2 := amts_nonneg (W := s.W.drop k) fun y hy => (hmem y (List.mem_of_mem_drop hy)).2.2.2.2.1.1
  unfold paidL
  omega
set_option maxHeartbeats 4000000 in
theorem kpaid_no (s : St) (ao : Option Addr) (sb so c : Nat) (t : Int) (w : World) (hW : WsAt w ao sb so s.W) (hg : goodS s = false) :
    Calls Try.prog 5 #[.agg (stC s (.slice ao s.W.length c)), .int .i64 t] w fun e w' => e = .returned (.bool true) ∧ Below w.heap.size w w' := by
  have S4 := SAt.new w (stC s (.slice ao s.W.length c))
  have HB0 : Hid (Below w.heap.size w (w.alloc (.cells (stC s (.slice ao s.W.length c)) 32))) := (Below.refl _ w).alloc (Nat.le_refl _) _
  have HW := hide hW
  have hP := fun w h => spay_no s ao sb so c t w h hg
  clear hW hg
  go_enter Try.func5, Try.ntmps5
  go_upto_region 1 with fail
  generalize w.alloc (.cells (stC s (.slice ao s.W.length c)) 32) = w0 at *
  have hz0 : w.heap.size < w0.heap.size := S4.lt
  apply wp_region_lit
  refine wpList_load_mid rfl 32 _ rfl _ 0 rfl _ _ S4.range Try.underlying32 rfl (by rw [infoS]; rfl) ?_
  iterate 5 go_step
  refine (hP _ (by exact HW.out.over HB0.out)).mono ?_
  rintro e w3 ⟨rfl, h3⟩
  dsimp only
  have HB3 := hide (HB0.out.trans (h3.mono HB0.out.size))
  have hz3 : w.heap.size < w3.heap.size := by have := h3.size; omega
  clear h3 S4 hP
  iterate 16 go_step
  refine wpList_store_mid rfl 32 _ _ rfl _ 0 (stC s (.slice ao s.W.length c)) rfl rfl ((SAt.new w3 Z63).there 0 _ (by rw [Z63_size, stC_size]; omega)) (by rw [infoS]; rfl) (stC_one _ _ _ _) ?_
  change wpList Try.prog _ _ _ _ ((w3.alloc (.cells Z63 32)).setCells w3.heap.size 0 (stC s (.slice ao s.W.length c)).toList)
  have HB4 := hide (below_sets (b := w3.heap.size) (by omega) (stC s (.slice ao s.W.length c)).toList 0 _ (HB3.out.alloc (by omega) (.cells Z63 32)))
  generalize (w3.alloc (.cells Z63 32)).setCells w3.heap.size 0 (stC s (.slice ao s.W.length c)).toList = w4 at *
  clear HB3
  go_wp2_with (go_at_call 16; refine (stakes_any _).mono ?_; rintro e w5 ⟨rfl, h5⟩)
  go_ret
  exact ⟨rfl, HB4.out.trans (h5.mono HB4.out.size)⟩
set_option maxHeartbeats 8000000 in
theorem kpaid_yes (s : St) (ao : Option Addr) (sb so c : Nat) (t : Int) (w : World) (hW : WsAt w ao sb so s.W) (hg : goodS s = true) :
    Calls Try.prog 5 #[.agg (stC s (.slice ao s.W.length c)), .int .i64 t] w fun e w' => e = .returned (.bool true) ∧ Below w.heap.size w w' := by
  have S4 := SAt.new w (stC s (.slice ao s.W.length c))
  have HB0 : Hid (Below w.heap.size w (w.alloc (.cells (stC s (.slice ao s.W.length c)) 32))) := (Below.refl _ w).alloc (Nat.le_refl _) _
  have HW := hide hW
  have hP := fun w h => spay_yes s ao sb so c t w h hg
  have hP2 := fun A g C w h => spay_yes (payS s t) A g 0 C t w h (pay_good hg t)
  have HPI := hide (fun x hx => paid_iff hg t (x := x) hx)
  have HAM := hide (amts_small hg t)
  have hl60 : s.W.length ≤ 60 := ((goodS_iff s).1 hg).2.2.2.1
  obtain ⟨pb1, pb2, pb3, pb4⟩ := pay_all hg t
  have hlen := paid_len t s.W
  have hbs := (good_iff s.b).1 ((goodS_iff s).1 hg).1
  have haW : (payS s t).W = leftW t s.W := rfl
  have hag : (paidW t (payS s t).W).length = 0 := by show (paidW t (leftW t s.W)).length = 0; unfold paidW; rw [left_again]; rfl
  rw [← haW] at hlen
  generalize payS s t = a at *
  have HA := hide haW
  clear hW hg haW pb1 pb3
  go_enter Try.func5, Try.ntmps5
  go_upto_region 1 with fail
  generalize w.alloc (.cells (stC s (.slice ao s.W.length c)) 32) = w0 at *
  have hz0 : w.heap.size < w0.heap.size := S4.lt
  apply wp_region_lit
  refine wpList_load_mid rfl 32 _ rfl _ 0 rfl _ _ S4.range Try.underlying32 rfl (by rw [infoS]; rfl) ?_
  iterate 5 go_step
  refine (hP _ (by exact HW.out.over HB0.out)).mono ?_
  rintro e w3 ⟨A, C, A', C', rfl, hO9, hO10, h3⟩
  dsimp only
  have S4c := S4.later h3 S4.lt
  have HB3 := hide (HB0.out.trans (h3.mono HB0.out.size))
  have hz3 : w.heap.size < w3.heap.size := S4c.lt
  clear h3 S4 hP HB0
  iterate 16 go_step
  refine wpList_store_mid rfl 32 _ _ rfl _ 0 (stC a (.slice A a.W.length C)) rfl rfl ((SAt.new w3 Z63).there 0 _ (by rw [Z63_size, stC_size]; omega)) (by rw [infoS]; rfl) (stC_one _ _ _ _) ?_
  change wpList Try.prog _ _ _ _ ((w3.alloc (.cells Z63 32)).setCells w3.heap.size 0 (stC a (.slice A a.W.length C)).toList)
  have S10 := (SAt.new w3 Z63).setAll (ds := (stC a (.slice A a.W.length C))) rfl
  have S4d : SAt ((w3.alloc (.cells Z63 32)).setCells w3.heap.size 0 (stC a (.slice A a.W.length C)).toList) w.heap.size (stC s (.slice ao s.W.length c)) := (heap_sets (by omega) _ _ _).trans (S4c.alloc _)
  have HB4 := hide (below_sets (b := w3.heap.size) (by omega) (stC a (.slice A a.W.length C)).toList 0 _ (HB3.out.alloc (by omega) (.cells Z63 32)))
  have HO9 : Hid (OwnW w0.heap.size ((w3.alloc (.cells Z63 32)).setCells w3.heap.size 0 (stC a (.slice A a.W.length C)).toList) A C a.W) := own_of hO9 fun k hk => (heap_sets (by have := (World.ownsRow.lt hO9 k hk).2; omega) _ _ _).trans (Below.heap_alloc w3 _ k (World.ownsRow.lt hO9 k hk).2)
  have HO10 : Hid (OwnN w0.heap.size ((w3.alloc (.cells Z63 32)).setCells w3.heap.size 0 (stC a (.slice A a.W.length C)).toList) A' C' (paidW t s.W)) := own_of hO10 fun k hk => (heap_sets (by have := (World.ownsRow.lt hO10 k hk).2; omega) _ _ _).trans (Below.heap_alloc w3 _ k (World.ownsRow.lt hO10 k hk).2)
  generalize (w3.alloc (.cells Z63 32)).setCells w3.heap.size 0 (stC a (.slice A a.W.length C)).toList = w4 at *
  have hz4 : w3.heap.size < w4.heap.size := S10.lt
  clear S4c HB3 hO9 hO10
  go_upto_region 4 with (go_at_call 16; refine (stakes_any _).mono ?_; rintro e w5 ⟨rfl, h5⟩)
  have S4e := S4d.later h5 (by omega)
  have S10e := S10.later h5 S10.lt
  have HB5 := hide (HB4.out.trans (h5.mono (by omega)))
  have HO9e := hide (HO9.out.over h5)
  have HO10e := hide (HO10.out.over h5)
  have hz5 : w3.heap.size < w5.heap.size := S10e.lt
  have hz5a : w.heap.size < w5.heap.size := by omega
  clear S4d S10 HB4 HO9 HO10 h5
  have x7 := (st_cells S4e).2.2.2.2.2.2.2.1
  have hadr := HW.out.adr
  generalize hpl : paidW t s.W = pl at *
  have HPL := hide hpl
  clear hpl
  have hl10 : pl.length ≤ 60 := by omega
  go_upto_region 6 with fail
  go_loopw [8, 40] (fun n i wl => ∃ (k : Nat), k ≤ s.W.length ∧ i = .int .i64 (k : Int) ∧ n = .int .i64 (amts (paidL t (s.W.take k))) ∧ Hid (Below w5.heap.size w5 wl)) (fun _ i _ => s.W.length - (intOf i).toNat)
  case atStart => exact ⟨0, Nat.zero_le _, rfl, rfl, Below.refl _ _⟩
  case round =>
    obtain ⟨k, hk, rfl, rfl, HP⟩ := hrel
    have hwr := HP.out.size
    obtain ⟨m0, m1⟩ := HAM.out k
    by_cases hlt : k < s.W.length
    · obtain ⟨x, hx, _⟩ := drop_at hlt
      have hmem : x ∈ s.W := by obtain ⟨h1, h2⟩ := List.getElem?_eq_some_iff.1 hx; exact h2 ▸ List.getElem_mem h1
      have HPX := hide (HPI.out x hmem)
      have HAX := hide (amts_paid (t := t) hx)
      obtain ⟨m2, m3⟩ := HAM.out (k + 1)
      obtain ⟨c0, c1, c2, c3, c4, c5, c6, c7⟩ := ((HW.out.over HB5.out).over HP.out).cell k x hx
      obtain rfl := hadr (by omega)
      have heq := fun w => eqHz w x.h0 x.h1
      have hx0 : amts (paidL t (s.W.take k)) = amts (paidL t (s.W.take k)) := rfl
      generalize amts (paidL t (s.W.take k)) = n0 at *
      clear hadr x7 hP2 hx0 hx hmem
      have Yq : YAt (wr.alloc (.cells #[.int .i64 x.num, .int .i64 x.d, .int .i64 x.v, .int .i64 x.amt, .int .i64 x.hei, .int .i64 x.due, .int .i64 x.h0, .int .i64 x.h1] 45)) wr.heap.size x := heap_alloc_new _ _
      have HQ := hide (HP.out.alloc (by omega) (.cells #[.int .i64 x.num, .int .i64 x.d, .int .i64 x.v, .int .i64 x.amt, .int .i64 x.hei, .int .i64 x.due, .int .i64 x.h0, .int .i64 x.h1] 45))
      have hzq : wr.heap.size < (wr.alloc (.cells #[.int .i64 x.num, .int .i64 x.d, .int .i64 x.v, .int .i64 x.amt, .int .i64 x.hei, .int .i64 x.due, .int .i64 x.h0, .int .i64 x.h1] 45)).heap.size := Yq.lt
      have HC10 : Hid (OwnN w0.heap.size (wr.alloc (.cells #[.int .i64 x.num, .int .i64 x.d, .int .i64 x.v, .int .i64 x.amt, .int .i64 x.hei, .int .i64 x.due, .int .i64 x.h0, .int .i64 x.h1] 45)) A' C' pl) := HO10e.out.over HQ.out
      go_upto_region 8 with fail
      generalize wr.alloc (.cells #[.int .i64 x.num, .int .i64 x.d, .int .i64 x.v, .int .i64 x.amt, .int .i64 x.hei, .int .i64 x.due, .int .i64 x.h0, .int .i64 x.h1] 45) = wq at *
      clear c0 c1 c2 c3 c4 c5 c6 c7 HP
      obtain ⟨c0, c1, c2, c3, c4, c5, c6, c7⟩ := Yq.cells
      by_cases hd1 : x.due ≤ t
      · by_cases hd2 : x.h0 = 0 ∧ x.h1 = 0
        · rw [decide_eq_true hd2] at heq
          have HD : Hid (dueW t x = true) := by show dueW t x = true; simp [dueW, hd1, hd2]
          rw [HD.out] at HPX HAX
          have hn1 : amts (paidL t (s.W.take (k + 1))) = n0 + x.amt := by rw [HAX.out]; rfl
          have hw : wrap64 (n0 + x.amt) = n0 + x.amt := wrap64_small (by omega) (by omega)
          clear HAX
          clear hd2
          go_upto_region 11 with fail
          go_loopw [12, 56] (fun p i wl => ∃ (j : Nat), j ≤ pl.length ∧ i = .int .i64 (j : Int) ∧ p = .bool (anyN pl x.num j) ∧ Hid (wl = wq)) (fun _ i _ => pl.length - (intOf i).toNat)
          case atStart => exact ⟨0, Nat.zero_le _, rfl, rfl, rfl⟩
          case round =>
            obtain ⟨j, hj, rfl, rfl, HE⟩ := hrel
            have hE := HE.out
            subst hE
            clear HE
            by_cases hjl : j < pl.length
            · obtain ⟨g, rfl, hcl⟩ := HC10.out.cell hjl
              have d0 := hcl j (pl.getD j 0) (by rw [show pl.getD j 0 = pl[j] by simp [List.getD, hjl]]; exact List.getElem?_eq_getElem hjl)
              have HN := hide (show anyN pl x.num (j + 1) = (anyN pl x.num j || decide (pl.getD j 0 = x.num)) from rfl)
              have hcp := HC10.out.cap
              generalize pl.getD j 0 = pj at *
              generalize anyN pl x.num j = b0 at *
              clear hcl
              go_wp2
              all_goals exact ⟨⟨j + 1, by omega, by go_num, by rw [HN.out]; first | (simp_all; done) | (simp_all; rfl), by first | exact rfl | exact trivial⟩, by simp [intOf]; omega⟩
            · obtain rfl : j = pl.length := by omega
              rw [HPX.out]
              go_wp2
              exact ⟨⟨k + 1, by omega, by go_num, by rw [hn1], HQ⟩, by simp [intOf]; omega⟩
        · rw [decide_eq_false hd2] at heq
          have HD : Hid (dueW t x = false) := by show dueW t x = false; simp [dueW, hd1, hd2]
          rw [HD.out] at HPX HAX
          have hn1 : amts (paidL t (s.W.take (k + 1))) = n0 := by rw [HAX.out]; rfl
          skip
          clear HAX
          clear hd2
          go_upto_region 11 with fail
          go_loopw [12, 56] (fun p i wl => ∃ (j : Nat), j ≤ pl.length ∧ i = .int .i64 (j : Int) ∧ p = .bool (anyN pl x.num j) ∧ Hid (wl = wq)) (fun _ i _ => pl.length - (intOf i).toNat)
          case atStart => exact ⟨0, Nat.zero_le _, rfl, rfl, rfl⟩
          case round =>
            obtain ⟨j, hj, rfl, rfl, HE⟩ := hrel
            have hE := HE.out
            subst hE
            clear HE
            by_cases hjl : j < pl.length
            · obtain ⟨g, rfl, hcl⟩ := HC10.out.cell hjl
              have d0 := hcl j (pl.getD j 0) (by rw [show pl.getD j 0 = pl[j] by simp [List.getD, hjl]]; exact List.getElem?_eq_getElem hjl)
              have HN := hide (show anyN pl x.num (j + 1) = (anyN pl x.num j || decide (pl.getD j 0 = x.num)) from rfl)
              have hcp := HC10.out.cap
              generalize pl.getD j 0 = pj at *
              generalize anyN pl x.num j = b0 at *
              clear hcl
              go_wp2
              all_goals exact ⟨⟨j + 1, by omega, by go_num, by rw [HN.out]; first | (simp_all; done) | (simp_all; rfl), by first | exact rfl | exact trivial⟩, by simp [intOf]; omega⟩
            · obtain rfl : j = pl.length := by omega
              rw [HPX.out]
              go_wp2
              exact ⟨⟨k + 1, by omega, by go_num, by rw [hn1], HQ⟩, by simp [intOf]; omega⟩
      · have hd2 := hd1
        have HD : Hid (dueW t x = false) := by show dueW t x = false; simp [dueW, hd1]
        rw [HD.out] at HPX HAX
        have hn1 : amts (paidL t (s.W.take (k + 1))) = n0 := by rw [HAX.out]; rfl
        skip
        clear HAX
        clear hd2
        go_upto_region 11 with fail
        go_loopw [12, 56] (fun p i wl => ∃ (j : Nat), j ≤ pl.length ∧ i = .int .i64 (j : Int) ∧ p = .bool (anyN pl x.num j) ∧ Hid (wl = wq)) (fun _ i _ => pl.length - (intOf i).toNat)
        case atStart => exact ⟨0, Nat.zero_le _, rfl, rfl, rfl⟩
        case round =>
          obtain ⟨j, hj, rfl, rfl, HE⟩ := hrel
          have hE := HE.out
          subst hE
          clear HE
          by_cases hjl : j < pl.length
          · obtain ⟨g, rfl, hcl⟩ := HC10.out.cell hjl
            have d0 := hcl j (pl.getD j 0) (by rw [show pl.getD j 0 = pl[j] by simp [List.getD, hjl]]; exact List.getElem?_eq_getElem hjl)
            have HN := hide (show anyN pl x.num (j + 1) = (anyN pl x.num j || decide (pl.getD j 0 = x.num)) from rfl)
            have hcp := HC10.out.cap
            generalize pl.getD j 0 = pj at *
            generalize anyN pl x.num j = b0 at *
            clear hcl
            go_wp2
            all_goals exact ⟨⟨j + 1, by omega, by go_num, by rw [HN.out]; first | (simp_all; done) | (simp_all; rfl), by first | exact rfl | exact trivial⟩, by simp [intOf]; omega⟩
          · obtain rfl : j = pl.length := by omega
            rw [HPX.out]
            go_wp2
            exact ⟨⟨k + 1, by omega, by go_num, by rw [hn1], HQ⟩, by simp [intOf]; omega⟩
    · obtain rfl : k = s.W.length := by omega
      rw [List.take_length]
      rw [List.take_length] at m0 m1
      have S4f := S4e.later HP.out (by omega)
      have S10f := S10e.later HP.out (by omega)
      obtain ⟨gA, hWA, hgA⟩ := (HO9e.out.over HP.out).ws (by omega)
      have HBr := hide (HB5.out.trans (HP.out.mono (by omega)))
      have hP3 := fun w h => hP2 A gA C w h
      have hzr : w3.heap.size < wr.heap.size := S10f.lt
      clear hP2 HO9e HO10e HPI HAM hgA
      generalize payS a t = a2 at *
      go_upto_region 20 with fail
      apply wp_region_lit
      refine wpList_load_mid rfl 32 _ rfl _ 0 rfl _ _ S10f.range Try.underlying32 rfl (by rw [infoS]; rfl) ?_
      iterate 5 go_step
      refine (hP3 _ (by exact hWA)).mono ?_
      rintro e w6 ⟨A2, C2, A3, C3, rfl, _, _, h6⟩
      dsimp only
      have S4g := S4f.later h6 S4f.lt
      have S10g := S10f.later h6 S10f.lt
      have HB6 := hide (HBr.out.trans (h6.mono (by omega)))
      have hz6 : w3.heap.size < w6.heap.size := S10g.lt
      clear h6 S4f S10f HBr hP3 hWA
      iterate 16 go_step
      refine wpList_store_mid rfl 32 _ _ rfl _ 0 (stC a2 (.slice A2 a2.W.length C2)) rfl rfl ((SAt.new w6 Z63).there 0 _ (by rw [Z63_size, stC_size]; omega)) (by rw [infoS]; rfl) (stC_one _ _ _ _) ?_
      change wpList Try.prog _ _ _ _ ((w6.alloc (.cells Z63 32)).setCells w6.heap.size 0 (stC a2 (.slice A2 a2.W.length C2)).toList)
      have S4h : SAt ((w6.alloc (.cells Z63 32)).setCells w6.heap.size 0 (stC a2 (.slice A2 a2.W.length C2)).toList) w.heap.size (stC s (.slice ao s.W.length c)) := (heap_sets (by omega) _ _ _).trans (S4g.alloc _)
      have S10h : SAt ((w6.alloc (.cells Z63 32)).setCells w6.heap.size 0 (stC a2 (.slice A2 a2.W.length C2)).toList) w3.heap.size (stC a (.slice A a.W.length C)) := (heap_sets (by omega) _ _ _).trans (S10g.alloc _)
      have HB7 := hide (below_sets (b := w6.heap.size) (by omega) (stC a2 (.slice A2 a2.W.length C2)).toList 0 _ (HB6.out.alloc (by omega) (.cells Z63 32)))
      generalize (w6.alloc (.cells Z63 32)).setCells w6.heap.size 0 (stC a2 (.slice A2 a2.W.length C2)).toList = w7 at *
      clear S4g S10g HB6
      have hz7 : w3.heap.size < w7.heap.size := S10h.lt
      have hz7a : w.heap.size < w7.heap.size := by omega
      obtain ⟨_, _, _, _, p4, p5, _, p7, _⟩ := st_cells S4h
      obtain ⟨_, _, _, _, q4, q5, _, q7, _⟩ := st_cells S10h
      rw [hag]
      rw [pb2] at q4
      have hw : IntKind.i64.wrap (s.b.wa - a.b.wa) = amts (paidL t s.W) := by
        rw [pb4, show s.b.wa - (s.b.wa - amts (paidL t s.W)) = amts (paidL t s.W) by omega]
        exact wrapI (by omega) (by omega)
      have hsum : ((a.W.length : Int) + (pl.length : Int)) = (s.W.length : Int) := by omega
      generalize amts (paidL t s.W) = n0 at *
      clear S4h S10h S4e S10e HB5 HP x7 hadr HPL pb4 hag hlen
      go_wp2
      go_ret
      exact ⟨rfl, HB7.out⟩
theorem kpaid_walk (s : St) (ao : Option Addr) (sb so c : Nat) (t : Int) (w : World) (_ : s.W.length ≤ c) (hW : WsAt w ao sb so s.W) :
    Calls Try.prog 5 #[.agg (stC s (.slice ao s.W.length c)), .int .i64 t] w fun e w' => e = .returned (.bool true) ∧ Below w.heap.size w w' := by
  rcases Bool.eq_false_or_eq_true (goodS s) with hg | hg
  · exact kpaid_yes s ao sb so c t w hW hg
  · exact kpaid_no s ao sb so c t w hW hg
end Go.Proofs.Ytookecjeknphead
