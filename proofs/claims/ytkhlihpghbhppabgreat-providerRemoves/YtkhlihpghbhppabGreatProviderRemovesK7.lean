/- Parts of the proof: PLM. -/
import Derived.Test.YtkhlihpghbhppabGreatRows
import Derived.Test.YtkhlihpghbhppabGreatProviderRemovesK4
import Derived.Test.YtkhlihpghbhppabGreatProviderRemovesK5
import Derived.Test.YtkhlihpghbhppabGreatProviderRemovesK14
import Derived.Test.YtkhlihpghbhppabGreatProviderRemovesK48
set_option maxRecDepth 100000
namespace Go.Proofs.YtkhlihpghbhppabGreat.Pv
open Go.RowKit
def eqlB (a b : Value) : Sem Value := binOp .eql 24 a b
theorem eqlB_eq (a b : Value) : binOp .eql 24 a b = eqlB a b := rfl
/-- what Remove leaves of a link that was on -/
structure Left (p r : Pr) (k : Nat) : Prop where
  good : goodP r = true
  off : (r.L k).on = false
  gone : (r.L k).gone = true
  bank : r.s.b = p.s.b
  ws : ∀ (i : Nat) (x : Wt), r.s.W[i]? = some x → ¬ (0 < (if k = 0 then x.h0 else x.h1) ∧ (if k = 0 then x.h0 else x.h1) ≤ 1099511627776)
  q : ∀ (i : Nat) (x : Int × Pkt), r.q[i]? = some x → x.1 ≠ (k : Int)
  len : r.q.length ≤ p.q.length
theorem left_of {p : Pr} {k : Nat} (hk : k < 2) (hg : goodP p = true) (ho : (p.L k).on = true) : Left p (removeP p k) k := by
  have hon : isOn p (k : Int) = true := by
    unfold isOn isC
    simp [ho]
    omega
  have hG := good_remove hg hon
  have hD : removeP p k = { p with s := { p.s with W := relW k 1099511627776 p.s.W }, L := updL p.L k (goneLk (p.L k)), q := p.q.filter fun a => decide (a.1 ≠ (k : Int)) } := by
    unfold removeP
    rw [if_pos ⟨hg, hon⟩, Int.toNat_natCast]
  rw [hD] at hG ⊢
  refine ⟨hG, ?_, ?_, rfl, fun i x hx => ?_, fun i x hx => ?_, List.length_filter_le _ _⟩
  · show (updL p.L k (goneLk (p.L k)) k).on = false
    unfold updL
    rw [if_pos rfl]
    rfl
  · show (updL p.L k (goneLk (p.L k)) k).gone = true
    unfold updL
    rw [if_pos rfl]
    rfl
  · have hx' : (p.s.W.map (relX k 1099511627776))[i]? = some x := hx
    rw [List.getElem?_map] at hx'
    rcases hy : p.s.W[i]? with _ | y
    · rw [hy] at hx'; cases hx'
    · rw [hy] at hx'
      cases hx'
      exact relX_free k hk y
  · have := (List.mem_filter.1 (List.mem_of_getElem? hx)).2
    simpa using this
attribute [local go_sem ↓] loadS_eq loadP_eq storeP_eq storeS_eq eqlB_eq
set_option maxHeartbeats 16000000 in
theorem kpremoves_walk (p : Pr) (v : PrV) (w : World) (c : Int) (hp : PIn (fun _ => True) w p v) (hq88 : p.q.length * 88 ≤ 140737488351232) :
    Calls Tryz.prog 3 #[.agg (prC p v), .int .i64 c] w fun e w' => e = .returned (.bool true) ∧ Below w.heap.size w w' := by
  have HRM := hide (fun (wx : World) (hb : Below w.heap.size w wx) => premove_any p v (fun _ => True) wx c (hp.over hb) hq88)
  have HGP := hide (fun (wx : World) (hb : Below w.heap.size w wx) => pgood_any p v (fun _ => True) wx (hp.over hb))
  have HL : Hid (∀ k : Nat, c = (k : Int) → k < 2 → goodP p = true → (p.L k).on = true → Left p (removeP p c) k) := fun k hc hk hg ho => by rw [hc]; exact left_of hk hg ho
  have HLEN := hide hq88
  generalize removeP p c = r at *
  have HONE := hide (fun (P : Nat → Prop) (wx : World) (u : PrV) (hu : PIn P wx r u) => pr_one hu)
  generalize goodP p = G at *
  clear hp hq88
  go_enter Tryz.func3, Tryz.ntmps3
  go_upto_region 1 with fail
  have C0 : CAt 47 (w.alloc (.cells (prC p v) 47)) w.heap.size (prC p v) := CAt.new _ w _
  have B0 : Below w.heap.size w (w.alloc (.cells (prC p v) 47)) := (Below.refl _ w).alloc (Nat.le_refl _) _
  generalize w.alloc (.cells (prC p v) 47) = w0 at *
  have l0 := pr_loadP C0 (prC_size _ _)
  have H0 := hide (show _ ∧ _ from ⟨C0, B0⟩)
  clear C0 B0
  go_upto_region 2 with (go_at_call 5; refine (HRM.out _ H0.out.2).mono ?_; rintro e w2 ⟨v2, rfl, P2, hb2⟩; clear l0; have s2 := pr_storeP (CAt.new 47 w2 Tryz.zeroCells47) Z97_size (prC_size r v2) (HONE.out _ _ _ P2))
  have bS : Below w2.heap.size w2 ((w2.alloc (.cells Tryz.zeroCells47 47)).setCells w2.heap.size 0 (prC r v2).toList) := below_sets (Nat.le_refl _) _ _ _ ((Below.refl _ w2).alloc (Nat.le_refl _) _)
  have D3 : CAt 47 ((w2.alloc (.cells Tryz.zeroCells47 47)).setCells w2.heap.size 0 (prC r v2).toList) w2.heap.size (prC r v2) := (CAt.new 47 w2 Tryz.zeroCells47).setAll (by rw [Z97_size]; rfl)
  have b3 := hb2.trans (bS.mono hb2.size)
  have C3 := H0.out.1.over b3
  have B3 := H0.out.2.trans (b3.mono H0.out.2.size)
  have Q3 := P2.over bS
  have hgw : w.heap.size < w2.heap.size := Nat.lt_of_lt_of_le H0.out.1.lt hb2.size
  clear s2 bS hb2 b3 P2 H0 HRM
  generalize (w2.alloc (.cells Tryz.zeroCells47 47)).setCells w2.heap.size 0 (prC r v2).toList = w3 at *
  generalize w2.heap.size = g7 at *
  have l3 := pr_loadP C3 (prC_size _ _)
  have hz3 := C3.lt
  have h7 := D3.lt
  have H3 := hide (show _ ∧ _ ∧ _ ∧ _ from ⟨C3, D3, B3, Q3⟩)
  clear C3 D3 B3 Q3
  by_cases hall : G = true ∧ ∃ k : Nat, c = (k : Int) ∧ k < 2 ∧ (p.L k).on = true
  · obtain ⟨rfl, k, rfl, hk, hon⟩ := hall
    have HF := hide (HL.out k rfl hk rfl hon)
    clear HL
    have hkk : (k : Int) < 2 := by omega
    have hkz : (0 : Int) ≤ (k : Int) := by omega
    have hkn : ¬ ((k : Int) < 0) := by omega
    go_upto_region 4 with (first
      | (go_at_call 6; refine (HGP.out _ H3.out.2.2.1).mono ?_; rintro e w4 ⟨rfl, hb4⟩; clear l3; have o4 := ((H3.out.1.over hb4).lk hk).facts.1; rw [hon] at o4)
      | (go_at_call 7; refine (kprovides_any _).mono ?_; rintro e w5 ⟨rfl, hb5⟩; clear o4))
    have b5 := hb4.trans (hb5.mono hb4.size)
    have C5 := H3.out.1.over b5
    have D5 := H3.out.2.1.over b5
    have B5 := H3.out.2.2.1.trans (b5.mono H3.out.2.2.1.size)
    have Q5 := H3.out.2.2.2.over b5
    clear hb4 hb5 b5 H3 HGP
    obtain ⟨Aw, Cw, ew, sw, -, cw, -⟩ := Q5.ws.open (wsL_length r.s.W) (by decide)
    obtain ⟨zq, hzl, hzr, hzi⟩ := Q5.q
    obtain ⟨Aq, Cq, eq, sq, -, cq, -⟩ := hzr.open (quL_length _ _ hzl) (by decide)
    have HCW := hide cw
    have HCQ := hide cq
    have HZI := hide (show _ ∧ _ from ⟨hzl, hzi⟩)
    have a63 : w5.cell? ⟨g7, 63, none⟩ = some (.slice Aw r.s.W.length Cw) := by rw [← ew]; exact D5.cell 63
    have HEQ := hide eq
    have hnw : r.s.W.length ≤ 2199023255552 := by omega
    have hnq : r.q.length ≤ 1800000000000 := by omega
    have h5 := D5.lt
    have H5 := hide (show _ ∧ _ ∧ _ ∧ _ from ⟨C5, D5, B5, Q5⟩)
    clear C5 D5 B5 Q5 cw cq hzl hzr hzi ew eq sw sq
    go_upto_region 5 with fail
    go_loopw [45] (fun i wl => ∃ (j : Nat), j ≤ r.s.W.length ∧ i = .int .i64 (j : Int) ∧ Hid (Below w5.heap.size w5 wl)) (fun i _ => r.s.W.length - (intOf i).toNat)
    case atStart => exact ⟨0, Nat.zero_le _, rfl, Below.refl _ _⟩
    case round =>
      obtain ⟨j, hj, rfl, HW⟩ := hrel
      by_cases hlt : j < r.s.W.length
      · have hjI : (j : Int) < (r.s.W.length : Int) := by omega
        obtain ⟨x, hx⟩ : ∃ x, r.s.W[j]? = some x := ⟨_, List.getElem?_eq_getElem hlt⟩
        obtain ⟨bw, ow, rfl, -, hbl, hcell⟩ := HCW.out (by omega)
        have hc : ∀ i, i < 8 → ∀ u, (wtL x)[i]? = some u → wr.cell? ⟨bw, ow + j * 8 + i, none⟩ = some u := fun i hi u hu => by
          rw [HW.out.cell (p := ⟨bw, ow + j * 8 + i, none⟩) hbl, Nat.add_assoc]
          exact hcell _ _ ((wsL_get _ j x i hx hi).trans hu)
        have e0 := hc 0 (by omega) _ rfl
        have e1 := hc 1 (by omega) _ rfl
        have e2 := hc 2 (by omega) _ rfl
        have e3 := hc 3 (by omega) _ rfl
        have e4 := hc 4 (by omega) _ rfl
        have e5 := hc 5 (by omega) _ rfl
        have e6 := hc 6 (by omega) _ rfl
        have e7 := hc 7 (by omega) _ rfl
        rw [Nat.add_zero] at e0
        have hno := HF.out.ws j x hx
        have hsz := HW.out.size
        clear hc hcell hx
        go_upto_region 7 with fail
        have K1 := CAt.new 53 wr #[.int .i64 x.num, .int .i64 x.d, .int .i64 x.v, .int .i64 x.amt, .int .i64 x.hei, .int .i64 x.due, .int .i64 x.h0, .int .i64 x.h1]
        have b1 : Below w5.heap.size w5 (wr.alloc (.cells #[.int .i64 x.num, .int .i64 x.d, .int .i64 x.v, .int .i64 x.amt, .int .i64 x.hei, .int .i64 x.due, .int .i64 x.h0, .int .i64 x.h1] 53)) := HW.out.alloc hsz _
        clear e0 e1 e2 e3 e4 e5 e6 e7 HW
        generalize wr.alloc (.cells #[.int .i64 x.num, .int .i64 x.d, .int .i64 x.v, .int .i64 x.amt, .int .i64 x.hei, .int .i64 x.due, .int .i64 x.h0, .int .i64 x.h1] 53) = w6 at *
        have t6 : w6.cell? ⟨wr.heap.size, 6 + k, none⟩ = some (.int .i64 (if k = 0 then x.h0 else x.h1)) := by
          rcases (show k = 0 ∨ k = 1 by omega) with rfl | rfl
          · exact K1.cell 6
          · exact K1.cell 7
        have hzk1 := K1.lt
        have HN := hide b1
        generalize (if k = 0 then x.h0 else x.h1) = hv at *
        clear K1 b1
        by_cases hpos : 0 < hv
        · have hle : ¬ (hv ≤ 1099511627776) := fun h => hno ⟨hpos, h⟩
          clear hno
          go_wp2
          first | exact ⟨⟨j + 1, by omega, by go_num, HN⟩, by simp [intOf]; omega⟩ | ((repeat apply Exists.intro); exact ⟨⟨j + 1, by omega, by go_num, HN⟩, rfl⟩)
        · clear hno
          go_wp2
          first | exact ⟨⟨j + 1, by omega, by go_num, HN⟩, by simp [intOf]; omega⟩ | ((repeat apply Exists.intro); exact ⟨⟨j + 1, by omega, by go_num, HN⟩, rfl⟩)
      · obtain rfl : j = r.s.W.length := by omega
        have b6 := HW.out
        have C6 := H5.out.1.over b6
        have D6 := H5.out.2.1.over b6
        have B6 := H5.out.2.2.1.trans (b6.mono H5.out.2.2.1.size)
        have Q6 := H5.out.2.2.2.over b6
        have HC6 : Hid (0 < r.q.length → ∃ b off, Aq = some ⟨b, off, none⟩ ∧ b < wr.heap.size ∧ ∀ j u, (quL r.q zq)[j]? = some u → wr.cell? ⟨b, off + j, none⟩ = some u) := fun h => by
          obtain ⟨b, off, e, -, hl, hc⟩ := HCQ.out h
          exact ⟨b, off, e, Nat.lt_of_lt_of_le hl b6.size, fun j u hu => by rw [b6.cell (p := ⟨b, off + j, none⟩) hl]; exact hc j u hu⟩
        have a96 : wr.cell? ⟨g7, 96, none⟩ = some (.slice Aq r.q.length Cq) := by rw [← HEQ.out]; exact D6.cell 96
        have h6 := D6.lt
        have H6 := hide (show _ ∧ _ ∧ _ ∧ _ from ⟨C6, D6, B6, Q6⟩)
        clear C6 D6 B6 Q6 b6 HW H5 HCQ HCW a63 h5 hlt
        generalize hwz : wr = wz at *
        clear hwz
        go_upto_region 11 with fail
        go_loopw [65] (fun i wl => ∃ (j : Nat), j ≤ r.q.length ∧ i = .int .i64 (j : Int) ∧ Hid (Below wz.heap.size wz wl)) (fun i _ => r.q.length - (intOf i).toNat)
        case atStart => exact ⟨0, Nat.zero_le _, rfl, Below.refl _ _⟩
        case round =>
          obtain ⟨j, hj, rfl, HW⟩ := hrel
          by_cases hlt : j < r.q.length
          · have hjI : (j : Int) < (r.q.length : Int) := by omega
            obtain ⟨x, hx⟩ : ∃ x, r.q[j]? = some x := ⟨_, List.getElem?_eq_getElem hlt⟩
            obtain ⟨y, hy⟩ : ∃ y, zq[j]? = some y := ⟨_, List.getElem?_eq_getElem (by rw [HZI.out.1]; exact hlt)⟩
            have hin := HZI.out.2 j x y hx hy
            obtain ⟨y1, y2⟩ := y
            obtain ⟨⟨B1, n1, D1, ey1, -⟩, ⟨B2, n2, D2, ey2, -⟩⟩ := id hin
            dsimp only at ey1 ey2
            subst ey1 ey2
            obtain ⟨bq, oq, rfl, hbl, hcell⟩ := HC6.out (by omega)
            have hc : ∀ i, i < 7 → ∀ u, (akL x (.slice B1 n1 D1, .slice B2 n2 D2))[i]? = some u → wr.cell? ⟨bq, oq + j * 7 + i, none⟩ = some u := fun i hi u hu => by
              rw [HW.out.cell (p := ⟨bq, oq + j * 7 + i, none⟩) hbl, Nat.add_assoc]
              exact hcell _ _ ((quL_get r.q zq j x _ i hx hy hi).trans hu)
            have e0 := hc 0 (by omega) _ rfl
            have e1 := hc 1 (by omega) _ rfl
            have e2 := hc 2 (by omega) _ rfl
            have e3 := hc 3 (by omega) _ rfl
            have e4 := hc 4 (by omega) _ rfl
            have e5 := hc 5 (by omega) _ rfl
            have e6 := hc 6 (by omega) _ rfl
            rw [Nat.add_zero] at e0
            have hne := HF.out.q j x hx
            have hnb : (x.1 == (k : Int)) = false := by simpa using hne
            have hsz := HW.out.size
            clear hc hcell hx hy hin
            go_upto_region 13 with fail
            have K1 := CAt.new 57 wr #[.int .i64 x.1, .int .i64 x.2.k, .int .i64 x.2.i, .int .i64 x.2.v, .int .i64 x.2.n, .slice B1 n1 D1, .slice B2 n2 D2]
            have b1 : Below wz.heap.size wz (wr.alloc (.cells #[.int .i64 x.1, .int .i64 x.2.k, .int .i64 x.2.i, .int .i64 x.2.v, .int .i64 x.2.n, .slice B1 n1 D1, .slice B2 n2 D2] 57)) := HW.out.alloc hsz _
            clear e0 e1 e2 e3 e4 e5 e6 HW
            generalize wr.alloc (.cells #[.int .i64 x.1, .int .i64 x.2.k, .int .i64 x.2.i, .int .i64 x.2.v, .int .i64 x.2.n, .slice B1 n1 D1, .slice B2 n2 D2] 57) = w6 at *
            have t0 : w6.cell? ⟨wr.heap.size, 0, none⟩ = some (.int .i64 x.1) := K1.cell 0
            have hzk1 := K1.lt
            have HN := hide b1
            clear K1 b1
            go_wp2
            first | exact ⟨⟨j + 1, by omega, by go_num, HN⟩, by simp [intOf]; omega⟩ | ((repeat apply Exists.intro); exact ⟨⟨j + 1, by omega, by go_num, HN⟩, rfl⟩)
          · obtain rfl : j = r.q.length := by omega
            have b7 := HW.out
            have C7 := H6.out.1.over b7
            have D7 := H6.out.2.1.over b7
            have B7 := H6.out.2.2.1.trans (b7.mono H6.out.2.2.1.size)
            have Q7 := H6.out.2.2.2.over b7
            have l7 := pr_loadP D7 (prC_size _ _)
            have hz7 := D7.lt
            have HPB := hide (pbegin_gone r v2 _ wr k Q7 hk HF.out.good HF.out.gone)
            have H7 := hide (show _ ∧ _ ∧ _ ∧ _ from ⟨C7, D7, B7, Q7⟩)
            clear C7 D7 B7 Q7 b7 HW H6 HC6 HZI a96 h6 hlt hj
            go_upto_region 17 with (go_at_call 8; refine HPB.out.mono ?_; rintro e w8 ⟨v8, rfl, P8, hb8⟩; clear l7; have s8 := pr_storeP (CAt.new 47 w8 Tryz.zeroCells47) Z97_size (prC_size r v8) (HONE.out _ _ _ P8))
            have bS : Below w8.heap.size w8 ((w8.alloc (.cells Tryz.zeroCells47 47)).setCells w8.heap.size 0 (prC r v8).toList) := below_sets (Nat.le_refl _) _ _ _ ((Below.refl _ w8).alloc (Nat.le_refl _) _)
            have b9 := hb8.trans (bS.mono hb8.size)
            have C9 := H7.out.1.over b9
            have D9 := H7.out.2.1.over b9
            have B9 := H7.out.2.2.1.trans (b9.mono H7.out.2.2.1.size)
            have Q9 := H7.out.2.2.2.over b9
            clear s8 bS hb8 b9 P8 H7 HPB hz7
            generalize (w8.alloc (.cells Tryz.zeroCells47 47)).setCells w8.heap.size 0 (prC r v8).toList = w9 at *
            have l9 := pr_loadP D9 (prC_size _ _)
            have hz9 := D9.lt
            have hh : hearP r (k : Int) (Cd.bs ⟨#[]⟩) = (r, 4) := by
              unfold hearP
              rw [if_pos HF.out.good, if_neg (by unfold isOn; rw [Int.toNat_natCast, HF.out.off]; simp)]
            have hph := phear_any r v2 _ w9 k ⟨#[]⟩ Q9 (by decide) (by have := HF.out.len; have := HLEN.out; omega)
            rw [hh] at hph
            have HPH := hide hph
            have H9 := hide (show _ ∧ _ ∧ _ ∧ _ from ⟨C9, D9, B9, Q9⟩)
            clear C9 D9 B9 Q9 hph hh
            go_upto_region 18 with (go_at_call 9; refine HPH.out.mono ?_; rintro e w10 ⟨v10, rfl, P10, hb10⟩; clear l9; have s10 := pr_storeP (CAt.new 47 w10 Tryz.zeroCells47) Z97_size (prC_size r v10) (HONE.out _ _ _ P10))
            have bS : Below w10.heap.size w10 ((w10.alloc (.cells Tryz.zeroCells47 47)).setCells w10.heap.size 0 (prC r v10).toList) := below_sets (Nat.le_refl _) _ _ _ ((Below.refl _ w10).alloc (Nat.le_refl _) _)
            have b11 := hb10.trans (bS.mono hb10.size)
            have C11 := H9.out.1.over b11
            have D11 := H9.out.2.1.over b11
            have B11 := H9.out.2.2.1.trans (b11.mono H9.out.2.2.1.size)
            have Q11 := H9.out.2.2.2.over b11
            clear s10 bS hb10 b11 P10 H9 HPH hz9
            generalize (w10.alloc (.cells Tryz.zeroCells47 47)).setCells w10.heap.size 0 (prC r v10).toList = w11 at *
            have l11 := pr_loadP D11 (prC_size _ _)
            have hz11 := D11.lt
            obtain ⟨o0, o1, -⟩ := (D11.lk hk).facts
            rw [HF.out.off] at o0
            rw [HF.out.gone] at o1
            have p2 : w11.cell? ⟨w.heap.size, 2, none⟩ = some (.int .i64 p.s.b.f0) := C11.cell 2
            have p3 : w11.cell? ⟨w.heap.size, 3, none⟩ = some (.int .i64 p.s.b.f1) := C11.cell 3
            have p4 : w11.cell? ⟨w.heap.size, 4, none⟩ = some (.int .i64 p.s.b.f2) := C11.cell 4
            have p5 : w11.cell? ⟨w.heap.size, 5, none⟩ = some (.int .i64 p.s.b.f3) := C11.cell 5
            have p6 : w11.cell? ⟨w.heap.size, 6, none⟩ = some (.int .i64 p.s.b.bo) := C11.cell 6
            have p7 : w11.cell? ⟨w.heap.size, 7, none⟩ = some (.int .i64 p.s.b.wa) := C11.cell 7
            have p8 : w11.cell? ⟨w.heap.size, 8, none⟩ = some (.int .i64 p.s.b.bu) := C11.cell 8
            have r2 : w11.cell? ⟨g7, 2, none⟩ = some (.int .i64 p.s.b.f0) := by rw [← HF.out.bank]; exact D11.cell 2
            have r3 : w11.cell? ⟨g7, 3, none⟩ = some (.int .i64 p.s.b.f1) := by rw [← HF.out.bank]; exact D11.cell 3
            have r4 : w11.cell? ⟨g7, 4, none⟩ = some (.int .i64 p.s.b.f2) := by rw [← HF.out.bank]; exact D11.cell 4
            have r5 : w11.cell? ⟨g7, 5, none⟩ = some (.int .i64 p.s.b.f3) := by rw [← HF.out.bank]; exact D11.cell 5
            have r6 : w11.cell? ⟨g7, 6, none⟩ = some (.int .i64 p.s.b.bo) := by rw [← HF.out.bank]; exact D11.cell 6
            have r7 : w11.cell? ⟨g7, 7, none⟩ = some (.int .i64 p.s.b.wa) := by rw [← HF.out.bank]; exact D11.cell 7
            have r8 : w11.cell? ⟨g7, 8, none⟩ = some (.int .i64 p.s.b.bu) := by rw [← HF.out.bank]; exact D11.cell 8
            generalize p.s.b.f0 = a0 at *
            generalize p.s.b.f1 = a1 at *
            generalize p.s.b.f2 = a2 at *
            generalize p.s.b.f3 = a3 at *
            generalize p.s.b.bo = a4 at *
            generalize p.s.b.wa = a5 at *
            generalize p.s.b.bu = a6 at *
            have hEq : ∀ wx, (eqlB (.agg #[.int .i64 a0, .int .i64 a1, .int .i64 a2, .int .i64 a3, .int .i64 a4, .int .i64 a5, .int .i64 a6]) (.agg #[.int .i64 a0, .int .i64 a1, .int .i64 a2, .int .i64 a3, .int .i64 a4, .int .i64 a5, .int .i64 a6])).run Tryz.prog wx = .ok (.bool true) wx := fun wx => by
              have := eqB wx a0 a1 a2 a3 a4 a5 a6 a0 a1 a2 a3 a4 a5 a6
              simpa [eqlB] using this
            have hgr := pgood_any r v2 _ w11 Q11
            rw [HF.out.good] at hgr
            have HGR := hide hgr
            have HZ := hide B11
            clear C11 D11 B11 Q11 hgr
            go_wp2_with (go_at_call 6; refine HGR.out.mono ?_; rintro e w12 ⟨rfl, hb12⟩)
            go_ret
            exact ⟨rfl, HZ.out.trans (hb12.mono HZ.out.size)⟩
  · have hcs : G = false ∨ (G = true ∧ (c < 0 ∨ 2 ≤ c)) ∨ (G = true ∧ ∃ k : Nat, c = (k : Int) ∧ k < 2 ∧ (p.L k).on = false) := by
      cases G
      · exact .inl rfl
      · by_cases hc : c < 0 ∨ 2 ≤ c
        · exact .inr (.inl ⟨rfl, hc⟩)
        · refine .inr (.inr ⟨rfl, c.toNat, by omega, by omega, ?_⟩)
          cases h : (p.L c.toNat).on
          · rfl
          · exact absurd ⟨rfl, c.toNat, by omega, by omega, h⟩ hall
    clear hall HL
    rcases hcs with rfl | ⟨rfl, hc⟩ | ⟨rfl, k, rfl, hk, hon⟩
    · go_wp2_with (first
        | (go_at_call 6; refine (HGP.out _ H3.out.2.2.1).mono ?_; rintro e w4 ⟨rfl, hb4⟩; clear l3)
        | (go_at_call 7; refine (kprovides_any _).mono ?_; rintro e w5 ⟨rfl, hb5⟩))
      go_ret
      exact ⟨rfl, (H3.out.2.2.1.trans (hb4.mono H3.out.2.2.1.size)).trans (hb5.mono (Nat.le_trans H3.out.2.2.1.size hb4.size))⟩
    · rcases hc with hc | hc
      · go_wp2_with (first
          | (go_at_call 6; refine (HGP.out _ H3.out.2.2.1).mono ?_; rintro e w4 ⟨rfl, hb4⟩; clear l3)
          | (go_at_call 7; refine (kprovides_any _).mono ?_; rintro e w5 ⟨rfl, hb5⟩))
        go_ret
        exact ⟨rfl, (H3.out.2.2.1.trans (hb4.mono H3.out.2.2.1.size)).trans (hb5.mono (Nat.le_trans H3.out.2.2.1.size hb4.size))⟩
      · have hc0 : ¬ (c < 0) := by omega
        go_wp2_with (first
          | (go_at_call 6; refine (HGP.out _ H3.out.2.2.1).mono ?_; rintro e w4 ⟨rfl, hb4⟩; clear l3)
          | (go_at_call 7; refine (kprovides_any _).mono ?_; rintro e w5 ⟨rfl, hb5⟩))
        go_ret
        exact ⟨rfl, (H3.out.2.2.1.trans (hb4.mono H3.out.2.2.1.size)).trans (hb5.mono (Nat.le_trans H3.out.2.2.1.size hb4.size))⟩
    · have hkk : (k : Int) < 2 := by omega
      have hkz : (0 : Int) ≤ (k : Int) := by omega
      have hkn : ¬ ((k : Int) < 0) := by omega
      go_wp2_with (first
        | (go_at_call 6; refine (HGP.out _ H3.out.2.2.1).mono ?_; rintro e w4 ⟨rfl, hb4⟩; clear l3; have o4 := ((H3.out.1.over hb4).lk hk).facts.1; rw [hon] at o4)
        | (go_at_call 7; refine (kprovides_any _).mono ?_; rintro e w5 ⟨rfl, hb5⟩; clear o4))
      go_ret
      exact ⟨rfl, (H3.out.2.2.1.trans (hb4.mono H3.out.2.2.1.size)).trans (hb5.mono (Nat.le_trans H3.out.2.2.1.size hb4.size))⟩
end Go.Proofs.YtkhlihpghbhppabGreat.Pv

