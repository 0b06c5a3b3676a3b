/- The reference's GoodStake. The reference's some. -/
import Derived.Test.YtookecjeknpheacXsa
import Derived.Test.YtookecjeknpheacXta
set_option maxRecDepth 100000
namespace Go.Proofs.Ytookecjeknpheac
open Go.RowKit
theorem rinA_any (d : Int) (w : World) : Calls Try.prog 55 #[.int .i64 d] w fun e w' => e = .returned (.bool (inA d)) ∧ w = w' := rin_any d w
/-- a validator's five cells lie in a block -/
def VAt (w : World) (y : Nat) (x : Vd) : Prop := w.heap[y]? = some (.cells #[.int .i64 x.tok, .int .i64 x.sh, .int .i64 x.lost, .bool x.jail, .bool x.dead] 37)
theorem VAt.later {w w' : World} {y B : Nat} {x : Vd} (h : VAt w y x) (hb : Below B w w') (hB : y < B) : VAt w' y x := (hb.block y hB).trans h
theorem VAt.lt {w : World} {y : Nat} {x : Vd} (h : VAt w y x) : y < w.heap.size := (Array.getElem?_eq_some_iff.1 h).1
theorem VAt.cells {w : World} {y : Nat} {x : Vd} (h : VAt w y x) : w.cell? ⟨y, 0, none⟩ = some (.int .i64 x.tok) ∧ w.cell? ⟨y, 1, none⟩ = some (.int .i64 x.sh) ∧ w.cell? ⟨y, 2, none⟩ = some (.int .i64 x.lost) ∧ w.cell? ⟨y, 3, none⟩ = some (.bool x.jail) ∧ w.cell? ⟨y, 4, none⟩ = some (.bool x.dead) := by
  unfold VAt at h
  simp [World.cell?, h]
theorem row_get (r : Nat → Int) (k : Nat) (hk : k < 6) : (rowC r)[k]? = some (.int .i64 (r k)) := by
  rcases (show k = 0 ∨ k = 1 ∨ k = 2 ∨ k = 3 ∨ k = 4 ∨ k = 5 by omega) with rfl | rfl | rfl | rfl | rfl | rfl <;> rfl
theorem row_cell (w : World) (r : Nat → Int) (e : TypeId) (k : Nat) (hk : k < 6) : (w.alloc (.cells #[.int .i64 (r 0), .int .i64 (r 1), .int .i64 (r 2), .int .i64 (r 3), .int .i64 (r 4), .int .i64 (r 5)] e)).cell? ⟨w.heap.size, k, none⟩ = some (.int .i64 (r k)) := by
  rw [World.cell?_alloc_at _ _ _ _ rfl]
  exact row_get r k hk
theorem pshOk_no {S : Nat → Nat → Int} {v j : Nat} (hj : j < 4) (hin : inA (S j v) = false) : pshOk S v 4 = false := by
  rcases (show j = 0 ∨ j = 1 ∨ j = 2 ∨ j = 3 by omega) with rfl | rfl | rfl | rfl <;> simp [pshOk, hin]
set_option maxHeartbeats 4000000 in
theorem rgoods_any (s : St) (ao : Option Addr) (sb so c : Nat) (w : World) (hW : WsAt w ao sb so s.W) :
    Calls Try.prog 21 #[.agg (stC s (.slice ao s.W.length c))] w fun e w' => e = .returned (.bool (goodS s)) ∧ Below w.heap.size w w' := by
  have S0 := SAt.new w (stC s (.slice ao s.W.length c))
  have HB0 : Hid (Below w.heap.size w (w.alloc (.cells (stC s (.slice ao s.W.length c)) 43))) := (Below.refl _ w).alloc (Nat.le_refl _) _
  have HW := hide hW
  have hlen := hW.len
  have hadr := hW.adr
  have hGB := rgood_any s.b.f0 s.b.f1 s.b.f2 s.b.f3 s.b.bo s.b.wa s.b.bu
  have HG : Hid (goodS s = (goodB s.b.f0 s.b.f1 s.b.f2 s.b.f3 s.b.bo s.b.wa s.b.bu && decide (1 ≤ s.next) && decide (s.next ≤ 1125899906842624) && decide (s.W.length ≤ 60) && wOk s.next 0 s.W && pvs s 6 && bal s)) := rfl
  generalize goodB s.b.f0 s.b.f1 s.b.f2 s.b.f3 s.b.bo s.b.wa s.b.bu = t1 at *
  clear hW
  go_enter Try.func21, Try.ntmps21
  go_upto_region 1 with fail
  generalize w.alloc (.cells (stC s (.slice ao s.W.length c)) 43) = w0 at *
  obtain ⟨x0, x1, x2, x3, x4, x5, x6, x7, x8⟩ := st_cells S0
  go_upto_region 4 with (go_at_call 54; refine (hGB _).mono ?_; rintro e w1 ⟨rfl, h1⟩; have S1 := S0.later h1 S0.lt; have HB1 : Hid (Below w.heap.size w w1) := HB0.out.trans (h1.mono HB0.out.size); obtain ⟨y0, y1, y2, y3, y4, y5, y6, y7, y8⟩ := st_cells S1; clear x0 x1 x2 x3 x4 x5 x6 x7 x8 y0 y1 y2 y3 y4 y5 y6 h1 S0 HB0)
  all_goals first
    | (go_ret; refine ⟨?_, HB1.out⟩; rw [HG.out]; congr 1; congr 1; first | (simp_all; done) | (simp_all; omega) | (simp_all; intros; omega))
    | skip
  have hl60 : s.W.length ≤ 60 := by omega
  have hg2 : goodS s = (wOk s.next 0 s.W && pvs s 6 && bal s) := by rw [HG.out]; simp_all
  have HG2 := hide hg2
  have hbl : w.heap.size < w1.heap.size := S1.lt
  have hn1 : 1 ≤ s.next ∧ s.next ≤ 1125899906842624 := by omega
  clear hg2 HG hGB y7 y8
  generalize decide (s.next < 1) = b1
  generalize decide (1125899906842624 < s.next) = b2
  generalize decide (60 < (s.W.length : Int)) = b3
  apply wp_region_lit
  iterate 3 go_step
  refine wpList_load_mid rfl 38 _ rfl _ 7 rfl _ _ (st_vals S1) Try.underlying38 rfl (by rw [infoVs]; rfl) ?_
  go_wp2_with fail
  go_loopw [3, 4, 36] (fun s3 s4 i wl => ∃ k : Nat, k ≤ 6 ∧ i = .int .i64 (k : Int) ∧ s3 = .int .i64 (ptok s.V k) ∧ s4 = .int .i64 (plost s.V k) ∧ Hid (pvs s k = true ∧ Below w1.heap.size w1 wl)) (fun _ _ i _ => (6 - intOf i).toNat)
  case atStart => exact ⟨0, by omega, rfl, rfl, rfl, rfl, Below.refl _ _⟩
  case round =>
    obtain ⟨k, hk, rfl, rfl, rfl, HO⟩ := hrel
    rename World => w2
    have hsz2 : w1.heap.size ≤ w2.heap.size := HO.out.2.size
    by_cases hk6 : k < 6
    · have S2 := S1.later HO.out.2 hbl
      have hix := fun w => ixV w s.V k hk6
      clear S1
      go_upto_region 8 with fail
      have V3 : VAt (w2.alloc (.cells #[.int .i64 (s.V k).tok, .int .i64 (s.V k).sh, .int .i64 (s.V k).lost, .bool (s.V k).jail, .bool (s.V k).dead] 37)) w2.heap.size (s.V k) := heap_alloc_new _ _
      have S3 := S2.alloc (.cells #[.int .i64 (s.V k).tok, .int .i64 (s.V k).sh, .int .i64 (s.V k).lost, .bool (s.V k).jail, .bool (s.V k).dead] 37)
      have HB3 := hide (HB1.out.trans ((HO.out.2.alloc hsz2 (.cells #[.int .i64 (s.V k).tok, .int .i64 (s.V k).sh, .int .i64 (s.V k).lost, .bool (s.V k).jail, .bool (s.V k).dead] 37)).mono (Nat.le_of_lt hbl)))
      have HP := hide HO.out.1
      have HC3 := hide (HO.out.2.alloc hsz2 (.cells #[.int .i64 (s.V k).tok, .int .i64 (s.V k).sh, .int .i64 (s.V k).lost, .bool (s.V k).jail, .bool (s.V k).dead] 37))
      generalize w2.alloc (.cells #[.int .i64 (s.V k).tok, .int .i64 (s.V k).sh, .int .i64 (s.V k).lost, .bool (s.V k).jail, .bool (s.V k).dead] 37) = w3 at *
      have hbl2 : w.heap.size < w2.heap.size := by omega
      clear S2 HO hix
      have hV3 := V3.lt
      have hS3 := S3.lt
      apply wp_region_lit
      iterate 3 go_step
      refine wpList_load_mid rfl 40 _ rfl _ 37 rfl _ _ (st_shares S3) Try.underlying40 rfl (by rw [infoSh]; rfl) ?_
      go_wp2_with fail
      go_loopw [7, 42] (fun s7 i wl => ∃ j : Nat, j ≤ 4 ∧ i = .int .i64 (j : Int) ∧ s7 = .int .i64 (psh s.S k j) ∧ Hid (pshOk s.S k j = true ∧ Below w3.heap.size w3 wl)) (fun _ i _ => (4 - intOf i).toNat)
      case atStart => exact ⟨0, by omega, rfl, rfl, rfl, Below.refl _ _⟩
      case round =>
        obtain ⟨j, hj, rfl, rfl, HI⟩ := hrel
        rename World => w4
        have hsz4 : w3.heap.size ≤ w4.heap.size := HI.out.2.size
        have HB4 := hide (HB3.out.trans (HI.out.2.mono (Nat.le_of_lt (Nat.lt_of_lt_of_le (Nat.lt_of_lt_of_le hbl hsz2) (Nat.le_of_lt hV3)))))
        have hsz5 : w.heap.size ≤ w4.heap.size := HB4.out.size
        by_cases hj4 : j < 4
        · have hixS := fun w => ixS w s.S j hj4
          have hrc := row_cell w4 (s.S j) 39 k hk6
          have hkk : (k : Int) < 6 := by omega
          have hpb := psh_bound (S := s.S) (v := k) j HI.out.1
          have i1 := rinA_any (s.S j k)
          by_cases hin : inA (s.S j k) = true
          · rw [hin] at i1
            have HR2 : Hid (pshOk s.S k (j + 1) = true) := by show (pshOk s.S k j && inA (s.S j k)) = true; rw [HI.out.1, hin]; rfl
            rw [inA_iff] at hin
            have HPs : Hid (psh s.S k (j + 1) = psh s.S k j + s.S j k) := rfl
            clear S3 V3
            go_wp2_with (go_at_call 55; refine (i1 _).mono ?_; rintro e w5 ⟨rfl, rfl⟩)
            go_roundw
            case rel => exact ⟨j + 1, by omega, by go_num, by rw [HPs.out], HR2.out, HI.out.2.alloc hsz4 _⟩
            case measure => simp [intOf]; omega
          · simp only [Bool.not_eq_true] at hin
            rw [hin] at i1
            have hvs : vsOk s k = false := by unfold vsOk shOk; rw [pshOk_no hj4 hin]; simp
            have HF := hide (show goodS s = false by rw [HG2.out, pvs_no hk6 hvs]; simp)
            clear hin hvs S3 V3
            go_wp2_with (go_at_call 55; refine (i1 _).mono ?_; rintro e w5 ⟨rfl, rfl⟩)
            go_ret
            exact ⟨by rw [HF.out]; rfl, HB4.out.alloc hsz5 _⟩
        · obtain rfl : j = 4 := by omega
          obtain ⟨c0, c1, c2, c3, c4⟩ := (V3.later HI.out.2 hV3).cells
          have hpb := psh_bound (S := s.S) (v := k) 4 HI.out.1
          have hpt := ptok_bound (V := s.V) k (fun i hi => (vOk_amounts (by have h := pvs_at HP.out hi; unfold vsOk at h; rw [Bool.and_eq_true] at h; exact h.1)).1)
          have hpl := plost_bound (V := s.V) k (fun i hi => (vOk_amounts (by have h := pvs_at HP.out hi; unfold vsOk at h; rw [Bool.and_eq_true] at h; exact h.1)).2.2)
          have hv0 : vsOk s k = (inA (s.V k).tok && inA (s.V k).sh && inA (s.V k).lost && !(decide (0 < (s.V k).tok) && decide ((s.V k).sh = 0)) && ((s.V k).jail || !(s.V k).dead) && decide (psh s.S k 4 = (s.V k).sh)) := by unfold vsOk vOk; rw [shOk_dec HI.out.1]
          have HV := hide hv0
          have HP1 : Hid (ptok s.V (k + 1) = ptok s.V k + (s.V k).tok) := rfl
          have HP2 : Hid (plost s.V (k + 1) = plost s.V k + (s.V k).lost) := rfl
          have HPk : Hid (pvs s (k + 1) = vsOk s k) := by show (pvs s k && vsOk s k) = vsOk s k; rw [HP.out, Bool.true_and]
          have HNo : Hid (vsOk s k = false → goodS s = false) := fun h => by rw [HG2.out, pvs_no hk6 h]; simp
          have HBr := hide (HC3.out.trans (HI.out.2.mono (by omega)))
          clear hv0 S3 V3 HI HP HG2
          generalize psh s.S k 4 = ps at *
          generalize (s.V k).tok = xt at *
          generalize (s.V k).sh = xs at *
          generalize (s.V k).lost = xl at *
          generalize (s.V k).jail = xj at *
          generalize (s.V k).dead = xd at *
          have i1 := rinA_any xt
          have i2 := rinA_any xs
          have i3 := rinA_any xl
          by_cases g1 : inA xt = true
          · by_cases g2 : inA xs = true
            · by_cases g3 : inA xl = true
              · have hvv : vsOk s k = (!(decide (0 < xt) && decide (xs = 0)) && (xj || !xd) && decide (ps = xs)) := by rw [HV.out, g1, g2, g3]; simp
                have HV2 := hide hvv
                rw [g1] at i1
                rw [g2] at i2
                rw [g3] at i3
                rw [inA_iff] at g1 g2 g3
                clear hvv HV
                go_wp2_with (first
                  | (go_at_call 55; have _m := m2; refine (i3 _).mono ?_; rintro e w7 ⟨rfl, rfl⟩)
                  | (go_at_call 55; have _m := m1; refine (i2 _).mono ?_; rintro e w6 ⟨rfl, rfl⟩; have m2 : True := trivial)
                  | (go_at_call 55; refine (i1 _).mono ?_; rintro e w5 ⟨rfl, rfl⟩; have m1 : True := trivial))
                all_goals first
                  | (go_ret
                     have hv : vsOk s k = false := by rw [HV2.out]; first | (simp_all; done) | (simp_all; omega)
                     exact ⟨by rw [HNo.out hv]; rfl, HB4.out⟩)
                  | (have hv : pvs s (k + 1) = true := by rw [HPk.out, HV2.out]; first | (simp_all; done) | (simp_all; omega)
                     have hp1 := HP1.out
                     have hp2 := HP2.out
                     refine ⟨⟨k + 1, by omega, by go_num, ?_, ?_, hv, HBr.out⟩, by simp [intOf]; omega⟩
                     · congr 1; omega
                     · congr 1; omega)
              · simp only [Bool.not_eq_true] at g3
                rw [g3] at i3
                rw [g1] at i1
                rw [g2] at i2
                have HF := hide (HNo.out (by rw [HV.out, g3]; simp))
                clear HNo HV g3
                go_wp2_with (first
                  | (go_at_call 55; have _m := m2; refine (i3 _).mono ?_; rintro e w7 ⟨rfl, rfl⟩)
                  | (go_at_call 55; have _m := m1; refine (i2 _).mono ?_; rintro e w6 ⟨rfl, rfl⟩; have m2 : True := trivial)
                  | (go_at_call 55; refine (i1 _).mono ?_; rintro e w5 ⟨rfl, rfl⟩; have m1 : True := trivial))
                go_ret
                exact ⟨by rw [HF.out]; rfl, HB4.out⟩
            · simp only [Bool.not_eq_true] at g2
              rw [g2] at i2
              rw [g1] at i1
              have HF := hide (HNo.out (by rw [HV.out, g2]; simp))
              clear HNo HV g2
              go_wp2_with (first
                | (go_at_call 55; have _m := m1; refine (i2 _).mono ?_; rintro e w6 ⟨rfl, rfl⟩)
                | (go_at_call 55; refine (i1 _).mono ?_; rintro e w5 ⟨rfl, rfl⟩; have m1 : True := trivial))
              go_ret
              exact ⟨by rw [HF.out]; rfl, HB4.out⟩
          · simp only [Bool.not_eq_true] at g1
            rw [g1] at i1
            have HF := hide (HNo.out (by rw [HV.out, g1]; simp))
            clear HNo HV g1
            go_wp2_with (go_at_call 55; refine (i1 _).mono ?_; rintro e w5 ⟨rfl, rfl⟩)
            go_ret
            exact ⟨by rw [HF.out]; rfl, HB4.out⟩
    · obtain rfl : k = 6 := by omega
      have HB5 := hide (HB1.out.trans (HO.out.2.mono (Nat.le_of_lt hbl)))
      have S5 := S1.later HO.out.2 hbl
      have HG3 : Hid (goodS s = (wOk s.next 0 s.W && bal s)) := by have := HO.out.1; rw [HG2.out, this]; simp [Hid]
      obtain ⟨_, _, _, _, _, _, _, x7, x8⟩ := st_cells S5
      have HS5 := hide S5
      have hbl5 := S5.lt
      clear S1 S5 x8 HG2
      go_wp2_with fail
      clear x7
      go_loopw [10, 11, 108] (fun s10 s11 i wl => ∃ (k : Nat) (last : Int), k ≤ s.W.length ∧ i = .int .i64 (k : Int) ∧ s10 = .int .i64 (amts (s.W.take k)) ∧ s11 = .int .i64 last ∧ Hid (wOk s.next 0 s.W = wOk s.next last (s.W.drop k) ∧ (∀ x ∈ s.W.take k, inA x.amt = true) ∧ Below w2.heap.size w2 wl)) (fun _ _ i _ => s.W.length - (intOf i).toNat)
      case atStart => exact ⟨0, 0, by omega, rfl, rfl, rfl, rfl, by simp, Below.refl _ _⟩
      case round =>
        obtain ⟨k, last, hk, rfl, rfl, rfl, HR⟩ := hrel
        have hsz6 : w2.heap.size ≤ wr.heap.size := HR.out.2.2.size
        have HB6 := hide (HB5.out.trans (HR.out.2.2.mono (Nat.le_of_lt hbl5)))
        have hsz7 : w.heap.size ≤ wr.heap.size := HB6.out.size
        have hlt7 : w.heap.size < wr.heap.size := Nat.lt_of_lt_of_le hbl5 hsz6
        obtain ⟨_, _, _, _, y4, y5, y6, _, y8⟩ := st_cells (HS5.out.later HR.out.2.2 hbl5)
        have hab := amts_bound HR.out.2.1
        by_cases hlt : k < s.W.length
        · obtain ⟨x, hx, hd⟩ := drop_at hlt
          obtain ⟨c0, c1, c2, c3, c4, c5, c6, c7⟩ := (HW.out.over HB6.out).cell k x hx
          have HE : Hid (wOk s.next 0 s.W = (wOk1 last s.next x && wOk s.next x.num (s.W.drop (k + 1)))) := by have := HR.out.1; rw [hd] at this; exact this
          have HM := hide (amts_take hx)
          rw [List.length_take, Nat.min_eq_left hk] at hab
          have HT : Hid (inA x.amt = true → ∀ y ∈ s.W.take (k + 1), inA y.amt = true) := fun h y hy => by
            have ex : s.W[k] = x := by simpa [List.getElem?_eq_getElem hlt] using hx
            rw [List.take_succ_eq_append_getElem hlt, List.mem_append, List.mem_singleton, ex] at hy
            rcases hy with hy | rfl
            · exact HR.out.2.1 y hy
            · exact h
          have HBq := hide HR.out.2.2
          obtain rfl := hadr (by omega)
          have j3 := rinA_any x.amt
          have HO1 : Hid (wOk1 last s.next x = (decide (last < x.num) && decide (x.num < s.next) && isD x.d && isV x.v && inA x.amt && decide (0 ≤ x.hei) && decide (0 ≤ x.due))) := rfl
          have HD1 : Hid (isD x.d = decide (0 ≤ x.d ∧ x.d < 4)) := rfl
          have HD2 : Hid (isV x.v = decide (0 ≤ x.v ∧ x.v < 6)) := rfl
          clear hadr hd hx HR y4 y5 y6
          by_cases g3 : inA x.amt = true
          · rw [g3] at j3
            have HT2 := hide (HT.out g3)
            have ho := HO1.out
            rw [g3] at ho
            have HO2 := hide ho
            rw [inA_iff] at g3
            clear ho HO1 HT
            go_wp2_with (go_at_call 55; refine (j3 _).mono ?_; rintro e w7 ⟨rfl, rfl⟩)
            all_goals first
              | (go_ret
                 have hf : goodS s = false := by rw [HG3.out, HE.out, HO2.out, HD1.out, HD2.out]; first | (simp_all; done) | (simp_all; omega) | (simp_all; intros; omega)
                 exact ⟨by rw [hf]; rfl, HB6.out.alloc hsz7 _⟩)
              | (have hf : wOk s.next 0 s.W = wOk s.next x.num (s.W.drop (k + 1)) := by rw [HE.out, HO2.out, HD1.out, HD2.out]; first | (simp_all; done) | (simp_all; omega)
                 have hm := HM.out
                 have hs : amts (s.W.take k) + x.amt = amts (s.W.take (k + 1)) := by omega
                 refine ⟨?_, by simp [intOf]; omega⟩
                 (repeat apply Exists.intro)
                 exact ⟨⟨k + 1, x.num, by omega, by go_num, by rw [hs], rfl, hf, HT2.out, HBq.out.alloc hsz6 _⟩, rfl⟩)
          · simp only [Bool.not_eq_true] at g3
            rw [g3] at j3
            have hf : goodS s = false := by rw [HG3.out, HE.out, HO1.out, g3]; simp
            have HF := hide hf
            clear hf HE HO1 g3 HT HG3
            go_wp2_with (go_at_call 55; refine (j3 _).mono ?_; rintro e w7 ⟨rfl, rfl⟩)
            all_goals (go_ret; exact ⟨by rw [HF.out]; rfl, HB6.out.alloc hsz7 _⟩)
        · have hf : goodS s = bal s := by rw [HG3.out, HR.out.1, List.drop_eq_nil_of_le (by omega)]; simp [wOk]
          have HF : Hid (goodS s = (decide (ptok s.V 6 = s.b.bo) && decide (amts (s.W.take k) = s.b.wa) && decide (plost s.V 6 = s.b.bu))) := by rw [hf, List.take_of_length_le (by omega)]; exact rfl
          clear hf y8
          generalize ptok s.V 6 = pt at *
          generalize plost s.V 6 = pl at *
          generalize amts (s.W.take k) = pa at *
          go_wp2_with fail
          all_goals (go_ret; refine ⟨?_, HB6.out⟩; rw [HF.out]; congr 1; congr 1; first | (simp_all; done) | (simp_all; rfl))
end Go.Proofs.Ytookecjeknpheac
namespace Go.Proofs.Ytookecjeknpheac
open Go.RowKit
theorem refOf_eq (s : St) (d v : Int) : refOfE s d v = if goodS s = true then if d < 0 ∨ 3 < d ∨ v < 0 ∨ 5 < v then 4 else 0 else 2 := by
  unfold refOfE refE isV isD
  simp only [decide_eq_true_eq]
  by_cases h : goodS s = true
  · rw [if_pos h, if_pos h]
    by_cases hv : 0 ≤ v ∧ v < 6
    · rw [if_pos hv, if_pos rfl]
      by_cases hd : 0 ≤ d ∧ d < 4
      · rw [if_pos hd, if_neg (by omega)]
      · rw [if_neg hd, if_pos (by omega)]
    · rw [if_neg hv, if_neg (by omega), if_pos (by omega)]
  · rw [if_neg h, if_neg h]
    rfl
set_option maxHeartbeats 1000000 in
theorem some_any (s : St) (ao : Option Addr) (sb so c : Nat) (d v : Int) (w : World) (hW : WsAt w ao sb so s.W) :
    Calls Try.prog 47 #[.agg (stC s (.slice ao s.W.length c)), .int .i64 d, .int .i64 v] w fun e w' => e = .returned (.int .i64 (refOfE s d v)) ∧ Below w.heap.size w w' := by
  have S0 := SAt.new w (stC s (.slice ao s.W.length c))
  have HB0 : Hid (Below w.heap.size w (w.alloc (.cells (stC s (.slice ao s.W.length c)) 43))) := (Below.refl _ w).alloc (Nat.le_refl _) _
  have hG := fun w h => rgoods_any s ao sb so c w h
  have HW := hide hW
  have HE := hide (refOf_eq s d v)
  generalize refOfE s d v = r at *
  generalize goodS s = t1 at *
  clear hW
  go_enter Try.func47, Try.ntmps47
  go_upto_region 1 with fail
  generalize w.alloc (.cells (stC s (.slice ao s.W.length c)) 43) = w0 at *
  apply wp_region_lit
  refine wpList_load_mid rfl 43 _ rfl _ 0 rfl _ _ S0.range Try.underlying43 rfl (by rw [infoS]; rfl) ?_
  clear S0
  go_wp2_with (go_at_call 21; refine (hG _ (by exact HW.out.over HB0.out)).mono ?_; rintro e w1 ⟨rfl, h1⟩; have HB1 := hide (HB0.out.trans (h1.mono HB0.out.size)); clear h1)
  all_goals (go_ret; refine ⟨?_, HB1.out⟩; have h := HE.out; clear HE; first | (simp_all; done) | (rw [h, if_pos (by simp_all), if_pos (by omega)]; rfl) | (rw [h, if_pos (by simp_all), if_neg (by omega)]; rfl))
end Go.Proofs.Ytookecjeknpheac
