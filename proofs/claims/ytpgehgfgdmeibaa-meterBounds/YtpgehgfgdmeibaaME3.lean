/- MeterBounds: the walk. -/
import Derived.Test.YtpgehgfgdmeibaaME1
import Derived.Test.YtpgehgfgdmeibaaLK
import Derived.Deep.RegionHeld3
set_option maxRecDepth 100000
namespace Go.Proofs.Ytpgehgfgdmeibaa.Mt
open Go.RowKit
def IntsAt (w : World) (b off : Nat) (l : List Int) : Prop := ∀ i, i < l.length → w.cell? ⟨b, off + i, none⟩ = some (.int .i64 (l.getD i 0))
theorem IntsAt.later {w w' : World} {b off : Nat} {l : List Int} (h : IntsAt w b off l) (hb : Below w.heap.size w w') : IntsAt w' b off l := fun i hi =>
  (hb.cell (p := ⟨b, off + i, none⟩) (World.block_lt_of_cell? w _ (h i hi))).trans (h i hi)
/-- one take more -/
theorem take_step {A s la n : Int} (h1 : 0 ≤ la) (h4 : 0 ≤ s - la) (hn : 1 ≤ n) (hL : ¬ A - s < 1) : 0 ≤ n ∧ (s + n) - n < A ∧ 0 ≤ (s + n) - n := by omega
set_option maxHeartbeats 4000000 in
theorem mbounds_walk (x : Int) (l : List Int) (ao : Option Addr) (c b off : Nat) (w : World) (hlen : l.length ≤ maxLen) (ha : 0 < l.length → ao = some ⟨b, off, none⟩) (hc : IntsAt w b off l) :
    Calls Try.prog 4 #[.int .i64 x, .slice ao l.length c] w fun e w' => e = .returned (.bool true) ∧ Below w.heap.size w w' := by
  unfold maxLen at hlen
  have HA := hide ha
  have HC := hide hc
  clear ha hc
  have hp := fun w => Pk.pick_any x 1099511627776 w (by decide) (by decide)
  have hx0 := Int.emod_nonneg x (show (1099511627776 : Int) ≠ 0 by decide)
  have hx1 := Int.emod_lt_of_pos x (show (0 : Int) < 1099511627776 by decide)
  generalize x % 1099511627776 = a at *
  have ha : I64 a := by unfold I64; omega
  have hn := mnew_any a 0 ha
  rw [show wrap64 (0 + 10) = 10 from by unfold wrap64; omega] at hn
  have k1 := alw_any a ha
  have A0 := alw_pos a
  have A1 := alw_le hx0
  have t9 := fun L => mtick_any L 10 a 9 ha
  have t10 := fun L => mtick_any L 10 a 10 ha
  rw [show wrap64 (10 + 10) = 20 from by unfold wrap64; omega] at t10
  simp only [show ((9 : Int) < 10) = True from by decide, show ((10 : Int) < 10) = False from by decide, if_true, if_false] at t9 t10
  generalize alw a = A at *
  go_enter Try.func4, Try.ntmps4
  go_upto_region 2 with (go_at_call 14; refine (hp _).mono ?_; rintro e w1 ⟨rfl, rfl⟩)
  go_upto_region 4 with (go_at_call 10; refine (hn _).mono ?_; rintro e w1 ⟨rfl, hb1⟩)
  have M2 := MAt.new w1 A 10
  have B2 := hb1.alloc hb1.size (.cells #[.int .i64 A, .int .i64 10] 23)
  have hg := hb1.size
  generalize w1.heap.size = g at *
  generalize w1.alloc (.cells #[.int .i64 A, .int .i64 10] 23) = w2 at *
  clear hb1 hn hp
  have HF : ∀ wx, Below w2.heap.size w2 wx → (wx.cell? ⟨g, 0, none⟩ = some (.int .i64 A) ∧ wx.cell? ⟨g, 1, none⟩ = some (.int .i64 10)) := fun wx h => (M2.later h M2.lt).facts.1
  have d7 := fun wx (h : Below w2.heap.size w2 wx) => (kmeters_any wx).mono fun e w' hh => (⟨hh.1, below_then h hh.2⟩ : _ ∧ Below w2.heap.size w2 w')
  have HM := hide M2
  have HB := hide B2
  clear M2 B2
  go_region_held3 (fun wx => wx.cell? ⟨g, 0, none⟩ = some (.int .i64 A) ∧ wx.cell? ⟨g, 1, none⟩ = some (.int .i64 10)) (first | exact HF _ hb | exact HF _ hb.drew | exact HF _ (Below.refl _ _).drew | exact HF _ (Below.refl _ _))
    (first
      | (go_at_call 8; refine (k1 _).mono ?_; rintro e wy ⟨rfl, rfl⟩)
      | (go_at_call 15; refine (d7 _ (by first | exact hb | exact hb.drew | exact (Below.refl _ _).drew | exact Below.refl _ _)).mono ?_; rintro e wy ⟨rfl, hb⟩))
  have HM := hide (HM.out.later hb HM.out.lt)
  have HB := hide (below_then HB.out hb)
  clear d7 HF hb
  have hA1 : ¬ A < 1 := by omega
  go_upto_region 6 with fail
  go_upto_region 7 with fail
  go_loopw [6, 7, 8] (fun vs vl vi wl => ∃ (k : Nat) (s la : Int), k ≤ l.length ∧ vs = .int .i64 s ∧ vl = .int .i64 la ∧ vi = .int .i64 (k : Int) ∧ 0 ≤ la ∧ la ≤ 1099511627776 ∧ s - la < A ∧ 0 ≤ s - la ∧ Hid (MAt wl g (A - s) 10) ∧ Hid (Below w.heap.size w wl)) (fun _ _ vi _ => l.length - (intOf vi).toNat)
  case atStart => exact ⟨0, 0, 0, Nat.zero_le _, rfl, rfl, rfl, by omega, by omega, by omega, by omega, by rw [Int.sub_zero]; exact HM.out, HB.out⟩
  case round =>
    obtain ⟨k, s, la, hk, rfl, rfl, rfl, r1, r2, r3, r4, HMl, HBl⟩ := hrel
    by_cases hlt : k < l.length
    · have cl := HC.out.later HBl.out k hlt
      have eao := HA.out (by omega)
      subst eao
      have hkL : (k : Int) < (l.length : Int) := by omega
      have hp := fun w => Pk.pick_any (l.getD k 0) 1099511627776 w (by decide) (by decide)
      have y0 := Int.emod_nonneg (l.getD k 0) (show (1099511627776 : Int) ≠ 0 by decide)
      have y1 := Int.emod_lt_of_pos (l.getD k 0) (show (0 : Int) < 1099511627776 by decide)
      generalize l.getD k 0 = lk at *
      generalize lk % 1099511627776 = y at *
      obtain ⟨⟨c0, c1⟩, -⟩ := HMl.out.facts
      have ht := mtake_any (A - s) 10 (1 + y)
      generalize hLe : A - s = L at *
      by_cases hL : L < 1
      · rw [if_pos hL, if_pos hL] at ht
        go_upto_region 11 with (first
          | (go_at_call 14; refine (hp _).mono ?_; rintro e wy ⟨rfl, rfl⟩)
          | (go_at_call 6; refine (ht _).mono ?_; rintro e w4 ⟨rfl, hb4⟩))
        have M5 := (HMl.out.later hb4 HMl.out.lt).alloc (.cells #[.int .i64 L, .int .i64 10] 23)
        have X5 := MAt.new w4 L 10
        have B5 := (below_then HBl.out hb4).alloc (below_then HBl.out hb4).size (.cells #[.int .i64 L, .int .i64 10] 23)
        generalize w4.heap.size = b4 at *
        generalize w4.alloc (.cells #[.int .i64 L, .int .i64 10] 23) = w5 at *
        have HR := hide (show _ ∧ _ from ⟨M5.set L 10, (B5.setCell (p := ⟨g, 0, none⟩) hg (.int .i64 L)).setCell (p := ⟨g, 1, none⟩) hg (.int .i64 10)⟩)
        obtain ⟨⟨m0, m1⟩, ⟨f0, f1⟩⟩ := M5.facts
        obtain ⟨⟨x0, x1⟩, -⟩ := X5.facts
        clear M5 X5 B5 c0 c1 hb4 ht hp cl
        go_wp2_with (go_at_call 8; refine (k1 _).mono ?_; rintro e wy ⟨rfl, rfl⟩)
        refine ⟨⟨k + 1, s, la, by omega, by go_num, by go_num, by go_num, by omega, by omega, by omega, by omega, ?_, HR.out.2⟩, by simp [intOf]; omega⟩
        have e : A - (s) = L := by omega
        rw [e]
        exact HR.out.1
      · rw [if_neg hL, if_neg hL, show wrap64 (L - (1 + y)) = L - (1 + y) from by unfold wrap64; omega] at ht
        go_upto_region 11 with (first
          | (go_at_call 14; refine (hp _).mono ?_; rintro e wy ⟨rfl, rfl⟩)
          | (go_at_call 6; refine (ht _).mono ?_; rintro e w4 ⟨rfl, hb4⟩))
        have M5 := (HMl.out.later hb4 HMl.out.lt).alloc (.cells #[.int .i64 (L - (1 + y)), .int .i64 10] 23)
        have X5 := MAt.new w4 (L - (1 + y)) 10
        have B5 := (below_then HBl.out hb4).alloc (below_then HBl.out hb4).size (.cells #[.int .i64 (L - (1 + y)), .int .i64 10] 23)
        generalize w4.heap.size = b4 at *
        generalize w4.alloc (.cells #[.int .i64 (L - (1 + y)), .int .i64 10] 23) = w5 at *
        have HR := hide (show _ ∧ _ from ⟨M5.set (L - (1 + y)) 10, (B5.setCell (p := ⟨g, 0, none⟩) hg (.int .i64 (L - (1 + y)))).setCell (p := ⟨g, 1, none⟩) hg (.int .i64 10)⟩)
        obtain ⟨⟨m0, m1⟩, ⟨f0, f1⟩⟩ := M5.facts
        obtain ⟨⟨x0, x1⟩, -⟩ := X5.facts
        clear M5 X5 B5 c0 c1 hb4 ht hp cl
        go_wp2_with (go_at_call 8; refine (k1 _).mono ?_; rintro e wy ⟨rfl, rfl⟩)
        refine ⟨⟨k + 1, s + (1 + y), (1 + y), by omega, by go_num, by go_num, by go_num, by omega, by omega, by omega, by omega, ?_, HR.out.2⟩, by simp [intOf]; omega⟩
        have e : A - (s + (1 + y)) = (L - (1 + y)) := by omega
        rw [e]
        exact HR.out.1
    · obtain rfl : k = l.length := by omega
      have T10 := t10 (A - s)
      have T9 := t9 (A - s)
      clear t9 t10 HC HA
      obtain ⟨⟨c0, c1⟩, -⟩ := HMl.out.facts
      generalize A - s = L at *
      go_upto_region 19 with (go_at_call 12; refine (T10 _).mono ?_; rintro e w4 ⟨rfl, hb4⟩)
      have M5 := (HMl.out.later hb4 HMl.out.lt).alloc (.cells #[.int .i64 A, .int .i64 20] 23)
      have X5 := MAt.new w4 A 20
      have B5 := (below_then HBl.out hb4).alloc (below_then HBl.out hb4).size (.cells #[.int .i64 A, .int .i64 20] 23)
      generalize w4.heap.size = b4 at *
      generalize w4.alloc (.cells #[.int .i64 A, .int .i64 20] 23) = w5 at *
      have lt1 := M5.lt
      have lt2 := X5.lt
      have HB5 := hide B5
      have HF : ∀ wx, Below w5.heap.size w5 wx → (wx.cell? ⟨g, 0, none⟩ = some (.int .i64 L) ∧ wx.cell? ⟨g, 1, none⟩ = some (.int .i64 10)) ∧ (wx.cell? ⟨b4, 0, none⟩ = some (.int .i64 A) ∧ wx.cell? ⟨b4, 1, none⟩ = some (.int .i64 20)) := fun wx h => ⟨(M5.later h lt1).facts.1, (X5.later h lt2).facts.1⟩
      have d7 := fun wx (h : Below w5.heap.size w5 wx) => (T9 wx).mono fun e w' hh => (⟨hh.1, below_then h hh.2⟩ : _ ∧ Below w5.heap.size w5 w')
      clear T9 T10 M5 X5 B5 c0 c1 hb4
      go_region_held3 (fun wx => (wx.cell? ⟨g, 0, none⟩ = some (.int .i64 L) ∧ wx.cell? ⟨g, 1, none⟩ = some (.int .i64 10)) ∧ (wx.cell? ⟨b4, 0, none⟩ = some (.int .i64 A) ∧ wx.cell? ⟨b4, 1, none⟩ = some (.int .i64 20))) (first | exact HF _ hb | exact HF _ hb.drew | exact HF _ (Below.refl _ _).drew | exact HF _ (Below.refl _ _))
        (first
          | (go_at_call 8; refine (k1 _).mono ?_; rintro e wy ⟨rfl, rfl⟩)
          | (go_at_call 12; refine (d7 _ (by first | exact hb | exact hb.drew | exact (Below.refl _ _).drew | exact Below.refl _ _)).mono ?_; rintro e wy ⟨rfl, hb⟩))
      all_goals
        have HBz := hide (HB5.out.trans (hb.mono HB5.out.size))
        clear d7 HF
        go_wp2
        go_ret
        exact ⟨rfl, HBz.out⟩
end Go.Proofs.Ytpgehgfgdmeibaa.Mt
