/- MeterTicks: the walk. -/
import Derived.Test.YtpgehgfgdmeibaaME1
import Derived.Deep.RegionHeld3
set_option maxRecDepth 100000
namespace Go.Proofs.Ytpgehgfgdmeibaa.Mt
open Go.RowKit
theorem mticks_out (l n a t k : Int) (hout : t < 0 ∨ 1099511627776 < t ∨ k < 0 ∨ 1125899906842624 < k) (w : World) :
    Calls Try.prog 3 #[.agg #[.int .i64 l, .int .i64 n], .int .i64 a, .int .i64 t, .int .i64 k] w fun e w' => e = .returned (.bool true) ∧ Below w.heap.size w w' := by
  have B1 := below_new w (.cells #[.int .i64 l, .int .i64 n] 23)
  have hc : t < 0 ∨ (¬ t < 0 ∧ 1099511627776 < t) ∨ (¬ t < 0 ∧ ¬ 1099511627776 < t ∧ k < 0) ∨ (¬ t < 0 ∧ ¬ 1099511627776 < t ∧ ¬ k < 0 ∧ 1125899906842624 < k) := by omega
  clear hout
  rcases hc with h | ⟨h1, h⟩ | ⟨h1, h2, h⟩ | ⟨h1, h2, h3, h⟩
  all_goals
    go_enter Try.func3, Try.ntmps3
    go_wp2_with (go_at_call 5; refine (lmeters_any _).mono ?_; rintro e w2 ⟨rfl, hb⟩)
    go_ret
    exact ⟨rfl, below_then B1 hb⟩
set_option maxHeartbeats 2000000 in
theorem mticks_in (l n a t k : Int) (ha : I64 a) (h1 : 0 ≤ t) (h2 : t ≤ 1099511627776) (h3 : 0 ≤ k) (h4 : k ≤ 1125899906842624) (w : World) :
    Calls Try.prog 3 #[.agg #[.int .i64 l, .int .i64 n], .int .i64 a, .int .i64 t, .int .i64 k] w fun e w' => e = .returned (.bool true) ∧ Below w.heap.size w w' := by
  have M1 := MAt.new w l n
  have B1 := below_new w (.cells #[.int .i64 l, .int .i64 n] 23)
  have k1 := mtake_any l n k
  have k2 := rmtake_any l n k
  generalize (if l < 1 then l else wrap64 (l - k)) = L at *
  generalize (if l < 1 then false else true) = ok at *
  have c1 := alw_any a ha
  have c2 := ralw_any a ha
  have c3 := mnew_any a t ha
  have c4 := rmnew_any a t ha
  have c5 := mtick_any l n a t ha
  have c6 := rmtick_any l n a t ha
  have c7 := lmeters_any
  generalize (if t < n then l else alw a) = L2 at *
  generalize (if t < n then n else wrap64 (t + 10)) = N2 at *
  generalize alw a = A at *
  generalize wrap64 (t + 10) = T at *
  go_enter Try.func3, Try.ntmps3
  go_upto_region 3 with fail
  generalize hw1 : w.alloc (.cells #[.int .i64 l, .int .i64 n] 23) = w1 at *
  obtain ⟨⟨m0, m1⟩, -⟩ := M1.facts
  go_upto_region 4 with (go_at_call 6; refine (k1 _).mono ?_; rintro e w2 ⟨rfl, hb2⟩)
  have M2 := (M1.later hb2 M1.lt).alloc (.cells #[.int .i64 L, .int .i64 n] 23)
  have X2 := MAt.new w2 L n
  have B2 := (below_then B1 hb2).alloc (below_then B1 hb2).size (.cells #[.int .i64 L, .int .i64 n] 23)
  generalize w2.heap.size = b2 at *
  generalize w2.alloc (.cells #[.int .i64 L, .int .i64 n] 23) = w3 at *
  clear m0 m1
  obtain ⟨⟨m0, m1⟩, -⟩ := M2.facts
  go_upto_region 5 with (go_at_call 7; refine (k2 _).mono ?_; rintro e w4 ⟨rfl, hb4⟩)
  have M4 := (M2.later hb4 M2.lt).alloc (.cells #[.int .i64 L, .int .i64 n] 23)
  have X4 := (X2.later hb4 X2.lt).alloc (.cells #[.int .i64 L, .int .i64 n] 23)
  have Y4 := MAt.new w4 L n
  have B4 := (below_then B2 hb4).alloc (below_then B2 hb4).size (.cells #[.int .i64 L, .int .i64 n] 23)
  generalize w4.heap.size = b4 at *
  generalize w4.alloc (.cells #[.int .i64 L, .int .i64 n] 23) = w5 at *
  have HB := hide B4
  have lt1 := M4.lt
  have lt2 := X4.lt
  have lt3 := Y4.lt
  have HF : ∀ wx, Below w5.heap.size w5 wx → (wx.cell? ⟨w.heap.size, 0, none⟩ = some (.int .i64 l) ∧ wx.cell? ⟨w.heap.size, 1, none⟩ = some (.int .i64 n)) ∧ (wx.cell? ⟨b2, 0, none⟩ = some (.int .i64 L) ∧ wx.cell? ⟨b2, 1, none⟩ = some (.int .i64 n)) ∧ (wx.cell? ⟨b4, 0, none⟩ = some (.int .i64 L) ∧ wx.cell? ⟨b4, 1, none⟩ = some (.int .i64 n)) := fun wx h =>
    ⟨(M4.later h lt1).facts.1, (X4.later h lt2).facts.1, (Y4.later h lt3).facts.1⟩
  have up : ∀ wx w' : World, Below w5.heap.size w5 wx → Below wx.heap.size wx w' → Below w5.heap.size w5 w' := fun _ _ h k => below_then h k
  have d3 := fun wx (h : Below w5.heap.size w5 wx) => (c3 wx).mono fun e w' hh => (⟨hh.1, up _ _ h hh.2⟩ : _ ∧ Below w5.heap.size w5 w')
  have d4 := fun wx (h : Below w5.heap.size w5 wx) => (c4 wx).mono fun e w' hh => (⟨hh.1, up _ _ h hh.2⟩ : _ ∧ Below w5.heap.size w5 w')
  have d5 := fun wx (h : Below w5.heap.size w5 wx) => (c5 wx).mono fun e w' hh => (⟨hh.1, up _ _ h hh.2⟩ : _ ∧ Below w5.heap.size w5 w')
  have d6 := fun wx (h : Below w5.heap.size w5 wx) => (c6 wx).mono fun e w' hh => (⟨hh.1, up _ _ h hh.2⟩ : _ ∧ Below w5.heap.size w5 w')
  have d7 := fun wx (h : Below w5.heap.size w5 wx) => (c7 wx).mono fun e w' hh => (⟨hh.1, up _ _ h hh.2⟩ : _ ∧ Below w5.heap.size w5 w')
  clear c3 c4 c5 c6 c7 up m0 m1 M1 M2 M4 X2 X4 Y4 B1 B2 B4 hb2 hb4 k1 k2
  go_region_held3 (fun wx => (wx.cell? ⟨w.heap.size, 0, none⟩ = some (.int .i64 l) ∧ wx.cell? ⟨w.heap.size, 1, none⟩ = some (.int .i64 n)) ∧ (wx.cell? ⟨b2, 0, none⟩ = some (.int .i64 L) ∧ wx.cell? ⟨b2, 1, none⟩ = some (.int .i64 n)) ∧ (wx.cell? ⟨b4, 0, none⟩ = some (.int .i64 L) ∧ wx.cell? ⟨b4, 1, none⟩ = some (.int .i64 n))) (first | exact HF _ hb | exact HF _ hb.drew | exact HF _ (Below.refl _ _).drew | exact HF _ (Below.refl _ _))
    (first
      | (go_at_call 8; refine (c1 _).mono ?_; rintro e wy ⟨rfl, rfl⟩)
      | (go_at_call 9; refine (c2 _).mono ?_; rintro e wy ⟨rfl, rfl⟩)
      | (go_at_call 10; refine (d3 _ (by first | exact hb | exact hb.drew | exact (Below.refl _ _).drew | exact Below.refl _ _)).mono ?_; rintro e wy ⟨rfl, hb⟩)
      | (go_at_call 11; refine (d4 _ (by first | exact hb | exact hb.drew | exact (Below.refl _ _).drew | exact Below.refl _ _)).mono ?_; rintro e wy ⟨rfl, hb⟩)
      | (go_at_call 12; refine (d5 _ (by first | exact hb | exact hb.drew | exact (Below.refl _ _).drew | exact Below.refl _ _)).mono ?_; rintro e wy ⟨rfl, hb⟩)
      | (go_at_call 13; refine (d6 _ (by first | exact hb | exact hb.drew | exact (Below.refl _ _).drew | exact Below.refl _ _)).mono ?_; rintro e wy ⟨rfl, hb⟩)
      | (go_at_call 5; refine (d7 _ (by first | exact hb | exact hb.drew | exact (Below.refl _ _).drew | exact Below.refl _ _)).mono ?_; rintro e wy ⟨rfl, hb⟩))
  all_goals
    have HBz := hide (HB.out.trans (hb.mono HB.out.size))
    clear d3 d4 d5 d6 d7 HF
    go_wp2
    go_ret
    exact ⟨rfl, HBz.out⟩
theorem mticks_walk (l n a t k : Int) (ha : I64 a) (w : World) :
    Calls Try.prog 3 #[.agg #[.int .i64 l, .int .i64 n], .int .i64 a, .int .i64 t, .int .i64 k] w fun e w' => e = .returned (.bool true) ∧ Below w.heap.size w w' := by
  by_cases h1 : t < 0 ∨ 1099511627776 < t ∨ k < 0 ∨ 1125899906842624 < k
  · exact mticks_out l n a t k h1 w
  · exact mticks_in l n a t k ha (by omega) (by omega) (by omega) (by omega) w
end Go.Proofs.Ytpgehgfgdmeibaa.Mt
