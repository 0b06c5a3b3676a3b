/- LineSays: the walk. -/
import Derived.Test.YtpocbkgkgpflaaaLHS
import Derived.Test.YtpocbkgkgpflaaaLI
import Derived.Deep.RegionHeld3
set_option maxRecDepth 100000
namespace Go.Proofs.Ytpocbkgkgpflaaa.Ln
open Go.RowKit
def Cells4 (w : World) (b : Nat) (v0 v1 v2 v3 : Value) : Prop := w.cell? ⟨b, 0, none⟩ = some v0 ∧ w.cell? ⟨b, 1, none⟩ = some v1 ∧ w.cell? ⟨b, 2, none⟩ = some v2 ∧ w.cell? ⟨b, 3, none⟩ = some v3
set_option maxHeartbeats 4000000 in
theorem says_walk (x : Line) (sa da : Option Addr) (cs cd sb so db dO : Nat) (s : ByteArray) (due : Int) (w : World) (L : LAt w x sa da cs cd sb so db dO) :
    Calls Try.prog 3 #[.agg #[.slice sa x.S.length cs, .slice da x.D.length cd, .int .i64 x.g, .bool x.cl], .string s, .int .i64 due] w fun e w' => e = .returned (.bool true) ∧ Below w.heap.size w w' := by
  have F1 := FAt.new w (.slice sa x.S.length cs) (.slice da x.D.length cd) (.int .i64 x.g) (.bool x.cl)
  have B1 := below_new w (.cells #[.slice sa x.S.length cs, .slice da x.D.length cd, .int .i64 x.g, .bool x.cl] 25)
  have L1 := L.later B1
  have H1 := hide (And.intro L.hls L.hld)
  have HP := hide (fun A1 A2 C1 C2 g1 o1 g2 o2 w (L : LAt w x A1 A2 C1 C2 g1 o1 g2 o2) => say_any x A1 A2 C1 C2 g1 o1 g2 o2 s due w L)
  have HRF := hide (fun w (L : LAt w x sa da cs cd sb so db dO) => rsay_any x sa da cs cd sb so db dO s due w L)
  have HG := hide (fun A1 A2 C1 C2 g1 o1 g2 o2 w (L : LAt w x A1 A2 C1 C2 g1 o1 g2 o2) => good_any x A1 A2 C1 C2 g1 o1 g2 o2 w L)
  have HRG := hide (fun w (L : LAt w x sa da cs cd sb so db dO) => rgood_any x sa da cs cd sb so db dO w L)
  generalize sayL x s due = y at *
  generalize sayE x due = er at *
  generalize goodL x = gd at *
  clear L
  go_enter Try.func3, Try.ntmps3
  go_upto_region 1 with fail
  generalize w.alloc (.cells #[.slice sa x.S.length cs, .slice da x.D.length cd, .int .i64 x.g, .bool x.cl] 25) = w1 at *
  obtain ⟨⟨c0, c1, c2, c3⟩, -⟩ := F1.facts
  have HX := hide (show _ ∧ _ ∧ _ from ⟨F1, B1, L1⟩)
  clear F1 B1 L1
  go_upto_region 2 with (go_at_call 8; refine (copy_any x sa da cs cd sb so db dO _ HX.out.2.2).mono ?_; rintro e w2 ⟨A1, C1, A2, C2, rfl, hO, hb2⟩; have HB2 := hide hb2; have HO := hide hO; clear hb2 hO)
  obtain ⟨g1, g2, LC, -, -⟩ := HO.out.at H1.out.1 H1.out.2
  have F1 := (HX.out.1.later HB2.out HX.out.1.lt).alloc (.cells #[.slice A1 x.S.length C1, .slice A2 x.D.length C2, .int .i64 x.g, .bool x.cl] 25)
  have F2 := FAt.new w2 (.slice A1 x.S.length C1) (.slice A2 x.D.length C2) (.int .i64 x.g) (.bool x.cl)
  have B3 := (below_then HX.out.2.1 HB2.out).alloc (below_then HX.out.2.1 HB2.out).size (.cells #[.slice A1 x.S.length C1, .slice A2 x.D.length C2, .int .i64 x.g, .bool x.cl] 25)
  have L3 := (HX.out.2.2.later HB2.out).later (below_new w2 (.cells #[.slice A1 x.S.length C1, .slice A2 x.D.length C2, .int .i64 x.g, .bool x.cl] 25))
  have LC3 := LC.later (below_new w2 (.cells #[.slice A1 x.S.length C1, .slice A2 x.D.length C2, .int .i64 x.g, .bool x.cl] 25))
  clear c0 c1 c2 c3 LC HO HB2 HX
  generalize w2.heap.size = b2 at *
  generalize w2.alloc (.cells #[.slice A1 x.S.length C1, .slice A2 x.D.length C2, .int .i64 x.g, .bool x.cl] 25) = w3 at *
  obtain ⟨⟨c0, c1, c2, c3⟩, -⟩ := F2.facts
  have HX := hide (show _ ∧ _ ∧ _ ∧ _ ∧ _ from ⟨F1, F2, B3, L3, LC3⟩)
  clear F1 F2 B3 L3 LC3
  go_upto_region 3 with (go_at_call 9; refine (HP.out A1 A2 C1 C2 g1 0 g2 0 _ HX.out.2.2.2.2).mono ?_; rintro e w4 ⟨v, rfl, ⟨ya, yb, yc, yd, ye, yf, yg, yh, rfl, LY, -, -⟩, hb4⟩; have HB4 := hide hb4; have HLY := hide LY; clear hb4 LY)
  have F1 := (HX.out.1.later HB4.out HX.out.1.lt).alloc (.cells #[.slice ya y.S.length yc, .slice yb y.D.length yd, .int .i64 y.g, .bool y.cl] 25)
  have F2 := (HX.out.2.1.later HB4.out HX.out.2.1.lt).alloc (.cells #[.slice ya y.S.length yc, .slice yb y.D.length yd, .int .i64 y.g, .bool y.cl] 25)
  have F4 := FAt.new w4 (.slice ya y.S.length yc) (.slice yb y.D.length yd) (.int .i64 y.g) (.bool y.cl)
  have B5 := (below_then HX.out.2.2.1 HB4.out).alloc (below_then HX.out.2.2.1 HB4.out).size (.cells #[.slice ya y.S.length yc, .slice yb y.D.length yd, .int .i64 y.g, .bool y.cl] 25)
  have L5 := (HX.out.2.2.2.1.later HB4.out).later (below_new w4 (.cells #[.slice ya y.S.length yc, .slice yb y.D.length yd, .int .i64 y.g, .bool y.cl] 25))
  have LC5 := (HX.out.2.2.2.2.later HB4.out).later (below_new w4 (.cells #[.slice ya y.S.length yc, .slice yb y.D.length yd, .int .i64 y.g, .bool y.cl] 25))
  have LY5 := HLY.out.later (below_new w4 (.cells #[.slice ya y.S.length yc, .slice yb y.D.length yd, .int .i64 y.g, .bool y.cl] 25))
  clear c0 c1 c2 c3 HX HB4 HLY
  generalize w4.heap.size = b4 at *
  generalize w4.alloc (.cells #[.slice ya y.S.length yc, .slice yb y.D.length yd, .int .i64 y.g, .bool y.cl] 25) = w5 at *
  obtain ⟨⟨c0, c1, c2, c3⟩, -⟩ := F1.facts
  have HX := hide (show _ ∧ _ ∧ _ ∧ _ ∧ _ ∧ _ ∧ _ from ⟨F1, F2, F4, B5, L5, LC5, LY5⟩)
  clear F1 F2 F4 B5 L5 LC5 LY5
  go_upto_region 4 with (go_at_call 10; refine (HRF.out _ HX.out.2.2.2.2.1).mono ?_; rintro e w6 ⟨v, rfl, ⟨za, zb, zc, zd, ze, zf, zg, zh, rfl, LZ, -, -⟩, hb6⟩; have HB6 := hide hb6; have HLZ := hide LZ; clear hb6 LZ)
  have F1 := (HX.out.1.later HB6.out HX.out.1.lt).alloc (.cells #[.slice za y.S.length zc, .slice zb y.D.length zd, .int .i64 y.g, .bool y.cl] 25)
  have F2 := (HX.out.2.1.later HB6.out HX.out.2.1.lt).alloc (.cells #[.slice za y.S.length zc, .slice zb y.D.length zd, .int .i64 y.g, .bool y.cl] 25)
  have F4 := (HX.out.2.2.1.later HB6.out HX.out.2.2.1.lt).alloc (.cells #[.slice za y.S.length zc, .slice zb y.D.length zd, .int .i64 y.g, .bool y.cl] 25)
  have F6 := FAt.new w6 (.slice za y.S.length zc) (.slice zb y.D.length zd) (.int .i64 y.g) (.bool y.cl)
  have BN := below_new w6 (.cells #[.slice za y.S.length zc, .slice zb y.D.length zd, .int .i64 y.g, .bool y.cl] 25)
  have B7 := below_then (below_then HX.out.2.2.2.1 HB6.out) BN
  have L7 := (HX.out.2.2.2.2.1.later HB6.out).later BN
  have LC7 := (HX.out.2.2.2.2.2.1.later HB6.out).later BN
  have LY7 := (HX.out.2.2.2.2.2.2.later HB6.out).later BN
  have LZ7 := HLZ.out.later BN
  clear c0 c1 c2 c3 HX HB6 HLZ BN
  generalize w6.heap.size = b6 at *
  generalize w6.alloc (.cells #[.slice za y.S.length zc, .slice zb y.D.length zd, .int .i64 y.g, .bool y.cl] 25) = w7 at *
  have hc1 : ∀ wx, Below w7.heap.size w7 wx → Calls Try.prog 11 #[.agg #[.slice ya y.S.length yc, .slice yb y.D.length yd, .int .i64 y.g, .bool y.cl], .agg #[.slice za y.S.length zc, .slice zb y.D.length zd, .int .i64 y.g, .bool y.cl]] wx fun e w' => e = .returned (.bool true) ∧ Below w7.heap.size w7 w' := fun wx h => (same_any y ya yb za zb yc yd ye yf yg yh zc zd ze zf zg zh wx (LY7.later h) (LZ7.later h)).mono fun _ _ hh => ⟨hh.1, below_then h hh.2⟩
  have hc2 : ∀ wx, Below w7.heap.size w7 wx → Calls Try.prog 11 #[.agg #[.slice A1 x.S.length C1, .slice A2 x.D.length C2, .int .i64 x.g, .bool x.cl], .agg #[.slice sa x.S.length cs, .slice da x.D.length cd, .int .i64 x.g, .bool x.cl]] wx fun e w' => e = .returned (.bool true) ∧ Below w7.heap.size w7 w' := fun wx h => (same_any x A1 A2 sa da C1 C2 g1 0 g2 0 cs cd sb so db dO wx (LC7.later h) (L7.later h)).mono fun _ _ hh => ⟨hh.1, below_then h hh.2⟩
  have hc3 : ∀ wx, Below w7.heap.size w7 wx → Calls Try.prog 12 #[.agg #[.slice A1 x.S.length C1, .slice A2 x.D.length C2, .int .i64 x.g, .bool x.cl]] wx fun e w' => e = .returned (.bool gd) ∧ Below w7.heap.size w7 w' := fun wx h => (HG.out A1 A2 C1 C2 g1 0 g2 0 wx (LC7.later h)).mono fun _ _ hh => ⟨hh.1, below_then h hh.2⟩
  have hc4 : ∀ wx, Below w7.heap.size w7 wx → Calls Try.prog 13 #[.agg #[.slice sa x.S.length cs, .slice da x.D.length cd, .int .i64 x.g, .bool x.cl]] wx fun e w' => e = .returned (.bool gd) ∧ Below w7.heap.size w7 w' := fun wx h => (HRG.out wx (L7.later h)).mono fun _ _ hh => ⟨hh.1, below_then h hh.2⟩
  have hc5 : ∀ wx, Below w7.heap.size w7 wx → Calls Try.prog 14 #[] wx fun e w' => e = .returned (.bool true) ∧ Below w7.heap.size w7 w' := fun wx h => (llines_any wx).mono fun _ _ hh => ⟨hh.1, below_then h hh.2⟩
  have hS : ∀ wx, Below w7.heap.size w7 wx → ((wx.cell? ⟨w.heap.size, 0, none⟩ = some (.slice sa x.S.length cs) ∧ wx.cell? ⟨w.heap.size, 1, none⟩ = some (.slice da x.D.length cd) ∧ wx.cell? ⟨w.heap.size, 2, none⟩ = some (.int .i64 x.g) ∧ wx.cell? ⟨w.heap.size, 3, none⟩ = some (.bool x.cl)) ∧
      (wx.cell? ⟨b2, 0, none⟩ = some (.slice A1 x.S.length C1) ∧ wx.cell? ⟨b2, 1, none⟩ = some (.slice A2 x.D.length C2) ∧ wx.cell? ⟨b2, 2, none⟩ = some (.int .i64 x.g) ∧ wx.cell? ⟨b2, 3, none⟩ = some (.bool x.cl)) ∧
      (wx.cell? ⟨b4, 0, none⟩ = some (.slice ya y.S.length yc) ∧ wx.cell? ⟨b4, 1, none⟩ = some (.slice yb y.D.length yd) ∧ wx.cell? ⟨b4, 2, none⟩ = some (.int .i64 y.g) ∧ wx.cell? ⟨b4, 3, none⟩ = some (.bool y.cl)) ∧
      (wx.cell? ⟨b6, 0, none⟩ = some (.slice za y.S.length zc) ∧ wx.cell? ⟨b6, 1, none⟩ = some (.slice zb y.D.length zd) ∧ wx.cell? ⟨b6, 2, none⟩ = some (.int .i64 y.g) ∧ wx.cell? ⟨b6, 3, none⟩ = some (.bool y.cl))) := fun wx h =>
    ⟨(F1.later h F1.lt).facts.1, (F2.later h F2.lt).facts.1, (F4.later h F4.lt).facts.1, (F6.later h F6.lt).facts.1⟩
  have HB7 := hide B7
  clear HP HRF HG HRG F1 F2 F4 F6 B7 L7 LC7 LY7 LZ7
  go_region_held3 (fun wx => ((wx.cell? ⟨w.heap.size, 0, none⟩ = some (.slice sa x.S.length cs) ∧ wx.cell? ⟨w.heap.size, 1, none⟩ = some (.slice da x.D.length cd) ∧ wx.cell? ⟨w.heap.size, 2, none⟩ = some (.int .i64 x.g) ∧ wx.cell? ⟨w.heap.size, 3, none⟩ = some (.bool x.cl)) ∧
      (wx.cell? ⟨b2, 0, none⟩ = some (.slice A1 x.S.length C1) ∧ wx.cell? ⟨b2, 1, none⟩ = some (.slice A2 x.D.length C2) ∧ wx.cell? ⟨b2, 2, none⟩ = some (.int .i64 x.g) ∧ wx.cell? ⟨b2, 3, none⟩ = some (.bool x.cl)) ∧
      (wx.cell? ⟨b4, 0, none⟩ = some (.slice ya y.S.length yc) ∧ wx.cell? ⟨b4, 1, none⟩ = some (.slice yb y.D.length yd) ∧ wx.cell? ⟨b4, 2, none⟩ = some (.int .i64 y.g) ∧ wx.cell? ⟨b4, 3, none⟩ = some (.bool y.cl)) ∧
      (wx.cell? ⟨b6, 0, none⟩ = some (.slice za y.S.length zc) ∧ wx.cell? ⟨b6, 1, none⟩ = some (.slice zb y.D.length zd) ∧ wx.cell? ⟨b6, 2, none⟩ = some (.int .i64 y.g) ∧ wx.cell? ⟨b6, 3, none⟩ = some (.bool y.cl)))) (first | exact hS _ hb | exact hS _ hb.drew | exact hS _ (Below.refl _ _).drew | exact hS _ (Below.refl _ _))
    (first
      | (go_at_call 11; have _m := m1; refine (hc2 _ (by first | exact hb | exact hb.drew | exact (Below.refl _ _).drew | exact Below.refl _ _)).mono ?_; rintro e wy ⟨rfl, hb⟩)
      | (go_at_call 11; refine (hc1 _ (by first | exact hb | exact hb.drew | exact (Below.refl _ _).drew | exact Below.refl _ _)).mono ?_; rintro e wy ⟨rfl, hb⟩; have m1 : True := trivial)
      | (go_at_call 12; refine (hc3 _ (by first | exact hb | exact hb.drew | exact (Below.refl _ _).drew | exact Below.refl _ _)).mono ?_; rintro e wy ⟨rfl, hb⟩)
      | (go_at_call 13; refine (hc4 _ (by first | exact hb | exact hb.drew | exact (Below.refl _ _).drew | exact Below.refl _ _)).mono ?_; rintro e wy ⟨rfl, hb⟩)
      | (go_at_call 14; refine (hc5 _ (by first | exact hb | exact hb.drew | exact (Below.refl _ _).drew | exact Below.refl _ _)).mono ?_; rintro e wy ⟨rfl, hb⟩))
  have HBz := hide (below_then HB7.out hb)
  clear hc1 hc2 hc3 hc4 hc5 hS
  go_wp2
  go_ret
  exact ⟨rfl, HBz.out⟩
end Go.Proofs.Ytpocbkgkgpflaaa.Ln
