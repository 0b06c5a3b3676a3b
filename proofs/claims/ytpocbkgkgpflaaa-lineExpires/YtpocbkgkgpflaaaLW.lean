/- LineDelivers and LineExpires: the walks. -/
import Derived.Test.YtpocbkgkgpflaaaLHD
import Derived.Test.YtpocbkgkgpflaaaLI
set_option maxRecDepth 100000
namespace Go.Proofs.Ytpocbkgkgpflaaa.Ln
open Go.RowKit
set_option maxHeartbeats 2000000 in
theorem delivers_walk (x : Line) (sa da : Option Addr) (cs cd sb so db dO : Nat) (k : Int) (s : ByteArray) (said now : Int) (w : World) (L : LAt w x sa da cs cd sb so db dO) (hk : k ≤ 9223372036854775807) :
    Calls Try.prog 4 #[.agg #[.slice sa x.S.length cs, .slice da x.D.length cd, .int .i64 x.g, .bool x.cl], .int .i64 k, .string s, .int .i64 said, .int .i64 now] w fun e w' => e = .returned (.bool true) ∧ Below w.heap.size w w' := by
  have F1 := FAt.new w (.slice sa x.S.length cs) (.slice da x.D.length cd) (.int .i64 x.g) (.bool x.cl)
  have B1 := below_new w (.cells #[.slice sa x.S.length cs, .slice da x.D.length cd, .int .i64 x.g, .bool x.cl] 25)
  have L1 := L.later B1
  have H1 := hide (And.intro L.hls L.hld)
  have HP := hide (fun A1 A2 C1 C2 g1 o1 g2 o2 w (L : LAt w x A1 A2 C1 C2 g1 o1 g2 o2) => del_any x A1 A2 C1 C2 g1 o1 g2 o2 k s said now w L)
  have HRF := hide (fun w (L : LAt w x sa da cs cd sb so db dO) => rdel_any x sa da cs cd sb so db dO k s said now w L hk)
  generalize delL x k s said now = y at *
  generalize delE x k s said now = er at *
  clear L
  go_enter Try.func4, Try.ntmps4
  go_upto_region 1 with fail
  generalize w.alloc (.cells #[.slice sa x.S.length cs, .slice da x.D.length cd, .int .i64 x.g, .bool x.cl] 25) = w1 at *
  obtain ⟨⟨c0, c1, c2, c3⟩, -⟩ := F1.facts
  have HX := hide (show _ ∧ _ ∧ _ from ⟨F1, B1, L1⟩)
  clear F1 B1 L1
  go_upto_region 2 with (first
    | (go_at_call 8; refine (copy_any x sa da cs cd sb so db dO _ HX.out.2.2).mono ?_; rintro e w2 ⟨A1, C1, A2, C2, rfl, hO, hb2⟩; have HB2 := hide hb2; have HO := hide hO; clear hb2 hO)
    | (go_at_call 15; obtain ⟨g1, g2, LC, -, -⟩ := HO.out.at H1.out.1 H1.out.2; refine (HP.out A1 A2 C1 C2 g1 0 g2 0 _ LC).mono ?_; clear LC; rintro e w3 ⟨v, rfl, ⟨ya, yb, yc, yd, ye, yf, yg, yh, rfl, LY, -, -⟩, hb3⟩; have HB3 := hide (below_then HB2.out hb3); have HLY := hide LY; clear hb3 LY))
  have F1 := (HX.out.1.later HB3.out HX.out.1.lt).alloc (.cells #[.slice ya y.S.length yc, .slice yb y.D.length yd, .int .i64 y.g, .bool y.cl] 25)
  have F3 := FAt.new w3 (.slice ya y.S.length yc) (.slice yb y.D.length yd) (.int .i64 y.g) (.bool y.cl)
  have B4 := (below_then HX.out.2.1 HB3.out).alloc (below_then HX.out.2.1 HB3.out).size (.cells #[.slice ya y.S.length yc, .slice yb y.D.length yd, .int .i64 y.g, .bool y.cl] 25)
  have L4 := (HX.out.2.2.later HB3.out).later (below_new w3 (.cells #[.slice ya y.S.length yc, .slice yb y.D.length yd, .int .i64 y.g, .bool y.cl] 25))
  have LY4 := HLY.out.later (below_new w3 (.cells #[.slice ya y.S.length yc, .slice yb y.D.length yd, .int .i64 y.g, .bool y.cl] 25))
  clear c0 c1 c2 c3
  generalize w3.heap.size = b3 at *
  generalize w3.alloc (.cells #[.slice ya y.S.length yc, .slice yb y.D.length yd, .int .i64 y.g, .bool y.cl] 25) = w4 at *
  obtain ⟨⟨c0, c1, c2, c3⟩, -⟩ := F1.facts
  have HZ := hide (show _ ∧ _ ∧ _ ∧ _ from ⟨F3, B4, L4, LY4⟩)
  clear F1 F3 B4 L4 LY4
  go_upto_region 3 with (go_at_call 16; refine (HRF.out _ HZ.out.2.2.1).mono ?_; rintro e w5 ⟨v, rfl, ⟨za, zb, zc, zd, ze, zf, zg, zh, rfl, LZ, -, -⟩, hb5⟩; have HB5 := hide hb5; have HLZ := hide LZ; clear hb5 LZ)
  have F3 := (HZ.out.1.later HB5.out HZ.out.1.lt).alloc (.cells #[.slice za y.S.length zc, .slice zb y.D.length zd, .int .i64 y.g, .bool y.cl] 25)
  have F5 := FAt.new w5 (.slice za y.S.length zc) (.slice zb y.D.length zd) (.int .i64 y.g) (.bool y.cl)
  have B6 := (below_then HZ.out.2.1 HB5.out).alloc (below_then HZ.out.2.1 HB5.out).size (.cells #[.slice za y.S.length zc, .slice zb y.D.length zd, .int .i64 y.g, .bool y.cl] 25)
  have LY6 := (HZ.out.2.2.2.later HB5.out).later (below_new w5 (.cells #[.slice za y.S.length zc, .slice zb y.D.length zd, .int .i64 y.g, .bool y.cl] 25))
  have LZ6 := HLZ.out.later (below_new w5 (.cells #[.slice za y.S.length zc, .slice zb y.D.length zd, .int .i64 y.g, .bool y.cl] 25))
  clear c0 c1 c2 c3
  generalize w5.heap.size = b5 at *
  generalize w5.alloc (.cells #[.slice za y.S.length zc, .slice zb y.D.length zd, .int .i64 y.g, .bool y.cl] 25) = w6 at *
  obtain ⟨⟨c0, c1, c2, c3⟩, -⟩ := F3.facts
  obtain ⟨⟨d0, d1, d2, d3⟩, -⟩ := F5.facts
  have HV := hide (show _ ∧ _ ∧ _ from ⟨B6, LY6, LZ6⟩)
  clear F3 F5 B6 LY6 LZ6
  go_wp2_with (first
    | (go_at_call 11; refine (same_any y ya yb za zb yc yd ye yf yg yh zc zd ze zf zg zh _ HV.out.2.1 HV.out.2.2).mono ?_; rintro e w7 ⟨rfl, hb7⟩; have HB7 := hide (below_then HV.out.1 hb7); clear hb7)
    | (go_at_call 14; refine (llines_any _).mono ?_; rintro e w8 ⟨rfl, hb8⟩))
  go_ret
  exact ⟨rfl, below_then HB7.out hb8⟩
set_option maxHeartbeats 2000000 in
theorem expires_walk (x : Line) (sa da : Option Addr) (cs cd sb so db dO : Nat) (k time got : Int) (w : World) (L : LAt w x sa da cs cd sb so db dO) :
    Calls Try.prog 5 #[.agg #[.slice sa x.S.length cs, .slice da x.D.length cd, .int .i64 x.g, .bool x.cl], .int .i64 k, .int .i64 time, .int .i64 got] w fun e w' => e = .returned (.bool true) ∧ Below w.heap.size w w' := by
  have F1 := FAt.new w (.slice sa x.S.length cs) (.slice da x.D.length cd) (.int .i64 x.g) (.bool x.cl)
  have B1 := below_new w (.cells #[.slice sa x.S.length cs, .slice da x.D.length cd, .int .i64 x.g, .bool x.cl] 25)
  have L1 := L.later B1
  have H1 := hide (And.intro L.hls L.hld)
  have HP := hide (fun A1 A2 C1 C2 g1 o1 g2 o2 w (L : LAt w x A1 A2 C1 C2 g1 o1 g2 o2) => exp_any x A1 A2 C1 C2 g1 o1 g2 o2 k time got w L)
  have HRF := hide (fun w (L : LAt w x sa da cs cd sb so db dO) => rexp_any x sa da cs cd sb so db dO k time got w L)
  generalize expL x k time got = y at *
  generalize expE x k time got = er at *
  clear L
  go_enter Try.func5, Try.ntmps5
  go_upto_region 1 with fail
  generalize w.alloc (.cells #[.slice sa x.S.length cs, .slice da x.D.length cd, .int .i64 x.g, .bool x.cl] 25) = w1 at *
  obtain ⟨⟨c0, c1, c2, c3⟩, -⟩ := F1.facts
  have HX := hide (show _ ∧ _ ∧ _ from ⟨F1, B1, L1⟩)
  clear F1 B1 L1
  go_upto_region 2 with (first
    | (go_at_call 8; refine (copy_any x sa da cs cd sb so db dO _ HX.out.2.2).mono ?_; rintro e w2 ⟨A1, C1, A2, C2, rfl, hO, hb2⟩; have HB2 := hide hb2; have HO := hide hO; clear hb2 hO)
    | (go_at_call 17; obtain ⟨g1, g2, LC, -, -⟩ := HO.out.at H1.out.1 H1.out.2; refine (HP.out A1 A2 C1 C2 g1 0 g2 0 _ LC).mono ?_; clear LC; rintro e w3 ⟨v, rfl, ⟨ya, yb, yc, yd, ye, yf, yg, yh, rfl, LY, -, -⟩, hb3⟩; have HB3 := hide (below_then HB2.out hb3); have HLY := hide LY; clear hb3 LY))
  have F1 := (HX.out.1.later HB3.out HX.out.1.lt).alloc (.cells #[.slice ya y.S.length yc, .slice yb y.D.length yd, .int .i64 y.g, .bool y.cl] 25)
  have F3 := FAt.new w3 (.slice ya y.S.length yc) (.slice yb y.D.length yd) (.int .i64 y.g) (.bool y.cl)
  have B4 := (below_then HX.out.2.1 HB3.out).alloc (below_then HX.out.2.1 HB3.out).size (.cells #[.slice ya y.S.length yc, .slice yb y.D.length yd, .int .i64 y.g, .bool y.cl] 25)
  have L4 := (HX.out.2.2.later HB3.out).later (below_new w3 (.cells #[.slice ya y.S.length yc, .slice yb y.D.length yd, .int .i64 y.g, .bool y.cl] 25))
  have LY4 := HLY.out.later (below_new w3 (.cells #[.slice ya y.S.length yc, .slice yb y.D.length yd, .int .i64 y.g, .bool y.cl] 25))
  clear c0 c1 c2 c3
  generalize w3.heap.size = b3 at *
  generalize w3.alloc (.cells #[.slice ya y.S.length yc, .slice yb y.D.length yd, .int .i64 y.g, .bool y.cl] 25) = w4 at *
  obtain ⟨⟨c0, c1, c2, c3⟩, -⟩ := F1.facts
  have HZ := hide (show _ ∧ _ ∧ _ ∧ _ from ⟨F3, B4, L4, LY4⟩)
  clear F1 F3 B4 L4 LY4
  go_upto_region 3 with (go_at_call 18; refine (HRF.out _ HZ.out.2.2.1).mono ?_; rintro e w5 ⟨v, rfl, ⟨za, zb, zc, zd, ze, zf, zg, zh, rfl, LZ, -, -⟩, hb5⟩; have HB5 := hide hb5; have HLZ := hide LZ; clear hb5 LZ)
  have F3 := (HZ.out.1.later HB5.out HZ.out.1.lt).alloc (.cells #[.slice za y.S.length zc, .slice zb y.D.length zd, .int .i64 y.g, .bool y.cl] 25)
  have F5 := FAt.new w5 (.slice za y.S.length zc) (.slice zb y.D.length zd) (.int .i64 y.g) (.bool y.cl)
  have B6 := (below_then HZ.out.2.1 HB5.out).alloc (below_then HZ.out.2.1 HB5.out).size (.cells #[.slice za y.S.length zc, .slice zb y.D.length zd, .int .i64 y.g, .bool y.cl] 25)
  have LY6 := (HZ.out.2.2.2.later HB5.out).later (below_new w5 (.cells #[.slice za y.S.length zc, .slice zb y.D.length zd, .int .i64 y.g, .bool y.cl] 25))
  have LZ6 := HLZ.out.later (below_new w5 (.cells #[.slice za y.S.length zc, .slice zb y.D.length zd, .int .i64 y.g, .bool y.cl] 25))
  clear c0 c1 c2 c3
  generalize w5.heap.size = b5 at *
  generalize w5.alloc (.cells #[.slice za y.S.length zc, .slice zb y.D.length zd, .int .i64 y.g, .bool y.cl] 25) = w6 at *
  obtain ⟨⟨c0, c1, c2, c3⟩, -⟩ := F3.facts
  obtain ⟨⟨d0, d1, d2, d3⟩, -⟩ := F5.facts
  have HV := hide (show _ ∧ _ ∧ _ from ⟨B6, LY6, LZ6⟩)
  clear F3 F5 B6 LY6 LZ6
  go_wp2_with (first
    | (go_at_call 11; refine (same_any y ya yb za zb yc yd ye yf yg yh zc zd ze zf zg zh _ HV.out.2.1 HV.out.2.2).mono ?_; rintro e w7 ⟨rfl, hb7⟩; have HB7 := hide (below_then HV.out.1 hb7); clear hb7)
    | (go_at_call 14; refine (llines_any _).mono ?_; rintro e w8 ⟨rfl, hb8⟩))
  go_ret
  exact ⟨rfl, below_then HB7.out hb8⟩
end Go.Proofs.Ytpocbkgkgpflaaa.Ln
