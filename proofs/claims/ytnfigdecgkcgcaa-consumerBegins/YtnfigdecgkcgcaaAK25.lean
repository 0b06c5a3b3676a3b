/- Parts of the proof: KLB. -/
import Derived.Test.YtnfigdecgkcgcaaRows
import Derived.Test.YtnfigdecgkcgcaaAK7
import Derived.Test.YtnfigdecgkcgcaaAK10
import Derived.Test.YtnfigdecgkcgcaaAK24
set_option maxRecDepth 100000
namespace Go.Proofs.Ytnfigdecgkcgcaa.Kc
open Go.RowKit Pv
set_option maxHeartbeats 2000000 in
theorem lcbegins_any (l : List (Int × Int)) (v : Value) (id now : Int) (P : Nat → Prop) (w : World) (h : Rep P w v 2 16 (pwC l)) :
    Calls Try.prog 6 #[v, .int .i64 id, .int .i64 now] w fun e w' => e = .returned (.bool true) ∧ Below w.heap.size w w' := by
  have HPW := hide (lpowers_rep l v P w h)
  have HBG := hide (fun (u : Value) (Q : Nat → Prop) (wx : World) (h : Rep Q wx u 2 16 (pwC l)) => cbegin_any l u id now Q wx h)
  have HRB := hide (fun (u : Value) (Q : Nat → Prop) (wx : World) (h : Rep Q wx u 2 16 (pwC l)) => rcbegin_any l u id now Q wx h)
  have HSM := hide (fun (u u' : CsV) (Q Q' : Nat → Prop) (wx : World) (h : CIn Q wx (beginC l id now) u) (h' : CIn Q' wx (beginC l id now) u') => samec_any (beginC l id now) u u' Q Q' wx h h')
  have HCO := hide (fun (wx : World) => lconsumes_any wx)
  have HH := hide h
  clear h
  generalize beginC l id now = c at *
  go_enter Try.func6, Try.ntmps6
  go_wp2_with (first
    | (go_at_call 25; refine HPW.out.mono ?_; rintro e w1 ⟨u1, rfl, r1, b1⟩; have HR1 := hide r1; have HB1 := hide b1; clear r1 b1)
    | (go_at_call 24; refine (HBG.out _ _ _ HR1.out).mono ?_; rintro e w2 ⟨v2, rfl, I2, b2⟩; have HI2 := hide I2; have HB2 := hide (HB1.out.trans (b2.mono HB1.out.size)); clear I2 b2)
    | (go_at_call 26; refine (HRB.out _ _ _ (HH.out.over HB2.out)).mono ?_; rintro e w3 ⟨v3, rfl, I3, b3⟩; have HI3 := hide I3; have HI23 := hide (HI2.out.over b3); have HB3 := hide (HB2.out.trans (b3.mono HB2.out.size)); clear I3 b3)
    | (go_at_call 12; refine (HSM.out _ _ _ _ _ HI23.out HI3.out).mono ?_; rintro e w4 ⟨rfl, b4⟩; have HB4 := hide (HB3.out.trans (b4.mono HB3.out.size)); clear b4)
    | (go_at_call 15; refine (HCO.out _).mono ?_; rintro e w5 ⟨rfl, b5⟩; have HB5 := hide (HB4.out.trans (b5.mono HB4.out.size)); clear b5))
  go_ret
  exact ⟨rfl, HB5.out⟩
end Go.Proofs.Ytnfigdecgkcgcaa.Kc

