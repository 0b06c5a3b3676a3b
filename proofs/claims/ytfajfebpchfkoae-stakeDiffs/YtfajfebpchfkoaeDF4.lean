/- StakeDiffs: the walk. -/
import Derived.Test.YtfajfebpchfkoaeDF3
import Derived.Test.YtfajfebpchfkoaeSU
set_option maxRecDepth 100000
namespace Go.Proofs.Ytfajfebpchfkoae.Df
open Go.RowKit
theorem those6 (c : Nat → Bool) (f : Nat → Int) : (those c f 6).length ≤ 8796093022202 := Nat.le_trans (those_len c f 6) (by decide)
theorem pin_nil (w : World) : PIn w [] none 0 0 := ⟨by simp, fun h => absurd h (by simp), fun i hi => absurd hi (by simp)⟩
set_option maxHeartbeats 8000000 in
theorem diffs_walk (x y z : List Int) (xo yo zo : Option Addr) (xc yc zc xb xf yb yf zb zf : Nat) (w : World) (hx : x.length ≤ maxLen) (hy : y.length ≤ maxLen) (hz : z.length ≤ maxLen)
    (ax : 0 < x.length → xo = some ⟨xb, xf, none⟩) (ay : 0 < y.length → yo = some ⟨yb, yf, none⟩) (az : 0 < z.length → zo = some ⟨zb, zf, none⟩) (cx : IntsAt w xb xf x) (cy : IntsAt w yb yf y) (cz : IntsAt w zb zf z) :
    Calls Try.prog 3 #[.slice xo x.length xc, .slice yo y.length yc, .slice zo z.length zc] w fun e w' => e = .returned (.bool true) ∧ Below w.heap.size w w' := by
  have M1 := hide (made_any x xo xc xb xf w hx ax cx)
  have M2 := hide (fun w' (hb : Below w.heap.size w w') => made_any y yo yc yb yf w' hy ay (cy.later hb))
  have M3 := hide (fun w' (hb : Below w.heap.size w w') => made_any z zo zc zb zf w' hz az (cz.later hb))
  have hA1 : (setOf (madeP x)).length ≤ 8796093022202 := those6 _ _
  have hB1 : (setOf (madeP y)).length ≤ 8796093022202 := those6 _ _
  have hC1 : (setOf (madeP z)).length ≤ 8796093022202 := those6 _ _
  have e1 := apply_diff (fun i => (madeP_pos x i).1) (fun i => (madeP_pos y i).1)
  have e2 := apply_diff (fun i => (madeP_pos y i).1) (fun i => (madeP_pos z i).1)
  have e3 := apply_nil (P := madeP x) (fun i => (madeP_pos x i).1)
  have e4 := diff_self (setOf (madeP x))
  generalize setOf (madeP x) = A at *
  generalize setOf (madeP y) = B at *
  generalize setOf (madeP z) = C at *
  have hD1 : (diffL A B).length ≤ 8796093022202 := those6 _ _
  have hE1 : (diffL B C).length ≤ 8796093022202 := those6 _ _
  have HD1 := hide (fun ao bo ca cb ab aof bb bof w ha hb => diff_any A B ao bo ca cb ab aof bb bof w ha hb)
  have HD2 := hide (fun ao bo ca cb ab aof bb bof w ha hb => diff_any B C ao bo ca cb ab aof bb bof w ha hb)
  have HD3 := hide (fun ao bo ca cb ab aof bb bof w ha hb => diff_any A A ao bo ca cb ab aof bb bof w ha hb)
  rw [e4] at HD3
  generalize diffL A B = D at *
  generalize diffL B C = E at *
  have HA1 := hide (fun ao bo ca cb ab aof bb bof w ha hd => apply_any A D ao bo ca cb ab aof bb bof w ha hd)
  have HA2 := hide (fun ao bo ca cb ab aof bb bof w ha hd => apply_any B E ao bo ca cb ab aof bb bof w ha hd)
  have HA3 := hide (fun ao bo ca cb ab aof bb bof w ha hd => apply_any A [] ao bo ca cb ab aof bb bof w ha hd)
  rw [e1] at HA1
  rw [e2] at HA2
  rw [e3] at HA3
  have HAL := hide (fun ao c b off w h => all_any A ao c b off w h)
  have HST := hide (fun w => stakes_any w)
  have BW := hide (Below.refl w.heap.size w)
  clear e1 e2 e3 e4 hx hy hz ax ay az cx cy cz
  go_enter Try.func3, Try.ntmps3
  go_upto_region 6 with (first
    | (go_at_call 11; have _m := m6; refine (HA2.out ao6 ao5 ca6 ca5 ab6 0 ab5 0 _ P6.out P5.out).mono ?_; rintro e w7 ⟨v, rfl, hp, hb⟩; have P1 := hide (P1.out.over hb); have P2 := hide (P2.out.over hb); have P3 := hide (P3.out.over hb); have P4 := hide (P4.out.over hb); have P5 := hide (P5.out.over hb); have P6 := hide (P6.out.over hb); have BW := hide (BW.out.trans (hb.mono BW.out.size)); obtain ⟨ao7, ca7, ab7, rfl, hin⟩ := pows_in hp hC1; have P7 := hide hin; clear hin hp; have m7 : True := trivial; clear m6 hb)
    | (go_at_call 11; have _m := m5; refine (HA1.out ao1 ao4 ca1 ca4 ab1 0 ab4 0 _ P1.out P4.out).mono ?_; rintro e w6 ⟨v, rfl, hp, hb⟩; have P1 := hide (P1.out.over hb); have P2 := hide (P2.out.over hb); have P3 := hide (P3.out.over hb); have P4 := hide (P4.out.over hb); have P5 := hide (P5.out.over hb); have BW := hide (BW.out.trans (hb.mono BW.out.size)); obtain ⟨ao6, ca6, ab6, rfl, hin⟩ := pows_in hp hB1; have P6 := hide hin; clear hin hp; have m6 : True := trivial; clear m5 hb)
    | (go_at_call 10; have _m := m4; refine (HD2.out ao2 ao3 ca2 ca3 ab2 0 ab3 0 _ P2.out P3.out).mono ?_; rintro e w5 ⟨v, rfl, hp, hb⟩; have P1 := hide (P1.out.over hb); have P2 := hide (P2.out.over hb); have P3 := hide (P3.out.over hb); have P4 := hide (P4.out.over hb); have BW := hide (BW.out.trans (hb.mono BW.out.size)); obtain ⟨ao5, ca5, ab5, rfl, hin⟩ := pows_in hp hE1; have P5 := hide hin; clear hin hp; have m5 : True := trivial; clear m4 hb)
    | (go_at_call 10; have _m := m3; refine (HD1.out ao1 ao2 ca1 ca2 ab1 0 ab2 0 _ P1.out P2.out).mono ?_; rintro e w4 ⟨v, rfl, hp, hb⟩; have P1 := hide (P1.out.over hb); have P2 := hide (P2.out.over hb); have P3 := hide (P3.out.over hb); have BW := hide (BW.out.trans (hb.mono BW.out.size)); obtain ⟨ao4, ca4, ab4, rfl, hin⟩ := pows_in hp hD1; have P4 := hide hin; clear hin hp; have m4 : True := trivial; clear m3 hb)
    | (go_at_call 9; have _m := m2; refine (M3.out _ BW.out).mono ?_; rintro e w3 ⟨v, rfl, hp, hb⟩; have P1 := hide (P1.out.over hb); have P2 := hide (P2.out.over hb); have BW := hide (BW.out.trans (hb.mono BW.out.size)); obtain ⟨ao3, ca3, ab3, rfl, hin⟩ := pows_in hp hC1; have P3 := hide hin; clear hin hp; have m3 : True := trivial; clear m2 hb)
    | (go_at_call 9; have _m := m1; refine (M2.out _ BW.out).mono ?_; rintro e w2 ⟨v, rfl, hp, hb⟩; have P1 := hide (P1.out.over hb); have BW := hide (BW.out.trans (hb.mono BW.out.size)); obtain ⟨ao2, ca2, ab2, rfl, hin⟩ := pows_in hp hB1; have P2 := hide hin; clear hin hp; have m2 : True := trivial; clear m1 hb)
    | (go_at_call 9; refine (M1.out).mono ?_; rintro e w1 ⟨v, rfl, hp, hb⟩; obtain ⟨ao1, ca1, ab1, rfl, hin⟩ := pows_in hp hA1; have P1 := hide hin; clear hin hp; have BW := hide (BW.out.trans (hb.mono BW.out.size)); have m1 : True := trivial; clear hb))
  have hlA := P1.out.len
  go_loopw [13, 35] (fun s i wl => ∃ k : Nat, k ≤ A.length ∧ i = .int .i64 (k : Int) ∧ s = .int .i64 (allN (A.take k)) ∧ Hid (Below w7.heap.size w7 wl)) (fun _ i _ => A.length - (intOf i).toNat)
  case atStart => exact ⟨0, Nat.zero_le _, rfl, rfl, Below.refl _ _⟩
  case round =>
    obtain ⟨k, hk, rfl, rfl, HR⟩ := hrel
    by_cases hlt : k < A.length
    · have hkI : (k : Int) < (A.length : Int) := by omega
      obtain ⟨c0, c1⟩ := (P1.out.over HR.out).cells k hlt
      rw [Nat.zero_add] at c0 c1
      have HS := hide (all_take A k hlt)
      have eao := P1.out.adr (by omega)
      subst eao
      generalize A.getD k (0, 0) = xx at *
      obtain ⟨v, n⟩ := xx
      dsimp only at c0 c1 HS
      generalize allN (A.take k) = s0 at *
      obtain ⟨s1, hs1⟩ : ∃ s1, allN (A.take (k + 1)) = s1 := ⟨_, rfl⟩
      rw [hs1] at HS
      have HS1 := hide hs1
      have hw : wrap64 (s0 + n) = s1 := by rw [HS.out]; unfold wrap64; rfl
      clear HS hs1
      go_wp2
      exact ⟨⟨k + 1, by omega, by go_num, by rw [HS1.out, hw], HR.out.alloc HR.out.size _⟩, by simp [intOf]; omega⟩
    · obtain rfl : k = A.length := by omega
      have hT : A.take A.length = A := List.take_length
      rw [hT]
      generalize allN A = sA at *
      have hb := HR.out
      have P1 := hide (P1.out.over hb)
      have P2 := hide (P2.out.over hb)
      have P3 := hide (P3.out.over hb)
      have P4 := hide (P4.out.over hb)
      have P5 := hide (P5.out.over hb)
      have P6 := hide (P6.out.over hb)
      have P7 := hide (P7.out.over hb)
      have BW := hide (BW.out.trans (hb.mono BW.out.size))
      clear hb hT HR hk hlt
      go_wp2_with (first
        | (go_at_call 14; refine (HST.out _).mono ?_; rintro e w15 ⟨rfl, hb⟩; have BW := hide (BW.out.trans (hb.mono BW.out.size)); clear hb)
        | (go_at_call 13; refine (HAL.out ao1 ca1 ab1 0 _ P1.out).mono ?_; rintro e w14 ⟨rfl, hb⟩; have BW := hide (BW.out.trans (hb.mono BW.out.size)); clear hb)
        | (go_at_call 12; have _m := n5; refine (same_any A ao9 ao1 ca9 ca1 ab9 0 ab1 0 _ P9.out P1.out).mono ?_; rintro e w13 ⟨rfl, hb⟩; have P1 := hide (P1.out.over hb); have BW := hide (BW.out.trans (hb.mono BW.out.size)); have n6 : True := trivial; clear n5 hb)
        | (go_at_call 11; have _m := n4; refine (HA3.out ao1 none ca1 0 ab1 0 0 0 _ P1.out (pin_nil _)).mono ?_; rintro e w12 ⟨v, rfl, hp, hb⟩; have P1 := hide (P1.out.over hb); have BW := hide (BW.out.trans (hb.mono BW.out.size)); obtain ⟨ao9, ca9, ab9, rfl, hin⟩ := pows_in hp hA1; have P9 := hide hin; clear hin hp; have n5 : True := trivial; clear n4 hb)
        | (go_at_call 10; have _m := n3; refine (HD3.out ao1 ao1 ca1 ca1 ab1 0 ab1 0 _ P1.out P1.out).mono ?_; rintro e w11 ⟨v, rfl, hp, hb⟩; have P1 := hide (P1.out.over hb); have BW := hide (BW.out.trans (hb.mono BW.out.size)); obtain ⟨aoN, caN, abN, rfl, -⟩ := pows_in hp (by simp); have n4 : True := trivial; clear n3 hb hp)
        | (go_at_call 12; have _m := n2; refine (same_any C ao7 ao3 ca7 ca3 ab7 0 ab3 0 _ P7.out P3.out).mono ?_; rintro e w10 ⟨rfl, hb⟩; have P1 := hide (P1.out.over hb); have BW := hide (BW.out.trans (hb.mono BW.out.size)); have n3 : True := trivial; clear n2 hb)
        | (go_at_call 12; have _m := n1; refine (same_any B ao8 ao2 ca8 ca2 ab8 0 ab2 0 _ P8.out P2.out).mono ?_; rintro e w9 ⟨rfl, hb⟩; have P1 := hide (P1.out.over hb); have P2 := hide (P2.out.over hb); have P3 := hide (P3.out.over hb); have P7 := hide (P7.out.over hb); have BW := hide (BW.out.trans (hb.mono BW.out.size)); have n2 : True := trivial; clear n1 hb)
        | (go_at_call 11; refine (HA1.out ao1 ao4 ca1 ca4 ab1 0 ab4 0 _ P1.out P4.out).mono ?_; rintro e w8 ⟨v, rfl, hp, hb⟩; have P1 := hide (P1.out.over hb); have P2 := hide (P2.out.over hb); have P3 := hide (P3.out.over hb); have P7 := hide (P7.out.over hb); have BW := hide (BW.out.trans (hb.mono BW.out.size)); obtain ⟨ao8, ca8, ab8, rfl, hin⟩ := pows_in hp hB1; have P8 := hide hin; clear hin hp; have n1 : True := trivial; clear hb))
      go_ret
      exact ⟨rfl, BW.out⟩
end Go.Proofs.Ytfajfebpchfkoae.Df
