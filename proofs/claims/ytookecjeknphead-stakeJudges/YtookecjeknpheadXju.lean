/- The law's own stakes. Jail, Unjail, Bury. The reference's Judge. StakeJudges: the law's walk. -/
import Derived.Test.YtookecjeknpheadXsd
import Derived.Test.YtookecjeknpheadXsa
import Derived.Test.YtookecjeknpheadXtc
import Derived.Test.YtookecjeknpheadXtd
import Derived.Test.YtookecjeknpheadXsb
import Derived.Deep.RegionHeld3
set_option maxRecDepth 100000
namespace Go.Proofs.Ytookecjeknphead
open Go.RowKit
set_option maxHeartbeats 4000000 in
theorem lstakes_any (w : World) : Calls Try.prog 14 #[] w fun e w' => e = .returned (.bool true) ∧ Below w.heap.size w w' := by
  have hD := fun w => deleg_any newS none 0 0 0 0 1 250 w (wsNil w)
  rw [one_err, show (delegS newS 0 1 250).1 = oneS from rfl, show newS.W.length = 0 from rfl] at hD
  have hS := fun w => sset_any oneS (.slice none 0 0) w (fun k hk => (vOk_amounts (good_vals one_good k hk).1).1)
  rw [one_set] at hS
  have hG := fun w => sgood_any oneS none 0 0 0 w (by rw [one_W]; exact wsNil w)
  rw [one_good, show oneS.W.length = 0 by rw [one_W]; rfl] at hG
  go_enter Try.func14, Try.ntmps14
  go_upto_region 1 with fail
  apply wp_region_lit
  go_step
  go_step
  refine (snew_any _).mono ?_
  rintro e w1 ⟨rfl, h1⟩
  dsimp only
  go_step
  go_step
  go_step
  refine (hD _).mono ?_
  rintro e w2 ⟨rfl, h2⟩
  dsimp only
  have HB2 := hide (h1.trans (h2.mono h1.size))
  have hz2 := HB2.out.size
  clear h1 h2 hD
  go_step
  go_step
  go_step
  go_step
  go_step
  go_step
  go_step
  go_step
  go_step
  go_step
  go_step
  go_step
  go_step
  have R2 := SAt.new w2 Z63
  have HB3 := hide (HB2.out.alloc hz2 (.cells Z63 32))
  refine wpList_store_mid rfl 32 _ _ rfl _ 0 (stC oneS (.slice none 0 0)) rfl rfl (R2.there 0 _ (by rw [Z63_size, stC_size]; omega)) (by rw [infoS]; rfl) (stC_one _ _ _ _) ?_
  have S3 := R2.setAll (ds := stC oneS (.slice none 0 0)) (by rw [stC_size]; rfl)
  have HB4 := hide (below_sets hz2 (stC oneS (.slice none 0 0)).toList 0 _ HB3.out)
  change wpList Try.prog _ _ _ _ ((w2.alloc (.cells Z63 32)).setCells w2.heap.size 0 (stC oneS (.slice none 0 0)).toList)
  generalize (w2.alloc (.cells Z63 32)).setCells w2.heap.size 0 (stC oneS (.slice none 0 0)).toList = w3 at *
  clear R2 HB3 HB2
  go_upto_region 2 with fail
  apply wp_region_lit
  refine wpList_load_mid rfl 32 _ rfl _ 0 rfl _ _ S3.range Try.underlying32 rfl (by rw [infoS]; rfl) ?_
  go_upto_region 3 with (go_at_call 21; refine (hS _).mono ?_; rintro e w4 ⟨v, rfl, hv, h4⟩)
  have S4 := S3.later h4 S3.lt
  have HB5 := hide (HB4.out.trans (h4.mono HB4.out.size))
  have hz3 := HB5.out.size
  have hb3 := S4.lt
  clear h4 S3 HB4 hS
  rcases hv with ⟨_, h⟩ | ⟨g, cap, rfl, hg, hrow, _⟩
  · exact absurd h (by simp)
  apply wp_region_lit
  iterate 9 go_step
  go_guarded
  refine wp_load_mid 32 _ rfl _ 0 rfl _ _ S4.range Try.underlying32 rfl (by rw [infoS]; rfl) ?_
  have hln : ([(1, 2)] : List Pw).length = 1 := rfl
  rw [hln]
  clear S4 hln
  go_wp2_with (go_at_call 20; refine (hG _).mono ?_; rintro e w5 ⟨rfl, h5⟩; obtain ⟨c0, c1⟩ := (hrow.later h5).cell (i := 0) (by simp); have HB6 := hide (HB5.out.trans (h5.mono hz3)); clear h5)
  go_ret
  exact ⟨rfl, HB6.out⟩
end Go.Proofs.Ytookecjeknphead
namespace Go.Proofs.Ytookecjeknphead
open Go.RowKit
/-- a validator is jailed or not, dead or not -/
def setJ (s : St) (v : Nat) (j d : Bool) : St := { s with V := setV s.V v { s.V v with jail := j, dead := d } }
theorem set_J (s : St) (sl : Value) (v : Nat) (hv : v < 6) (x : Bool) : (stC s sl).setIfInBounds (7 + v * 5 + 3) (.bool x) = stC (setJ s v x (s.V v).dead) sl := set_jail s sl v hv x
theorem set_D (s : St) (sl : Value) (v : Nat) (hv : v < 6) (j d x : Bool) : (stC (setJ s v j d) sl).setIfInBounds (7 + v * 5 + 4) (.bool x) = stC (setJ s v j x) sl := by
  rw [set_dead _ sl v hv x]
  unfold setJ
  simp only [setV_setV, setV_at]
def jailS (s : St) (v : Int) : St × Int :=
  if refE s v = 0 then if (s.V v.toNat).jail = true then (s, 14) else (setJ s v.toNat true (s.V v.toNat).dead, 0) else (s, refE s v)
def unjailS (s : St) (v : Int) : St × Int :=
  if refE s v = 0 then if (s.V v.toNat).dead = true then (s, 15) else if (s.V v.toNat).jail = true then (setJ s v.toNat false false, 0) else (s, 4) else (s, refE s v)
def buryS (s : St) (v : Int) : St × Int :=
  if refE s v = 0 then if (s.V v.toNat).dead = true then (s, 15) else (setJ s v.toNat true true, 0) else (s, refE s v)
theorem refE_zero {s : St} {v : Int} (h : refE s v = 0) : goodS s = true ∧ (0 ≤ v ∧ v < 6) := by
  unfold refE at h
  repeat' split at h
  all_goals first | (simp_all [isV_iff]; done) | omega
theorem refE_good {s : St} {v : Nat} (hg : goodS s = true) (hv : v < 6) : refE s v = 0 := by
  unfold refE
  rw [hg, isV_iff.2 (show (0 : Int) ≤ v ∧ (v : Int) < 6 by omega)]
  rfl
set_option maxHeartbeats 4000000 in
theorem sjail_no (s : St) (ao : Option Addr) (sb so c : Nat) (v : Int) (w : World) (hW : WsAt w ao sb so s.W) (r : St × Int) (h0 : refE s v ≠ 0) (hr : r = (s, refE s v)) :
    Calls Try.prog 8 #[.agg (stC s (.slice ao s.W.length c)), .int .i64 v] w fun e w' => e = .returned (.tuple #[.agg (stC r.1 (.slice ao s.W.length c)), .int .i64 r.2]) ∧ Below w.heap.size w w' := by
  have SS := (SAt.new w (stC s (.slice ao s.W.length c))).alloc (.cells Z63 32)
  have RR := SAt.new2 w (.cells (stC s (.slice ao s.W.length c)) 32) Z63
  have HB : Hid (Below w.heap.size w ((w.alloc (.cells (stC s (.slice ao s.W.length c)) 32)).alloc (.cells Z63 32))) := ((Below.refl _ w).alloc (Nat.le_refl _) _).alloc (by simp) _
  have HW := hide hW
  have HR := hide hr
  clear hW hr
  go_enter Try.func8, Try.ntmps8
  go_upto_region 1 with fail
  change Code.wp Try.prog _ _ _ ((w.alloc (.cells (stC s (.slice ao s.W.length c)) 32)).alloc (.cells Z63 32))
  generalize (w.alloc (.cells (stC s (.slice ao s.W.length c)) 32)).alloc (.cells Z63 32) = w0 at *
  go_upto_region 2 with (go_at_call 22; refine (refused_any s ao sb so c w.heap.size v _ SS (by exact HW.out.over HB.out)).mono ?_; rintro e w1 ⟨rfl, h1⟩)
  have HB1 := hide (HB.out.trans (h1.mono HB.out.size))
  have S1 := SS.later h1 SS.lt
  have R1 := RR.later h1 RR.lt
  clear SS RR h1 HB
  go_upto_region 3 with fail
  apply wp_region_lit
  refine wpList_load_mid rfl 32 _ rfl _ 0 rfl _ _ S1.range Try.underlying32 rfl (by rw [infoS]; rfl) ?_
  refine wpList_mv rfl _ rfl ?_
  refine wpList_store_mid rfl 32 _ _ rfl _ 0 (stC s (.slice ao s.W.length c)) rfl rfl (R1.there 0 _ (by rw [Z63_size, stC_size]; omega)) (by rw [infoS]; rfl) (stC_one _ _ _ _) ?_
  go_wp2
  exact stake_end2 Try.results8 R1 rfl HB1.out (by omega) s _ _ r HR.out _ rfl rfl rfl
set_option maxHeartbeats 4000000 in
theorem sjail_yes (s : St) (ao : Option Addr) (sb so c v : Nat) (w : World) (hW : WsAt w ao sb so s.W) (r : St × Int) (hg : goodS s = true) (hv : v < 6) (h1 : (s.V v).jail = true → r = (s, 14)) (h2 : (s.V v).jail = false → r = ((setJ s v true (s.V v).dead), 0)) :
    Calls Try.prog 8 #[.agg (stC s (.slice ao s.W.length c)), .int .i64 (v : Int)] w fun e w' => e = .returned (.tuple #[.agg (stC r.1 (.slice ao s.W.length c)), .int .i64 r.2]) ∧ Below w.heap.size w w' := by
  have SS := (SAt.new w (stC s (.slice ao s.W.length c))).alloc (.cells Z63 32)
  have RR := SAt.new2 w (.cells (stC s (.slice ao s.W.length c)) 32) Z63
  have HB : Hid (Below w.heap.size w ((w.alloc (.cells (stC s (.slice ao s.W.length c)) 32)).alloc (.cells Z63 32))) := ((Below.refl _ w).alloc (Nat.le_refl _) _).alloc (by simp) _
  have HW := hide hW
  have Hh1 := hide h1
  have Hh2 := hide h2
  have hRf := refE_good hg hv
  have hv' : (v : Int) < 6 := by omega
  have hv0 : (0 : Int) ≤ (v : Int) := by omega
  clear hW h1 h2
  go_enter Try.func8, Try.ntmps8
  go_upto_region 1 with fail
  change Code.wp Try.prog _ _ _ ((w.alloc (.cells (stC s (.slice ao s.W.length c)) 32)).alloc (.cells Z63 32))
  generalize (w.alloc (.cells (stC s (.slice ao s.W.length c)) 32)).alloc (.cells Z63 32) = w0 at *
  go_upto_region 2 with (go_at_call 22; refine (refused_any s ao sb so c w.heap.size v _ SS (by exact HW.out.over HB.out)).mono ?_; rintro e w1 ⟨rfl, h1⟩)
  have HB1 := hide (HB.out.trans (h1.mono HB.out.size))
  have S1 := SS.later h1 SS.lt
  have R1 := RR.later h1 RR.lt
  clear SS RR h1 HB
  obtain ⟨c0, c1, c2, c3, c4⟩ := S1.val v hv
  have hz1 : w.heap.size + 1 < w1.heap.size := R1.lt
  clear c0 c1 c2
  go_upto_region 7 with (first | ((fail_if_success (go_not_at_region 6)); apply wp_region_lit; refine wpList_load_mid rfl 32 _ rfl _ 0 rfl _ _ S1.range Try.underlying32 rfl (by rw [infoS]; rfl) ?_; refine wpList_store_mid rfl 32 _ _ rfl _ 0 (stC s (.slice ao s.W.length c)) rfl rfl (R1.there 0 _ (by rw [Z63_size, stC_size]; omega)) (by rw [infoS]; rfl) (stC_one _ _ _ _) ?_))
  · exact stake_end2 Try.results8 R1 rfl HB1.out (by omega) s _ _ r (Hh1.out ‹(s.V v).jail = true›) _ rfl rfl rfl
  · have HR := hide (Hh2.out ‹(s.V v).jail = false›)
    have f0 := S1.free (7 + v * 5 + 3)
    have S2 := S1.set (7 + v * 5 + 3) (.bool true)
    rw [set_J _ _ v hv] at S2
    have RZ : SAt (w1.setCell ⟨w.heap.size, 7 + v * 5 + 3, none⟩ (.bool true)) (w.heap.size + 1) Z63 := (R1.other (by omega) (.bool true) : SAt _ _ _)
    have HZ := hide (HB1.out.setCell (p := ⟨w.heap.size, 7 + v * 5 + 3, none⟩) (Nat.le_refl _) (.bool true))
    clear S1 R1 HB1
    go_upto_region 8 with fail
    generalize (w1.setCell ⟨w.heap.size, 7 + v * 5 + 3, none⟩ (.bool true)) = w9 at *
    apply wp_region_lit
    refine wpList_load_mid rfl 32 _ rfl _ 0 rfl _ _ S2.range Try.underlying32 rfl (by rw [infoS]; rfl) ?_
    refine wpList_store_mid rfl 32 _ _ rfl _ 0 (stC (setJ s v true (s.V v).dead) (.slice ao s.W.length c)) rfl rfl (RZ.there 0 _ (by rw [Z63_size, stC_size]; omega)) (by rw [infoS]; rfl) (stC_one _ _ _ _) ?_
    go_wp2
    exact stake_end2 Try.results8 RZ rfl HZ.out (by omega) (setJ s v true (s.V v).dead) (.slice ao s.W.length c) 0 r HR.out _ rfl rfl rfl
theorem sjail_any (s : St) (ao : Option Addr) (sb so c : Nat) (v : Int) (w : World) (hW : WsAt w ao sb so s.W) :
    Calls Try.prog 8 #[.agg (stC s (.slice ao s.W.length c)), .int .i64 v] w fun e w' => e = .returned (.tuple #[.agg (stC (jailS s v).1 (.slice ao s.W.length c)), .int .i64 (jailS s v).2]) ∧ Below w.heap.size w w' := by
  by_cases h : refE s v = 0
  · obtain ⟨hg, v0, v1⟩ := refE_zero h
    obtain ⟨v, rfl⟩ := Int.eq_ofNat_of_zero_le v0
    exact sjail_yes s ao sb so c v w hW _ hg (by omega) (fun h1 => by rw [jailS, if_pos h]; exact if_pos h1) (fun h1 => by rw [jailS, if_pos h]; exact if_neg (by simp [h1]))
  · exact sjail_no s ao sb so c v w hW _ h (by unfold jailS; exact if_neg h)
set_option maxHeartbeats 4000000 in
theorem sunjail_no (s : St) (ao : Option Addr) (sb so c : Nat) (v : Int) (w : World) (hW : WsAt w ao sb so s.W) (r : St × Int) (h0 : refE s v ≠ 0) (hr : r = (s, refE s v)) :
    Calls Try.prog 12 #[.agg (stC s (.slice ao s.W.length c)), .int .i64 v] w fun e w' => e = .returned (.tuple #[.agg (stC r.1 (.slice ao s.W.length c)), .int .i64 r.2]) ∧ Below w.heap.size w w' := by
  have SS := (SAt.new w (stC s (.slice ao s.W.length c))).alloc (.cells Z63 32)
  have RR := SAt.new2 w (.cells (stC s (.slice ao s.W.length c)) 32) Z63
  have HB : Hid (Below w.heap.size w ((w.alloc (.cells (stC s (.slice ao s.W.length c)) 32)).alloc (.cells Z63 32))) := ((Below.refl _ w).alloc (Nat.le_refl _) _).alloc (by simp) _
  have HW := hide hW
  have HR := hide hr
  clear hW hr
  go_enter Try.func12, Try.ntmps12
  go_upto_region 1 with fail
  change Code.wp Try.prog _ _ _ ((w.alloc (.cells (stC s (.slice ao s.W.length c)) 32)).alloc (.cells Z63 32))
  generalize (w.alloc (.cells (stC s (.slice ao s.W.length c)) 32)).alloc (.cells Z63 32) = w0 at *
  go_upto_region 2 with (go_at_call 22; refine (refused_any s ao sb so c w.heap.size v _ SS (by exact HW.out.over HB.out)).mono ?_; rintro e w1 ⟨rfl, h1⟩)
  have HB1 := hide (HB.out.trans (h1.mono HB.out.size))
  have S1 := SS.later h1 SS.lt
  have R1 := RR.later h1 RR.lt
  clear SS RR h1 HB
  go_upto_region 3 with fail
  apply wp_region_lit
  refine wpList_load_mid rfl 32 _ rfl _ 0 rfl _ _ S1.range Try.underlying32 rfl (by rw [infoS]; rfl) ?_
  refine wpList_mv rfl _ rfl ?_
  refine wpList_store_mid rfl 32 _ _ rfl _ 0 (stC s (.slice ao s.W.length c)) rfl rfl (R1.there 0 _ (by rw [Z63_size, stC_size]; omega)) (by rw [infoS]; rfl) (stC_one _ _ _ _) ?_
  go_wp2
  exact stake_end2 Try.results12 R1 rfl HB1.out (by omega) s _ _ r HR.out _ rfl rfl rfl
set_option maxHeartbeats 4000000 in
theorem sunjail_yes (s : St) (ao : Option Addr) (sb so c v : Nat) (w : World) (hW : WsAt w ao sb so s.W) (r : St × Int) (hg : goodS s = true) (hv : v < 6) (h1 : (s.V v).dead = true → r = (s, 15)) (h2 : (s.V v).dead = false → (s.V v).jail = false → r = (s, 4)) (h3 : (s.V v).dead = false → (s.V v).jail = true → r = ((setJ s v false false), 0)) :
    Calls Try.prog 12 #[.agg (stC s (.slice ao s.W.length c)), .int .i64 (v : Int)] w fun e w' => e = .returned (.tuple #[.agg (stC r.1 (.slice ao s.W.length c)), .int .i64 r.2]) ∧ Below w.heap.size w w' := by
  have SS := (SAt.new w (stC s (.slice ao s.W.length c))).alloc (.cells Z63 32)
  have RR := SAt.new2 w (.cells (stC s (.slice ao s.W.length c)) 32) Z63
  have HB : Hid (Below w.heap.size w ((w.alloc (.cells (stC s (.slice ao s.W.length c)) 32)).alloc (.cells Z63 32))) := ((Below.refl _ w).alloc (Nat.le_refl _) _).alloc (by simp) _
  have HW := hide hW
  have Hh1 := hide h1
  have Hh2 := hide h2
  have Hh3 := hide h3
  have hRf := refE_good hg hv
  have hv' : (v : Int) < 6 := by omega
  have hv0 : (0 : Int) ≤ (v : Int) := by omega
  clear hW h1 h2 h3
  go_enter Try.func12, Try.ntmps12
  go_upto_region 1 with fail
  change Code.wp Try.prog _ _ _ ((w.alloc (.cells (stC s (.slice ao s.W.length c)) 32)).alloc (.cells Z63 32))
  generalize (w.alloc (.cells (stC s (.slice ao s.W.length c)) 32)).alloc (.cells Z63 32) = w0 at *
  go_upto_region 2 with (go_at_call 22; refine (refused_any s ao sb so c w.heap.size v _ SS (by exact HW.out.over HB.out)).mono ?_; rintro e w1 ⟨rfl, h1⟩)
  have HB1 := hide (HB.out.trans (h1.mono HB.out.size))
  have S1 := SS.later h1 SS.lt
  have R1 := RR.later h1 RR.lt
  clear SS RR h1 HB
  obtain ⟨c0, c1, c2, c3, c4⟩ := S1.val v hv
  have hz1 : w.heap.size + 1 < w1.heap.size := R1.lt
  clear c0 c1 c2
  go_upto_region 9 with (first | ((fail_if_success (go_not_at_region 6)); apply wp_region_lit; refine wpList_load_mid rfl 32 _ rfl _ 0 rfl _ _ S1.range Try.underlying32 rfl (by rw [infoS]; rfl) ?_; refine wpList_store_mid rfl 32 _ _ rfl _ 0 (stC s (.slice ao s.W.length c)) rfl rfl (R1.there 0 _ (by rw [Z63_size, stC_size]; omega)) (by rw [infoS]; rfl) (stC_one _ _ _ _) ?_) | ((fail_if_success (go_not_at_region 8)); apply wp_region_lit; refine wpList_load_mid rfl 32 _ rfl _ 0 rfl _ _ S1.range Try.underlying32 rfl (by rw [infoS]; rfl) ?_; refine wpList_store_mid rfl 32 _ _ rfl _ 0 (stC s (.slice ao s.W.length c)) rfl rfl (R1.there 0 _ (by rw [Z63_size, stC_size]; omega)) (by rw [infoS]; rfl) (stC_one _ _ _ _) ?_))
  · exact stake_end2 Try.results12 R1 rfl HB1.out (by omega) s _ _ r (Hh1.out ‹(s.V v).dead = true›) _ rfl rfl rfl
  · exact stake_end2 Try.results12 R1 rfl HB1.out (by omega) s _ _ r (Hh2.out ‹(s.V v).dead = false› (by simpa using ‹(!(s.V v).jail) = true›)) _ rfl rfl rfl
  · have HR := hide (Hh3.out ‹(s.V v).dead = false› (by simpa using ‹(!(s.V v).jail) = false›))
    have f0 := S1.free (7 + v * 5 + 3)
    have S2 := S1.set (7 + v * 5 + 3) (.bool false)
    rw [set_J _ _ v hv, ‹(s.V v).dead = false›] at S2
    have RZ : SAt (w1.setCell ⟨w.heap.size, 7 + v * 5 + 3, none⟩ (.bool false)) (w.heap.size + 1) Z63 := (R1.other (by omega) (.bool false) : SAt _ _ _)
    have HZ := hide (HB1.out.setCell (p := ⟨w.heap.size, 7 + v * 5 + 3, none⟩) (Nat.le_refl _) (.bool false))
    clear S1 R1 HB1
    go_upto_region 10 with fail
    generalize (w1.setCell ⟨w.heap.size, 7 + v * 5 + 3, none⟩ (.bool false)) = w9 at *
    apply wp_region_lit
    refine wpList_load_mid rfl 32 _ rfl _ 0 rfl _ _ S2.range Try.underlying32 rfl (by rw [infoS]; rfl) ?_
    refine wpList_store_mid rfl 32 _ _ rfl _ 0 (stC (setJ s v false false) (.slice ao s.W.length c)) rfl rfl (RZ.there 0 _ (by rw [Z63_size, stC_size]; omega)) (by rw [infoS]; rfl) (stC_one _ _ _ _) ?_
    go_wp2
    exact stake_end2 Try.results12 RZ rfl HZ.out (by omega) (setJ s v false false) (.slice ao s.W.length c) 0 r HR.out _ rfl rfl rfl
theorem sunjail_any (s : St) (ao : Option Addr) (sb so c : Nat) (v : Int) (w : World) (hW : WsAt w ao sb so s.W) :
    Calls Try.prog 12 #[.agg (stC s (.slice ao s.W.length c)), .int .i64 v] w fun e w' => e = .returned (.tuple #[.agg (stC (unjailS s v).1 (.slice ao s.W.length c)), .int .i64 (unjailS s v).2]) ∧ Below w.heap.size w w' := by
  by_cases h : refE s v = 0
  · obtain ⟨hg, v0, v1⟩ := refE_zero h
    obtain ⟨v, rfl⟩ := Int.eq_ofNat_of_zero_le v0
    exact sunjail_yes s ao sb so c v w hW _ hg (by omega) (fun h1 => by rw [unjailS, if_pos h]; exact if_pos h1) (fun h1 h2 => by rw [unjailS, if_pos h, if_neg (by simp [h1])]; exact if_neg (by simp [h2])) (fun h1 h2 => by rw [unjailS, if_pos h, if_neg (by simp [h1])]; exact if_pos h2)
  · exact sunjail_no s ao sb so c v w hW _ h (by unfold unjailS; exact if_neg h)
set_option maxHeartbeats 4000000 in
theorem sbury_no (s : St) (ao : Option Addr) (sb so c : Nat) (v : Int) (w : World) (hW : WsAt w ao sb so s.W) (r : St × Int) (h0 : refE s v ≠ 0) (hr : r = (s, refE s v)) :
    Calls Try.prog 13 #[.agg (stC s (.slice ao s.W.length c)), .int .i64 v] w fun e w' => e = .returned (.tuple #[.agg (stC r.1 (.slice ao s.W.length c)), .int .i64 r.2]) ∧ Below w.heap.size w w' := by
  have SS := (SAt.new w (stC s (.slice ao s.W.length c))).alloc (.cells Z63 32)
  have RR := SAt.new2 w (.cells (stC s (.slice ao s.W.length c)) 32) Z63
  have HB : Hid (Below w.heap.size w ((w.alloc (.cells (stC s (.slice ao s.W.length c)) 32)).alloc (.cells Z63 32))) := ((Below.refl _ w).alloc (Nat.le_refl _) _).alloc (by simp) _
  have HW := hide hW
  have HR := hide hr
  clear hW hr
  go_enter Try.func13, Try.ntmps13
  go_upto_region 1 with fail
  change Code.wp Try.prog _ _ _ ((w.alloc (.cells (stC s (.slice ao s.W.length c)) 32)).alloc (.cells Z63 32))
  generalize (w.alloc (.cells (stC s (.slice ao s.W.length c)) 32)).alloc (.cells Z63 32) = w0 at *
  go_upto_region 2 with (go_at_call 22; refine (refused_any s ao sb so c w.heap.size v _ SS (by exact HW.out.over HB.out)).mono ?_; rintro e w1 ⟨rfl, h1⟩)
  have HB1 := hide (HB.out.trans (h1.mono HB.out.size))
  have S1 := SS.later h1 SS.lt
  have R1 := RR.later h1 RR.lt
  clear SS RR h1 HB
  go_upto_region 3 with fail
  apply wp_region_lit
  refine wpList_load_mid rfl 32 _ rfl _ 0 rfl _ _ S1.range Try.underlying32 rfl (by rw [infoS]; rfl) ?_
  refine wpList_mv rfl _ rfl ?_
  refine wpList_store_mid rfl 32 _ _ rfl _ 0 (stC s (.slice ao s.W.length c)) rfl rfl (R1.there 0 _ (by rw [Z63_size, stC_size]; omega)) (by rw [infoS]; rfl) (stC_one _ _ _ _) ?_
  go_wp2
  exact stake_end2 Try.results13 R1 rfl HB1.out (by omega) s _ _ r HR.out _ rfl rfl rfl
set_option maxHeartbeats 4000000 in
theorem sbury_yes (s : St) (ao : Option Addr) (sb so c v : Nat) (w : World) (hW : WsAt w ao sb so s.W) (r : St × Int) (hg : goodS s = true) (hv : v < 6) (h1 : (s.V v).dead = true → r = (s, 15)) (h2 : (s.V v).dead = false → r = ((setJ s v true true), 0)) :
    Calls Try.prog 13 #[.agg (stC s (.slice ao s.W.length c)), .int .i64 (v : Int)] w fun e w' => e = .returned (.tuple #[.agg (stC r.1 (.slice ao s.W.length c)), .int .i64 r.2]) ∧ Below w.heap.size w w' := by
  have SS := (SAt.new w (stC s (.slice ao s.W.length c))).alloc (.cells Z63 32)
  have RR := SAt.new2 w (.cells (stC s (.slice ao s.W.length c)) 32) Z63
  have HB : Hid (Below w.heap.size w ((w.alloc (.cells (stC s (.slice ao s.W.length c)) 32)).alloc (.cells Z63 32))) := ((Below.refl _ w).alloc (Nat.le_refl _) _).alloc (by simp) _
  have HW := hide hW
  have Hh1 := hide h1
  have Hh2 := hide h2
  have hRf := refE_good hg hv
  have hv' : (v : Int) < 6 := by omega
  have hv0 : (0 : Int) ≤ (v : Int) := by omega
  clear hW h1 h2
  go_enter Try.func13, Try.ntmps13
  go_upto_region 1 with fail
  change Code.wp Try.prog _ _ _ ((w.alloc (.cells (stC s (.slice ao s.W.length c)) 32)).alloc (.cells Z63 32))
  generalize (w.alloc (.cells (stC s (.slice ao s.W.length c)) 32)).alloc (.cells Z63 32) = w0 at *
  go_upto_region 2 with (go_at_call 22; refine (refused_any s ao sb so c w.heap.size v _ SS (by exact HW.out.over HB.out)).mono ?_; rintro e w1 ⟨rfl, h1⟩)
  have HB1 := hide (HB.out.trans (h1.mono HB.out.size))
  have S1 := SS.later h1 SS.lt
  have R1 := RR.later h1 RR.lt
  clear SS RR h1 HB
  obtain ⟨c0, c1, c2, c3, c4⟩ := S1.val v hv
  have hz1 : w.heap.size + 1 < w1.heap.size := R1.lt
  clear c0 c1 c2
  go_upto_region 7 with (first | ((fail_if_success (go_not_at_region 6)); apply wp_region_lit; refine wpList_load_mid rfl 32 _ rfl _ 0 rfl _ _ S1.range Try.underlying32 rfl (by rw [infoS]; rfl) ?_; refine wpList_store_mid rfl 32 _ _ rfl _ 0 (stC s (.slice ao s.W.length c)) rfl rfl (R1.there 0 _ (by rw [Z63_size, stC_size]; omega)) (by rw [infoS]; rfl) (stC_one _ _ _ _) ?_))
  · exact stake_end2 Try.results13 R1 rfl HB1.out (by omega) s _ _ r (Hh1.out ‹(s.V v).dead = true›) _ rfl rfl rfl
  · have HR := hide (Hh2.out ‹(s.V v).dead = false›)
    have f0 := S1.free (7 + v * 5 + 3)
    have f1 := S1.free (7 + v * 5 + 4)
    have S2 := S1.set (7 + v * 5 + 3) (.bool true)
    rw [set_J _ _ v hv] at S2
    have S3 := S2.set (7 + v * 5 + 4) (.bool true)
    rw [set_D _ _ v hv] at S3
    have RZ : SAt ((w1.setCell ⟨w.heap.size, 7 + v * 5 + 3, none⟩ (.bool true)).setCell ⟨w.heap.size, 7 + v * 5 + 4, none⟩ (.bool true)) (w.heap.size + 1) Z63 := ((R1.other (by omega) (.bool true) : SAt _ _ _).other (by omega) (.bool true) : SAt _ _ _)
    have HZ := hide ((HB1.out.setCell (p := ⟨w.heap.size, 7 + v * 5 + 3, none⟩) (Nat.le_refl _) (.bool true)).setCell (p := ⟨w.heap.size, 7 + v * 5 + 4, none⟩) (Nat.le_refl _) (.bool true))
    clear S1 R1 HB1
    go_upto_region 8 with fail
    generalize ((w1.setCell ⟨w.heap.size, 7 + v * 5 + 3, none⟩ (.bool true)).setCell ⟨w.heap.size, 7 + v * 5 + 4, none⟩ (.bool true)) = w9 at *
    apply wp_region_lit
    refine wpList_load_mid rfl 32 _ rfl _ 0 rfl _ _ S3.range Try.underlying32 rfl (by rw [infoS]; rfl) ?_
    refine wpList_store_mid rfl 32 _ _ rfl _ 0 (stC (setJ s v true true) (.slice ao s.W.length c)) rfl rfl (RZ.there 0 _ (by rw [Z63_size, stC_size]; omega)) (by rw [infoS]; rfl) (stC_one _ _ _ _) ?_
    go_wp2
    exact stake_end2 Try.results13 RZ rfl HZ.out (by omega) (setJ s v true true) (.slice ao s.W.length c) 0 r HR.out _ rfl rfl rfl
theorem sbury_any (s : St) (ao : Option Addr) (sb so c : Nat) (v : Int) (w : World) (hW : WsAt w ao sb so s.W) :
    Calls Try.prog 13 #[.agg (stC s (.slice ao s.W.length c)), .int .i64 v] w fun e w' => e = .returned (.tuple #[.agg (stC (buryS s v).1 (.slice ao s.W.length c)), .int .i64 (buryS s v).2]) ∧ Below w.heap.size w w' := by
  by_cases h : refE s v = 0
  · obtain ⟨hg, v0, v1⟩ := refE_zero h
    obtain ⟨v, rfl⟩ := Int.eq_ofNat_of_zero_le v0
    exact sbury_yes s ao sb so c v w hW _ hg (by omega) (fun h1 => by rw [buryS, if_pos h]; exact if_pos h1) (fun h1 => by rw [buryS, if_pos h]; exact if_neg (by simp [h1]))
  · exact sbury_no s ao sb so c v w hW _ h (by unfold buryS; exact if_neg h)
end Go.Proofs.Ytookecjeknphead
namespace Go.Proofs.Ytookecjeknphead
open Go.RowKit
theorem refOf_zero (s : St) (v : Int) : refOfE s 0 v = refE s v := by
  unfold refOfE
  split
  · rw [if_pos (by decide)]; omega
  · rfl
theorem vOk_dead {x : Vd} (h : vOk x = true) (hd : x.jail = false) : x.dead = false := by
  unfold vOk at h
  simp only [Bool.and_eq_true] at h
  have := h.2
  rw [hd] at this
  simpa using this
/-- what a function that may change a stake answers, and where its list lies -/
def AnswersX (B sb : Nat) (w : World) (r : St × Int) (e : Ending) (w' : World) : Prop := ∃ A ab ao C, e = .returned (.tuple #[.agg (stC r.1 (.slice A r.1.W.length C)), .int .i64 r.2]) ∧ WsAt w' A ab ao r.1.W ∧ (0 < r.1.W.length → ab < w'.heap.size ∧ (ab = sb ∨ B ≤ ab)) ∧ Below B w w'
theorem stake_endy {f : Func} {p q : Tmp} (hres : f.results = #[.cell p 32, .tmp q]) {B g sb : Nat} {w wq : World} {zs : Array Value} (R : SAt wq g zs) (hz : zs.size = 63) (H : Below B w wq) (hB : B ≤ g) (s' : St) (A : Option Addr) (ab ao C : Nat) (er : Int) (r : St × Int) (hr : r = (s', er)) (hW : WsAt wq A ab ao s'.W) (hg : 0 < s'.W.length → ab ≠ g) (hq : 0 < s'.W.length → ab = sb ∨ B ≤ ab) (act : Act)
    (h8 : act.tmps.getD p undef = .pointer (some ⟨g, 0, none⟩)) (h9 : act.tmps.getD q undef = .int .i64 er) (hd : act.defers = []) :
    bodyPost Try.prog f (fun e w' => AnswersX B sb w r e w') Exit.ret act (wq.setCells g 0 (stC s' (.slice A s'.W.length C)).toList) := by
  subst hr
  have R3 := R.setAll (ds := stC s' (.slice A s'.W.length C)) (by rw [hz]; rfl)
  have hW' := hW.sets hg (stC s' (.slice A s'.W.length C)).toList 0
  exact bodyPost_ret (v := .tuple #[.agg (stC s' (.slice A s'.W.length C)), .int .i64 er]) (results_stake2 hres _ _ g _ _ h8 h9 R3 rfl) hd ⟨A, ab, ao, C, rfl, hW', fun h => ⟨hW'.lt h, hq h⟩, below_sets hB _ _ _ H⟩
set_option maxHeartbeats 4000000 in
theorem rjudge_no (s : St) (ao : Option Addr) (sb so c : Nat) (v k : Int) (w : World) (hW : WsAt w ao sb so s.W) (r : St × Int) (h0 : refE s v ≠ 0) (hr : r = (s, refE s v)) :
    Calls Try.prog 10 #[.agg (stC s (.slice ao s.W.length c)), .int .i64 v, .int .i64 k] w fun e w' => AnswersX w.heap.size sb w r e w' := by
  have SS := (SAt.new w (stC s (.slice ao s.W.length c))).alloc (.cells Z63 32)
  have RR := SAt.new2 w (.cells (stC s (.slice ao s.W.length c)) 32) Z63
  have HB : Hid (Below w.heap.size w ((w.alloc (.cells (stC s (.slice ao s.W.length c)) 32)).alloc (.cells Z63 32))) := ((Below.refl _ w).alloc (Nat.le_refl _) _).alloc (by simp) _
  have HW := hide hW
  have HR := hide hr
  have hsm := fun w h => some_any s ao sb so c 0 v w h
  rw [refOf_zero] at hsm
  clear hW hr
  go_enter Try.func10, Try.ntmps10
  go_upto_region 1 with fail
  change Code.wp Try.prog _ _ _ ((w.alloc (.cells (stC s (.slice ao s.W.length c)) 32)).alloc (.cells Z63 32))
  generalize (w.alloc (.cells (stC s (.slice ao s.W.length c)) 32)).alloc (.cells Z63 32) = w0 at *
  apply wp_region_lit
  refine wpList_load_mid rfl 32 _ rfl _ 0 rfl _ _ SS.range Try.underlying32 rfl (by rw [infoS]; rfl) ?_
  go_upto_region 3 with (go_at_call 23; refine (hsm _ (by exact HW.out.over HB.out)).mono ?_; rintro e w1 ⟨rfl, h1⟩)
  have HB1 := hide (HB.out.trans (h1.mono HB.out.size))
  have S1 := SS.later h1 SS.lt
  have R1 := RR.later h1 RR.lt
  apply wp_region_lit
  refine wpList_load_mid rfl 32 _ rfl _ 0 rfl _ _ S1.range Try.underlying32 rfl (by rw [infoS]; rfl) ?_
  refine wpList_mv rfl _ rfl ?_
  refine wpList_store_mid rfl 32 _ _ rfl _ 0 (stC s (.slice ao s.W.length c)) rfl rfl (R1.there 0 _ (by rw [Z63_size, stC_size]; omega)) (by rw [infoS]; rfl) (stC_one _ _ _ _) ?_
  go_wp2
  exact stake_endy Try.results10 R1 rfl HB1.out (by omega) s ao sb so c _ r HR.out (HW.out.over HB1.out) (fun h => by have := HW.out.lt h; omega) (fun _ => .inl rfl) _ rfl rfl rfl
set_option maxHeartbeats 4000000 in
theorem rjudge_yes0 (s : St) (ao : Option Addr) (sb so c v : Nat) (w : World) (hW : WsAt w ao sb so s.W) (r : St × Int) (hg : goodS s = true) (hv : v < 6) (h1 : (s.V v).jail = true → r = (s, 14)) (h2 : (s.V v).jail = false → r = (setJ s v true false, 0)) :
    Calls Try.prog 10 #[.agg (stC s (.slice ao s.W.length c)), .int .i64 (v : Int), .int .i64 0] w fun e w' => AnswersX w.heap.size sb w r e w' := by
  have SS := (SAt.new w (stC s (.slice ao s.W.length c))).alloc (.cells Z63 32)
  have RR := SAt.new2 w (.cells (stC s (.slice ao s.W.length c)) 32) Z63
  have HB : Hid (Below w.heap.size w ((w.alloc (.cells (stC s (.slice ao s.W.length c)) 32)).alloc (.cells Z63 32))) := ((Below.refl _ w).alloc (Nat.le_refl _) _).alloc (by simp) _
  have HW := hide hW
  have H1 := hide h1
  have H2 := hide h2
  have hRf := refE_good hg hv
  have hv' : (v : Int) < 6 := by omega
  have hv0 : (0 : Int) ≤ (v : Int) := by omega
  have hsm := fun w h => some_any s ao sb so c 0 v w h
  rw [refOf_zero] at hsm
  clear hW h1 h2
  go_enter Try.func10, Try.ntmps10
  go_upto_region 1 with fail
  change Code.wp Try.prog _ _ _ ((w.alloc (.cells (stC s (.slice ao s.W.length c)) 32)).alloc (.cells Z63 32))
  generalize (w.alloc (.cells (stC s (.slice ao s.W.length c)) 32)).alloc (.cells Z63 32) = w0 at *
  apply wp_region_lit
  refine wpList_load_mid rfl 32 _ rfl _ 0 rfl _ _ SS.range Try.underlying32 rfl (by rw [infoS]; rfl) ?_
  go_upto_region 4 with (go_at_call 23; refine (hsm _ (by exact HW.out.over HB.out)).mono ?_; rintro e w1 ⟨rfl, h1⟩)
  have HB1 := hide (HB.out.trans (h1.mono HB.out.size))
  have S1 := SS.later h1 SS.lt
  have R1 := RR.later h1 RR.lt
  have hz1 : w.heap.size + 1 < w1.heap.size := R1.lt
  obtain ⟨c0, c1, c2, c3, c4⟩ := S1.val v hv
  clear SS RR h1 HB hsm hRf
  go_upto_region 5 with fail
  have V2 : VAt (w1.alloc (.cells #[.int .i64 (s.V v).tok, .int .i64 (s.V v).sh, .int .i64 (s.V v).lost, .bool (s.V v).jail, .bool (s.V v).dead] 26)) w1.heap.size (s.V v) := heap_alloc_new _ _
  have S2 := S1.alloc (.cells #[.int .i64 (s.V v).tok, .int .i64 (s.V v).sh, .int .i64 (s.V v).lost, .bool (s.V v).jail, .bool (s.V v).dead] 26)
  have R2 := R1.alloc (.cells #[.int .i64 (s.V v).tok, .int .i64 (s.V v).sh, .int .i64 (s.V v).lost, .bool (s.V v).jail, .bool (s.V v).dead] 26)
  have HB2 := hide (HB1.out.alloc (by omega) (.cells #[.int .i64 (s.V v).tok, .int .i64 (s.V v).sh, .int .i64 (s.V v).lost, .bool (s.V v).jail, .bool (s.V v).dead] 26))
  generalize w1.alloc (.cells #[.int .i64 (s.V v).tok, .int .i64 (s.V v).sh, .int .i64 (s.V v).lost, .bool (s.V v).jail, .bool (s.V v).dead] 26) = w2 at *
  clear S1 R1 HB1 c0 c1 c2 c3 c4
  have hz2 : w.heap.size + 1 < w2.heap.size := R2.lt
  have hy2 : w1.heap.size < w2.heap.size := V2.lt
  apply wp_region_lit
  refine wpList_load_mid rfl 32 _ rfl _ 0 rfl _ _ S2.range Try.underlying32 rfl (by rw [infoS]; rfl) ?_
  go_step
  go_step
  refine (copy_st s ao sb so c _ (by exact HW.out.over HB2.out)).mono ?_
  rintro e w6 ⟨A, C, g, rfl, hWg, hgz, h6⟩
  dsimp only
  have R6 := R2.later h6 R2.lt
  have V6 := V2.later h6 V2.lt
  have S6 := S2.later h6 S2.lt
  have HB6 := hide (HB2.out.trans (h6.mono HB2.out.size))
  have hz6 : w.heap.size + 1 < w6.heap.size := R6.lt
  have hq6 : w1.heap.size < w6.heap.size := V6.lt
  have hW6 := hWg.lt
  iterate 4 go_step
  refine wpList_store_mid rfl 32 _ _ rfl _ 0 (stC s (.slice A s.W.length C)) rfl rfl ((SAt.new w6 Z63).there 0 _ (by rw [Z63_size, stC_size]; omega)) (by rw [infoS]; rfl) (stC_one _ _ _ _) ?_
  change wpList Try.prog _ _ _ _ ((w6.alloc (.cells Z63 32)).setCells w6.heap.size 0 (stC s (.slice A s.W.length C)).toList)
  have S7 := (SAt.new w6 Z63).setAll (ds := stC s (.slice A s.W.length C)) rfl
  have R7 : SAt ((w6.alloc (.cells Z63 32)).setCells w6.heap.size 0 (stC s (.slice A s.W.length C)).toList) (w.heap.size + 1) Z63 := (heap_sets (by omega) _ _ _).trans (R6.alloc _)
  have S7o : SAt ((w6.alloc (.cells Z63 32)).setCells w6.heap.size 0 (stC s (.slice A s.W.length C)).toList) w.heap.size (stC s (.slice ao s.W.length c)) := (heap_sets (by omega) _ _ _).trans (S6.alloc _)
  have V7 : VAt ((w6.alloc (.cells Z63 32)).setCells w6.heap.size 0 (stC s (.slice A s.W.length C)).toList) w1.heap.size (s.V v) := (heap_sets (by omega) _ _ _).trans (V6.later ((Below.refl _ w6).alloc (Nat.le_refl _) _) V6.lt)
  have HB7 := hide (below_sets (b := w6.heap.size) (by omega) (stC s (.slice A s.W.length C)).toList 0 _ (HB6.out.alloc (by omega) (.cells Z63 32)))
  have W7 := (hWg.alloc (.cells Z63 32)).sets (g := w6.heap.size) (fun h => by have := hW6 h; omega) (stC s (.slice A s.W.length C)).toList 0
  generalize (w6.alloc (.cells Z63 32)).setCells w6.heap.size 0 (stC s (.slice A s.W.length C)).toList = w7 at *
  clear S2 R2 V2 R6 V6 S6 HB2 HB6 h6 hWg
  obtain ⟨_, _, _, e3, e4⟩ := V7.cells
  obtain ⟨_, _, _, c3, c4⟩ := S7.val v hv
  have f0 := S7.free (7 + v * 5 + 3)
  have f1 := S7.free (7 + v * 5 + 4)
  have hz7 : w6.heap.size < w7.heap.size := S7.lt
  go_upto_region 12 with (first
    | ((fail_if_success (go_not_at_region 7)); apply wp_region_lit; refine wpList_load_mid rfl 32 _ rfl _ 0 rfl _ _ S7o.range Try.underlying32 rfl (by rw [infoS]; rfl) ?_; refine wpList_store_mid rfl 32 _ _ rfl _ 0 (stC s (.slice ao s.W.length c)) rfl rfl (R7.there 0 _ (by rw [Z63_size, stC_size]; omega)) (by rw [infoS]; rfl) (stC_one _ _ _ _) ?_))
  · exact stake_endy Try.results10 R7 rfl HB7.out (by omega) s ao sb so c _ r (H1.out ‹(s.V v).jail = true›) (HW.out.over HB7.out) (fun h => by have := HW.out.lt h; omega) (fun _ => .inl rfl) _ rfl rfl rfl
  · have HR := hide (H2.out ‹(s.V v).jail = false›)
    have S8 := S7.set (7 + v * 5 + 3) (.bool true)
    rw [set_J _ _ v hv] at S8
    have S9 := S8.set (7 + v * 5 + 4) (.bool false)
    rw [set_D _ _ v hv] at S9
    have HS9 := hide S9
    have hBut := ((But.refl w6.heap.size w7).set (7 + v * 5 + 3) (.bool true)).set (7 + v * 5 + 4) (.bool false)
    have HR9 := hide (hBut.stake (by omega) R7)
    have HW9 := hide (W7.but hBut (fun h => by have := hW6 h; omega))
    have HB9 := hide (HB7.out.trans (hBut.below (by omega)))
    clear S7 S8 S9 S7o V7 e3 e4 hBut
    go_upto_region 14 with fail
    generalize ((w7.setCell ⟨w6.heap.size, 7 + v * 5 + 3, none⟩ (.bool true)).setCell ⟨w6.heap.size, 7 + v * 5 + 4, none⟩ (.bool false)) = w9 at *
    apply wp_region_lit
    refine wpList_load_mid rfl 32 _ rfl _ 0 rfl _ _ HS9.out.range Try.underlying32 rfl (by rw [infoS]; rfl) ?_
    refine wpList_store_mid rfl 32 _ _ rfl _ 0 (stC (setJ s v true false) (.slice A s.W.length C)) rfl rfl (HR9.out.there 0 _ (by rw [Z63_size, stC_size]; omega)) (by rw [infoS]; rfl) (stC_one _ _ _ _) ?_
    go_wp2
    exact stake_endy Try.results10 HR9.out rfl HB9.out (by omega) (setJ s v true false) A g 0 C _ r HR.out HW9.out (fun h => by have h1 := hgz h; have h2 := hW6 h; omega) (fun h => .inr (by have h1 := hgz h; omega)) _ rfl rfl rfl
set_option maxHeartbeats 4000000 in
theorem rjudge_yes1 (s : St) (ao : Option Addr) (sb so c v : Nat) (w : World) (hW : WsAt w ao sb so s.W) (r : St × Int) (hg : goodS s = true) (hv : v < 6) (h1 : (s.V v).dead = true → r = (s, 15)) (h2 : (s.V v).dead = false → (s.V v).jail = false → r = (s, 4)) (h3 : (s.V v).dead = false → (s.V v).jail = true → r = (setJ s v false false, 0)) :
    Calls Try.prog 10 #[.agg (stC s (.slice ao s.W.length c)), .int .i64 (v : Int), .int .i64 1] w fun e w' => AnswersX w.heap.size sb w r e w' := by
  have SS := (SAt.new w (stC s (.slice ao s.W.length c))).alloc (.cells Z63 32)
  have RR := SAt.new2 w (.cells (stC s (.slice ao s.W.length c)) 32) Z63
  have HB : Hid (Below w.heap.size w ((w.alloc (.cells (stC s (.slice ao s.W.length c)) 32)).alloc (.cells Z63 32))) := ((Below.refl _ w).alloc (Nat.le_refl _) _).alloc (by simp) _
  have HW := hide hW
  have H1 := hide h1
  have H2 := hide h2
  have H3 := hide h3
  have hRf := refE_good hg hv
  have hv' : (v : Int) < 6 := by omega
  have hv0 : (0 : Int) ≤ (v : Int) := by omega
  have hsm := fun w h => some_any s ao sb so c 0 v w h
  rw [refOf_zero] at hsm
  clear hW h1 h2 h3
  go_enter Try.func10, Try.ntmps10
  go_upto_region 1 with fail
  change Code.wp Try.prog _ _ _ ((w.alloc (.cells (stC s (.slice ao s.W.length c)) 32)).alloc (.cells Z63 32))
  generalize (w.alloc (.cells (stC s (.slice ao s.W.length c)) 32)).alloc (.cells Z63 32) = w0 at *
  apply wp_region_lit
  refine wpList_load_mid rfl 32 _ rfl _ 0 rfl _ _ SS.range Try.underlying32 rfl (by rw [infoS]; rfl) ?_
  go_upto_region 4 with (go_at_call 23; refine (hsm _ (by exact HW.out.over HB.out)).mono ?_; rintro e w1 ⟨rfl, h1⟩)
  have HB1 := hide (HB.out.trans (h1.mono HB.out.size))
  have S1 := SS.later h1 SS.lt
  have R1 := RR.later h1 RR.lt
  have hz1 : w.heap.size + 1 < w1.heap.size := R1.lt
  obtain ⟨c0, c1, c2, c3, c4⟩ := S1.val v hv
  clear SS RR h1 HB hsm hRf
  go_upto_region 5 with fail
  have V2 : VAt (w1.alloc (.cells #[.int .i64 (s.V v).tok, .int .i64 (s.V v).sh, .int .i64 (s.V v).lost, .bool (s.V v).jail, .bool (s.V v).dead] 26)) w1.heap.size (s.V v) := heap_alloc_new _ _
  have S2 := S1.alloc (.cells #[.int .i64 (s.V v).tok, .int .i64 (s.V v).sh, .int .i64 (s.V v).lost, .bool (s.V v).jail, .bool (s.V v).dead] 26)
  have R2 := R1.alloc (.cells #[.int .i64 (s.V v).tok, .int .i64 (s.V v).sh, .int .i64 (s.V v).lost, .bool (s.V v).jail, .bool (s.V v).dead] 26)
  have HB2 := hide (HB1.out.alloc (by omega) (.cells #[.int .i64 (s.V v).tok, .int .i64 (s.V v).sh, .int .i64 (s.V v).lost, .bool (s.V v).jail, .bool (s.V v).dead] 26))
  generalize w1.alloc (.cells #[.int .i64 (s.V v).tok, .int .i64 (s.V v).sh, .int .i64 (s.V v).lost, .bool (s.V v).jail, .bool (s.V v).dead] 26) = w2 at *
  clear S1 R1 HB1 c0 c1 c2 c3 c4
  have hz2 : w.heap.size + 1 < w2.heap.size := R2.lt
  have hy2 : w1.heap.size < w2.heap.size := V2.lt
  apply wp_region_lit
  refine wpList_load_mid rfl 32 _ rfl _ 0 rfl _ _ S2.range Try.underlying32 rfl (by rw [infoS]; rfl) ?_
  go_step
  go_step
  refine (copy_st s ao sb so c _ (by exact HW.out.over HB2.out)).mono ?_
  rintro e w6 ⟨A, C, g, rfl, hWg, hgz, h6⟩
  dsimp only
  have R6 := R2.later h6 R2.lt
  have V6 := V2.later h6 V2.lt
  have S6 := S2.later h6 S2.lt
  have HB6 := hide (HB2.out.trans (h6.mono HB2.out.size))
  have hz6 : w.heap.size + 1 < w6.heap.size := R6.lt
  have hq6 : w1.heap.size < w6.heap.size := V6.lt
  have hW6 := hWg.lt
  iterate 4 go_step
  refine wpList_store_mid rfl 32 _ _ rfl _ 0 (stC s (.slice A s.W.length C)) rfl rfl ((SAt.new w6 Z63).there 0 _ (by rw [Z63_size, stC_size]; omega)) (by rw [infoS]; rfl) (stC_one _ _ _ _) ?_
  change wpList Try.prog _ _ _ _ ((w6.alloc (.cells Z63 32)).setCells w6.heap.size 0 (stC s (.slice A s.W.length C)).toList)
  have S7 := (SAt.new w6 Z63).setAll (ds := stC s (.slice A s.W.length C)) rfl
  have R7 : SAt ((w6.alloc (.cells Z63 32)).setCells w6.heap.size 0 (stC s (.slice A s.W.length C)).toList) (w.heap.size + 1) Z63 := (heap_sets (by omega) _ _ _).trans (R6.alloc _)
  have S7o : SAt ((w6.alloc (.cells Z63 32)).setCells w6.heap.size 0 (stC s (.slice A s.W.length C)).toList) w.heap.size (stC s (.slice ao s.W.length c)) := (heap_sets (by omega) _ _ _).trans (S6.alloc _)
  have V7 : VAt ((w6.alloc (.cells Z63 32)).setCells w6.heap.size 0 (stC s (.slice A s.W.length C)).toList) w1.heap.size (s.V v) := (heap_sets (by omega) _ _ _).trans (V6.later ((Below.refl _ w6).alloc (Nat.le_refl _) _) V6.lt)
  have HB7 := hide (below_sets (b := w6.heap.size) (by omega) (stC s (.slice A s.W.length C)).toList 0 _ (HB6.out.alloc (by omega) (.cells Z63 32)))
  have W7 := (hWg.alloc (.cells Z63 32)).sets (g := w6.heap.size) (fun h => by have := hW6 h; omega) (stC s (.slice A s.W.length C)).toList 0
  generalize (w6.alloc (.cells Z63 32)).setCells w6.heap.size 0 (stC s (.slice A s.W.length C)).toList = w7 at *
  clear S2 R2 V2 R6 V6 S6 HB2 HB6 h6 hWg
  obtain ⟨_, _, _, e3, e4⟩ := V7.cells
  obtain ⟨_, _, _, c3, c4⟩ := S7.val v hv
  have f0 := S7.free (7 + v * 5 + 3)
  have f1 := S7.free (7 + v * 5 + 4)
  have hz7 : w6.heap.size < w7.heap.size := S7.lt
  go_upto_region 12 with (first
    | ((fail_if_success (go_not_at_region 9)); apply wp_region_lit; refine wpList_load_mid rfl 32 _ rfl _ 0 rfl _ _ S7o.range Try.underlying32 rfl (by rw [infoS]; rfl) ?_; refine wpList_store_mid rfl 32 _ _ rfl _ 0 (stC s (.slice ao s.W.length c)) rfl rfl (R7.there 0 _ (by rw [Z63_size, stC_size]; omega)) (by rw [infoS]; rfl) (stC_one _ _ _ _) ?_)
    | ((fail_if_success (go_not_at_region 11)); apply wp_region_lit; refine wpList_load_mid rfl 32 _ rfl _ 0 rfl _ _ S7o.range Try.underlying32 rfl (by rw [infoS]; rfl) ?_; refine wpList_store_mid rfl 32 _ _ rfl _ 0 (stC s (.slice ao s.W.length c)) rfl rfl (R7.there 0 _ (by rw [Z63_size, stC_size]; omega)) (by rw [infoS]; rfl) (stC_one _ _ _ _) ?_))
  · exact stake_endy Try.results10 R7 rfl HB7.out (by omega) s ao sb so c _ r (H1.out ‹(s.V v).dead = true›) (HW.out.over HB7.out) (fun h => by have := HW.out.lt h; omega) (fun _ => .inl rfl) _ rfl rfl rfl
  · exact stake_endy Try.results10 R7 rfl HB7.out (by omega) s ao sb so c _ r (H2.out ‹(s.V v).dead = false› (by simpa using ‹(!(s.V v).jail) = true›)) (HW.out.over HB7.out) (fun h => by have := HW.out.lt h; omega) (fun _ => .inl rfl) _ rfl rfl rfl
  · have HR := hide (H3.out ‹(s.V v).dead = false› (by simpa using ‹(!(s.V v).jail) = false›))
    have S8 := S7.set (7 + v * 5 + 3) (.bool false)
    rw [set_J _ _ v hv] at S8
    have S9 := S8.set (7 + v * 5 + 4) (.bool false)
    rw [set_D _ _ v hv] at S9
    have HS9 := hide S9
    have hBut := ((But.refl w6.heap.size w7).set (7 + v * 5 + 3) (.bool false)).set (7 + v * 5 + 4) (.bool false)
    have HR9 := hide (hBut.stake (by omega) R7)
    have HW9 := hide (W7.but hBut (fun h => by have := hW6 h; omega))
    have HB9 := hide (HB7.out.trans (hBut.below (by omega)))
    clear S7 S8 S9 S7o V7 e3 e4 hBut
    go_upto_region 14 with fail
    generalize ((w7.setCell ⟨w6.heap.size, 7 + v * 5 + 3, none⟩ (.bool false)).setCell ⟨w6.heap.size, 7 + v * 5 + 4, none⟩ (.bool false)) = w9 at *
    apply wp_region_lit
    refine wpList_load_mid rfl 32 _ rfl _ 0 rfl _ _ HS9.out.range Try.underlying32 rfl (by rw [infoS]; rfl) ?_
    refine wpList_store_mid rfl 32 _ _ rfl _ 0 (stC (setJ s v false false) (.slice A s.W.length C)) rfl rfl (HR9.out.there 0 _ (by rw [Z63_size, stC_size]; omega)) (by rw [infoS]; rfl) (stC_one _ _ _ _) ?_
    go_wp2
    exact stake_endy Try.results10 HR9.out rfl HB9.out (by omega) (setJ s v false false) A g 0 C _ r HR.out HW9.out (fun h => by have h1 := hgz h; have h2 := hW6 h; omega) (fun h => .inr (by have h1 := hgz h; omega)) _ rfl rfl rfl
set_option maxHeartbeats 4000000 in
theorem rjudge_yes2 (s : St) (ao : Option Addr) (sb so c v : Nat) (w : World) (hW : WsAt w ao sb so s.W) (r : St × Int) (hg : goodS s = true) (hv : v < 6) (h1 : (s.V v).dead = true → r = (s, 15)) (h2 : (s.V v).dead = false → r = (setJ s v true true, 0)) :
    Calls Try.prog 10 #[.agg (stC s (.slice ao s.W.length c)), .int .i64 (v : Int), .int .i64 2] w fun e w' => AnswersX w.heap.size sb w r e w' := by
  have SS := (SAt.new w (stC s (.slice ao s.W.length c))).alloc (.cells Z63 32)
  have RR := SAt.new2 w (.cells (stC s (.slice ao s.W.length c)) 32) Z63
  have HB : Hid (Below w.heap.size w ((w.alloc (.cells (stC s (.slice ao s.W.length c)) 32)).alloc (.cells Z63 32))) := ((Below.refl _ w).alloc (Nat.le_refl _) _).alloc (by simp) _
  have HW := hide hW
  have H1 := hide h1
  have H2 := hide h2
  have hRf := refE_good hg hv
  have hv' : (v : Int) < 6 := by omega
  have hv0 : (0 : Int) ≤ (v : Int) := by omega
  have hsm := fun w h => some_any s ao sb so c 0 v w h
  rw [refOf_zero] at hsm
  clear hW h1 h2
  go_enter Try.func10, Try.ntmps10
  go_upto_region 1 with fail
  change Code.wp Try.prog _ _ _ ((w.alloc (.cells (stC s (.slice ao s.W.length c)) 32)).alloc (.cells Z63 32))
  generalize (w.alloc (.cells (stC s (.slice ao s.W.length c)) 32)).alloc (.cells Z63 32) = w0 at *
  apply wp_region_lit
  refine wpList_load_mid rfl 32 _ rfl _ 0 rfl _ _ SS.range Try.underlying32 rfl (by rw [infoS]; rfl) ?_
  go_upto_region 4 with (go_at_call 23; refine (hsm _ (by exact HW.out.over HB.out)).mono ?_; rintro e w1 ⟨rfl, h1⟩)
  have HB1 := hide (HB.out.trans (h1.mono HB.out.size))
  have S1 := SS.later h1 SS.lt
  have R1 := RR.later h1 RR.lt
  have hz1 : w.heap.size + 1 < w1.heap.size := R1.lt
  obtain ⟨c0, c1, c2, c3, c4⟩ := S1.val v hv
  clear SS RR h1 HB hsm hRf
  go_upto_region 5 with fail
  have V2 : VAt (w1.alloc (.cells #[.int .i64 (s.V v).tok, .int .i64 (s.V v).sh, .int .i64 (s.V v).lost, .bool (s.V v).jail, .bool (s.V v).dead] 26)) w1.heap.size (s.V v) := heap_alloc_new _ _
  have S2 := S1.alloc (.cells #[.int .i64 (s.V v).tok, .int .i64 (s.V v).sh, .int .i64 (s.V v).lost, .bool (s.V v).jail, .bool (s.V v).dead] 26)
  have R2 := R1.alloc (.cells #[.int .i64 (s.V v).tok, .int .i64 (s.V v).sh, .int .i64 (s.V v).lost, .bool (s.V v).jail, .bool (s.V v).dead] 26)
  have HB2 := hide (HB1.out.alloc (by omega) (.cells #[.int .i64 (s.V v).tok, .int .i64 (s.V v).sh, .int .i64 (s.V v).lost, .bool (s.V v).jail, .bool (s.V v).dead] 26))
  generalize w1.alloc (.cells #[.int .i64 (s.V v).tok, .int .i64 (s.V v).sh, .int .i64 (s.V v).lost, .bool (s.V v).jail, .bool (s.V v).dead] 26) = w2 at *
  clear S1 R1 HB1 c0 c1 c2 c3 c4
  have hz2 : w.heap.size + 1 < w2.heap.size := R2.lt
  have hy2 : w1.heap.size < w2.heap.size := V2.lt
  apply wp_region_lit
  refine wpList_load_mid rfl 32 _ rfl _ 0 rfl _ _ S2.range Try.underlying32 rfl (by rw [infoS]; rfl) ?_
  go_step
  go_step
  refine (copy_st s ao sb so c _ (by exact HW.out.over HB2.out)).mono ?_
  rintro e w6 ⟨A, C, g, rfl, hWg, hgz, h6⟩
  dsimp only
  have R6 := R2.later h6 R2.lt
  have V6 := V2.later h6 V2.lt
  have S6 := S2.later h6 S2.lt
  have HB6 := hide (HB2.out.trans (h6.mono HB2.out.size))
  have hz6 : w.heap.size + 1 < w6.heap.size := R6.lt
  have hq6 : w1.heap.size < w6.heap.size := V6.lt
  have hW6 := hWg.lt
  iterate 4 go_step
  refine wpList_store_mid rfl 32 _ _ rfl _ 0 (stC s (.slice A s.W.length C)) rfl rfl ((SAt.new w6 Z63).there 0 _ (by rw [Z63_size, stC_size]; omega)) (by rw [infoS]; rfl) (stC_one _ _ _ _) ?_
  change wpList Try.prog _ _ _ _ ((w6.alloc (.cells Z63 32)).setCells w6.heap.size 0 (stC s (.slice A s.W.length C)).toList)
  have S7 := (SAt.new w6 Z63).setAll (ds := stC s (.slice A s.W.length C)) rfl
  have R7 : SAt ((w6.alloc (.cells Z63 32)).setCells w6.heap.size 0 (stC s (.slice A s.W.length C)).toList) (w.heap.size + 1) Z63 := (heap_sets (by omega) _ _ _).trans (R6.alloc _)
  have S7o : SAt ((w6.alloc (.cells Z63 32)).setCells w6.heap.size 0 (stC s (.slice A s.W.length C)).toList) w.heap.size (stC s (.slice ao s.W.length c)) := (heap_sets (by omega) _ _ _).trans (S6.alloc _)
  have V7 : VAt ((w6.alloc (.cells Z63 32)).setCells w6.heap.size 0 (stC s (.slice A s.W.length C)).toList) w1.heap.size (s.V v) := (heap_sets (by omega) _ _ _).trans (V6.later ((Below.refl _ w6).alloc (Nat.le_refl _) _) V6.lt)
  have HB7 := hide (below_sets (b := w6.heap.size) (by omega) (stC s (.slice A s.W.length C)).toList 0 _ (HB6.out.alloc (by omega) (.cells Z63 32)))
  have W7 := (hWg.alloc (.cells Z63 32)).sets (g := w6.heap.size) (fun h => by have := hW6 h; omega) (stC s (.slice A s.W.length C)).toList 0
  generalize (w6.alloc (.cells Z63 32)).setCells w6.heap.size 0 (stC s (.slice A s.W.length C)).toList = w7 at *
  clear S2 R2 V2 R6 V6 S6 HB2 HB6 h6 hWg
  obtain ⟨_, _, _, e3, e4⟩ := V7.cells
  obtain ⟨_, _, _, c3, c4⟩ := S7.val v hv
  have f0 := S7.free (7 + v * 5 + 3)
  have f1 := S7.free (7 + v * 5 + 4)
  have hz7 : w6.heap.size < w7.heap.size := S7.lt
  go_upto_region 12 with (first
    | ((fail_if_success (go_not_at_region 9)); apply wp_region_lit; refine wpList_load_mid rfl 32 _ rfl _ 0 rfl _ _ S7o.range Try.underlying32 rfl (by rw [infoS]; rfl) ?_; refine wpList_store_mid rfl 32 _ _ rfl _ 0 (stC s (.slice ao s.W.length c)) rfl rfl (R7.there 0 _ (by rw [Z63_size, stC_size]; omega)) (by rw [infoS]; rfl) (stC_one _ _ _ _) ?_))
  · exact stake_endy Try.results10 R7 rfl HB7.out (by omega) s ao sb so c _ r (H1.out ‹(s.V v).dead = true›) (HW.out.over HB7.out) (fun h => by have := HW.out.lt h; omega) (fun _ => .inl rfl) _ rfl rfl rfl
  · have HR := hide (H2.out ‹(s.V v).dead = false›)
    have S8 := S7.set (7 + v * 5 + 3) (.bool true)
    rw [set_J _ _ v hv] at S8
    have S9 := S8.set (7 + v * 5 + 4) (.bool true)
    rw [set_D _ _ v hv] at S9
    have HS9 := hide S9
    have hBut := ((But.refl w6.heap.size w7).set (7 + v * 5 + 3) (.bool true)).set (7 + v * 5 + 4) (.bool true)
    have HR9 := hide (hBut.stake (by omega) R7)
    have HW9 := hide (W7.but hBut (fun h => by have := hW6 h; omega))
    have HB9 := hide (HB7.out.trans (hBut.below (by omega)))
    clear S7 S8 S9 S7o V7 e3 e4 hBut
    go_upto_region 14 with fail
    generalize ((w7.setCell ⟨w6.heap.size, 7 + v * 5 + 3, none⟩ (.bool true)).setCell ⟨w6.heap.size, 7 + v * 5 + 4, none⟩ (.bool true)) = w9 at *
    apply wp_region_lit
    refine wpList_load_mid rfl 32 _ rfl _ 0 rfl _ _ HS9.out.range Try.underlying32 rfl (by rw [infoS]; rfl) ?_
    refine wpList_store_mid rfl 32 _ _ rfl _ 0 (stC (setJ s v true true) (.slice A s.W.length C)) rfl rfl (HR9.out.there 0 _ (by rw [Z63_size, stC_size]; omega)) (by rw [infoS]; rfl) (stC_one _ _ _ _) ?_
    go_wp2
    exact stake_endy Try.results10 HR9.out rfl HB9.out (by omega) (setJ s v true true) A g 0 C _ r HR.out HW9.out (fun h => by have h1 := hgz h; have h2 := hW6 h; omega) (fun h => .inr (by have h1 := hgz h; omega)) _ rfl rfl rfl
theorem rjudge_any0 (s : St) (ao : Option Addr) (sb so c : Nat) (v : Int) (w : World) (hW : WsAt w ao sb so s.W) :
    Calls Try.prog 10 #[.agg (stC s (.slice ao s.W.length c)), .int .i64 v, .int .i64 0] w fun e w' => AnswersX w.heap.size sb w (jailS s v) e w' := by
  by_cases h : refE s v = 0
  · obtain ⟨hg, v0, v1⟩ := refE_zero h
    obtain ⟨v, rfl⟩ := Int.eq_ofNat_of_zero_le v0
    have hv : v < 6 := by omega
    exact rjudge_yes0 s ao sb so c v w hW _ hg hv (fun h1 => by rw [jailS, if_pos h]; exact if_pos h1) (fun h1 => by rw [jailS, if_pos h, if_neg (by simp [h1])]; rw [show (s.V (v : Int).toNat).dead = false from vOk_dead (good_vals hg v hv).1 h1]; rfl)
  · exact rjudge_no s ao sb so c v 0 w hW _ h (by unfold jailS; exact if_neg h)
theorem rjudge_any1 (s : St) (ao : Option Addr) (sb so c : Nat) (v : Int) (w : World) (hW : WsAt w ao sb so s.W) :
    Calls Try.prog 10 #[.agg (stC s (.slice ao s.W.length c)), .int .i64 v, .int .i64 1] w fun e w' => AnswersX w.heap.size sb w (unjailS s v) e w' := by
  by_cases h : refE s v = 0
  · obtain ⟨hg, v0, v1⟩ := refE_zero h
    obtain ⟨v, rfl⟩ := Int.eq_ofNat_of_zero_le v0
    have hv : v < 6 := by omega
    exact rjudge_yes1 s ao sb so c v w hW _ hg hv (fun h1 => by rw [unjailS, if_pos h]; exact if_pos h1) (fun h1 h2 => by rw [unjailS, if_pos h, if_neg (by simp [h1])]; exact if_neg (by simp [h2])) (fun h1 h2 => by rw [unjailS, if_pos h, if_neg (by simp [h1])]; exact if_pos h2)
  · exact rjudge_no s ao sb so c v 1 w hW _ h (by unfold unjailS; exact if_neg h)
theorem rjudge_any2 (s : St) (ao : Option Addr) (sb so c : Nat) (v : Int) (w : World) (hW : WsAt w ao sb so s.W) :
    Calls Try.prog 10 #[.agg (stC s (.slice ao s.W.length c)), .int .i64 v, .int .i64 2] w fun e w' => AnswersX w.heap.size sb w (buryS s v) e w' := by
  by_cases h : refE s v = 0
  · obtain ⟨hg, v0, v1⟩ := refE_zero h
    obtain ⟨v, rfl⟩ := Int.eq_ofNat_of_zero_le v0
    have hv : v < 6 := by omega
    exact rjudge_yes2 s ao sb so c v w hW _ hg hv (fun h1 => by rw [buryS, if_pos h]; exact if_pos h1) (fun h1 => by rw [buryS, if_pos h]; exact if_neg (by simp [h1]))
  · exact rjudge_no s ao sb so c v 2 w hW _ h (by unfold buryS; exact if_neg h)
end Go.Proofs.Ytookecjeknphead
namespace Go.Proofs.Ytookecjeknphead
open Go.RowKit
attribute [local go_sem ↓] loadS_eq
theorem jail_W (s : St) (v : Int) : (jailS s v).1.W = s.W := by
  unfold jailS
  repeat' split
  all_goals rfl
theorem unjail_W (s : St) (v : Int) : (unjailS s v).1.W = s.W := by
  unfold unjailS
  repeat' split
  all_goals rfl
theorem bury_W (s : St) (v : Int) : (buryS s v).1.W = s.W := by
  unfold buryS
  repeat' split
  all_goals rfl
set_option maxHeartbeats 8000000 in
theorem ljudge_walk (s : St) (ao : Option Addr) (sb so c : Nat) (v : Int) (w : World) (hW : WsAt w ao sb so s.W) :
    Calls Try.prog 3 #[.agg (stC s (.slice ao s.W.length c)), .int .i64 v] w fun e w' => e = .returned (.bool true) ∧ Below w.heap.size w w' := by
  have S4 := SAt.new w (stC s (.slice ao s.W.length c))
  have HB0 : Hid (Below w.heap.size w (w.alloc (.cells (stC s (.slice ao s.W.length c)) 32))) := (Below.refl _ w).alloc (Nat.le_refl _) _
  have HW := hide hW
  have hD0 := fun A C g w h => sjail_any s A g 0 C v w h
  have hD1 := fun A C g w h => sunjail_any s A g 0 C v w h
  have hD2 := fun A C g w h => sbury_any s A g 0 C v w h
  have hR0 := fun w h => rjudge_any0 s ao sb so c v w h
  have hR1 := fun w h => rjudge_any1 s ao sb so c v w h
  have hR2 := fun w h => rjudge_any2 s ao sb so c v w h
  have HrW0 := hide (jail_W s v)
  have HrW1 := hide (unjail_W s v)
  have HrW2 := hide (bury_W s v)
  generalize jailS s v = r0 at *
  generalize unjailS s v = r1 at *
  generalize buryS s v = r2 at *
  have hWlt := hW.lt
  clear hW
  go_enter Try.func3, Try.ntmps3
  go_upto_region 1 with fail
  generalize w.alloc (.cells (stC s (.slice ao s.W.length c)) 32) = w0 at *
  have hz0 : w.heap.size < w0.heap.size := S4.lt
  apply wp_region_lit
  refine wpList_load_mid rfl 32 _ rfl _ 0 rfl _ _ S4.range Try.underlying32 rfl (by rw [infoS]; rfl) ?_
  go_step
  go_step
  refine (copy_st s ao sb so c _ (by exact HW.out.over HB0.out)).mono ?_
  rintro e a0 ⟨A0, C0, g0, rfl, hWa0, hga0, ha0⟩
  dsimp only
  iterate 6 go_step
  refine (hD0 A0 C0 g0 _ hWa0).mono ?_
  rintro e b0 ⟨rfl, hb0⟩
  dsimp only
  have Sb0 := (S4.later ha0 S4.lt).later hb0 (S4.later ha0 S4.lt).lt
  have Wb0 := hWa0.over hb0
  have hWb0 := Wb0.lt
  have hsz0 := ha0.size
  have hsy0 := hb0.size
  have HBb0 := hide ((HB0.out.trans (ha0.mono HB0.out.size)).trans (hb0.mono (by have := HB0.out.size; omega)))
  have hzb0 : w.heap.size < b0.heap.size := Sb0.lt
  clear ha0 hb0 hWa0 S4 HB0
  iterate 13 go_step
  refine wpList_store_mid rfl 32 _ _ rfl _ 0 (stC r0.1 (.slice A0 s.W.length C0)) rfl rfl ((SAt.new b0 Z63).there 0 _ (by first | (simp only [stC_size]; omega) | (simp only [Z63_size, stC_size]; omega))) (by rw [infoS]; rfl) (stC_one _ _ _ _) ?_
  change wpList Try.prog _ _ _ _ ((b0.alloc (.cells Z63 32)).setCells b0.heap.size 0 (stC r0.1 (.slice A0 s.W.length C0)).toList)
  have P5c0 := (SAt.new b0 Z63).setAll (ds := (stC r0.1 (.slice A0 s.W.length C0))) (by first | rfl | (rw [stC_size]; omega))
  have Sc0 : SAt ((b0.alloc (.cells Z63 32)).setCells b0.heap.size 0 (stC r0.1 (.slice A0 s.W.length C0)).toList) w.heap.size (stC s (.slice ao s.W.length c)) := (heap_sets (by omega) _ _ _).trans (Sb0.alloc _)
  have HBc0 := hide (below_sets (b := b0.heap.size) (by omega) (stC r0.1 (.slice A0 s.W.length C0)).toList 0 _ (HBb0.out.alloc (by omega) (.cells Z63 32)))
  have Wc0 := (Wb0.alloc (.cells Z63 32)).sets (g := b0.heap.size) (fun h => by have := hWb0 h; omega) (stC r0.1 (.slice A0 s.W.length C0)).toList 0
  generalize ((b0.alloc (.cells Z63 32)).setCells b0.heap.size 0 (stC r0.1 (.slice A0 s.W.length C0)).toList) = c0 at *
  have hzc0 : b0.heap.size < c0.heap.size := P5c0.lt
  clear Sb0 Wb0 HBb0
  go_upto_region 2 with fail
  apply wp_region_lit
  refine wpList_load_mid rfl 32 _ rfl _ 0 rfl _ _ Sc0.range Try.underlying32 rfl (by rw [infoS]; rfl) ?_
  iterate 5 go_step
  refine (hR0 _ (by exact HW.out.over HBc0.out)).mono ?_
  rintro e d0 ⟨E0, eb0, eo0, F0, rfl, hWd0, hex0, hd0⟩
  rw [HrW0.out] at hWd0 hex0
  have hed0 := fun h => (hex0 h).1
  have hge0 : 0 < s.W.length → eb0 ≠ d0.heap.size := fun h => by have := hWlt h; have := (hex0 h).2; omega
  rw [HrW0.out]
  dsimp only
  have Sd0 := Sc0.later hd0 Sc0.lt
  have P5d0 := P5c0.later hd0 P5c0.lt
  have Wd0 := Wc0.over hd0
  have HBd0 := hide (HBc0.out.trans (hd0.mono HBc0.out.size))
  have hzd0 : b0.heap.size < d0.heap.size := P5d0.lt
  clear hd0 Sc0 P5c0 Wc0 HBc0
  iterate 13 go_step
  refine wpList_store_mid rfl 32 _ _ rfl _ 0 (stC r0.1 (.slice E0 s.W.length F0)) rfl rfl ((SAt.new d0 Z63).there 0 _ (by first | (simp only [stC_size]; omega) | (simp only [Z63_size, stC_size]; omega))) (by rw [infoS]; rfl) (stC_one _ _ _ _) ?_
  change wpList Try.prog _ _ _ _ ((d0.alloc (.cells Z63 32)).setCells d0.heap.size 0 (stC r0.1 (.slice E0 s.W.length F0)).toList)
  have P7e0 := (SAt.new d0 Z63).setAll (ds := (stC r0.1 (.slice E0 s.W.length F0))) (by first | rfl | (rw [stC_size]; omega))
  have Se0 : SAt ((d0.alloc (.cells Z63 32)).setCells d0.heap.size 0 (stC r0.1 (.slice E0 s.W.length F0)).toList) w.heap.size (stC s (.slice ao s.W.length c)) := (heap_sets (by omega) _ _ _).trans (Sd0.alloc _)
  have P5e0 : SAt ((d0.alloc (.cells Z63 32)).setCells d0.heap.size 0 (stC r0.1 (.slice E0 s.W.length F0)).toList) b0.heap.size (stC r0.1 (.slice A0 s.W.length C0)) := (heap_sets (by omega) _ _ _).trans (P5d0.alloc _)
  have HBe0 := hide (below_sets (b := d0.heap.size) (by omega) (stC r0.1 (.slice E0 s.W.length F0)).toList 0 _ (HBd0.out.alloc (by omega) (.cells Z63 32)))
  have We0 := (Wd0.alloc (.cells Z63 32)).sets (g := d0.heap.size) (fun h => by have := hWb0 h; omega) (stC r0.1 (.slice E0 s.W.length F0)).toList 0
  have Wf0 := (hWd0.alloc (.cells Z63 32)).sets (g := d0.heap.size) (fun h => by have := hed0 h; omega) (stC r0.1 (.slice E0 s.W.length F0)).toList 0
  generalize ((d0.alloc (.cells Z63 32)).setCells d0.heap.size 0 (stC r0.1 (.slice E0 s.W.length F0)).toList) = e0 at *
  have hze0 : d0.heap.size < e0.heap.size := P7e0.lt
  clear Sd0 P5d0 Wd0 HBd0 hWd0
  go_upto_region 3 with fail
  have hs0 := fun wx h1 h2 => same_any r0.1 A0 E0 g0 0 eb0 eo0 C0 F0 wx h1 h2
  rw [HrW0.out] at hs0
  have hz_e0 := HBe0.out.size
  have q50 := P5e0.loadS rfl
  have q70 := P7e0.loadS rfl
  apply wp_region_lit
  go_upto_region 5 with (first
    | (go_at_call 11; refine (hs0 _ We0 Wf0).mono ?_; rintro e f0 ⟨rfl, hf0⟩)
    | (go_at_call 14; refine (lstakes_any _).mono ?_; rintro e f9 ⟨rfl, hf9⟩))
  have P5_1 := P5e0.later hf0 P5e0.lt
  have P7_1 := P7e0.later hf0 P7e0.lt
  have S4_1 := Se0.later hf0 Se0.lt
  have HB_1 := hide (HBe0.out.trans (hf0.mono HBe0.out.size))
  have hzf0 := hf0.size
  generalize hX7_0 : stC r0.1 (.slice E0 s.W.length F0) = X7_1 at P7_1
  have hq7_1 : X7_1.size = 63 := by rw [← hX7_0]; rfl
  generalize hX5_0 : stC r0.1 (.slice A0 s.W.length C0) = X5_1 at P5_1
  have hq5_1 : X5_1.size = 63 := by rw [← hX5_0]; rfl
  clear hX7_0 hX5_0 P5e0 P7e0 Se0 HBe0 We0 Wf0 hf0 hs0 hD0 hR0 q50 q70
  apply wp_region_lit
  refine wpList_load_mid rfl 32 _ rfl _ 0 rfl _ _ S4_1.range Try.underlying32 rfl (by rw [infoS]; rfl) ?_
  go_step
  go_step
  refine (copy_st s ao sb so c _ (by exact HW.out.over HB_1.out)).mono ?_
  rintro e a1 ⟨A1, C1, g1, rfl, hWa1, hga1, ha1⟩
  dsimp only
  iterate 6 go_step
  refine (hD1 A1 C1 g1 _ hWa1).mono ?_
  rintro e b1 ⟨rfl, hb1⟩
  dsimp only
  have Sb1 := (S4_1.later ha1 S4_1.lt).later hb1 (S4_1.later ha1 S4_1.lt).lt
  have Wb1 := hWa1.over hb1
  have hWb1 := Wb1.lt
  have hsz1 := ha1.size
  have hsy1 := hb1.size
  have HBb1 := hide ((HB_1.out.trans (ha1.mono HB_1.out.size)).trans (hb1.mono (by have := HB_1.out.size; omega)))
  have P5b1 := (P5_1.later ha1 P5_1.lt).later hb1 (P5_1.later ha1 P5_1.lt).lt
  have P7b1 := (P7_1.later ha1 P7_1.lt).later hb1 (P7_1.later ha1 P7_1.lt).lt
  have hzb1 : w.heap.size < b1.heap.size := Sb1.lt
  clear ha1 hb1 hWa1 S4_1 HB_1 P5_1 P7_1
  iterate 10 go_step
  refine wpList_store_mid rfl 32 _ _ rfl _ 0 (stC r1.1 (.slice A1 s.W.length C1)) rfl rfl (P5b1.there 0 _ (by first | (simp only [stC_size]; omega) | (simp only [Z63_size, stC_size]; omega))) (by rw [infoS]; rfl) (stC_one _ _ _ _) ?_
  change wpList Try.prog _ _ _ _ (b1.setCells b0.heap.size 0 (stC r1.1 (.slice A1 s.W.length C1)).toList)
  have P5c1 := P5b1.setAll (ds := (stC r1.1 (.slice A1 s.W.length C1))) (by first | rfl | (rw [stC_size]; omega))
  have Sc1 : SAt (b1.setCells b0.heap.size 0 (stC r1.1 (.slice A1 s.W.length C1)).toList) w.heap.size (stC s (.slice ao s.W.length c)) := (heap_sets (by omega) _ _ _).trans Sb1
  have P7c1 : SAt (b1.setCells b0.heap.size 0 (stC r1.1 (.slice A1 s.W.length C1)).toList) d0.heap.size X7_1 := (heap_sets (by omega) _ _ _).trans P7b1
  have HBc1 := hide (below_sets (b := b0.heap.size) (by omega) (stC r1.1 (.slice A1 s.W.length C1)).toList 0 _ HBb1.out)
  have Wc1 := Wb1.sets (g := b0.heap.size) (fun h => by have := hga1 h; omega) (stC r1.1 (.slice A1 s.W.length C1)).toList 0
  generalize (b1.setCells b0.heap.size 0 (stC r1.1 (.slice A1 s.W.length C1)).toList) = c1 at *
  have hzc1 : b0.heap.size < c1.heap.size := P5c1.lt
  clear Sb1 Wb1 HBb1 P5b1 P7b1
  have hzx1 : d0.heap.size < c1.heap.size := P7c1.lt
  go_upto_region 6 with fail
  apply wp_region_lit
  refine wpList_load_mid rfl 32 _ rfl _ 0 rfl _ _ Sc1.range Try.underlying32 rfl (by rw [infoS]; rfl) ?_
  iterate 5 go_step
  refine (hR1 _ (by exact HW.out.over HBc1.out)).mono ?_
  rintro e d1 ⟨E1, eb1, eo1, F1, rfl, hWd1, hex1, hd1⟩
  rw [HrW1.out] at hWd1 hex1
  have hed1 := fun h => (hex1 h).1
  have hge1 : 0 < s.W.length → eb1 ≠ d0.heap.size := fun h => by have := hWlt h; have := (hex1 h).2; omega
  rw [HrW1.out]
  dsimp only
  have Sd1 := Sc1.later hd1 Sc1.lt
  have P5d1 := P5c1.later hd1 P5c1.lt
  have Wd1 := Wc1.over hd1
  have HBd1 := hide (HBc1.out.trans (hd1.mono HBc1.out.size))
  have hzd1 : b0.heap.size < d1.heap.size := P5d1.lt
  have P7d1 := P7c1.later hd1 P7c1.lt
  clear hd1 Sc1 P5c1 Wc1 HBc1 P7c1
  iterate 10 go_step
  refine wpList_store_mid rfl 32 _ _ rfl _ 0 (stC r1.1 (.slice E1 s.W.length F1)) rfl rfl (P7d1.there 0 _ (by first | (simp only [stC_size]; omega) | (simp only [Z63_size, stC_size]; omega))) (by rw [infoS]; rfl) (stC_one _ _ _ _) ?_
  change wpList Try.prog _ _ _ _ (d1.setCells d0.heap.size 0 (stC r1.1 (.slice E1 s.W.length F1)).toList)
  have P7e1 := P7d1.setAll (ds := (stC r1.1 (.slice E1 s.W.length F1))) (by first | rfl | (rw [stC_size]; omega))
  have Se1 : SAt (d1.setCells d0.heap.size 0 (stC r1.1 (.slice E1 s.W.length F1)).toList) w.heap.size (stC s (.slice ao s.W.length c)) := (heap_sets (by omega) _ _ _).trans Sd1
  have P5e1 : SAt (d1.setCells d0.heap.size 0 (stC r1.1 (.slice E1 s.W.length F1)).toList) b0.heap.size (stC r1.1 (.slice A1 s.W.length C1)) := (heap_sets (by omega) _ _ _).trans P5d1
  have HBe1 := hide (below_sets (b := d0.heap.size) (by omega) (stC r1.1 (.slice E1 s.W.length F1)).toList 0 _ HBd1.out)
  have We1 := Wd1.sets (g := d0.heap.size) (fun h => by have := hga1 h; omega) (stC r1.1 (.slice E1 s.W.length F1)).toList 0
  have Wf1 := hWd1.sets (g := d0.heap.size) (fun h => by have := hge1 h; omega) (stC r1.1 (.slice E1 s.W.length F1)).toList 0
  generalize (d1.setCells d0.heap.size 0 (stC r1.1 (.slice E1 s.W.length F1)).toList) = e1 at *
  have hze1 : d0.heap.size < e1.heap.size := P7e1.lt
  clear Sd1 P5d1 Wd1 HBd1 hWd1 P7d1
  go_upto_region 7 with fail
  have hs1 := fun wx h1 h2 => same_any r1.1 A1 E1 g1 0 eb1 eo1 C1 F1 wx h1 h2
  rw [HrW1.out] at hs1
  have hz_e1 := HBe1.out.size
  have q51 := P5e1.loadS rfl
  have q71 := P7e1.loadS rfl
  apply wp_region_lit
  go_upto_region 9 with (first
    | (go_at_call 11; refine (hs1 _ We1 Wf1).mono ?_; rintro e f1 ⟨rfl, hf1⟩)
    | (go_at_call 14; refine (lstakes_any _).mono ?_; rintro e f9 ⟨rfl, hf9⟩))
  have P5_2 := P5e1.later hf1 P5e1.lt
  have P7_2 := P7e1.later hf1 P7e1.lt
  have S4_2 := Se1.later hf1 Se1.lt
  have HB_2 := hide (HBe1.out.trans (hf1.mono HBe1.out.size))
  have hzf1 := hf1.size
  generalize hX7_1 : stC r1.1 (.slice E1 s.W.length F1) = X7_2 at P7_2
  have hq7_2 : X7_2.size = 63 := by rw [← hX7_1]; rfl
  generalize hX5_1 : stC r1.1 (.slice A1 s.W.length C1) = X5_2 at P5_2
  have hq5_2 : X5_2.size = 63 := by rw [← hX5_1]; rfl
  clear hX7_1 hX5_1 P5e1 P7e1 Se1 HBe1 We1 Wf1 hf1 hs1 hD1 hR1 q51 q71
  apply wp_region_lit
  refine wpList_load_mid rfl 32 _ rfl _ 0 rfl _ _ S4_2.range Try.underlying32 rfl (by rw [infoS]; rfl) ?_
  go_step
  go_step
  refine (copy_st s ao sb so c _ (by exact HW.out.over HB_2.out)).mono ?_
  rintro e a2 ⟨A2, C2, g2, rfl, hWa2, hga2, ha2⟩
  dsimp only
  iterate 6 go_step
  refine (hD2 A2 C2 g2 _ hWa2).mono ?_
  rintro e b2 ⟨rfl, hb2⟩
  dsimp only
  have Sb2 := (S4_2.later ha2 S4_2.lt).later hb2 (S4_2.later ha2 S4_2.lt).lt
  have Wb2 := hWa2.over hb2
  have hWb2 := Wb2.lt
  have hsz2 := ha2.size
  have hsy2 := hb2.size
  have HBb2 := hide ((HB_2.out.trans (ha2.mono HB_2.out.size)).trans (hb2.mono (by have := HB_2.out.size; omega)))
  have P5b2 := (P5_2.later ha2 P5_2.lt).later hb2 (P5_2.later ha2 P5_2.lt).lt
  have P7b2 := (P7_2.later ha2 P7_2.lt).later hb2 (P7_2.later ha2 P7_2.lt).lt
  have hzb2 : w.heap.size < b2.heap.size := Sb2.lt
  clear ha2 hb2 hWa2 S4_2 HB_2 P5_2 P7_2
  iterate 10 go_step
  refine wpList_store_mid rfl 32 _ _ rfl _ 0 (stC r2.1 (.slice A2 s.W.length C2)) rfl rfl (P5b2.there 0 _ (by first | (simp only [stC_size]; omega) | (simp only [Z63_size, stC_size]; omega))) (by rw [infoS]; rfl) (stC_one _ _ _ _) ?_
  change wpList Try.prog _ _ _ _ (b2.setCells b0.heap.size 0 (stC r2.1 (.slice A2 s.W.length C2)).toList)
  have P5c2 := P5b2.setAll (ds := (stC r2.1 (.slice A2 s.W.length C2))) (by first | rfl | (rw [stC_size]; omega))
  have Sc2 : SAt (b2.setCells b0.heap.size 0 (stC r2.1 (.slice A2 s.W.length C2)).toList) w.heap.size (stC s (.slice ao s.W.length c)) := (heap_sets (by omega) _ _ _).trans Sb2
  have P7c2 : SAt (b2.setCells b0.heap.size 0 (stC r2.1 (.slice A2 s.W.length C2)).toList) d0.heap.size X7_2 := (heap_sets (by omega) _ _ _).trans P7b2
  have HBc2 := hide (below_sets (b := b0.heap.size) (by omega) (stC r2.1 (.slice A2 s.W.length C2)).toList 0 _ HBb2.out)
  have Wc2 := Wb2.sets (g := b0.heap.size) (fun h => by have := hga2 h; omega) (stC r2.1 (.slice A2 s.W.length C2)).toList 0
  generalize (b2.setCells b0.heap.size 0 (stC r2.1 (.slice A2 s.W.length C2)).toList) = c2 at *
  have hzc2 : b0.heap.size < c2.heap.size := P5c2.lt
  clear Sb2 Wb2 HBb2 P5b2 P7b2
  have hzx2 : d0.heap.size < c2.heap.size := P7c2.lt
  go_upto_region 10 with fail
  apply wp_region_lit
  refine wpList_load_mid rfl 32 _ rfl _ 0 rfl _ _ Sc2.range Try.underlying32 rfl (by rw [infoS]; rfl) ?_
  iterate 5 go_step
  refine (hR2 _ (by exact HW.out.over HBc2.out)).mono ?_
  rintro e d2 ⟨E2, eb2, eo2, F2, rfl, hWd2, hex2, hd2⟩
  rw [HrW2.out] at hWd2 hex2
  have hed2 := fun h => (hex2 h).1
  have hge2 : 0 < s.W.length → eb2 ≠ d0.heap.size := fun h => by have := hWlt h; have := (hex2 h).2; omega
  rw [HrW2.out]
  dsimp only
  have Sd2 := Sc2.later hd2 Sc2.lt
  have P5d2 := P5c2.later hd2 P5c2.lt
  have Wd2 := Wc2.over hd2
  have HBd2 := hide (HBc2.out.trans (hd2.mono HBc2.out.size))
  have hzd2 : b0.heap.size < d2.heap.size := P5d2.lt
  have P7d2 := P7c2.later hd2 P7c2.lt
  clear hd2 Sc2 P5c2 Wc2 HBc2 P7c2
  iterate 10 go_step
  refine wpList_store_mid rfl 32 _ _ rfl _ 0 (stC r2.1 (.slice E2 s.W.length F2)) rfl rfl (P7d2.there 0 _ (by first | (simp only [stC_size]; omega) | (simp only [Z63_size, stC_size]; omega))) (by rw [infoS]; rfl) (stC_one _ _ _ _) ?_
  change wpList Try.prog _ _ _ _ (d2.setCells d0.heap.size 0 (stC r2.1 (.slice E2 s.W.length F2)).toList)
  have P7e2 := P7d2.setAll (ds := (stC r2.1 (.slice E2 s.W.length F2))) (by first | rfl | (rw [stC_size]; omega))
  have Se2 : SAt (d2.setCells d0.heap.size 0 (stC r2.1 (.slice E2 s.W.length F2)).toList) w.heap.size (stC s (.slice ao s.W.length c)) := (heap_sets (by omega) _ _ _).trans Sd2
  have P5e2 : SAt (d2.setCells d0.heap.size 0 (stC r2.1 (.slice E2 s.W.length F2)).toList) b0.heap.size (stC r2.1 (.slice A2 s.W.length C2)) := (heap_sets (by omega) _ _ _).trans P5d2
  have HBe2 := hide (below_sets (b := d0.heap.size) (by omega) (stC r2.1 (.slice E2 s.W.length F2)).toList 0 _ HBd2.out)
  have We2 := Wd2.sets (g := d0.heap.size) (fun h => by have := hga2 h; omega) (stC r2.1 (.slice E2 s.W.length F2)).toList 0
  have Wf2 := hWd2.sets (g := d0.heap.size) (fun h => by have := hge2 h; omega) (stC r2.1 (.slice E2 s.W.length F2)).toList 0
  generalize (d2.setCells d0.heap.size 0 (stC r2.1 (.slice E2 s.W.length F2)).toList) = e2 at *
  have hze2 : d0.heap.size < e2.heap.size := P7e2.lt
  clear Sd2 P5d2 Wd2 HBd2 hWd2 P7d2
  go_upto_region 11 with fail
  have hs2 := fun wx h1 h2 => same_any r2.1 A2 E2 g2 0 eb2 eo2 C2 F2 wx h1 h2
  rw [HrW2.out] at hs2
  have hz_e2 := HBe2.out.size
  have q52 := P5e2.loadS rfl
  have q72 := P7e2.loadS rfl
  apply wp_region_lit
  go_upto_region 13 with (first
    | (go_at_call 11; refine (hs2 _ We2 Wf2).mono ?_; rintro e f2 ⟨rfl, hf2⟩)
    | (go_at_call 14; refine (lstakes_any _).mono ?_; rintro e f9 ⟨rfl, hf9⟩))
  go_ret
  exact ⟨rfl, (HBe2.out.trans (hf2.mono HBe2.out.size)).trans (hf9.mono (by have := hf2.size; omega))⟩
end Go.Proofs.Ytookecjeknphead
