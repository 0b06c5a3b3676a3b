/- Parts of the proof: SV SCL. -/
import Derived.Test.YtjghbciepinofaaGreatRows
import Derived.Test.YtjghbciepinofaaGreatOK0
import Derived.Test.YtjghbciepinofaaGreatOK47
import Derived.Laws.Cover3
import Derived.ChangeKeysEq
set_option maxRecDepth 100000
namespace Go.Proofs.YtjghbciepinofaaGreat
open Go.RowKit
/-- a validator is jailed or not, dead or not -/
def setJ (s : St) (v : Nat) (j d : Bool) : St := { s with V := setV s.V v { s.V v with jail := j, dead := d } }
theorem set_J (s : St) (sl : Value) (v : Nat) (hv : v < 6) (x : Bool) : (stC s sl).setIfInBounds (7 + v * 5 + 3) (.bool x) = stC (setJ s v x (s.V v).dead) sl := set_jail s sl v hv x
theorem set_D (s : St) (sl : Value) (v : Nat) (hv : v < 6) (j d x : Bool) : (stC (setJ s v j d) sl).setIfInBounds (7 + v * 5 + 4) (.bool x) = stC (setJ s v j x) sl := by
  rw [set_dead _ sl v hv x]
  unfold setJ
  simp only [setV_setV, setV_at]
def jailS (s : St) (v : Int) : St × Int :=
  if refE s v = 0 then if (s.V v.toNat).jail = true then (s, 14) else (setJ s v.toNat true (s.V v.toNat).dead, 0) else (s, refE s v)
def buryS (s : St) (v : Int) : St × Int :=
  if refE s v = 0 then if (s.V v.toNat).dead = true then (s, 15) else (setJ s v.toNat true true, 0) else (s, refE s v)
theorem refE_zero {s : St} {v : Int} (h : refE s v = 0) : goodS s = true ∧ (0 ≤ v ∧ v < 6) := by
  unfold refE at h
  repeat' split at h
  all_goals first | (simp_all [isV_iff]; done) | omega
theorem refE_good {s : St} {v : Nat} (hg : goodS s = true) (hv : v < 6) : refE s v = 0 := by
  unfold refE
  rw [hg, isV_iff.2 (show (0 : Int) ≤ v ∧ (v : Int) < 6 by omega)]
  rfl
set_option maxHeartbeats 4000000 in
theorem sjail_no (s : St) (ao : Option Addr) (sb so c : Nat) (v : Int) (w : World) (hW : WsAt w ao sb so s.W) (r : St × Int) (h0 : refE s v ≠ 0) (hr : r = (s, refE s v)) :
    Calls Tryz.prog 148 #[.agg (stC s (.slice ao s.W.length c)), .int .i64 v] w fun e w' => e = .returned (.tuple #[.agg (stC r.1 (.slice ao s.W.length c)), .int .i64 r.2]) ∧ Below w.heap.size w w' := by
  have SS := (SAt.new w (stC s (.slice ao s.W.length c))).alloc (.cells Z63 32)
  have RR := SAt.new2 w (.cells (stC s (.slice ao s.W.length c)) 32) Z63
  have HB : Hid (Below w.heap.size w ((w.alloc (.cells (stC s (.slice ao s.W.length c)) 32)).alloc (.cells Z63 32))) := ((Below.refl _ w).alloc (Nat.le_refl _) _).alloc (by simp) _
  have HW := hide hW
  have HR := hide hr
  clear hW hr
  go_enter Tryz.func148, Tryz.ntmps148
  go_upto_region 1 with fail
  change Code.wp Tryz.prog _ _ _ ((w.alloc (.cells (stC s (.slice ao s.W.length c)) 32)).alloc (.cells Z63 32))
  generalize (w.alloc (.cells (stC s (.slice ao s.W.length c)) 32)).alloc (.cells Z63 32) = w0 at *
  go_upto_region 2 with (go_at_call 144; refine (refused_any s ao sb so c w.heap.size v _ SS (by exact HW.out.over HB.out)).mono ?_; rintro e w1 ⟨rfl, h1⟩)
  have HB1 := hide (HB.out.trans (h1.mono HB.out.size))
  have S1 := SS.later h1 SS.lt
  have R1 := RR.later h1 RR.lt
  clear SS RR h1 HB
  go_upto_region 3 with fail
  apply wp_region_lit
  refine wpList_load_mid rfl 32 _ rfl _ 0 rfl _ _ S1.range Tryz.underlying32 rfl (by rw [infoS]; rfl) ?_
  refine wpList_mv rfl _ rfl ?_
  refine wpList_store_mid rfl 32 _ _ rfl _ 0 (stC s (.slice ao s.W.length c)) rfl rfl (R1.there 0 _ (by rw [Z63_size, stC_size]; omega)) (by rw [infoS]; rfl) (stC_one _ _ _ _) ?_
  go_wp2
  exact stake_end2 Tryz.results148 R1 rfl HB1.out (by omega) s _ _ r HR.out _ rfl rfl rfl
set_option maxHeartbeats 4000000 in
theorem sjail_yes (s : St) (ao : Option Addr) (sb so c v : Nat) (w : World) (hW : WsAt w ao sb so s.W) (r : St × Int) (hg : goodS s = true) (hv : v < 6) (h1 : (s.V v).jail = true → r = (s, 14)) (h2 : (s.V v).jail = false → r = ((setJ s v true (s.V v).dead), 0)) :
    Calls Tryz.prog 148 #[.agg (stC s (.slice ao s.W.length c)), .int .i64 (v : Int)] w fun e w' => e = .returned (.tuple #[.agg (stC r.1 (.slice ao s.W.length c)), .int .i64 r.2]) ∧ Below w.heap.size w w' := by
  have SS := (SAt.new w (stC s (.slice ao s.W.length c))).alloc (.cells Z63 32)
  have RR := SAt.new2 w (.cells (stC s (.slice ao s.W.length c)) 32) Z63
  have HB : Hid (Below w.heap.size w ((w.alloc (.cells (stC s (.slice ao s.W.length c)) 32)).alloc (.cells Z63 32))) := ((Below.refl _ w).alloc (Nat.le_refl _) _).alloc (by simp) _
  have HW := hide hW
  have Hh1 := hide h1
  have Hh2 := hide h2
  have hRf := refE_good hg hv
  have hv' : (v : Int) < 6 := by omega
  have hv0 : (0 : Int) ≤ (v : Int) := by omega
  clear hW h1 h2
  go_enter Tryz.func148, Tryz.ntmps148
  go_upto_region 1 with fail
  change Code.wp Tryz.prog _ _ _ ((w.alloc (.cells (stC s (.slice ao s.W.length c)) 32)).alloc (.cells Z63 32))
  generalize (w.alloc (.cells (stC s (.slice ao s.W.length c)) 32)).alloc (.cells Z63 32) = w0 at *
  go_upto_region 2 with (go_at_call 144; refine (refused_any s ao sb so c w.heap.size v _ SS (by exact HW.out.over HB.out)).mono ?_; rintro e w1 ⟨rfl, h1⟩)
  have HB1 := hide (HB.out.trans (h1.mono HB.out.size))
  have S1 := SS.later h1 SS.lt
  have R1 := RR.later h1 RR.lt
  clear SS RR h1 HB
  obtain ⟨c0, c1, c2, c3, c4⟩ := S1.val v hv
  have hz1 : w.heap.size + 1 < w1.heap.size := R1.lt
  clear c0 c1 c2
  go_upto_region 7 with (first | ((fail_if_success (go_not_at_region 6)); apply wp_region_lit; refine wpList_load_mid rfl 32 _ rfl _ 0 rfl _ _ S1.range Tryz.underlying32 rfl (by rw [infoS]; rfl) ?_; refine wpList_store_mid rfl 32 _ _ rfl _ 0 (stC s (.slice ao s.W.length c)) rfl rfl (R1.there 0 _ (by rw [Z63_size, stC_size]; omega)) (by rw [infoS]; rfl) (stC_one _ _ _ _) ?_))
  · exact stake_end2 Tryz.results148 R1 rfl HB1.out (by omega) s _ _ r (Hh1.out ‹(s.V v).jail = true›) _ rfl rfl rfl
  · have HR := hide (Hh2.out ‹(s.V v).jail = false›)
    have f0 := S1.free (7 + v * 5 + 3)
    have S2 := S1.set (7 + v * 5 + 3) (.bool true)
    rw [set_J _ _ v hv] at S2
    have RZ : SAt (w1.setCell ⟨w.heap.size, 7 + v * 5 + 3, none⟩ (.bool true)) (w.heap.size + 1) Z63 := (R1.other (by omega) (.bool true) : SAt _ _ _)
    have HZ := hide (HB1.out.setCell (p := ⟨w.heap.size, 7 + v * 5 + 3, none⟩) (Nat.le_refl _) (.bool true))
    clear S1 R1 HB1
    go_upto_region 8 with fail
    generalize (w1.setCell ⟨w.heap.size, 7 + v * 5 + 3, none⟩ (.bool true)) = w9 at *
    apply wp_region_lit
    refine wpList_load_mid rfl 32 _ rfl _ 0 rfl _ _ S2.range Tryz.underlying32 rfl (by rw [infoS]; rfl) ?_
    refine wpList_store_mid rfl 32 _ _ rfl _ 0 (stC (setJ s v true (s.V v).dead) (.slice ao s.W.length c)) rfl rfl (RZ.there 0 _ (by rw [Z63_size, stC_size]; omega)) (by rw [infoS]; rfl) (stC_one _ _ _ _) ?_
    go_wp2
    exact stake_end2 Tryz.results148 RZ rfl HZ.out (by omega) (setJ s v true (s.V v).dead) (.slice ao s.W.length c) 0 r HR.out _ rfl rfl rfl
theorem sjail_any (s : St) (ao : Option Addr) (sb so c : Nat) (v : Int) (w : World) (hW : WsAt w ao sb so s.W) :
    Calls Tryz.prog 148 #[.agg (stC s (.slice ao s.W.length c)), .int .i64 v] w fun e w' => e = .returned (.tuple #[.agg (stC (jailS s v).1 (.slice ao s.W.length c)), .int .i64 (jailS s v).2]) ∧ Below w.heap.size w w' := by
  by_cases h : refE s v = 0
  · obtain ⟨hg, v0, v1⟩ := refE_zero h
    obtain ⟨v, rfl⟩ := Int.eq_ofNat_of_zero_le v0
    exact sjail_yes s ao sb so c v w hW _ hg (by omega) (fun h1 => by rw [jailS, if_pos h]; exact if_pos h1) (fun h1 => by rw [jailS, if_pos h]; exact if_neg (by simp [h1]))
  · exact sjail_no s ao sb so c v w hW _ h (by unfold jailS; exact if_neg h)
set_option maxHeartbeats 4000000 in
theorem sbury_no (s : St) (ao : Option Addr) (sb so c : Nat) (v : Int) (w : World) (hW : WsAt w ao sb so s.W) (r : St × Int) (h0 : refE s v ≠ 0) (hr : r = (s, refE s v)) :
    Calls Tryz.prog 151 #[.agg (stC s (.slice ao s.W.length c)), .int .i64 v] w fun e w' => e = .returned (.tuple #[.agg (stC r.1 (.slice ao s.W.length c)), .int .i64 r.2]) ∧ Below w.heap.size w w' := by
  have SS := (SAt.new w (stC s (.slice ao s.W.length c))).alloc (.cells Z63 32)
  have RR := SAt.new2 w (.cells (stC s (.slice ao s.W.length c)) 32) Z63
  have HB : Hid (Below w.heap.size w ((w.alloc (.cells (stC s (.slice ao s.W.length c)) 32)).alloc (.cells Z63 32))) := ((Below.refl _ w).alloc (Nat.le_refl _) _).alloc (by simp) _
  have HW := hide hW
  have HR := hide hr
  clear hW hr
  go_enter Tryz.func151, Tryz.ntmps151
  go_upto_region 1 with fail
  change Code.wp Tryz.prog _ _ _ ((w.alloc (.cells (stC s (.slice ao s.W.length c)) 32)).alloc (.cells Z63 32))
  generalize (w.alloc (.cells (stC s (.slice ao s.W.length c)) 32)).alloc (.cells Z63 32) = w0 at *
  go_upto_region 2 with (go_at_call 144; refine (refused_any s ao sb so c w.heap.size v _ SS (by exact HW.out.over HB.out)).mono ?_; rintro e w1 ⟨rfl, h1⟩)
  have HB1 := hide (HB.out.trans (h1.mono HB.out.size))
  have S1 := SS.later h1 SS.lt
  have R1 := RR.later h1 RR.lt
  clear SS RR h1 HB
  go_upto_region 3 with fail
  apply wp_region_lit
  refine wpList_load_mid rfl 32 _ rfl _ 0 rfl _ _ S1.range Tryz.underlying32 rfl (by rw [infoS]; rfl) ?_
  refine wpList_mv rfl _ rfl ?_
  refine wpList_store_mid rfl 32 _ _ rfl _ 0 (stC s (.slice ao s.W.length c)) rfl rfl (R1.there 0 _ (by rw [Z63_size, stC_size]; omega)) (by rw [infoS]; rfl) (stC_one _ _ _ _) ?_
  go_wp2
  exact stake_end2 Tryz.results151 R1 rfl HB1.out (by omega) s _ _ r HR.out _ rfl rfl rfl
set_option maxHeartbeats 4000000 in
theorem sbury_yes (s : St) (ao : Option Addr) (sb so c v : Nat) (w : World) (hW : WsAt w ao sb so s.W) (r : St × Int) (hg : goodS s = true) (hv : v < 6) (h1 : (s.V v).dead = true → r = (s, 15)) (h2 : (s.V v).dead = false → r = ((setJ s v true true), 0)) :
    Calls Tryz.prog 151 #[.agg (stC s (.slice ao s.W.length c)), .int .i64 (v : Int)] w fun e w' => e = .returned (.tuple #[.agg (stC r.1 (.slice ao s.W.length c)), .int .i64 r.2]) ∧ Below w.heap.size w w' := by
  have SS := (SAt.new w (stC s (.slice ao s.W.length c))).alloc (.cells Z63 32)
  have RR := SAt.new2 w (.cells (stC s (.slice ao s.W.length c)) 32) Z63
  have HB : Hid (Below w.heap.size w ((w.alloc (.cells (stC s (.slice ao s.W.length c)) 32)).alloc (.cells Z63 32))) := ((Below.refl _ w).alloc (Nat.le_refl _) _).alloc (by simp) _
  have HW := hide hW
  have Hh1 := hide h1
  have Hh2 := hide h2
  have hRf := refE_good hg hv
  have hv' : (v : Int) < 6 := by omega
  have hv0 : (0 : Int) ≤ (v : Int) := by omega
  clear hW h1 h2
  go_enter Tryz.func151, Tryz.ntmps151
  go_upto_region 1 with fail
  change Code.wp Tryz.prog _ _ _ ((w.alloc (.cells (stC s (.slice ao s.W.length c)) 32)).alloc (.cells Z63 32))
  generalize (w.alloc (.cells (stC s (.slice ao s.W.length c)) 32)).alloc (.cells Z63 32) = w0 at *
  go_upto_region 2 with (go_at_call 144; refine (refused_any s ao sb so c w.heap.size v _ SS (by exact HW.out.over HB.out)).mono ?_; rintro e w1 ⟨rfl, h1⟩)
  have HB1 := hide (HB.out.trans (h1.mono HB.out.size))
  have S1 := SS.later h1 SS.lt
  have R1 := RR.later h1 RR.lt
  clear SS RR h1 HB
  obtain ⟨c0, c1, c2, c3, c4⟩ := S1.val v hv
  have hz1 : w.heap.size + 1 < w1.heap.size := R1.lt
  clear c0 c1 c2
  go_upto_region 7 with (first | ((fail_if_success (go_not_at_region 6)); apply wp_region_lit; refine wpList_load_mid rfl 32 _ rfl _ 0 rfl _ _ S1.range Tryz.underlying32 rfl (by rw [infoS]; rfl) ?_; refine wpList_store_mid rfl 32 _ _ rfl _ 0 (stC s (.slice ao s.W.length c)) rfl rfl (R1.there 0 _ (by rw [Z63_size, stC_size]; omega)) (by rw [infoS]; rfl) (stC_one _ _ _ _) ?_))
  · exact stake_end2 Tryz.results151 R1 rfl HB1.out (by omega) s _ _ r (Hh1.out ‹(s.V v).dead = true›) _ rfl rfl rfl
  · have HR := hide (Hh2.out ‹(s.V v).dead = false›)
    have f0 := S1.free (7 + v * 5 + 3)
    have f1 := S1.free (7 + v * 5 + 4)
    have S2 := S1.set (7 + v * 5 + 3) (.bool true)
    rw [set_J _ _ v hv] at S2
    have S3 := S2.set (7 + v * 5 + 4) (.bool true)
    rw [set_D _ _ v hv] at S3
    have RZ : SAt ((w1.setCell ⟨w.heap.size, 7 + v * 5 + 3, none⟩ (.bool true)).setCell ⟨w.heap.size, 7 + v * 5 + 4, none⟩ (.bool true)) (w.heap.size + 1) Z63 := ((R1.other (by omega) (.bool true) : SAt _ _ _).other (by omega) (.bool true) : SAt _ _ _)
    have HZ := hide ((HB1.out.setCell (p := ⟨w.heap.size, 7 + v * 5 + 3, none⟩) (Nat.le_refl _) (.bool true)).setCell (p := ⟨w.heap.size, 7 + v * 5 + 4, none⟩) (Nat.le_refl _) (.bool true))
    clear S1 R1 HB1
    go_upto_region 8 with fail
    generalize ((w1.setCell ⟨w.heap.size, 7 + v * 5 + 3, none⟩ (.bool true)).setCell ⟨w.heap.size, 7 + v * 5 + 4, none⟩ (.bool true)) = w9 at *
    apply wp_region_lit
    refine wpList_load_mid rfl 32 _ rfl _ 0 rfl _ _ S3.range Tryz.underlying32 rfl (by rw [infoS]; rfl) ?_
    refine wpList_store_mid rfl 32 _ _ rfl _ 0 (stC (setJ s v true true) (.slice ao s.W.length c)) rfl rfl (RZ.there 0 _ (by rw [Z63_size, stC_size]; omega)) (by rw [infoS]; rfl) (stC_one _ _ _ _) ?_
    go_wp2
    exact stake_end2 Tryz.results151 RZ rfl HZ.out (by omega) (setJ s v true true) (.slice ao s.W.length c) 0 r HR.out _ rfl rfl rfl
theorem sbury_any (s : St) (ao : Option Addr) (sb so c : Nat) (v : Int) (w : World) (hW : WsAt w ao sb so s.W) :
    Calls Tryz.prog 151 #[.agg (stC s (.slice ao s.W.length c)), .int .i64 v] w fun e w' => e = .returned (.tuple #[.agg (stC (buryS s v).1 (.slice ao s.W.length c)), .int .i64 (buryS s v).2]) ∧ Below w.heap.size w w' := by
  by_cases h : refE s v = 0
  · obtain ⟨hg, v0, v1⟩ := refE_zero h
    obtain ⟨v, rfl⟩ := Int.eq_ofNat_of_zero_le v0
    exact sbury_yes s ao sb so c v w hW _ hg (by omega) (fun h1 => by rw [buryS, if_pos h]; exact if_pos h1) (fun h1 => by rw [buryS, if_pos h]; exact if_neg (by simp [h1]))
  · exact sbury_no s ao sb so c v w hW _ h (by unfold buryS; exact if_neg h)
end Go.Proofs.YtjghbciepinofaaGreat

set_option maxRecDepth 100000
namespace Go.Proofs.YtjghbciepinofaaGreat
open Go.RowKit
theorem eqNil (w : World) (a : Option Addr) (n c : Nat) : (binOp .eql 30 (.slice a n c) (.slice none 0 0)).run Tryz.prog w = .ok (.bool a.isNone) w := by
  simp [binOp, run_equal_slice_nil w 30 127 a n c Tryz.underlying30]
theorem clone_nil (c : Nat) (w : World) : Calls Tryz.prog 146 #[.slice none 0 c] w fun e w' => e = .returned (.slice none 0 0) ∧ w = w' := by
  have hq := fun w => eqNil w none 0 c
  go_enter Tryz.func146, Tryz.ntmps146
  go_wp2
  go_ret
  exact ⟨rfl, rfl⟩
theorem wtL_one (W : List Wt) : ∀ u ∈ wsL W, u.oneCell' = true := by
  intro u hu
  obtain ⟨x, _, hx⟩ := List.mem_flatMap.1 hu
  simp [wtL] at hx
  rcases hx with rfl | rfl | rfl | rfl | rfl | rfl | rfl | rfl <;> rfl
theorem own_nil (w : World) : (w.alloc (.cells #[] 127)).ownsRow w.heap.size 127 8 (.slice (some ⟨w.heap.size, 0, none⟩) 0 0) 0 [] := ⟨rfl, .inr ⟨w.heap.size, 0, #[], rfl, Nat.le_refl _, heap_alloc_new _ _, Nat.le_refl _, Nat.zero_le _, rfl, rfl⟩⟩
theorem ap_clone (w : World) (a : Addr) (c sb so : Nat) (W : List Wt) (hW : WsAt w (some a) sb so W) :
    ∃ A C w', (Builtin.append_ #[30, 30] 30 #[.slice (some ⟨w.heap.size, 0, none⟩) 0 0, .slice (some a) W.length c]).run Tryz.prog (w.alloc (.cells #[] 127)) = .ok (.slice A W.length C) w' ∧ OwnW w.heap.size w' A C W ∧ Below w.heap.size w w' := by
  obtain ⟨i0, hi, hz0, hz1, hz2⟩ := info_parts info44
  have hl := hW.len
  obtain ⟨v', w', hr, ho, hg, -, hat⟩ := run_append_own_at (P := Tryz.prog) (w.alloc (.cells #[] 127)) w.heap.size 30 30 127 i0 _ 8 64 Tryz.underlying30 hi hz0 hz1 hz2 rfl (by omega) _ 0 [] (own_nil w) a W.length c (wsL W) (wsL_length W)
    (fun j u hj => by
      have h0 : 0 < W.length := by
        have := (List.getElem?_eq_some_iff.1 hj).1
        rw [wsL_length] at this
        omega
      have ha := hW.adr h0
      cases ha
      rw [Addr.add_lit]
      exact ws_cells (hW.over ((Below.refl _ w).alloc (Nat.le_refl _) _)) j u hj) (wtL_one W) (by simp only [maxLen]; omega) (by omega) (by simp)
  rw [Nat.zero_add, List.nil_append] at ho
  have hv : ∃ A C, v' = .slice A W.length C := by
    rcases ho.2 with ⟨rfl, h0⟩ | ⟨g, cap, cur, rfl, _⟩
    · rw [h0]; exact ⟨none, 0, rfl⟩
    · exact ⟨_, _, rfl⟩
  obtain ⟨A, C, rfl⟩ := hv
  refine ⟨A, C, w', hr, ho, ?_⟩
  have hb := (Below.refl w.heap.size w).alloc (Nat.le_refl _) (.cells #[] 127)
  exact ⟨hg.os.trans hb.os, hg.tape.trans hb.tape, hg.output.trans hb.output, Nat.le_trans hb.size hg.size, fun k hk => (hg.block k (by simp; omega) (by simp [Value.ownBlock]; omega)).trans (hb.block k hk)⟩
theorem wpList_cl {ops : Array Oper} {rest : List Oper} {o : Oper} {a : Act} {w : World} {Q : Exit → Act → World → Prop} (hg : o.guard = none) (hty : o.type = 30) (p q : Operand)
    (hop : o.op = Op.call { callee := Callee.builtin Builtin.append, args := #[p, q], argTypes := #[30, 30] }) (ad : Addr) (c sb so : Nat) (W : List Wt) (hs : a.eval p = .slice (some ⟨w.heap.size, 0, none⟩) 0 0) (hx : a.eval q = .slice (some ad) W.length c) (hW : WsAt w (some ad) sb so W)
    (hK : ∀ A C w', OwnW w.heap.size w' A C W ∧ Below w.heap.size w w' → wpList Tryz.prog ops Q rest (a.put o.dst (.slice A W.length C)) w') : wpList Tryz.prog ops Q (o :: rest) a (w.alloc (.cells #[] 127)) := by
  refine wpList_plain hg fun _ hK' => ?_
  unfold Oper.wp
  obtain ⟨A, C, w', hr, h1⟩ := ap_clone w ad c sb so W hW
  simp [execOp, hop, resolve, invoke, builtin, hs, hx, hty, hr, Result.andThen]
  exact hK' _ _ (hK _ _ _ h1)
theorem clone_some (a : Addr) (W : List Wt) (c sb so : Nat) (w : World) (hW : WsAt w (some a) sb so W) : Calls Tryz.prog 146 #[.slice (some a) W.length c] w fun e w' => ∃ A C, e = .returned (.slice A W.length C) ∧ OwnW w.heap.size w' A C W ∧ Below w.heap.size w w' := by
  have hq := fun w => eqNil w (some a) W.length c
  go_enter Tryz.func146, Tryz.ntmps146
  go_upto_region 3 with fail
  apply wp_region_lit
  iterate 6 go_step
  refine wpList_cl rfl rfl _ _ rfl a c sb so W rfl rfl hW ?_
  rintro A C w' ⟨h1, h2⟩
  have H1 := hide h1
  have H2 := hide h2
  clear h1 h2
  go_wp2
  go_ret
  exact ⟨A, C, rfl, H1.out, H2.out⟩
/-- a list of waits cloned -/
theorem clone_any (ao : Option Addr) (W : List Wt) (c sb so : Nat) (w : World) (hW : WsAt w ao sb so W) : Calls Tryz.prog 146 #[.slice ao W.length c] w fun e w' => ∃ A C, e = .returned (.slice A W.length C) ∧ OwnW w.heap.size w' A C W ∧ Below w.heap.size w w' := by
  cases ao with
  | some a => exact clone_some a W c sb so w hW
  | none =>
    have h0 : W.length = 0 := by
      rcases Nat.eq_zero_or_pos W.length with h0 | h0
      · exact h0
      · have := hW.adr h0; cases this
    obtain rfl : W = [] := List.length_eq_zero_iff.1 h0
    refine (clone_nil c w).mono ?_
    rintro e w' ⟨rfl, rfl⟩
    exact ⟨none, 0, rfl, ⟨rfl, .inl ⟨rfl, rfl⟩⟩, Below.refl _ _⟩
end Go.Proofs.YtjghbciepinofaaGreat

