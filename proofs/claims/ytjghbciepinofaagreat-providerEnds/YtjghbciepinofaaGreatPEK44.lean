/- Parts of the proof: SW2 SW3 P SV. -/
import Derived.Test.YtjghbciepinofaaGreatRows
import Derived.Test.YtjghbciepinofaaGreatPEK24
import Derived.Test.YtjghbciepinofaaGreatPEK28
import Derived.Test.YtjghbciepinofaaGreatPEK36
import Derived.Deep.RegionLaw
set_option maxRecDepth 100000
namespace Go.Proofs.YtjghbciepinofaaGreat
open Go.RowKit
/-- a wait's eight cells lie in a block -/
def YAt (w : World) (y : Nat) (x : Wt) : Prop := w.heap[y]? = some (.cells #[.int .i64 x.num, .int .i64 x.d, .int .i64 x.v, .int .i64 x.amt, .int .i64 x.hei, .int .i64 x.due, .int .i64 x.h0, .int .i64 x.h1] 127)
theorem YAt.later {w w' : World} {y B : Nat} {x : Wt} (h : YAt w y x) (hb : Below B w w') (hB : y < B) : YAt w' y x := (hb.block y hB).trans h
theorem YAt.lt {w : World} {y : Nat} {x : Wt} (h : YAt w y x) : y < w.heap.size := (Array.getElem?_eq_some_iff.1 h).1
theorem YAt.cells {w : World} {y : Nat} {x : Wt} (h : YAt w y x) : w.cell? ⟨y, 0, none⟩ = some (.int .i64 x.num) ∧ w.cell? ⟨y, 1, none⟩ = some (.int .i64 x.d) ∧ w.cell? ⟨y, 2, none⟩ = some (.int .i64 x.v) ∧ w.cell? ⟨y, 3, none⟩ = some (.int .i64 x.amt) ∧ w.cell? ⟨y, 4, none⟩ = some (.int .i64 x.hei) ∧ w.cell? ⟨y, 5, none⟩ = some (.int .i64 x.due) ∧ w.cell? ⟨y, 6, none⟩ = some (.int .i64 x.h0) ∧ w.cell? ⟨y, 7, none⟩ = some (.int .i64 x.h1) := by
  unfold YAt at h
  simp [World.cell?, h]
theorem YAt.new (w : World) (o p : Obj) (x : Wt) : YAt (((w.alloc o).alloc (.cells #[.int .i64 x.num, .int .i64 x.d, .int .i64 x.v, .int .i64 x.amt, .int .i64 x.hei, .int .i64 x.due, .int .i64 x.h0, .int .i64 x.h1] 127)).alloc p) (w.heap.size + 1) x := by
  have h : YAt ((w.alloc o).alloc (.cells #[.int .i64 x.num, .int .i64 x.d, .int .i64 x.v, .int .i64 x.amt, .int .i64 x.hei, .int .i64 x.due, .int .i64 x.h0, .int .i64 x.h1] 127)) (w.alloc o).heap.size x := heap_alloc_new _ _
  rw [show (w.alloc o).heap.size = w.heap.size + 1 by simp] at h
  exact h.later ((Below.refl _ _).alloc (Nat.le_refl _) _) h.lt
end Go.Proofs.YtjghbciepinofaaGreat

set_option maxRecDepth 100000
namespace Go.Proofs.YtjghbciepinofaaGreat
open Go.RowKit
theorem wt_new (w : World) (x : Wt) (e : TypeId) : ∀ j v, (wtL x)[j]? = some v → (w.alloc (.cells #[.int .i64 x.num, .int .i64 x.d, .int .i64 x.v, .int .i64 x.amt, .int .i64 x.hei, .int .i64 x.due, .int .i64 x.h0, .int .i64 x.h1] e)).cell? ⟨w.heap.size, j, none⟩ = some v := by
  intro j v hj
  rw [World.cell?_alloc_at _ _ _ _ rfl]
  simpa [wtL] using hj
theorem YAt.set4 {w : World} {b : Nat} {x : Wt} (h : YAt w b x) (a1 a2 a3 a4 : Int) : YAt ((((w.setCell ⟨b, 0, none⟩ (.int .i64 a1)).setCell ⟨b, 1, none⟩ (.int .i64 a2)).setCell ⟨b, 2, none⟩ (.int .i64 a3)).setCell ⟨b, 3, none⟩ (.int .i64 a4)) b { x with num := a1, d := a2, v := a3, amt := a4 } := by
  unfold YAt at *
  simp [World.setCell, Array.getElem?_modify, h]
theorem YAt.free {w : World} {b : Nat} {x : Wt} (h : YAt w b x) (o : Nat) : w.frozen? ⟨b, o, none⟩ = false := by
  unfold YAt at h
  simp [World.frozen?, h]
end Go.Proofs.YtjghbciepinofaaGreat

set_option maxRecDepth 100000
namespace Go.Proofs.YtjghbciepinofaaGreat
theorem mv_fail {b : Bk} {f t : Nat} {n : Int} (h : (mv b f t n).2 ≠ 0) : (mv b f t n).1 = b := by
  unfold mv at *
  split
  · rfl
  · rename_i h1
    rw [if_neg h1] at h
    split
    · rfl
    · rename_i h2
      rw [if_neg h2] at h
      exact absurd rfl h
theorem mv_make {b : Bk} {f t : Nat} {n : Int} (hg : b.good = true) (h0 : 0 ≤ n) (h1 : n ≤ 1125899906842624) (h2 : n ≤ b.get f) : mv b f t n = ((b.put f (b.get f - n)).put t (b.get t + n), 0) := by
  unfold mv
  rw [if_neg (by rw [hg]; simp [h0, h1]), if_neg (by omega)]
theorem mv_zero {b : Bk} {f t : Nat} {n : Int} (h : (mv b f t n).2 = 0) : b.good = true ∧ 0 ≤ n ∧ n ≤ 1125899906842624 ∧ n ≤ b.get f ∧ mv b f t n = ((b.put f (b.get f - n)).put t (b.get t + n), 0) := by
  by_cases h1 : b.good = false ∨ ¬ (0 ≤ n ∧ n ≤ 1125899906842624)
  · unfold mv at h
    rw [if_pos h1] at h
    exact absurd h (by simp)
  · by_cases h2 : b.get f < n
    · unfold mv at h
      rw [if_neg h1, if_pos h2] at h
      exact absurd h (by simp)
    · have hg : b.good = true := by
        cases hb : b.good with
        | true => rfl
        | false => exact absurd (.inl hb) h1
      have hn : 0 ≤ n ∧ n ≤ 1125899906842624 := Decidable.byContradiction fun hn => h1 (.inr hn)
      exact ⟨hg, hn.1, hn.2, by omega, mv_make hg hn.1 hn.2 (by omega)⟩
/-- the moves that there are -/
def Goes (f t : Nat) : Prop := (f < 4 ∧ t = 4) ∨ (f = 5 ∧ t < 4) ∨ (f = 4 ∧ t = 5) ∨ (f = 4 ∧ t = 6) ∨ (f = 5 ∧ t = 6)
theorem good_iff (b : Bk) : b.good = true ↔ (0 ≤ b.f0 ∧ b.f0 ≤ 400000) ∧ (0 ≤ b.f1 ∧ b.f1 ≤ 400000) ∧ (0 ≤ b.f2 ∧ b.f2 ≤ 400000) ∧ (0 ≤ b.f3 ∧ b.f3 ≤ 400000) ∧ (0 ≤ b.bo ∧ b.bo ≤ 400000) ∧ (0 ≤ b.wa ∧ b.wa ≤ 400000) ∧ (0 ≤ b.bu ∧ b.bu ≤ 400000) ∧ b.f0 + b.f1 + b.f2 + b.f3 + b.bo + b.wa + b.bu = 400000 := by
  unfold Bk.good goodB
  exact decide_eq_true_iff
theorem good_mv {b : Bk} {f t : Nat} {n : Int} (hft : Goes f t) (hg : b.good = true) (h0 : 0 ≤ n) (h2 : n ≤ b.get f) :
    ((b.put f (b.get f - n)).put t (b.get t + n)).good = true ∧ b.bu ≤ ((b.put f (b.get f - n)).put t (b.get t + n)).bu := by
  rw [good_iff] at *
  rcases hft with ⟨hf, rfl⟩ | ⟨rfl, ht⟩ | ⟨rfl, rfl⟩ | ⟨rfl, rfl⟩ | ⟨rfl, rfl⟩
  · rcases (show f = 0 ∨ f = 1 ∨ f = 2 ∨ f = 3 by omega) with rfl | rfl | rfl | rfl <;> simp only [Bk.get, Bk.put] at * <;> omega
  · rcases (show t = 0 ∨ t = 1 ∨ t = 2 ∨ t = 3 by omega) with rfl | rfl | rfl | rfl <;> simp only [Bk.get, Bk.put] at * <;> omega
  all_goals simp only [Bk.get, Bk.put] at * <;> omega
/-- what is asked of whatever moves -/
structure Kept (b : Bk) (r : Bk × Int) : Prop where
  no : r.2 ≠ 0 → r.1 = b
  yes : r.2 = 0 → b.good = true ∧ r.1.good = true ∧ b.bu ≤ r.1.bu
theorem kept_mv (b : Bk) {f t : Nat} (n : Int) (hft : Goes f t) : Kept b (mv b f t n) := by
  refine ⟨mv_fail, fun h => ?_⟩
  obtain ⟨h1, h2, h3, h4, h5⟩ := mv_zero h
  rw [h5]
  exact ⟨h1, good_mv hft h1 h2 h4⟩
theorem kept_pay (b : Bk) (d n : Int) : Kept b (payR b d n) := by
  unfold payR
  split
  · exact kept_mv b n (.inr (.inl ⟨rfl, by omega⟩))
  · exact ⟨fun _ => rfl, fun h => absurd h (by simp)⟩
end Go.Proofs.YtjghbciepinofaaGreat

set_option maxRecDepth 100000
namespace Go.Proofs.YtjghbciepinofaaGreat
open Go.RowKit
/-- a validator is jailed or not, dead or not -/
def setJ (s : St) (v : Nat) (j d : Bool) : St := { s with V := setV s.V v { s.V v with jail := j, dead := d } }
theorem set_J (s : St) (sl : Value) (v : Nat) (hv : v < 6) (x : Bool) : (stC s sl).setIfInBounds (7 + v * 5 + 3) (.bool x) = stC (setJ s v x (s.V v).dead) sl := set_jail s sl v hv x
theorem set_D (s : St) (sl : Value) (v : Nat) (hv : v < 6) (j d x : Bool) : (stC (setJ s v j d) sl).setIfInBounds (7 + v * 5 + 4) (.bool x) = stC (setJ s v j x) sl := by
  rw [set_dead _ sl v hv x]
  unfold setJ
  simp only [setV_setV, setV_at]
def jailS (s : St) (v : Int) : St × Int :=
  if refE s v = 0 then if (s.V v.toNat).jail = true then (s, 14) else (setJ s v.toNat true (s.V v.toNat).dead, 0) else (s, refE s v)
def buryS (s : St) (v : Int) : St × Int :=
  if refE s v = 0 then if (s.V v.toNat).dead = true then (s, 15) else (setJ s v.toNat true true, 0) else (s, refE s v)
theorem refE_zero {s : St} {v : Int} (h : refE s v = 0) : goodS s = true ∧ (0 ≤ v ∧ v < 6) := by
  unfold refE at h
  repeat' split at h
  all_goals first | (simp_all [isV_iff]; done) | omega
theorem refE_good {s : St} {v : Nat} (hg : goodS s = true) (hv : v < 6) : refE s v = 0 := by
  unfold refE
  rw [hg, isV_iff.2 (show (0 : Int) ≤ v ∧ (v : Int) < 6 by omega)]
  rfl
set_option maxHeartbeats 4000000 in
theorem sjail_no (s : St) (ao : Option Addr) (sb so c : Nat) (v : Int) (w : World) (hW : WsAt w ao sb so s.W) (r : St × Int) (h0 : refE s v ≠ 0) (hr : r = (s, refE s v)) :
    Calls Tryz.prog 148 #[.agg (stC s (.slice ao s.W.length c)), .int .i64 v] w fun e w' => e = .returned (.tuple #[.agg (stC r.1 (.slice ao s.W.length c)), .int .i64 r.2]) ∧ Below w.heap.size w w' := by
  have SS := (SAt.new w (stC s (.slice ao s.W.length c))).alloc (.cells Z63 32)
  have RR := SAt.new2 w (.cells (stC s (.slice ao s.W.length c)) 32) Z63
  have HB : Hid (Below w.heap.size w ((w.alloc (.cells (stC s (.slice ao s.W.length c)) 32)).alloc (.cells Z63 32))) := ((Below.refl _ w).alloc (Nat.le_refl _) _).alloc (by simp) _
  have HW := hide hW
  have HR := hide hr
  clear hW hr
  go_enter Tryz.func148, Tryz.ntmps148
  go_upto_region 1 with fail
  change Code.wp Tryz.prog _ _ _ ((w.alloc (.cells (stC s (.slice ao s.W.length c)) 32)).alloc (.cells Z63 32))
  generalize (w.alloc (.cells (stC s (.slice ao s.W.length c)) 32)).alloc (.cells Z63 32) = w0 at *
  go_upto_region 2 with (go_at_call 144; refine (refused_any s ao sb so c w.heap.size v _ SS (by exact HW.out.over HB.out)).mono ?_; rintro e w1 ⟨rfl, h1⟩)
  have HB1 := hide (HB.out.trans (h1.mono HB.out.size))
  have S1 := SS.later h1 SS.lt
  have R1 := RR.later h1 RR.lt
  clear SS RR h1 HB
  go_upto_region 3 with fail
  apply wp_region_lit
  refine wpList_load_mid rfl 32 _ rfl _ 0 rfl _ _ S1.range Tryz.underlying32 rfl (by rw [infoS]; rfl) ?_
  refine wpList_mv rfl _ rfl ?_
  refine wpList_store_mid rfl 32 _ _ rfl _ 0 (stC s (.slice ao s.W.length c)) rfl rfl (R1.there 0 _ (by rw [Z63_size, stC_size]; omega)) (by rw [infoS]; rfl) (stC_one _ _ _ _) ?_
  go_wp2
  exact stake_end2 Tryz.results148 R1 rfl HB1.out (by omega) s _ _ r HR.out _ rfl rfl rfl
set_option maxHeartbeats 4000000 in
theorem sjail_yes (s : St) (ao : Option Addr) (sb so c v : Nat) (w : World) (hW : WsAt w ao sb so s.W) (r : St × Int) (hg : goodS s = true) (hv : v < 6) (h1 : (s.V v).jail = true → r = (s, 14)) (h2 : (s.V v).jail = false → r = ((setJ s v true (s.V v).dead), 0)) :
    Calls Tryz.prog 148 #[.agg (stC s (.slice ao s.W.length c)), .int .i64 (v : Int)] w fun e w' => e = .returned (.tuple #[.agg (stC r.1 (.slice ao s.W.length c)), .int .i64 r.2]) ∧ Below w.heap.size w w' := by
  have SS := (SAt.new w (stC s (.slice ao s.W.length c))).alloc (.cells Z63 32)
  have RR := SAt.new2 w (.cells (stC s (.slice ao s.W.length c)) 32) Z63
  have HB : Hid (Below w.heap.size w ((w.alloc (.cells (stC s (.slice ao s.W.length c)) 32)).alloc (.cells Z63 32))) := ((Below.refl _ w).alloc (Nat.le_refl _) _).alloc (by simp) _
  have HW := hide hW
  have Hh1 := hide h1
  have Hh2 := hide h2
  have hRf := refE_good hg hv
  have hv' : (v : Int) < 6 := by omega
  have hv0 : (0 : Int) ≤ (v : Int) := by omega
  clear hW h1 h2
  go_enter Tryz.func148, Tryz.ntmps148
  go_upto_region 1 with fail
  change Code.wp Tryz.prog _ _ _ ((w.alloc (.cells (stC s (.slice ao s.W.length c)) 32)).alloc (.cells Z63 32))
  generalize (w.alloc (.cells (stC s (.slice ao s.W.length c)) 32)).alloc (.cells Z63 32) = w0 at *
  go_upto_region 2 with (go_at_call 144; refine (refused_any s ao sb so c w.heap.size v _ SS (by exact HW.out.over HB.out)).mono ?_; rintro e w1 ⟨rfl, h1⟩)
  have HB1 := hide (HB.out.trans (h1.mono HB.out.size))
  have S1 := SS.later h1 SS.lt
  have R1 := RR.later h1 RR.lt
  clear SS RR h1 HB
  obtain ⟨c0, c1, c2, c3, c4⟩ := S1.val v hv
  have hz1 : w.heap.size + 1 < w1.heap.size := R1.lt
  clear c0 c1 c2
  go_upto_region 7 with (first | ((fail_if_success (go_not_at_region 6)); apply wp_region_lit; refine wpList_load_mid rfl 32 _ rfl _ 0 rfl _ _ S1.range Tryz.underlying32 rfl (by rw [infoS]; rfl) ?_; refine wpList_store_mid rfl 32 _ _ rfl _ 0 (stC s (.slice ao s.W.length c)) rfl rfl (R1.there 0 _ (by rw [Z63_size, stC_size]; omega)) (by rw [infoS]; rfl) (stC_one _ _ _ _) ?_))
  · exact stake_end2 Tryz.results148 R1 rfl HB1.out (by omega) s _ _ r (Hh1.out ‹(s.V v).jail = true›) _ rfl rfl rfl
  · have HR := hide (Hh2.out ‹(s.V v).jail = false›)
    have f0 := S1.free (7 + v * 5 + 3)
    have S2 := S1.set (7 + v * 5 + 3) (.bool true)
    rw [set_J _ _ v hv] at S2
    have RZ : SAt (w1.setCell ⟨w.heap.size, 7 + v * 5 + 3, none⟩ (.bool true)) (w.heap.size + 1) Z63 := (R1.other (by omega) (.bool true) : SAt _ _ _)
    have HZ := hide (HB1.out.setCell (p := ⟨w.heap.size, 7 + v * 5 + 3, none⟩) (Nat.le_refl _) (.bool true))
    clear S1 R1 HB1
    go_upto_region 8 with fail
    generalize (w1.setCell ⟨w.heap.size, 7 + v * 5 + 3, none⟩ (.bool true)) = w9 at *
    apply wp_region_lit
    refine wpList_load_mid rfl 32 _ rfl _ 0 rfl _ _ S2.range Tryz.underlying32 rfl (by rw [infoS]; rfl) ?_
    refine wpList_store_mid rfl 32 _ _ rfl _ 0 (stC (setJ s v true (s.V v).dead) (.slice ao s.W.length c)) rfl rfl (RZ.there 0 _ (by rw [Z63_size, stC_size]; omega)) (by rw [infoS]; rfl) (stC_one _ _ _ _) ?_
    go_wp2
    exact stake_end2 Tryz.results148 RZ rfl HZ.out (by omega) (setJ s v true (s.V v).dead) (.slice ao s.W.length c) 0 r HR.out _ rfl rfl rfl
theorem sjail_any (s : St) (ao : Option Addr) (sb so c : Nat) (v : Int) (w : World) (hW : WsAt w ao sb so s.W) :
    Calls Tryz.prog 148 #[.agg (stC s (.slice ao s.W.length c)), .int .i64 v] w fun e w' => e = .returned (.tuple #[.agg (stC (jailS s v).1 (.slice ao s.W.length c)), .int .i64 (jailS s v).2]) ∧ Below w.heap.size w w' := by
  by_cases h : refE s v = 0
  · obtain ⟨hg, v0, v1⟩ := refE_zero h
    obtain ⟨v, rfl⟩ := Int.eq_ofNat_of_zero_le v0
    exact sjail_yes s ao sb so c v w hW _ hg (by omega) (fun h1 => by rw [jailS, if_pos h]; exact if_pos h1) (fun h1 => by rw [jailS, if_pos h]; exact if_neg (by simp [h1]))
  · exact sjail_no s ao sb so c v w hW _ h (by unfold jailS; exact if_neg h)
set_option maxHeartbeats 4000000 in
theorem sbury_no (s : St) (ao : Option Addr) (sb so c : Nat) (v : Int) (w : World) (hW : WsAt w ao sb so s.W) (r : St × Int) (h0 : refE s v ≠ 0) (hr : r = (s, refE s v)) :
    Calls Tryz.prog 151 #[.agg (stC s (.slice ao s.W.length c)), .int .i64 v] w fun e w' => e = .returned (.tuple #[.agg (stC r.1 (.slice ao s.W.length c)), .int .i64 r.2]) ∧ Below w.heap.size w w' := by
  have SS := (SAt.new w (stC s (.slice ao s.W.length c))).alloc (.cells Z63 32)
  have RR := SAt.new2 w (.cells (stC s (.slice ao s.W.length c)) 32) Z63
  have HB : Hid (Below w.heap.size w ((w.alloc (.cells (stC s (.slice ao s.W.length c)) 32)).alloc (.cells Z63 32))) := ((Below.refl _ w).alloc (Nat.le_refl _) _).alloc (by simp) _
  have HW := hide hW
  have HR := hide hr
  clear hW hr
  go_enter Tryz.func151, Tryz.ntmps151
  go_upto_region 1 with fail
  change Code.wp Tryz.prog _ _ _ ((w.alloc (.cells (stC s (.slice ao s.W.length c)) 32)).alloc (.cells Z63 32))
  generalize (w.alloc (.cells (stC s (.slice ao s.W.length c)) 32)).alloc (.cells Z63 32) = w0 at *
  go_upto_region 2 with (go_at_call 144; refine (refused_any s ao sb so c w.heap.size v _ SS (by exact HW.out.over HB.out)).mono ?_; rintro e w1 ⟨rfl, h1⟩)
  have HB1 := hide (HB.out.trans (h1.mono HB.out.size))
  have S1 := SS.later h1 SS.lt
  have R1 := RR.later h1 RR.lt
  clear SS RR h1 HB
  go_upto_region 3 with fail
  apply wp_region_lit
  refine wpList_load_mid rfl 32 _ rfl _ 0 rfl _ _ S1.range Tryz.underlying32 rfl (by rw [infoS]; rfl) ?_
  refine wpList_mv rfl _ rfl ?_
  refine wpList_store_mid rfl 32 _ _ rfl _ 0 (stC s (.slice ao s.W.length c)) rfl rfl (R1.there 0 _ (by rw [Z63_size, stC_size]; omega)) (by rw [infoS]; rfl) (stC_one _ _ _ _) ?_
  go_wp2
  exact stake_end2 Tryz.results151 R1 rfl HB1.out (by omega) s _ _ r HR.out _ rfl rfl rfl
set_option maxHeartbeats 4000000 in
theorem sbury_yes (s : St) (ao : Option Addr) (sb so c v : Nat) (w : World) (hW : WsAt w ao sb so s.W) (r : St × Int) (hg : goodS s = true) (hv : v < 6) (h1 : (s.V v).dead = true → r = (s, 15)) (h2 : (s.V v).dead = false → r = ((setJ s v true true), 0)) :
    Calls Tryz.prog 151 #[.agg (stC s (.slice ao s.W.length c)), .int .i64 (v : Int)] w fun e w' => e = .returned (.tuple #[.agg (stC r.1 (.slice ao s.W.length c)), .int .i64 r.2]) ∧ Below w.heap.size w w' := by
  have SS := (SAt.new w (stC s (.slice ao s.W.length c))).alloc (.cells Z63 32)
  have RR := SAt.new2 w (.cells (stC s (.slice ao s.W.length c)) 32) Z63
  have HB : Hid (Below w.heap.size w ((w.alloc (.cells (stC s (.slice ao s.W.length c)) 32)).alloc (.cells Z63 32))) := ((Below.refl _ w).alloc (Nat.le_refl _) _).alloc (by simp) _
  have HW := hide hW
  have Hh1 := hide h1
  have Hh2 := hide h2
  have hRf := refE_good hg hv
  have hv' : (v : Int) < 6 := by omega
  have hv0 : (0 : Int) ≤ (v : Int) := by omega
  clear hW h1 h2
  go_enter Tryz.func151, Tryz.ntmps151
  go_upto_region 1 with fail
  change Code.wp Tryz.prog _ _ _ ((w.alloc (.cells (stC s (.slice ao s.W.length c)) 32)).alloc (.cells Z63 32))
  generalize (w.alloc (.cells (stC s (.slice ao s.W.length c)) 32)).alloc (.cells Z63 32) = w0 at *
  go_upto_region 2 with (go_at_call 144; refine (refused_any s ao sb so c w.heap.size v _ SS (by exact HW.out.over HB.out)).mono ?_; rintro e w1 ⟨rfl, h1⟩)
  have HB1 := hide (HB.out.trans (h1.mono HB.out.size))
  have S1 := SS.later h1 SS.lt
  have R1 := RR.later h1 RR.lt
  clear SS RR h1 HB
  obtain ⟨c0, c1, c2, c3, c4⟩ := S1.val v hv
  have hz1 : w.heap.size + 1 < w1.heap.size := R1.lt
  clear c0 c1 c2
  go_upto_region 7 with (first | ((fail_if_success (go_not_at_region 6)); apply wp_region_lit; refine wpList_load_mid rfl 32 _ rfl _ 0 rfl _ _ S1.range Tryz.underlying32 rfl (by rw [infoS]; rfl) ?_; refine wpList_store_mid rfl 32 _ _ rfl _ 0 (stC s (.slice ao s.W.length c)) rfl rfl (R1.there 0 _ (by rw [Z63_size, stC_size]; omega)) (by rw [infoS]; rfl) (stC_one _ _ _ _) ?_))
  · exact stake_end2 Tryz.results151 R1 rfl HB1.out (by omega) s _ _ r (Hh1.out ‹(s.V v).dead = true›) _ rfl rfl rfl
  · have HR := hide (Hh2.out ‹(s.V v).dead = false›)
    have f0 := S1.free (7 + v * 5 + 3)
    have f1 := S1.free (7 + v * 5 + 4)
    have S2 := S1.set (7 + v * 5 + 3) (.bool true)
    rw [set_J _ _ v hv] at S2
    have S3 := S2.set (7 + v * 5 + 4) (.bool true)
    rw [set_D _ _ v hv] at S3
    have RZ : SAt ((w1.setCell ⟨w.heap.size, 7 + v * 5 + 3, none⟩ (.bool true)).setCell ⟨w.heap.size, 7 + v * 5 + 4, none⟩ (.bool true)) (w.heap.size + 1) Z63 := ((R1.other (by omega) (.bool true) : SAt _ _ _).other (by omega) (.bool true) : SAt _ _ _)
    have HZ := hide ((HB1.out.setCell (p := ⟨w.heap.size, 7 + v * 5 + 3, none⟩) (Nat.le_refl _) (.bool true)).setCell (p := ⟨w.heap.size, 7 + v * 5 + 4, none⟩) (Nat.le_refl _) (.bool true))
    clear S1 R1 HB1
    go_upto_region 8 with fail
    generalize ((w1.setCell ⟨w.heap.size, 7 + v * 5 + 3, none⟩ (.bool true)).setCell ⟨w.heap.size, 7 + v * 5 + 4, none⟩ (.bool true)) = w9 at *
    apply wp_region_lit
    refine wpList_load_mid rfl 32 _ rfl _ 0 rfl _ _ S3.range Tryz.underlying32 rfl (by rw [infoS]; rfl) ?_
    refine wpList_store_mid rfl 32 _ _ rfl _ 0 (stC (setJ s v true true) (.slice ao s.W.length c)) rfl rfl (RZ.there 0 _ (by rw [Z63_size, stC_size]; omega)) (by rw [infoS]; rfl) (stC_one _ _ _ _) ?_
    go_wp2
    exact stake_end2 Tryz.results151 RZ rfl HZ.out (by omega) (setJ s v true true) (.slice ao s.W.length c) 0 r HR.out _ rfl rfl rfl
theorem sbury_any (s : St) (ao : Option Addr) (sb so c : Nat) (v : Int) (w : World) (hW : WsAt w ao sb so s.W) :
    Calls Tryz.prog 151 #[.agg (stC s (.slice ao s.W.length c)), .int .i64 v] w fun e w' => e = .returned (.tuple #[.agg (stC (buryS s v).1 (.slice ao s.W.length c)), .int .i64 (buryS s v).2]) ∧ Below w.heap.size w w' := by
  by_cases h : refE s v = 0
  · obtain ⟨hg, v0, v1⟩ := refE_zero h
    obtain ⟨v, rfl⟩ := Int.eq_ofNat_of_zero_le v0
    exact sbury_yes s ao sb so c v w hW _ hg (by omega) (fun h1 => by rw [buryS, if_pos h]; exact if_pos h1) (fun h1 => by rw [buryS, if_pos h]; exact if_neg (by simp [h1]))
  · exact sbury_no s ao sb so c v w hW _ h (by unfold buryS; exact if_neg h)
end Go.Proofs.YtjghbciepinofaaGreat

