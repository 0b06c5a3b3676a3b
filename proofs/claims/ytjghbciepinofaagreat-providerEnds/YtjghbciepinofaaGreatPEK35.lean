/- Parts of the proof: SF SG SI SJ. -/
import Derived.Test.YtjghbciepinofaaGreatRows
import Derived.Test.YtjghbciepinofaaGreatPEK33
import Derived.Test.YtjghbciepinofaaGreatPEK34
import Derived.BigQuiet
import Derived.Deep.QuietTactic
import Derived.Deep.RegionHeld3
set_option maxRecDepth 100000
namespace Go.Proofs.YtjghbciepinofaaGreat
open Go.RowKit
theorem pvs_no {s : St} : ∀ {n k : Nat}, k < n → vsOk s k = false → pvs s n = false
  | 0, _, h, _ => by omega
  | n + 1, k, h, hk => by
    rw [pvs]
    rcases (show k < n ∨ k = n by omega) with h' | rfl
    · rw [pvs_no h' hk, Bool.false_and]
    · rw [hk, Bool.and_false]
theorem pvs_at {s : St} : ∀ {n k : Nat}, pvs s n = true → k < n → vsOk s k = true
  | 0, _, _, h => by omega
  | n + 1, k, h, hk => by
    rw [pvs, Bool.and_eq_true] at h
    rcases (show k < n ∨ k = n by omega) with h' | rfl
    · exact pvs_at h.1 h'
    · exact h.2
theorem vOk_amounts {x : Vd} (h : vOk x = true) : inA x.tok = true ∧ inA x.sh = true ∧ inA x.lost = true := by
  unfold vOk at h
  simp only [Bool.and_eq_true] at h
  exact ⟨h.1.1.1.1, h.1.1.1.2, h.1.1.2⟩
theorem wOk_amounts {next : Int} : ∀ {l : List Wt} {last : Int}, wOk next last l = true → ∀ x ∈ l, inA x.amt = true
  | [], _, _, x, hx => by cases hx
  | y :: r, last, h, x, hx => by
    rw [wOk, Bool.and_eq_true] at h
    rcases List.mem_cons.1 hx with rfl | hx
    · have := h.1; unfold wOk1 at this; simp only [Bool.and_eq_true] at this; exact this.1.1.2
    · exact wOk_amounts h.2 x hx
set_option maxHeartbeats 2000000 in
theorem sgood_any (s : St) (ao : Option Addr) (sb so c : Nat) (w : World) (hW : WsAt w ao sb so s.W) :
    Calls Tryz.prog 33 #[.agg (stC s (.slice ao s.W.length c))] w fun e w' => e = .returned (.bool (goodS s)) ∧ Below w.heap.size w w' := by
  have S0 := SAt.new w (stC s (.slice ao s.W.length c))
  have HB0 : Hid (Below w.heap.size w (w.alloc (.cells (stC s (.slice ao s.W.length c)) 32))) := (Below.refl _ w).alloc (Nat.le_refl _) _
  have HW : Hid (WsAt w ao sb so s.W) := hW
  have hlen := hW.len
  have hGB := good_any s.b.f0 s.b.f1 s.b.f2 s.b.f3 s.b.bo s.b.wa s.b.bu
  have hWG := fun w h => waitsGood_any s.W ao sb so c s.next w h
  have HG : Hid (goodS s = (goodB s.b.f0 s.b.f1 s.b.f2 s.b.f3 s.b.bo s.b.wa s.b.bu && decide (1 ≤ s.next) && decide (s.next ≤ 1125899906842624) && decide (s.W.length ≤ 60) && wOk s.next 0 s.W && pvs s 6 && bal s)) := rfl
  have HT2 : Hid (wOk s.next 0 s.W = true → ∀ x ∈ s.W, inA x.amt = true) := wOk_amounts
  generalize goodB s.b.f0 s.b.f1 s.b.f2 s.b.f3 s.b.bo s.b.wa s.b.bu = t1 at *
  generalize wOk s.next 0 s.W = t2 at *
  clear hW
  go_enter Tryz.func33, Tryz.ntmps33
  go_upto_region 1 with fail
  generalize w.alloc (.cells (stC s (.slice ao s.W.length c)) 32) = w0 at *
  obtain ⟨x0, x1, x2, x3, x4, x5, x6, x7, x8⟩ := st_cells S0
  go_wp2_with (first
    | (go_at_call 74; refine (hGB _).mono ?_; rintro e w1 ⟨rfl, h1⟩; have S1 := S0.later h1 S0.lt; have HB1 : Hid (Below w.heap.size w w1) := HB0.out.trans (h1.mono HB0.out.size); obtain ⟨y0, y1, y2, y3, y4, y5, y6, y7, y8⟩ := st_cells S1; clear x0 x1 x2 x3 x4 x5 x6 x7 x8 y0 y1 y2 y3 y4 y5 y6 h1 S0 HB0)
    | (go_at_call 75; refine (hWG _ (by exact HW.out.over HB1.out)).mono ?_; rintro e w2 ⟨rfl, h2⟩; have HB2 : Hid (Below w.heap.size w w2) := HB1.out.trans (h2.mono HB1.out.size); have S2 := S1.later h2 S1.lt; clear h2 S1 y7 y8))
  all_goals first
    | (go_ret; first | (refine ⟨?_, HB2.out⟩; rw [HG.out]; congr 1; congr 1; first | (simp_all; done) | (cases t2 <;> simp_all <;> omega) | (simp_all; omega) | (simp_all; intros; omega)) | (refine ⟨?_, HB1.out⟩; rw [HG.out]; congr 1; congr 1; first | (simp_all; done) | (simp_all; omega) | (simp_all; intros; omega)))
    | skip
  have hl60 : s.W.length ≤ 60 := by omega
  have hg2 : goodS s = (pvs s 6 && bal s) := by rw [HG.out]; simp_all
  have HG2 : Hid (goodS s = (pvs s 6 && bal s)) := hg2
  have HA : Hid (∀ x ∈ s.W, inA x.amt = true) := HT2.out (by simp_all)
  have hbl : w.heap.size < w2.heap.size := S2.lt
  clear HG HT2 hGB hWG HB1
  clear hg2
  obtain rfl : t2 = true := by simp_all
  simp only [Bool.not_true, Bool.or_false]
  go_loopw [30] (fun i wl => ∃ k : Nat, k ≤ 6 ∧ i = .int .i64 (k : Int) ∧ Hid (pvs s k = true ∧ Below w2.heap.size w2 wl)) (fun i _ => (6 - intOf i).toNat)
  case atStart => exact ⟨0, by omega, rfl, rfl, Below.refl _ _⟩
  case round =>
    obtain ⟨k, hk, rfl, HR⟩ := hrel
    have HB3 : Hid (Below w.heap.size w wr) := HB2.out.trans (HR.out.2.mono (Nat.le_of_lt hbl))
    have S3 := S2.later HR.out.2 hbl
    clear S2
    by_cases hk6 : k < 6
    · obtain ⟨c0, c1, c2, c3, c4⟩ := S3.val k hk6
      have hkk : (k : Int) < 6 := by omega
      have j1 := validatorGood_any w.heap.size (7 + k * 5) (s.V k) wr c0 c1 c2 c3 c4
      have j2 := sharesGood_any s (.slice ao s.W.length c) w.heap.size k hk6 wr S3
      have HV : Hid (vsOk s k = (vOk (s.V k) && shOk s.S k (s.V k).sh)) := rfl
      generalize vOk (s.V k) = t3 at *
      generalize shOk s.S k (s.V k).sh = t4 at *
      clear c0 c1 c2 c3 c4 S3
      go_wp2_with (first
        | (go_at_call 76; refine j1.mono ?_; rintro e w4 ⟨rfl, rfl⟩)
        | (go_at_call 77; refine j2.mono ?_; rintro e w4 ⟨rfl, rfl⟩))
      all_goals first
        | (go_ret; refine ⟨?_, HB3.out⟩; rw [HG2.out, pvs_no hk6 (by rw [HV.out]; simp_all)]; rfl)
        | (go_roundw
           case rel =>
             have hp : pvs s (k + 1) = true := by rw [pvs, HR.out.1, HV.out]; simp_all
             exact ⟨k + 1, by omega, by go_num, hp, HR.out.2⟩
           case measure => simp [intOf]; omega)
    · obtain rfl : k = 6 := by omega
      have hj := isBalanced_any s ao sb so c w.heap.size wr S3 (HW.out.over HB3.out) hl60 (fun i hi => by have h := pvs_at HR.out.1 hi; rw [vsOk, Bool.and_eq_true] at h; exact ⟨(vOk_amounts h.1).1, (vOk_amounts h.1).2.2⟩) HA.out
      have hg3 : goodS s = bal s := by rw [HG2.out, HR.out.1, Bool.true_and]
      have HG3 : Hid (goodS s = bal s) := hg3
      clear hg3
      generalize bal s = t5 at *
      clear S3
      go_wp2_with (go_at_call 78; refine hj.mono ?_; rintro e w5 ⟨rfl, h5⟩)
      go_ret
      refine ⟨?_, HB3.out.trans (h5.mono HB3.out.size)⟩
      rw [HG3.out]
      rfl
end Go.Proofs.YtjghbciepinofaaGreat

set_option maxRecDepth 100000
namespace Go.Proofs.YtjghbciepinofaaGreat
open Go.RowKit
set_option maxHeartbeats 1000000 in
theorem refused_any (s : St) (ao : Option Addr) (sb so c b : Nat) (v : Int) (w : World) (h : SAt w b (stC s (.slice ao s.W.length c))) (hW : WsAt w ao sb so s.W) :
    Calls Tryz.prog 144 #[.pointer (some ⟨b, 0, none⟩), .int .i64 v] w fun e w' => e = .returned (.int .i64 (refE s v)) ∧ Below w.heap.size w w' := by
  have hrg := h.range
  have hG := sgood_any s ao sb so c w hW
  have hV := isVal_any v
  unfold refE
  generalize goodS s = t1 at *
  generalize isV v = t2 at *
  clear h hW
  go_enter Tryz.func144, Tryz.ntmps144
  go_upto_region 1 with fail
  apply wp_region_lit
  iterate 6 go_step
  refine wpList_load_mid rfl 32 _ rfl b 0 rfl _ _ hrg Tryz.underlying32 rfl (by rw [infoS]; rfl) ?_
  clear hrg
  go_wp2_with (first
    | (go_at_call 33; refine hG.mono ?_; rintro e w1 ⟨rfl, hB⟩)
    | (go_at_call 90; refine (hV _).mono ?_; rintro e w2 ⟨rfl, rfl⟩))
  all_goals (go_ret; refine ⟨?_, hB⟩; first | (simp_all; done) | (congr 1; congr 1; simp_all))
set_option maxHeartbeats 1000000 in
theorem refusedOf_any (s : St) (ao : Option Addr) (sb so c b : Nat) (d v : Int) (w : World) (h : SAt w b (stC s (.slice ao s.W.length c))) (hW : WsAt w ao sb so s.W) :
    Calls Tryz.prog 103 #[.pointer (some ⟨b, 0, none⟩), .int .i64 d, .int .i64 v] w fun e w' => e = .returned (.int .i64 (refOfE s d v)) ∧ Below w.heap.size w w' := by
  have hG := refused_any s ao sb so c b v w h hW
  have hV := sisDel_any d
  unfold refOfE
  generalize refE s v = t1 at *
  generalize isD d = t2 at *
  clear h hW
  go_enter Tryz.func103, Tryz.ntmps103
  go_wp2_with (first
    | (go_at_call 144; refine hG.mono ?_; rintro e w1 ⟨rfl, hB⟩)
    | (go_at_call 120; refine (hV _).mono ?_; rintro e w2 ⟨rfl, rfl⟩))
  all_goals (go_ret; refine ⟨?_, hB⟩; first | (simp_all; done) | (congr 1; congr 1; simp_all))
end Go.Proofs.YtjghbciepinofaaGreat

set_option maxRecDepth 100000
namespace Go.Proofs.YtjghbciepinofaaGreat
open Go.RowKit
/-- but for one block the world is as it was -/
structure But (b : Nat) (w w' : World) : Prop where
  os : w'.os = w.os
  tape : w'.tape = w.tape
  output : w'.output = w.output
  size : w'.heap.size = w.heap.size
  block : ∀ k, k ≠ b → w'.heap[k]? = w.heap[k]?
theorem But.refl (b : Nat) (w : World) : But b w w := ⟨rfl, rfl, rfl, rfl, fun _ _ => rfl⟩
theorem But.set {b : Nat} {w w' : World} (h : But b w w') (o : Nat) (v : Value) : But b w (w'.setCell ⟨b, o, none⟩ v) :=
  ⟨h.os, h.tape, h.output, (by simp [World.setCell]; exact h.size), fun k hk => (Below.heap_setCell _ _ _ _ hk).trans (h.block k hk)⟩
theorem But.drew {b : Nat} {w w' : World} (h : But b w w') : But b w w'.drew := ⟨h.os, h.tape, h.output, h.size, h.block⟩
theorem But.below {b B : Nat} {w w' : World} (h : But b w w') (hB : B ≤ b) : Below B w w' := ⟨h.os, h.tape, h.output, by rw [h.size]; exact Nat.le_refl _, fun k hk => h.block k (by omega)⟩
theorem But.stake {b c : Nat} {w w' : World} {cs : Array Value} (h : But b w w') (hc : c ≠ b) (S : SAt w c cs) : SAt w' c cs := (h.block c hc).trans S
theorem set_tok (s : St) (sl : Value) (v : Nat) (hv : v < 6) (x : Int) : (stC s sl).setIfInBounds (7 + v * 5) (.int .i64 x) = stC { s with V := setV s.V v { s.V v with tok := x } } sl := by
  rcases (show v = 0 ∨ v = 1 ∨ v = 2 ∨ v = 3 ∨ v = 4 ∨ v = 5 by omega) with rfl | rfl | rfl | rfl | rfl | rfl <;> rfl
theorem set_sh (s : St) (sl : Value) (v : Nat) (hv : v < 6) (x : Int) : (stC s sl).setIfInBounds (7 + v * 5 + 1) (.int .i64 x) = stC { s with V := setV s.V v { s.V v with sh := x } } sl := by
  rcases (show v = 0 ∨ v = 1 ∨ v = 2 ∨ v = 3 ∨ v = 4 ∨ v = 5 by omega) with rfl | rfl | rfl | rfl | rfl | rfl <;> rfl
theorem set_lost (s : St) (sl : Value) (v : Nat) (hv : v < 6) (x : Int) : (stC s sl).setIfInBounds (7 + v * 5 + 2) (.int .i64 x) = stC { s with V := setV s.V v { s.V v with lost := x } } sl := by
  rcases (show v = 0 ∨ v = 1 ∨ v = 2 ∨ v = 3 ∨ v = 4 ∨ v = 5 by omega) with rfl | rfl | rfl | rfl | rfl | rfl <;> rfl
theorem set_jail (s : St) (sl : Value) (v : Nat) (hv : v < 6) (x : Bool) : (stC s sl).setIfInBounds (7 + v * 5 + 3) (.bool x) = stC { s with V := setV s.V v { s.V v with jail := x } } sl := by
  rcases (show v = 0 ∨ v = 1 ∨ v = 2 ∨ v = 3 ∨ v = 4 ∨ v = 5 by omega) with rfl | rfl | rfl | rfl | rfl | rfl <;> rfl
theorem set_dead (s : St) (sl : Value) (v : Nat) (hv : v < 6) (x : Bool) : (stC s sl).setIfInBounds (7 + v * 5 + 4) (.bool x) = stC { s with V := setV s.V v { s.V v with dead := x } } sl := by
  rcases (show v = 0 ∨ v = 1 ∨ v = 2 ∨ v = 3 ∨ v = 4 ∨ v = 5 by omega) with rfl | rfl | rfl | rfl | rfl | rfl <;> rfl
theorem set_shr (s : St) (sl : Value) (d v : Nat) (hd : d < 4) (hv : v < 6) (x : Int) : (stC s sl).setIfInBounds (37 + d * 6 + v) (.int .i64 x) = stC { s with S := setSh s.S d v x } sl := by
  rcases (show d = 0 ∨ d = 1 ∨ d = 2 ∨ d = 3 by omega) with rfl | rfl | rfl | rfl <;> rcases (show v = 0 ∨ v = 1 ∨ v = 2 ∨ v = 3 ∨ v = 4 ∨ v = 5 by omega) with rfl | rfl | rfl | rfl | rfl | rfl <;> rfl
theorem set_sl (s : St) (sl sl' : Value) : (stC s sl).setIfInBounds 61 sl' = stC s sl' := rfl
theorem setV_setV (V : Nat → Vd) (v : Nat) (x y : Vd) : setV (setV V v x) v y = setV V v y := by funext i; unfold setV; split <;> rfl
theorem setV_at (V : Nat → Vd) (v : Nat) (x : Vd) : setV V v x v = x := if_pos rfl
theorem add_eq (s : St) (d v : Nat) (t n : Int) : addS s d v t n = { ({ ({ s with V := setV s.V v { s.V v with tok := (s.V v).tok + t } } : St) with V := setV (setV s.V v { s.V v with tok := (s.V v).tok + t }) v { (setV s.V v { s.V v with tok := (s.V v).tok + t }) v with sh := (s.V v).sh + n } } : St) with S := setSh s.S d v (s.S d v + n) } := by
  unfold addS
  rw [setV_setV, setV_at]
theorem but_drewN (b : Nat) (w : World) (n : Nat) : But b w (w.drewN n) := ⟨rfl, rfl, rfl, rfl, fun _ _ => rfl⟩
set_option maxHeartbeats 1000000 in
theorem sadd_any (s : St) (sl : Value) (b d v : Nat) (t n : Int) (w : World) (h : SAt w b (stC s sl)) (hd : d < 4) (hv : v < 6)
    (h1 : -4611686018427387904 ≤ (s.V v).tok + t ∧ (s.V v).tok + t ≤ 4611686018427387904) (h2 : -4611686018427387904 ≤ (s.V v).sh + n ∧ (s.V v).sh + n ≤ 4611686018427387904) (h3 : -4611686018427387904 ≤ s.S d v + n ∧ s.S d v + n ≤ 4611686018427387904) :
    Calls Tryz.prog 107 #[.pointer (some ⟨b, 0, none⟩), .int .i64 (d : Int), .int .i64 (v : Int), .int .i64 t, .int .i64 n] w fun e w' => e = .returned (.tuple #[]) ∧ SAt w' b (stC (addS s d v t n) sl) ∧ But b w w' := by
  have hd' : (d : Int) < 4 := by omega
  have hv' : (v : Int) < 6 := by omega
  have hd0 : (0 : Int) ≤ (d : Int) := by omega
  have hv0 : (0 : Int) ≤ (v : Int) := by omega
  go_enter Tryz.func107, Tryz.ntmps107
  go_upto_region 0 with fail
  go_quiet (fail)
  have S0 : SAt (w.drewN nq) b (stC s sl) := h
  have HB0 : Hid (But b w (w.drewN nq)) := but_drewN b w nq
  generalize w.drewN nq = w0 at *
  obtain ⟨c0, c1, c2, c3, c4⟩ := S0.val v hv
  have f0 := S0.free (7 + v * 5)
  go_upto_region 2 with fail
  have S1 := S0.set (7 + v * 5) (.int .i64 ((s.V v).tok + t))
  rw [set_tok s sl v hv] at S1
  have HB1 : Hid (But b w (w0.setCell ⟨b, 7 + v * 5, none⟩ (.int .i64 ((s.V v).tok + t)))) := HB0.out.set _ _
  generalize w0.setCell ⟨b, 7 + v * 5, none⟩ (.int .i64 ((s.V v).tok + t)) = w1 at *
  clear c0 c1 c2 c3 c4 f0 S0 HB0 h
  obtain ⟨c0, c1, c2, c3, c4⟩ := S1.val v hv
  simp only [setV_at] at c1
  have f0 := S1.free (7 + v * 5 + 1)
  go_upto_region 3 with fail
  have S2 := S1.set (7 + v * 5 + 1) (.int .i64 ((s.V v).sh + n))
  rw [set_sh _ sl v hv] at S2
  have HB2 : Hid (But b w (w1.setCell ⟨b, 7 + v * 5 + 1, none⟩ (.int .i64 ((s.V v).sh + n)))) := HB1.out.set _ _
  generalize w1.setCell ⟨b, 7 + v * 5 + 1, none⟩ (.int .i64 ((s.V v).sh + n)) = w2 at *
  clear c0 c1 c2 c3 c4 f0 S1 HB1
  have c0 := S2.shr d v hd hv
  have f0 := S2.free (37 + d * 6 + v)
  have S3 := S2.set (37 + d * 6 + v) (.int .i64 (s.S d v + n))
  rw [set_shr _ sl d v hd hv] at S3
  have HS3 : Hid (SAt (w2.setCell ⟨b, 37 + d * 6 + v, none⟩ (.int .i64 (s.S d v + n))) b (stC (addS s d v t n) sl)) := by rw [add_eq]; exact S3
  clear S2 S3
  go_wp2
  go_end0
  exact ⟨rfl, HS3.out, HB2.out.set _ _⟩
end Go.Proofs.YtjghbciepinofaaGreat

set_option maxRecDepth 100000
namespace Go.Proofs.YtjghbciepinofaaGreat
open Go.RowKit
theorem results_stake2 {fn : Func} {p q : Tmp} (h : fn.results = #[.cell p 32, .tmp q]) (tmps : Array Value) (w : World) (g : Nat) (cs : Array Value) (v : Value)
    (hp : tmps.getD p undef = .pointer (some ⟨g, 0, none⟩)) (hq : tmps.getD q undef = v) (hg : SAt w g cs) (hsz : cs.size = 63) :
    (results fn tmps).run Tryz.prog w = .ok (.tuple #[.agg cs, v]) w := by
  have hp' : tmps[p]?.getD undef = .pointer (some ⟨g, 0, none⟩) := by simpa using hp
  have hq' : tmps[q]?.getD undef = v := by simpa using hq
  simp [results, h, hp', hq', asAddr, run_loadVar_row w g 32 32 cs (0, 0) _ hg Tryz.underlying32 rfl (by rw [infoS, hsz])]
theorem stake_end2 {f : Func} {p q : Tmp} (hres : f.results = #[.cell p 32, .tmp q]) {B g : Nat} {w wq : World} {zs : Array Value} (R : SAt wq g zs) (hz : zs.size = 63) (H : Below B w wq) (hB : B ≤ g) (s' : St) (sl : Value) (er : Int) (r : St × Int) (hr : r = (s', er)) (act : Act)
    (h8 : act.tmps.getD p undef = .pointer (some ⟨g, 0, none⟩)) (h9 : act.tmps.getD q undef = .int .i64 er) (hd : act.defers = []) :
    bodyPost Tryz.prog f (fun e w' => e = .returned (.tuple #[.agg (stC r.1 sl), .int .i64 r.2]) ∧ Below B w w') Exit.ret act (wq.setCells g 0 (stC s' sl).toList) := by
  subst hr
  have R3 := R.setAll (ds := stC s' sl) (by rw [hz]; rfl)
  exact bodyPost_ret (v := .tuple #[.agg (stC s' sl), .int .i64 er]) (results_stake2 hres _ _ g _ _ h8 h9 R3 rfl) hd ⟨rfl, below_sets hB _ _ _ H⟩
theorem wpList_mv {ops : Array Oper} {rest : List Oper} {o : Oper} {a : Act} {w : World} {Q : Exit → Act → World → Prop} (hg : o.guard = none) (x : Operand) (hop : o.op = Op.move x) (hK : wpList Tryz.prog ops Q rest (a.put o.dst (a.eval x)) w) :
    wpList Tryz.prog ops Q (o :: rest) a w := by
  refine wpList_plain hg fun _ hK' => ?_
  unfold Oper.wp
  simp [execOp, hop]
  exact hK' _ _ hK
theorem Z63_size : Z63.size = 63 := rfl
end Go.Proofs.YtjghbciepinofaaGreat

