/- Parts of the proof: SG SI. -/
import Derived.Test.YtkhlihpghbhppabGreatRows
import Derived.Test.YtkhlihpghbhppabGreatProviderRemovesK15
import Derived.BigQuiet
import Derived.Deep.QuietTactic
import Derived.Deep.RegionHeld3
set_option maxRecDepth 100000
namespace Go.Proofs.YtkhlihpghbhppabGreat
open Go.RowKit
set_option maxHeartbeats 1000000 in
theorem refused_any (s : St) (ao : Option Addr) (sb so c b : Nat) (v : Int) (w : World) (h : SAt w b (stC s (.slice ao s.W.length c))) (hW : WsAt w ao sb so s.W) :
    Calls Tryz.prog 89 #[.pointer (some ⟨b, 0, none⟩), .int .i64 v] w fun e w' => e = .returned (.int .i64 (refE s v)) ∧ Below w.heap.size w w' := by
  have hrg := h.range
  have hG := sgood_any s ao sb so c w hW
  have hV := isVal_any v
  unfold refE
  generalize goodS s = t1 at *
  generalize isV v = t2 at *
  clear h hW
  go_enter Tryz.func89, Tryz.ntmps89
  go_upto_region 1 with fail
  apply wp_region_lit
  iterate 6 go_step
  refine wpList_load_mid rfl 32 _ rfl b 0 rfl _ _ hrg Tryz.underlying32 rfl (by rw [infoS]; rfl) ?_
  clear hrg
  go_wp2_with (first
    | (go_at_call 15; refine hG.mono ?_; rintro e w1 ⟨rfl, hB⟩)
    | (go_at_call 65; refine (hV _).mono ?_; rintro e w2 ⟨rfl, rfl⟩))
  all_goals (go_ret; refine ⟨?_, hB⟩; first | (simp_all; done) | (congr 1; congr 1; simp_all))
set_option maxHeartbeats 1000000 in
theorem refusedOf_any (s : St) (ao : Option Addr) (sb so c b : Nat) (d v : Int) (w : World) (h : SAt w b (stC s (.slice ao s.W.length c))) (hW : WsAt w ao sb so s.W) :
    Calls Tryz.prog 67 #[.pointer (some ⟨b, 0, none⟩), .int .i64 d, .int .i64 v] w fun e w' => e = .returned (.int .i64 (refOfE s d v)) ∧ Below w.heap.size w w' := by
  have hG := refused_any s ao sb so c b v w h hW
  have hV := sisDel_any d
  unfold refOfE
  generalize refE s v = t1 at *
  generalize isD d = t2 at *
  clear h hW
  go_enter Tryz.func67, Tryz.ntmps67
  go_wp2_with (first
    | (go_at_call 89; refine hG.mono ?_; rintro e w1 ⟨rfl, hB⟩)
    | (go_at_call 64; refine (hV _).mono ?_; rintro e w2 ⟨rfl, rfl⟩))
  all_goals (go_ret; refine ⟨?_, hB⟩; first | (simp_all; done) | (congr 1; congr 1; simp_all))
end Go.Proofs.YtkhlihpghbhppabGreat

set_option maxRecDepth 100000
namespace Go.Proofs.YtkhlihpghbhppabGreat
open Go.RowKit
/-- but for one block the world is as it was -/
structure But (b : Nat) (w w' : World) : Prop where
  os : w'.os = w.os
  tape : w'.tape = w.tape
  output : w'.output = w.output
  size : w'.heap.size = w.heap.size
  block : ∀ k, k ≠ b → w'.heap[k]? = w.heap[k]?
theorem But.refl (b : Nat) (w : World) : But b w w := ⟨rfl, rfl, rfl, rfl, fun _ _ => rfl⟩
theorem But.set {b : Nat} {w w' : World} (h : But b w w') (o : Nat) (v : Value) : But b w (w'.setCell ⟨b, o, none⟩ v) :=
  ⟨h.os, h.tape, h.output, (by simp [World.setCell]; exact h.size), fun k hk => (Below.heap_setCell _ _ _ _ hk).trans (h.block k hk)⟩
theorem But.drew {b : Nat} {w w' : World} (h : But b w w') : But b w w'.drew := ⟨h.os, h.tape, h.output, h.size, h.block⟩
theorem But.below {b B : Nat} {w w' : World} (h : But b w w') (hB : B ≤ b) : Below B w w' := ⟨h.os, h.tape, h.output, by rw [h.size]; exact Nat.le_refl _, fun k hk => h.block k (by omega)⟩
theorem But.stake {b c : Nat} {w w' : World} {cs : Array Value} (h : But b w w') (hc : c ≠ b) (S : SAt w c cs) : SAt w' c cs := (h.block c hc).trans S
theorem set_tok (s : St) (sl : Value) (v : Nat) (hv : v < 6) (x : Int) : (stC s sl).setIfInBounds (7 + v * 5) (.int .i64 x) = stC { s with V := setV s.V v { s.V v with tok := x } } sl := by
  rcases (show v = 0 ∨ v = 1 ∨ v = 2 ∨ v = 3 ∨ v = 4 ∨ v = 5 by omega) with rfl | rfl | rfl | rfl | rfl | rfl <;> rfl
theorem set_sh (s : St) (sl : Value) (v : Nat) (hv : v < 6) (x : Int) : (stC s sl).setIfInBounds (7 + v * 5 + 1) (.int .i64 x) = stC { s with V := setV s.V v { s.V v with sh := x } } sl := by
  rcases (show v = 0 ∨ v = 1 ∨ v = 2 ∨ v = 3 ∨ v = 4 ∨ v = 5 by omega) with rfl | rfl | rfl | rfl | rfl | rfl <;> rfl
theorem set_shr (s : St) (sl : Value) (d v : Nat) (hd : d < 4) (hv : v < 6) (x : Int) : (stC s sl).setIfInBounds (37 + d * 6 + v) (.int .i64 x) = stC { s with S := setSh s.S d v x } sl := by
  rcases (show d = 0 ∨ d = 1 ∨ d = 2 ∨ d = 3 by omega) with rfl | rfl | rfl | rfl <;> rcases (show v = 0 ∨ v = 1 ∨ v = 2 ∨ v = 3 ∨ v = 4 ∨ v = 5 by omega) with rfl | rfl | rfl | rfl | rfl | rfl <;> rfl
theorem set_sl (s : St) (sl sl' : Value) : (stC s sl).setIfInBounds 61 sl' = stC s sl' := rfl
theorem setV_setV (V : Nat → Vd) (v : Nat) (x y : Vd) : setV (setV V v x) v y = setV V v y := by funext i; unfold setV; split <;> rfl
theorem setV_at (V : Nat → Vd) (v : Nat) (x : Vd) : setV V v x v = x := if_pos rfl
theorem add_eq (s : St) (d v : Nat) (t n : Int) : addS s d v t n = { ({ ({ s with V := setV s.V v { s.V v with tok := (s.V v).tok + t } } : St) with V := setV (setV s.V v { s.V v with tok := (s.V v).tok + t }) v { (setV s.V v { s.V v with tok := (s.V v).tok + t }) v with sh := (s.V v).sh + n } } : St) with S := setSh s.S d v (s.S d v + n) } := by
  unfold addS
  rw [setV_setV, setV_at]
theorem but_drewN (b : Nat) (w : World) (n : Nat) : But b w (w.drewN n) := ⟨rfl, rfl, rfl, rfl, fun _ _ => rfl⟩
set_option maxHeartbeats 1000000 in
theorem sadd_any (s : St) (sl : Value) (b d v : Nat) (t n : Int) (w : World) (h : SAt w b (stC s sl)) (hd : d < 4) (hv : v < 6)
    (h1 : -4611686018427387904 ≤ (s.V v).tok + t ∧ (s.V v).tok + t ≤ 4611686018427387904) (h2 : -4611686018427387904 ≤ (s.V v).sh + n ∧ (s.V v).sh + n ≤ 4611686018427387904) (h3 : -4611686018427387904 ≤ s.S d v + n ∧ s.S d v + n ≤ 4611686018427387904) :
    Calls Tryz.prog 71 #[.pointer (some ⟨b, 0, none⟩), .int .i64 (d : Int), .int .i64 (v : Int), .int .i64 t, .int .i64 n] w fun e w' => e = .returned (.tuple #[]) ∧ SAt w' b (stC (addS s d v t n) sl) ∧ But b w w' := by
  have hd' : (d : Int) < 4 := by omega
  have hv' : (v : Int) < 6 := by omega
  have hd0 : (0 : Int) ≤ (d : Int) := by omega
  have hv0 : (0 : Int) ≤ (v : Int) := by omega
  go_enter Tryz.func71, Tryz.ntmps71
  go_upto_region 0 with fail
  go_quiet (fail)
  have S0 : SAt (w.drewN nq) b (stC s sl) := h
  have HB0 : Hid (But b w (w.drewN nq)) := but_drewN b w nq
  generalize w.drewN nq = w0 at *
  obtain ⟨c0, c1, c2, c3, c4⟩ := S0.val v hv
  have f0 := S0.free (7 + v * 5)
  go_upto_region 2 with fail
  have S1 := S0.set (7 + v * 5) (.int .i64 ((s.V v).tok + t))
  rw [set_tok s sl v hv] at S1
  have HB1 : Hid (But b w (w0.setCell ⟨b, 7 + v * 5, none⟩ (.int .i64 ((s.V v).tok + t)))) := HB0.out.set _ _
  generalize w0.setCell ⟨b, 7 + v * 5, none⟩ (.int .i64 ((s.V v).tok + t)) = w1 at *
  clear c0 c1 c2 c3 c4 f0 S0 HB0 h
  obtain ⟨c0, c1, c2, c3, c4⟩ := S1.val v hv
  simp only [setV_at] at c1
  have f0 := S1.free (7 + v * 5 + 1)
  go_upto_region 3 with fail
  have S2 := S1.set (7 + v * 5 + 1) (.int .i64 ((s.V v).sh + n))
  rw [set_sh _ sl v hv] at S2
  have HB2 : Hid (But b w (w1.setCell ⟨b, 7 + v * 5 + 1, none⟩ (.int .i64 ((s.V v).sh + n)))) := HB1.out.set _ _
  generalize w1.setCell ⟨b, 7 + v * 5 + 1, none⟩ (.int .i64 ((s.V v).sh + n)) = w2 at *
  clear c0 c1 c2 c3 c4 f0 S1 HB1
  have c0 := S2.shr d v hd hv
  have f0 := S2.free (37 + d * 6 + v)
  have S3 := S2.set (37 + d * 6 + v) (.int .i64 (s.S d v + n))
  rw [set_shr _ sl d v hd hv] at S3
  have HS3 : Hid (SAt (w2.setCell ⟨b, 37 + d * 6 + v, none⟩ (.int .i64 (s.S d v + n))) b (stC (addS s d v t n) sl)) := by rw [add_eq]; exact S3
  clear S2 S3
  go_wp2
  go_end0
  exact ⟨rfl, HS3.out, HB2.out.set _ _⟩
end Go.Proofs.YtkhlihpghbhppabGreat

