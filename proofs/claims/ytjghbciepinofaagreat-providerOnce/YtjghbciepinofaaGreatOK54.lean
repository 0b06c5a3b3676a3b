/- Parts of the proof: SI SM2 SJ T1. -/
import Derived.Test.YtjghbciepinofaaGreatRows
import Derived.Test.YtjghbciepinofaaGreatOK48
import Derived.Test.YtjghbciepinofaaGreatOK53
import Derived.BigQuiet
import Derived.Deep.QuietTactic
import Derived.Deep.RegionHeld3
import Derived.WalkKit
import Derived.LoopN
set_option maxRecDepth 100000
namespace Go.Proofs.YtjghbciepinofaaGreat
open Go.RowKit
/-- but for one block the world is as it was -/
structure But (b : Nat) (w w' : World) : Prop where
  os : w'.os = w.os
  tape : w'.tape = w.tape
  output : w'.output = w.output
  size : w'.heap.size = w.heap.size
  block : ∀ k, k ≠ b → w'.heap[k]? = w.heap[k]?
theorem But.refl (b : Nat) (w : World) : But b w w := ⟨rfl, rfl, rfl, rfl, fun _ _ => rfl⟩
theorem But.set {b : Nat} {w w' : World} (h : But b w w') (o : Nat) (v : Value) : But b w (w'.setCell ⟨b, o, none⟩ v) :=
  ⟨h.os, h.tape, h.output, (by simp [World.setCell]; exact h.size), fun k hk => (Below.heap_setCell _ _ _ _ hk).trans (h.block k hk)⟩
theorem But.drew {b : Nat} {w w' : World} (h : But b w w') : But b w w'.drew := ⟨h.os, h.tape, h.output, h.size, h.block⟩
theorem But.below {b B : Nat} {w w' : World} (h : But b w w') (hB : B ≤ b) : Below B w w' := ⟨h.os, h.tape, h.output, by rw [h.size]; exact Nat.le_refl _, fun k hk => h.block k (by omega)⟩
theorem But.stake {b c : Nat} {w w' : World} {cs : Array Value} (h : But b w w') (hc : c ≠ b) (S : SAt w c cs) : SAt w' c cs := (h.block c hc).trans S
theorem set_tok (s : St) (sl : Value) (v : Nat) (hv : v < 6) (x : Int) : (stC s sl).setIfInBounds (7 + v * 5) (.int .i64 x) = stC { s with V := setV s.V v { s.V v with tok := x } } sl := by
  rcases (show v = 0 ∨ v = 1 ∨ v = 2 ∨ v = 3 ∨ v = 4 ∨ v = 5 by omega) with rfl | rfl | rfl | rfl | rfl | rfl <;> rfl
theorem set_sh (s : St) (sl : Value) (v : Nat) (hv : v < 6) (x : Int) : (stC s sl).setIfInBounds (7 + v * 5 + 1) (.int .i64 x) = stC { s with V := setV s.V v { s.V v with sh := x } } sl := by
  rcases (show v = 0 ∨ v = 1 ∨ v = 2 ∨ v = 3 ∨ v = 4 ∨ v = 5 by omega) with rfl | rfl | rfl | rfl | rfl | rfl <;> rfl
theorem set_lost (s : St) (sl : Value) (v : Nat) (hv : v < 6) (x : Int) : (stC s sl).setIfInBounds (7 + v * 5 + 2) (.int .i64 x) = stC { s with V := setV s.V v { s.V v with lost := x } } sl := by
  rcases (show v = 0 ∨ v = 1 ∨ v = 2 ∨ v = 3 ∨ v = 4 ∨ v = 5 by omega) with rfl | rfl | rfl | rfl | rfl | rfl <;> rfl
theorem set_jail (s : St) (sl : Value) (v : Nat) (hv : v < 6) (x : Bool) : (stC s sl).setIfInBounds (7 + v * 5 + 3) (.bool x) = stC { s with V := setV s.V v { s.V v with jail := x } } sl := by
  rcases (show v = 0 ∨ v = 1 ∨ v = 2 ∨ v = 3 ∨ v = 4 ∨ v = 5 by omega) with rfl | rfl | rfl | rfl | rfl | rfl <;> rfl
theorem set_dead (s : St) (sl : Value) (v : Nat) (hv : v < 6) (x : Bool) : (stC s sl).setIfInBounds (7 + v * 5 + 4) (.bool x) = stC { s with V := setV s.V v { s.V v with dead := x } } sl := by
  rcases (show v = 0 ∨ v = 1 ∨ v = 2 ∨ v = 3 ∨ v = 4 ∨ v = 5 by omega) with rfl | rfl | rfl | rfl | rfl | rfl <;> rfl
theorem set_shr (s : St) (sl : Value) (d v : Nat) (hd : d < 4) (hv : v < 6) (x : Int) : (stC s sl).setIfInBounds (37 + d * 6 + v) (.int .i64 x) = stC { s with S := setSh s.S d v x } sl := by
  rcases (show d = 0 ∨ d = 1 ∨ d = 2 ∨ d = 3 by omega) with rfl | rfl | rfl | rfl <;> rcases (show v = 0 ∨ v = 1 ∨ v = 2 ∨ v = 3 ∨ v = 4 ∨ v = 5 by omega) with rfl | rfl | rfl | rfl | rfl | rfl <;> rfl
theorem set_sl (s : St) (sl sl' : Value) : (stC s sl).setIfInBounds 61 sl' = stC s sl' := rfl
theorem setV_setV (V : Nat → Vd) (v : Nat) (x y : Vd) : setV (setV V v x) v y = setV V v y := by funext i; unfold setV; split <;> rfl
theorem setV_at (V : Nat → Vd) (v : Nat) (x : Vd) : setV V v x v = x := if_pos rfl
theorem add_eq (s : St) (d v : Nat) (t n : Int) : addS s d v t n = { ({ ({ s with V := setV s.V v { s.V v with tok := (s.V v).tok + t } } : St) with V := setV (setV s.V v { s.V v with tok := (s.V v).tok + t }) v { (setV s.V v { s.V v with tok := (s.V v).tok + t }) v with sh := (s.V v).sh + n } } : St) with S := setSh s.S d v (s.S d v + n) } := by
  unfold addS
  rw [setV_setV, setV_at]
theorem but_drewN (b : Nat) (w : World) (n : Nat) : But b w (w.drewN n) := ⟨rfl, rfl, rfl, rfl, fun _ _ => rfl⟩
set_option maxHeartbeats 1000000 in
theorem sadd_any (s : St) (sl : Value) (b d v : Nat) (t n : Int) (w : World) (h : SAt w b (stC s sl)) (hd : d < 4) (hv : v < 6)
    (h1 : -4611686018427387904 ≤ (s.V v).tok + t ∧ (s.V v).tok + t ≤ 4611686018427387904) (h2 : -4611686018427387904 ≤ (s.V v).sh + n ∧ (s.V v).sh + n ≤ 4611686018427387904) (h3 : -4611686018427387904 ≤ s.S d v + n ∧ s.S d v + n ≤ 4611686018427387904) :
    Calls Tryz.prog 107 #[.pointer (some ⟨b, 0, none⟩), .int .i64 (d : Int), .int .i64 (v : Int), .int .i64 t, .int .i64 n] w fun e w' => e = .returned (.tuple #[]) ∧ SAt w' b (stC (addS s d v t n) sl) ∧ But b w w' := by
  have hd' : (d : Int) < 4 := by omega
  have hv' : (v : Int) < 6 := by omega
  have hd0 : (0 : Int) ≤ (d : Int) := by omega
  have hv0 : (0 : Int) ≤ (v : Int) := by omega
  go_enter Tryz.func107, Tryz.ntmps107
  go_upto_region 0 with fail
  go_quiet (fail)
  have S0 : SAt (w.drewN nq) b (stC s sl) := h
  have HB0 : Hid (But b w (w.drewN nq)) := but_drewN b w nq
  generalize w.drewN nq = w0 at *
  obtain ⟨c0, c1, c2, c3, c4⟩ := S0.val v hv
  have f0 := S0.free (7 + v * 5)
  go_upto_region 2 with fail
  have S1 := S0.set (7 + v * 5) (.int .i64 ((s.V v).tok + t))
  rw [set_tok s sl v hv] at S1
  have HB1 : Hid (But b w (w0.setCell ⟨b, 7 + v * 5, none⟩ (.int .i64 ((s.V v).tok + t)))) := HB0.out.set _ _
  generalize w0.setCell ⟨b, 7 + v * 5, none⟩ (.int .i64 ((s.V v).tok + t)) = w1 at *
  clear c0 c1 c2 c3 c4 f0 S0 HB0 h
  obtain ⟨c0, c1, c2, c3, c4⟩ := S1.val v hv
  simp only [setV_at] at c1
  have f0 := S1.free (7 + v * 5 + 1)
  go_upto_region 3 with fail
  have S2 := S1.set (7 + v * 5 + 1) (.int .i64 ((s.V v).sh + n))
  rw [set_sh _ sl v hv] at S2
  have HB2 : Hid (But b w (w1.setCell ⟨b, 7 + v * 5 + 1, none⟩ (.int .i64 ((s.V v).sh + n)))) := HB1.out.set _ _
  generalize w1.setCell ⟨b, 7 + v * 5 + 1, none⟩ (.int .i64 ((s.V v).sh + n)) = w2 at *
  clear c0 c1 c2 c3 c4 f0 S1 HB1
  have c0 := S2.shr d v hd hv
  have f0 := S2.free (37 + d * 6 + v)
  have S3 := S2.set (37 + d * 6 + v) (.int .i64 (s.S d v + n))
  rw [set_shr _ sl d v hd hv] at S3
  have HS3 : Hid (SAt (w2.setCell ⟨b, 37 + d * 6 + v, none⟩ (.int .i64 (s.S d v + n))) b (stC (addS s d v t n) sl)) := by rw [add_eq]; exact S3
  clear S2 S3
  go_wp2
  go_end0
  exact ⟨rfl, HS3.out, HB2.out.set _ _⟩
end Go.Proofs.YtjghbciepinofaaGreat

set_option maxRecDepth 100000
namespace Go.Proofs.YtjghbciepinofaaGreat
/-- Delegate -/
def delegS (s : St) (d v n : Int) : St × Int :=
  if refOfE s d v = 0 then
    if (s.V v.toNat).dead = true then (s, 15)
    else if (decide (0 < n) && inA n) = true then
      if shE (s.V v.toNat) n = 0 then
        if (bondR s.b d n).2 = 0 then (addS { s with b := (bondR s.b d n).1 } d.toNat v.toNat n (shN (s.V v.toNat) n), 0)
        else (s, (bondR s.b d n).2)
      else (s, shE (s.V v.toNat) n)
    else (s, 2)
  else (s, refOfE s d v)
end Go.Proofs.YtjghbciepinofaaGreat

set_option maxRecDepth 100000
namespace Go.Proofs.YtjghbciepinofaaGreat
open Go.RowKit
theorem results_stake2 {fn : Func} {p q : Tmp} (h : fn.results = #[.cell p 32, .tmp q]) (tmps : Array Value) (w : World) (g : Nat) (cs : Array Value) (v : Value)
    (hp : tmps.getD p undef = .pointer (some ⟨g, 0, none⟩)) (hq : tmps.getD q undef = v) (hg : SAt w g cs) (hsz : cs.size = 63) :
    (results fn tmps).run Tryz.prog w = .ok (.tuple #[.agg cs, v]) w := by
  have hp' : tmps[p]?.getD undef = .pointer (some ⟨g, 0, none⟩) := by simpa using hp
  have hq' : tmps[q]?.getD undef = v := by simpa using hq
  simp [results, h, hp', hq', asAddr, run_loadVar_row w g 32 32 cs (0, 0) _ hg Tryz.underlying32 rfl (by rw [infoS, hsz])]
theorem stake_end2 {f : Func} {p q : Tmp} (hres : f.results = #[.cell p 32, .tmp q]) {B g : Nat} {w wq : World} {zs : Array Value} (R : SAt wq g zs) (hz : zs.size = 63) (H : Below B w wq) (hB : B ≤ g) (s' : St) (sl : Value) (er : Int) (r : St × Int) (hr : r = (s', er)) (act : Act)
    (h8 : act.tmps.getD p undef = .pointer (some ⟨g, 0, none⟩)) (h9 : act.tmps.getD q undef = .int .i64 er) (hd : act.defers = []) :
    bodyPost Tryz.prog f (fun e w' => e = .returned (.tuple #[.agg (stC r.1 sl), .int .i64 r.2]) ∧ Below B w w') Exit.ret act (wq.setCells g 0 (stC s' sl).toList) := by
  subst hr
  have R3 := R.setAll (ds := stC s' sl) (by rw [hz]; rfl)
  exact bodyPost_ret (v := .tuple #[.agg (stC s' sl), .int .i64 er]) (results_stake2 hres _ _ g _ _ h8 h9 R3 rfl) hd ⟨rfl, below_sets hB _ _ _ H⟩
theorem wpList_mv {ops : Array Oper} {rest : List Oper} {o : Oper} {a : Act} {w : World} {Q : Exit → Act → World → Prop} (hg : o.guard = none) (x : Operand) (hop : o.op = Op.move x) (hK : wpList Tryz.prog ops Q rest (a.put o.dst (a.eval x)) w) :
    wpList Tryz.prog ops Q (o :: rest) a w := by
  refine wpList_plain hg fun _ hK' => ?_
  unfold Oper.wp
  simp [execOp, hop]
  exact hK' _ _ hK
theorem Z63_size : Z63.size = 63 := rfl
end Go.Proofs.YtjghbciepinofaaGreat

set_option maxRecDepth 100000
namespace Go.Proofs.YtjghbciepinofaaGreat
open Go.RowKit
def inr (n : Int) : Prop := 0 ≤ n ∧ n ≤ 400000
end Go.Proofs.YtjghbciepinofaaGreat

