/- Parts of the proof: N SU PVM. -/
import Derived.Test.YtkhlihpghbhppaaGreatRows
import Derived.Test.YtkhlihpghbhppaaGreatProviderHearsK6
import Derived.Test.YtkhlihpghbhppaaGreatProviderHearsK8
import Derived.Test.YtkhlihpghbhppaaGreatProviderHearsK27
import Derived.Test.YtkhlihpghbhppaaGreatProviderHearsK31
import Derived.Test.YtkhlihpghbhppaaGreatProviderHearsK35
import Derived.Test.YtkhlihpghbhppaaGreatProviderHearsK44
import Derived.Test.YtkhlihpghbhppaaGreatProviderHearsK50
import Derived.Test.YtkhlihpghbhppaaGreatProviderHearsK54
import Derived.WalkKit
import Derived.LoopN
set_option maxRecDepth 100000
namespace Go.Proofs.YtkhlihpghbhppaaGreat
open Go.RowKit
set_option maxHeartbeats 1000000 in
theorem new_any (w : World) : Calls Tryz.prog 120 #[] w fun e w' => e = .returned (.agg #[.int .i64 100000, .int .i64 100000, .int .i64 100000, .int .i64 100000, .int .i64 0, .int .i64 0, .int .i64 0]) ∧ Below w.heap.size w w' := by
  go_enter Tryz.func120, Tryz.ntmps120
  go_wp2
  refine wp_loop_rounds 5 ?_
  iterate 5 (try (rw [rounds_succ]; go_wp2))
  exact bodyPost_ret (v := .agg #[.int .i64 100000, .int .i64 100000, .int .i64 100000, .int .i64 100000, .int .i64 0, .int .i64 0, .int .i64 0]) (by simp [results, Tryz.results120, go_sem]) rfl ⟨rfl, ((Below.refl _ w).alloc (Nat.le_refl _) _).alloc (by simp) _⟩
end Go.Proofs.YtkhlihpghbhppaaGreat

set_option maxRecDepth 100000
namespace Go.Proofs.YtkhlihpghbhppaaGreat
open Go.RowKit
def newS : St := ⟨⟨100000, 100000, 100000, 100000, 0, 0, 0⟩, fun _ => ⟨0, 0, 0, false, false⟩, fun _ _ => 0, [], 1⟩
theorem results_stake1 {fn : Func} {p : Tmp} (h : fn.results = #[.cell p 32]) (tmps : Array Value) (w : World) (g : Nat) (cs : Array Value)
    (hp : tmps.getD p undef = .pointer (some ⟨g, 0, none⟩)) (hg : SAt w g cs) (hsz : cs.size = 63) :
    (results fn tmps).run Tryz.prog w = .ok (.agg cs) w :=
  results_cell_row h _ _ g 32 cs (0, 0) _ hp hg Tryz.underlying32 rfl (by rw [infoS, hsz])
set_option maxHeartbeats 4000000 in
theorem snew_any (w : World) : Calls Tryz.prog 59 #[] w fun e w' => e = .returned (.agg (stC newS (.slice none 0 0))) ∧ Below w.heap.size w w' := by
  have R0 := SAt.new w Z63
  have HB0 : Hid (Below w.heap.size w (w.alloc (.cells Z63 32))) := (Below.refl _ w).alloc (Nat.le_refl _) _
  have hN := new_any
  go_enter Tryz.func59, Tryz.ntmps59
  go_upto_region 1 with fail
  change Code.wp Tryz.prog _ _ _ (w.alloc (.cells Z63 32))
  generalize w.alloc (.cells Z63 32) = w0 at *
  apply wp_region_lit
  go_step
  go_step
  refine (hN _).mono ?_
  rintro e w1 ⟨rfl, h1⟩
  have R1 := R0.later h1 R0.lt
  have HB1 := hide (HB0.out.trans (h1.mono HB0.out.size))
  clear h1 R0 HB0 hN
  dsimp only
  go_step
  go_step
  go_step
  go_step
  refine wpList_store_mid rfl 32 _ _ rfl _ 0 (stC newS (.slice none 0 0)) rfl rfl (R1.there 0 _ (by rw [Z63_size, stC_size]; omega)) (by rw [infoS]; rfl) (stC_one _ _ _ _) ?_
  go_wp2
  have R3 := R1.setAll (ds := stC newS (.slice none 0 0)) (by rw [stC_size]; rfl)
  exact bodyPost_ret (v := .agg (stC newS (.slice none 0 0))) (results_stake1 Tryz.results59 _ _ _ _ rfl R3 rfl) rfl ⟨rfl, below_sets (Nat.le_refl _) _ _ _ HB1.out⟩
/-- a stake that somebody has staked on -/
def oneS : St := (delegS newS 0 1 250).1
theorem one_good : goodS oneS = true := by decide +kernel
end Go.Proofs.YtkhlihpghbhppaaGreat

set_option maxRecDepth 100000
namespace Go.Proofs.YtkhlihpghbhppaaGreat.Pv
open Go.RowKit
def isT (n : Int) : Bool := decide (0 ≤ n) && decide (n ≤ 1099511627776)
def isC (c : Int) : Bool := decide (0 ≤ c) && decide (c < 2)
def updL (L : Nat → Lk) (c : Nat) (x : Lk) : Nat → Lk := fun i => if i = c then x else L i
/-- P7.2 -/
def delegP (p : Pr) (d v n : Int) : Pr × Int := if goodP p = true then ({ p with s := (delegS p.s d v n).1 }, (delegS p.s d v n).2) else (p, 2)
def isOn (p : Pr) (c : Int) : Bool := isC c && (p.L c.toNat).on
/-- P7.5 -/
def pktOf (l : List Int) : Pkt := ⟨(Cd.decP l).1, (Cd.decP l).2.1, (Cd.decP l).2.2.1, (Cd.decP l).2.2.2.1, (Cd.decP l).2.2.2.2.1, (Cd.decP l).2.2.2.2.2⟩
def hearP (p : Pr) (c : Int) (l : List Int) : Pr × Int :=
  if goodP p = true then
    if isOn p c = true then
      if Cd.decE l = 0 then
        if (pktOf l).k = 1 then (p, 3) else ({ p with q := p.q ++ [(c, pktOf l)] }, 0)
      else (p, Cd.decE l)
    else (p, 4)
  else (p, 2)
/-- burnt from a height on, and buried -/
def punS (s : St) (v : Nat) (h : Int) : St := setJ (slashS s v h 50) v true true
/-- validators with one more, by number -/
def doneL (D : List Int) (v : Int) : List Int := ((List.range 6).map Int.ofNat).filter fun u => decide (u = v) || decide (u ∈ D)
def powV (x : Vd) : Int := if x.tok / 100 < 1 then 1 else x.tok / 100
def maxI (a b : Int) : Int := if a < b then b else a
/-- P7.6: what comes of a packet; false: it waits -/
def dealP (p : Pr) (c : Nat) (x : Pkt) : Pr × Bool :=
  if x.k = 2 then ({ p with s := { p.s with W := relW c x.i p.s.W } }, true)
  else if x.k = 4 then
    if (p.s.V x.v.toNat).dead = true then (p, true) else ({ p with s := punS p.s x.v.toNat (maxI x.i (p.L c).base) }, true)
  else if (p.s.V x.v.toNat).jail = true then ({ p with L := updL p.L c { p.L c with done := doneL (p.L c).done x.v } }, true)
  else if p.ml < 1 then (p, false)
  else ({ p with ml := wrap64 (p.ml - powV (p.s.V x.v.toNat)), s := setJ p.s x.v.toNat true (p.s.V x.v.toNat).dead, L := updL p.L c { p.L c with done := doneL (p.L c).done x.v } }, true)
structure QS where
  p : Pr
  wt : Nat → Bool
  left : List (Int × Pkt)
def stepQ (z : QS) (a : Int × Pkt) : QS :=
  if z.wt a.1.toNat = true then { z with left := z.left ++ [a] }
  else if (dealP z.p a.1.toNat a.2).2 = true then { z with p := (dealP z.p a.1.toNat a.2).1 }
  else { z with wt := fun i => if i = a.1.toNat then true else z.wt i, left := z.left ++ [a] }
def goQ (p : Pr) : QS := p.q.foldl stepQ ⟨p, fun _ => false, []⟩
def queueP (p : Pr) : Pr := { (goQ p).p with q := (goQ p).left }
/-- what a consumer is told -/
def quietB (p : Pr) (x : Lk) : Bool := !x.on || (decide (x.told = p.set) && !x.fresh && decide (x.done.length = 0))
def tellP (p : Pr) (c : Nat) : Pr :=
  if quietB p (p.L c) = true then p
  else if Cd.goodN 1 p.h 0 0 (Df.diffL (p.L c).told p.set) (p.L c).done = 0 then
    if Ln.sayE (p.L c).out (p.t + 40) = 0 then { p with L := updL p.L c { p.L c with out := Ln.sayL (p.L c).out (Cd.encS 1 p.h 0 0 (Df.diffL (p.L c).told p.set) (p.L c).done) (p.t + 40), told := p.set, fresh := false, done := [] } } else p
  else p
/-- P7.8 -/
def tickP (p : Pr) (now : Int) : Pr := { p with h := p.h + 1, t := now, ml := if now < p.mn then p.ml else Mt.alw (Df.allN p.set), mn := if now < p.mn then p.mn else wrap64 (now + 10) }
def paidP (p : Pr) (now : Int) : Pr := { p with s := payS p.s now, set := setS (payS p.s now).V }
def endP (p : Pr) (now : Int) : Pr × List Int × Int :=
  if goodP p = true ∧ isT now = true ∧ p.t ≤ now then
    (tellP (tellP (paidP (queueP (tickP p now)) now) 0) 1, paidW now (queueP (tickP p now)).s.W, 0)
  else (p, [], 2)
def newP : Pr := ⟨0, 0, newS, [], fun _ => ⟨false, false, 0, [], false, [], ⟨[], [], 0, false⟩, 0, 0, 0, 0⟩, 1, 10, []⟩
end Go.Proofs.YtkhlihpghbhppaaGreat.Pv

