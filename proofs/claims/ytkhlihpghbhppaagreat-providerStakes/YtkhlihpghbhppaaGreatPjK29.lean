/- Parts of the proof: SU ME1 PVM. -/
import Derived.Test.YtkhlihpghbhppaaGreatRows
import Derived.Test.YtkhlihpghbhppaaGreatPjK4
import Derived.Test.YtkhlihpghbhppaaGreatPjK21
import Derived.Test.YtkhlihpghbhppaaGreatPjK41
import Derived.Test.YtkhlihpghbhppaaGreatPjK44
import Derived.Test.YtkhlihpghbhppaaGreatPjK46
import Derived.Test.YtkhlihpghbhppaaGreatPjK49
import Derived.WalkKit
import Derived.WalkSpells
import Derived.WalkLawsBesides
import Derived.Below
import Derived.Deep.DeepCutAuto
set_option maxRecDepth 100000
namespace Go.Proofs.YtkhlihpghbhppaaGreat
open Go.RowKit
def newS : St := ⟨⟨100000, 100000, 100000, 100000, 0, 0, 0⟩, fun _ => ⟨0, 0, 0, false, false⟩, fun _ _ => 0, [], 1⟩
theorem results_stake1 {fn : Func} {p : Tmp} (h : fn.results = #[.cell p 32]) (tmps : Array Value) (w : World) (g : Nat) (cs : Array Value)
    (hp : tmps.getD p undef = .pointer (some ⟨g, 0, none⟩)) (hg : SAt w g cs) (hsz : cs.size = 63) :
    (results fn tmps).run Tryz.prog w = .ok (.agg cs) w :=
  results_cell_row h _ _ g 32 cs (0, 0) _ hp hg Tryz.underlying32 rfl (by rw [infoS, hsz])
set_option maxHeartbeats 4000000 in
theorem snew_any (w : World) : Calls Tryz.prog 59 #[] w fun e w' => e = .returned (.agg (stC newS (.slice none 0 0))) ∧ Below w.heap.size w w' := by
  have R0 := SAt.new w Z63
  have HB0 : Hid (Below w.heap.size w (w.alloc (.cells Z63 32))) := (Below.refl _ w).alloc (Nat.le_refl _) _
  have hN := new_any
  go_enter Tryz.func59, Tryz.ntmps59
  go_upto_region 1 with fail
  change Code.wp Tryz.prog _ _ _ (w.alloc (.cells Z63 32))
  generalize w.alloc (.cells Z63 32) = w0 at *
  apply wp_region_lit
  go_step
  go_step
  refine (hN _).mono ?_
  rintro e w1 ⟨rfl, h1⟩
  have R1 := R0.later h1 R0.lt
  have HB1 := hide (HB0.out.trans (h1.mono HB0.out.size))
  clear h1 R0 HB0 hN
  dsimp only
  go_step
  go_step
  go_step
  go_step
  refine wpList_store_mid rfl 32 _ _ rfl _ 0 (stC newS (.slice none 0 0)) rfl rfl (R1.there 0 _ (by rw [Z63_size, stC_size]; omega)) (by rw [infoS]; rfl) (stC_one _ _ _ _) ?_
  go_wp2
  have R3 := R1.setAll (ds := stC newS (.slice none 0 0)) (by rw [stC_size]; rfl)
  exact bodyPost_ret (v := .agg (stC newS (.slice none 0 0))) (results_stake1 Tryz.results59 _ _ _ _ rfl R3 rfl) rfl ⟨rfl, below_sets (Nat.le_refl _) _ _ _ HB1.out⟩
/-- a stake that somebody has staked on -/
def oneS : St := (delegS newS 0 1 250).1
theorem one_good : goodS oneS = true := by decide +kernel
end Go.Proofs.YtkhlihpghbhppaaGreat

set_option maxRecDepth 100000
namespace Go.Proofs.YtkhlihpghbhppaaGreat.Mt
open Go.RowKit
theorem hide {p : Prop} (h : p) : Hid p := h
def I64 (a : Int) : Prop := -9223372036854775808 ≤ a ∧ a ≤ 9223372036854775807
/-- P6.1 -/
def alw (a : Int) : Int := if a < 5 then 1 else a / 5
theorem below_new (w : World) (o : Obj) : Below w.heap.size w (w.alloc o) := (Below.refl _ _).alloc (Nat.le_refl _) o
theorem below_then {w w1 w2 : World} (h : Below w.heap.size w w1) (k : Below w1.heap.size w1 w2) : Below w.heap.size w w2 := h.trans (k.mono h.size)
theorem quo5 {a : Int} (h : I64 a) (h5 : 5 ≤ a) : wrap64 (a.tdiv 5) = a / 5 := by
  unfold I64 at h
  rw [Int.tdiv_eq_ediv_of_nonneg (by omega)]
  unfold wrap64
  omega
theorem quo5' {a : Int} (h : I64 a) (h5 : a < 5) : ∃ q, wrap64 (a.tdiv 5) = q ∧ q < 1 := by
  refine ⟨_, rfl, ?_⟩
  unfold I64 at h
  by_cases h0 : 0 ≤ a
  · rw [Int.tdiv_eq_ediv_of_nonneg (by omega)]
    unfold wrap64
    omega
  · have e : a.tdiv 5 = -((-a) / 5) := by
      rw [show a = -(-a) by omega, Int.neg_tdiv, Int.tdiv_eq_ediv_of_nonneg (by omega)]
      simp
    rw [e]
    unfold wrap64
    omega
theorem alw_any (a : Int) (h : I64 a) (w : World) : Calls Tryz.prog 121 #[.int .i64 a] w fun e w' => e = .returned (.int .i64 (alw a)) ∧ w = w' := by
  by_cases h5 : a < 5
  · obtain ⟨q, hq, hq1⟩ := quo5' h h5
    rw [show alw a = 1 from if_pos h5]
    clear h5 h
    go_enter Tryz.func121, Tryz.ntmps121
    go_wp2
    go_ret
    exact ⟨rfl, rfl⟩
  · have hq := quo5 h (by omega)
    rw [show alw a = a / 5 from if_neg h5]
    have hq1 : 1 ≤ a / 5 := by omega
    generalize a / 5 = q at *
    clear h5 h
    go_enter Tryz.func121, Tryz.ntmps121
    go_wp2
    go_ret
    exact ⟨rfl, rfl⟩
theorem ralw_any (a : Int) (h : I64 a) (w : World) : Calls Tryz.prog 123 #[.int .i64 a] w fun e w' => e = .returned (.int .i64 (alw a)) ∧ w = w' := by
  by_cases h5 : a < 5
  · rw [show alw a = 1 from if_pos h5]
    go_enter Tryz.func123, Tryz.ntmps123
    go_wp2
    go_ret
    exact ⟨rfl, rfl⟩
  · have hq := quo5 h (by omega)
    rw [show alw a = a / 5 from if_neg h5]
    generalize a / 5 = q at *
    go_enter Tryz.func123, Tryz.ntmps123
    go_wp2
    go_ret
    exact ⟨rfl, rfl⟩
/-- a meter lies in a block -/
def MAt (w : World) (b : Nat) (l n : Int) : Prop := w.heap[b]? = some (.cells #[.int .i64 l, .int .i64 n] 44)
section
variable {w w' : World} {b B : Nat} {l n : Int}
theorem MAt.later (h : MAt w b l n) (hb : Below B w w') (hB : b < B) : MAt w' b l n := (hb.block b hB).trans h
theorem MAt.new (w : World) (l n : Int) : MAt (w.alloc (.cells #[.int .i64 l, .int .i64 n] 44)) w.heap.size l n := heap_alloc_new _ _
theorem MAt.new2 (w : World) (o : Obj) (l n : Int) : MAt ((w.alloc o).alloc (.cells #[.int .i64 l, .int .i64 n] 44)) (w.heap.size + 1) l n := by
  have := MAt.new (w.alloc o) l n
  rwa [show (w.alloc o).heap.size = w.heap.size + 1 by simp] at this
theorem MAt.lt (h : MAt w b l n) : b < w.heap.size := (Array.getElem?_eq_some_iff.1 h).1
theorem MAt.alloc (h : MAt w b l n) (o : Obj) : MAt (w.alloc o) b l n := (Below.heap_alloc _ _ _ h.lt).trans h
theorem MAt.other {c o : Nat} (h : MAt w b l n) (hb : b ≠ c) (v : Value) : MAt (w.setCell ⟨c, o, none⟩ v) b l n := (Below.heap_setCell _ _ _ _ hb).trans h
theorem MAt.facts (h : MAt w b l n) : (w.cell? ⟨b, 0, none⟩ = some (.int .i64 l) ∧ w.cell? ⟨b, 1, none⟩ = some (.int .i64 n)) ∧ (w.frozen? ⟨b, 0, none⟩ = false ∧ w.frozen? ⟨b, 1, none⟩ = false) := by
  unfold MAt at h
  simp [World.cell?, World.frozen?, h]
theorem MAt.set (h : MAt w b l n) (l' n' : Int) : MAt ((w.setCell ⟨b, 0, none⟩ (.int .i64 l')).setCell ⟨b, 1, none⟩ (.int .i64 n')) b l' n' := by
  unfold MAt at *
  simp [World.setCell, Array.getElem?_modify, h]
end
theorem meter_end {f : Func} {p : Tmp} (hres : f.results = #[.cell p 44]) {w wq : World} {g : Nat} {l n : Int} (R : MAt wq g l n) (H : Below w.heap.size w wq) (act : Act) (h8 : act.tmps.getD p undef = .pointer (some ⟨g, 0, none⟩)) (hd : act.defers = []) :
    bodyPost Tryz.prog f (fun e w' => e = .returned (.agg #[.int .i64 l, .int .i64 n]) ∧ Below w.heap.size w w') Exit.ret act wq := by
  obtain ⟨⟨u0, u1⟩, -⟩ := R.facts
  have h8' : act.tmps[p]?.getD undef = .pointer (some ⟨g, 0, none⟩) := by simpa using h8
  exact bodyPost_ret (v := .agg #[.int .i64 l, .int .i64 n]) (by simp [results, hres, go_sem, h8', u0, u1]) hd ⟨rfl, H⟩
theorem below_2 (w : World) (o p : Obj) : Below w.heap.size w ((w.alloc o).alloc p) := (below_new w o).alloc (by simp) p
theorem mnew_any (a t : Int) (h : I64 a) (w : World) : Calls Tryz.prog 60 #[.int .i64 a, .int .i64 t] w fun e w' => e = .returned (.agg #[.int .i64 (alw a), .int .i64 (wrap64 (t + 10))]) ∧ Below w.heap.size w w' := by
  have ha := alw_any a h
  generalize alw a = A at *
  go_enter Tryz.func60, Tryz.ntmps60
  go_wp2_with (go_at_call 121; refine (ha _).mono ?_; rintro e w2 ⟨rfl, rfl⟩)
  exact meter_end Tryz.results60 (MAt.new _ _ _) (below_new w _) _ rfl rfl
theorem rmnew_any (a t : Int) (h : I64 a) (w : World) : Calls Tryz.prog 62 #[.int .i64 a, .int .i64 t] w fun e w' => e = .returned (.agg #[.int .i64 (alw a), .int .i64 (wrap64 (t + 10))]) ∧ Below w.heap.size w w' := by
  have ha := ralw_any a h
  generalize alw a = A at *
  go_enter Tryz.func62, Tryz.ntmps62
  go_wp2_with (go_at_call 123; refine (ha _).mono ?_; rintro e w2 ⟨rfl, rfl⟩)
  exact meter_end Tryz.results62 (MAt.new _ _ _) (below_new w _) _ rfl rfl
/-- P6.2 -/
theorem mtick_any (l n a t : Int) (h : I64 a) (w : World) : Calls Tryz.prog 75 #[.agg #[.int .i64 l, .int .i64 n], .int .i64 a, .int .i64 t] w fun e w' => e = .returned (.agg #[.int .i64 (if t < n then l else alw a), .int .i64 (if t < n then n else wrap64 (t + 10))]) ∧ Below w.heap.size w w' := by
  have hn := mnew_any a t h
  generalize alw a = A at *
  generalize wrap64 (t + 10) = T at *
  by_cases hlt : t < n
  · rw [if_pos hlt, if_pos hlt]
    go_enter Tryz.func75, Tryz.ntmps75
    go_wp2
    exact meter_end Tryz.results75 (MAt.new2 _ _ _ _) (below_2 w _ _) _ rfl rfl
  · rw [if_neg hlt, if_neg hlt]
    have R := MAt.new2 w (.cells #[.int .i64 l, .int .i64 n] 44) 0 0
    have B := below_2 w (.cells #[.int .i64 l, .int .i64 n] 44) (.cells #[.int .i64 0, .int .i64 0] 44)
    go_enter Tryz.func75, Tryz.ntmps75
    go_upto_region 3 with fail
    generalize ((w.alloc (.cells #[.int .i64 l, .int .i64 n] 44)).alloc (.cells #[.int .i64 0, .int .i64 0] 44)) = w1 at *
    go_wp2_with (go_at_call 60; refine (hn _).mono ?_; rintro e w2 ⟨rfl, hb⟩; have R2 := R.later hb R.lt; obtain ⟨⟨c0, c1⟩, ⟨f0, f1⟩⟩ := R2.facts)
    exact meter_end Tryz.results75 (R2.set _ _) (((below_then B hb).setCell (Nat.le_succ _) _).setCell (Nat.le_succ _) _) _ rfl rfl
end Go.Proofs.YtkhlihpghbhppaaGreat.Mt

set_option maxRecDepth 100000
namespace Go.Proofs.YtkhlihpghbhppaaGreat.Pv
open Go.RowKit
def isT (n : Int) : Bool := decide (0 ≤ n) && decide (n ≤ 1099511627776)
def isC (c : Int) : Bool := decide (0 ≤ c) && decide (c < 2)
def updL (L : Nat → Lk) (c : Nat) (x : Lk) : Nat → Lk := fun i => if i = c then x else L i
/-- P7.2 -/
def delegP (p : Pr) (d v n : Int) : Pr × Int := if goodP p = true then ({ p with s := (delegS p.s d v n).1 }, (delegS p.s d v n).2) else (p, 2)
def holdOf (p : Pr) (c : Nat) : Int := if (p.L c).on = true then p.h + 1 else 0
def freshL (L : Nat → Lk) : Nat → Lk := fun c => if (L c).on = true then { L c with fresh := true } else L c
def newWt (p : Pr) (now : Int) : Wt := ⟨0, 0, 0, 0, p.h + 1, now + 20, holdOf p 0, holdOf p 1⟩
def undelP (p : Pr) (d v n now : Int) : Pr × Int :=
  if goodP p = true ∧ isT now = true then
    if (undelS p.s d v n (newWt p now)).2 = 0 then ({ p with s := (undelS p.s d v n (newWt p now)).1, L := freshL p.L }, 0) else (p, (undelS p.s d v n (newWt p now)).2)
  else (p, 2)
def isOn (p : Pr) (c : Int) : Bool := isC c && (p.L c.toNat).on
/-- burnt from a height on, and buried -/
def punS (s : St) (v : Nat) (h : Int) : St := setJ (slashS s v h 50) v true true
/-- P7.7 -/
def evidP (p : Pr) (v h : Int) : Pr × Int :=
  if goodP p = true then
    if isV v = true then
      if 1 ≤ h ∧ h ≤ p.h then
        if (p.s.V v.toNat).dead = true then (p, 15) else ({ p with s := punS p.s v.toNat h }, 0)
      else (p, 2)
    else (p, 4)
  else (p, 2)
/-- validators with one more, by number -/
def doneL (D : List Int) (v : Int) : List Int := ((List.range 6).map Int.ofNat).filter fun u => decide (u = v) || decide (u ∈ D)
def powV (x : Vd) : Int := if x.tok / 100 < 1 then 1 else x.tok / 100
def maxI (a b : Int) : Int := if a < b then b else a
/-- P7.6: what comes of a packet; false: it waits -/
def dealP (p : Pr) (c : Nat) (x : Pkt) : Pr × Bool :=
  if x.k = 2 then ({ p with s := { p.s with W := relW c x.i p.s.W } }, true)
  else if x.k = 4 then
    if (p.s.V x.v.toNat).dead = true then (p, true) else ({ p with s := punS p.s x.v.toNat (maxI x.i (p.L c).base) }, true)
  else if (p.s.V x.v.toNat).jail = true then ({ p with L := updL p.L c { p.L c with done := doneL (p.L c).done x.v } }, true)
  else if p.ml < 1 then (p, false)
  else ({ p with ml := wrap64 (p.ml - powV (p.s.V x.v.toNat)), s := setJ p.s x.v.toNat true (p.s.V x.v.toNat).dead, L := updL p.L c { p.L c with done := doneL (p.L c).done x.v } }, true)
structure QS where
  p : Pr
  wt : Nat → Bool
  left : List (Int × Pkt)
def stepQ (z : QS) (a : Int × Pkt) : QS :=
  if z.wt a.1.toNat = true then { z with left := z.left ++ [a] }
  else if (dealP z.p a.1.toNat a.2).2 = true then { z with p := (dealP z.p a.1.toNat a.2).1 }
  else { z with wt := fun i => if i = a.1.toNat then true else z.wt i, left := z.left ++ [a] }
def goQ (p : Pr) : QS := p.q.foldl stepQ ⟨p, fun _ => false, []⟩
def queueP (p : Pr) : Pr := { (goQ p).p with q := (goQ p).left }
/-- what a consumer is told -/
def quietB (p : Pr) (x : Lk) : Bool := !x.on || (decide (x.told = p.set) && !x.fresh && decide (x.done.length = 0))
def tellP (p : Pr) (c : Nat) : Pr :=
  if quietB p (p.L c) = true then p
  else if Cd.goodN 1 p.h 0 0 (Df.diffL (p.L c).told p.set) (p.L c).done = 0 then
    if Ln.sayE (p.L c).out (p.t + 40) = 0 then { p with L := updL p.L c { p.L c with out := Ln.sayL (p.L c).out (Cd.encS 1 p.h 0 0 (Df.diffL (p.L c).told p.set) (p.L c).done) (p.t + 40), told := p.set, fresh := false, done := [] } } else p
  else p
/-- P7.8 -/
def tickP (p : Pr) (now : Int) : Pr := { p with h := p.h + 1, t := now, ml := if now < p.mn then p.ml else Mt.alw (Df.allN p.set), mn := if now < p.mn then p.mn else wrap64 (now + 10) }
def paidP (p : Pr) (now : Int) : Pr := { p with s := payS p.s now, set := setS (payS p.s now).V }
def endP (p : Pr) (now : Int) : Pr × List Int × Int :=
  if goodP p = true ∧ isT now = true ∧ p.t ≤ now then
    (tellP (tellP (paidP (queueP (tickP p now)) now) 0) 1, paidW now (queueP (tickP p now)).s.W, 0)
  else (p, [], 2)
def newP : Pr := ⟨0, 0, newS, [], fun _ => ⟨false, false, 0, [], false, [], ⟨[], [], 0, false⟩, 0, 0, 0, 0⟩, 1, 10, []⟩
end Go.Proofs.YtkhlihpghbhppaaGreat.Pv

