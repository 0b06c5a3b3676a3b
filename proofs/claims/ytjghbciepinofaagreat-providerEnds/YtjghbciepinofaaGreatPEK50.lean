/- Parts of the proof: PVM PGA SRL2 DF2. -/
import Derived.Test.YtjghbciepinofaaGreatRows
import Derived.Test.YtjghbciepinofaaGreatPEK19
import Derived.Test.YtjghbciepinofaaGreatPEK39
import Derived.Test.YtjghbciepinofaaGreatPEK46
import Derived.Test.YtjghbciepinofaaGreatPEK47
import Derived.Test.YtjghbciepinofaaGreatPEK48
import Derived.Maps.AppendAt
set_option maxRecDepth 100000
namespace Go.Proofs.YtjghbciepinofaaGreat.Pv
open Go.RowKit
def isC (c : Int) : Bool := decide (0 ≤ c) && decide (c < 2)
def updL (L : Nat → Lk) (c : Nat) (x : Lk) : Nat → Lk := fun i => if i = c then x else L i
/-- P7.2 -/
def delegP (p : Pr) (d v n : Int) : Pr × Int := if goodP p = true then ({ p with s := (delegS p.s d v n).1 }, (delegS p.s d v n).2) else (p, 2)
def isOn (p : Pr) (c : Int) : Bool := isC c && (p.L c.toNat).on
/-- burnt from a height on, and buried -/
def punS (s : St) (v : Nat) (h : Int) : St := setJ (slashS s v h 50) v true true
/-- validators with one more, by number -/
def doneL (D : List Int) (v : Int) : List Int := ((List.range 6).map Int.ofNat).filter fun u => decide (u = v) || decide (u ∈ D)
def powV (x : Vd) : Int := if x.tok / 100 < 1 then 1 else x.tok / 100
def maxI (a b : Int) : Int := if a < b then b else a
/-- P7.6: what comes of a packet; false: it waits -/
def dealP (p : Pr) (c : Nat) (x : Pkt) : Pr × Bool :=
  if x.k = 2 then ({ p with s := { p.s with W := relW c x.i p.s.W } }, true)
  else if x.k = 4 then
    if (p.s.V x.v.toNat).dead = true then (p, true) else ({ p with s := punS p.s x.v.toNat (maxI x.i (p.L c).base) }, true)
  else if (p.s.V x.v.toNat).jail = true then ({ p with L := updL p.L c { p.L c with done := doneL (p.L c).done x.v } }, true)
  else if p.ml < 1 then (p, false)
  else ({ p with ml := wrap64 (p.ml - powV (p.s.V x.v.toNat)), s := setJ p.s x.v.toNat true (p.s.V x.v.toNat).dead, L := updL p.L c { p.L c with done := doneL (p.L c).done x.v } }, true)
structure QS where
  p : Pr
  wt : Nat → Bool
  left : List (Int × Pkt)
def stepQ (z : QS) (a : Int × Pkt) : QS :=
  if z.wt a.1.toNat = true then { z with left := z.left ++ [a] }
  else if (dealP z.p a.1.toNat a.2).2 = true then { z with p := (dealP z.p a.1.toNat a.2).1 }
  else { z with wt := fun i => if i = a.1.toNat then true else z.wt i, left := z.left ++ [a] }
def goQ (p : Pr) : QS := p.q.foldl stepQ ⟨p, fun _ => false, []⟩
def queueP (p : Pr) : Pr := { (goQ p).p with q := (goQ p).left }
/-- what a consumer is told -/
def quietB (p : Pr) (x : Lk) : Bool := !x.on || (decide (x.told = p.set) && !x.fresh && decide (x.done.length = 0))
def tellP (p : Pr) (c : Nat) : Pr :=
  if quietB p (p.L c) = true then p
  else if Cd.goodN 1 p.h 0 0 (Df.diffL (p.L c).told p.set) (p.L c).done = 0 then
    if Ln.sayE (p.L c).out (p.t + 40) = 0 then { p with L := updL p.L c { p.L c with out := Ln.sayL (p.L c).out (Cd.encS 1 p.h 0 0 (Df.diffL (p.L c).told p.set) (p.L c).done) (p.t + 40), told := p.set, fresh := false, done := [] } } else p
  else p
/-- P7.8 -/
def tickP (p : Pr) (now : Int) : Pr := { p with h := p.h + 1, t := now, ml := if now < p.mn then p.ml else Mt.alw (Df.allN p.set), mn := if now < p.mn then p.mn else wrap64 (now + 10) }
def paidP (p : Pr) (now : Int) : Pr := { p with s := payS p.s now, set := setS (payS p.s now).V }
def endP (p : Pr) (now : Int) : Pr × List Int × Int :=
  if goodP p = true ∧ isT now = true ∧ p.t ≤ now then
    (tellP (tellP (paidP (queueP (tickP p now)) now) 0) 1, paidW now (queueP (tickP p now)).s.W, 0)
  else (p, [], 2)
def newP : Pr := ⟨0, 0, newS, [], fun _ => ⟨false, false, 0, [], false, [], ⟨[], [], 0, false⟩, 0, 0, 0, 0⟩, 1, 10, []⟩
end Go.Proofs.YtjghbciepinofaaGreat.Pv

set_option maxRecDepth 100000
namespace Go.Proofs.YtjghbciepinofaaGreat.Pv
open Go.RowKit
theorem ptime_any (n : Int) (w : World) : Calls Tryz.prog 27 #[.int .i64 n] w fun e w' => e = .returned (.bool (isT n)) ∧ w = w' := by
  have hT : isT n = (decide (0 ≤ n) && decide (n ≤ 1099511627776)) := rfl
  generalize isT n = t at *
  have HT := hide hT
  clear hT
  by_cases h : 0 ≤ n
  · by_cases h2 : n ≤ 1099511627776
    · have e : t = true := by rw [HT.out]; simp [h, h2]
      subst e
      go_enter Tryz.func27, Tryz.ntmps27
      go_wp2
      go_ret
      exact ⟨rfl, rfl⟩
    · have e : t = false := by rw [HT.out]; simp [h2]
      subst e
      go_enter Tryz.func27, Tryz.ntmps27
      go_wp2
      go_ret
      exact ⟨rfl, rfl⟩
  · have e : t = false := by rw [HT.out]; simp [h]
    subst e
    go_enter Tryz.func27, Tryz.ntmps27
    go_wp2
    go_ret
    exact ⟨rfl, rfl⟩
theorem pcons_any (n : Int) (w : World) : Calls Tryz.prog 63 #[.int .i64 n] w fun e w' => e = .returned (.bool (isC n)) ∧ w = w' := by
  have hT : isC n = (decide (0 ≤ n) && decide (n < 2)) := rfl
  generalize isC n = t at *
  have HT := hide hT
  clear hT
  by_cases h : 0 ≤ n
  · by_cases h2 : n < 2
    · have e : t = true := by rw [HT.out]; simp [h, h2]
      subst e
      go_enter Tryz.func63, Tryz.ntmps63
      go_wp2
      go_ret
      exact ⟨rfl, rfl⟩
    · have e : t = false := by rw [HT.out]; simp [h2]
      subst e
      go_enter Tryz.func63, Tryz.ntmps63
      go_wp2
      go_ret
      exact ⟨rfl, rfl⟩
  · have e : t = false := by rw [HT.out]; simp [h]
    subst e
    go_enter Tryz.func63, Tryz.ntmps63
    go_wp2
    go_ret
    exact ⟨rfl, rfl⟩
theorem pval_any (v : Int) (w : World) : Calls Tryz.prog 79 #[.int .i64 v] w fun e w' => e = .returned (.bool (isV v)) ∧ w = w' := by
  have hT : isV v = decide (0 ≤ v ∧ v < 6) := rfl
  generalize isV v = t at *
  have HT := hide hT
  clear hT
  by_cases h : 0 ≤ v
  · by_cases h2 : v < 6
    · have e : t = true := by rw [HT.out]; simp [h, h2]
      subst e
      go_enter Tryz.func79, Tryz.ntmps79
      go_wp2
      go_ret
      exact ⟨rfl, rfl⟩
    · have e : t = false := by rw [HT.out]; simp [h2]
      subst e
      go_enter Tryz.func79, Tryz.ntmps79
      go_wp2
      go_ret
      exact ⟨rfl, rfl⟩
  · have e : t = false := by rw [HT.out]; simp [h]
    subst e
    go_enter Tryz.func79, Tryz.ntmps79
    go_wp2
    go_ret
    exact ⟨rfl, rfl⟩
theorem isC_of {c : Int} (h : isC c = true) : ∃ k : Nat, c = (k : Int) ∧ k < 2 := by
  unfold isC at h
  simp only [Bool.and_eq_true, decide_eq_true_eq] at h
  exact ⟨c.toNat, by omega, by omega⟩
/-- whether a consumer is on -/
theorem pison_any (g : Nat) (p : Pr) (v : PrV) (c : Int) (w : World) (h : CAt 47 w g (prC p v)) : Calls Tryz.prog 23 #[.pointer (some ⟨g, 0, none⟩), .int .i64 c] w fun e w' => e = .returned (.bool (isOn p c)) ∧ w = w' := by
  have hO : isOn p c = (isC c && (p.L c.toNat).on) := rfl
  generalize isOn p c = o at *
  by_cases hc : isC c = true
  · obtain ⟨k, rfl, hk⟩ := isC_of hc
    rw [hc, Bool.true_and, Int.toNat_natCast] at hO
    have c0 : w.cell? ⟨g, 66 + k * 14, none⟩ = some (.bool (p.L k).on) := by
      have := pr_link (p := p) (v := v) k hk 0 (by omega)
      rw [Nat.add_zero] at this
      exact (h.cell _).trans this
    have k0 : (0 : Int) ≤ (k : Int) := by omega
    have k2 : (k : Int) < 2 := by omega
    subst hO
    generalize (p.L k).on = o at *
    clear h
    go_enter Tryz.func23, Tryz.ntmps23
    go_wp2_with (go_at_call 63; refine (pcons_any _ _).mono ?_; rintro e w' ⟨rfl, rfl⟩)
    go_ret
    exact ⟨rfl, rfl⟩
  · have hc : isC c = false := by simpa using hc
    rw [hc, Bool.false_and] at hO
    subst hO
    clear h
    go_enter Tryz.func23, Tryz.ntmps23
    go_wp2_with (go_at_call 63; refine (pcons_any _ _).mono ?_; rintro e w' ⟨rfl, rfl⟩)
    go_ret
    exact ⟨rfl, rfl⟩
set_option maxHeartbeats 2000000 in
theorem pset_rep (l : List (Int × Int)) (v : Value) (P : Nat → Prop) (w : World) (h : Rep P w v 2 16 (pwC l)) : Calls Tryz.prog 34 #[v] w fun e w' => e = .returned (.bool (setB (-1) l)) ∧ Below w.heap.size w w' := by
  obtain ⟨A, C, rfl, hs, -, hc, -⟩ := h.open (pwC_length _) (by decide)
  have HC := hide hc
  have hlen : l.length ≤ 8796093022202 := by omega
  obtain ⟨G, hG⟩ : ∃ G, setB (-1) l = G := ⟨_, rfl⟩
  have HG := hide hG
  rw [hG]
  clear hc h hs hG
  go_enter Tryz.func34, Tryz.ntmps34
  go_upto_region 3 with fail
  go_loopw [3, 8] (fun s3 i wl => ∃ (k : Nat) (last : Int), k ≤ l.length ∧ i = .int .i64 (k : Int) ∧ s3 = .int .i64 last ∧ -1 ≤ last ∧ Hid (G = setB last (l.drop k) ∧ Below w.heap.size w wl)) (fun _ i _ => l.length - (intOf i).toNat)
  case atStart => exact ⟨0, -1, Nat.zero_le _, rfl, rfl, by omega, HG.out.symm, Below.refl _ _⟩
  case round =>
    obtain ⟨k, last, hk, rfl, rfl, hla, HR⟩ := hrel
    by_cases hlt : k < l.length
    · have hkI : (k : Int) < (l.length : Int) := by omega
      obtain ⟨x, hx, hd⟩ := drop_at' hlt
      obtain ⟨b, off, rfl, -, hbl, hcell⟩ := HC.out (by omega)
      have gx : l.getD k (0, 0) = x := by simp [List.getD, hx]
      obtain ⟨p0, p1⟩ := pwC_get l k hlt
      rw [gx] at p0 p1
      have c0 : wr.cell? ⟨b, off + k * 2, none⟩ = some (.int .i64 x.1) := (HR.out.2.cell (p := ⟨b, off + k * 2, none⟩) hbl).trans (hcell _ _ p0)
      have c1 : wr.cell? ⟨b, off + k * 2 + 1, none⟩ = some (.int .i64 x.2) := (HR.out.2.cell (p := ⟨b, off + k * 2 + 1, none⟩) hbl).trans (hcell _ _ p1)
      have HE : Hid (G = (setB1 last x && setB x.1 (l.drop (k + 1)))) := by have := HR.out.1; rw [hd] at this; exact this
      have HB := hide (HR.out.2.alloc HR.out.2.size (.cells #[.int .i64 x.1, .int .i64 x.2] 74))
      have HO : Hid (∀ last, setB1 last x = (decide (last < x.1) && decide (x.1 ≤ 5) && decide (1 ≤ x.2) && decide (x.2 ≤ 1125899906842624))) := fun _ => rfl
      have hvI : Hid (isV x.1 = decide (0 ≤ x.1 ∧ x.1 < 6)) := rfl
      clear HR hd hx gx p0 p1 hcell
      obtain ⟨x1, x2⟩ := x
      dsimp only at c0 c1 hvI
      by_cases h1 : last < x1 ∧ x1 ≤ 5 ∧ 1 ≤ x2 ∧ x2 ≤ 1125899906842624
      · obtain ⟨h1, h2, h3, h4⟩ := h1
        have e : G = setB x1 (l.drop (k + 1)) := by rw [HE.out, HO.out]; simp [h1, h2, h3, h4]
        have HE2 := hide e
        have hv : isV x1 = true := by rw [hvI.out]; simp; omega
        clear e HE
        go_wp2_with (go_at_call 79; refine (pval_any _ _).mono ?_; rintro e w' ⟨rfl, rfl⟩)
        first | exact ⟨⟨k + 1, x1, by omega, by go_num, rfl, by omega, HE2.out, HB.out⟩, by simp [intOf]; omega⟩ | ((repeat apply Exists.intro); exact ⟨⟨k + 1, x1, by omega, by go_num, rfl, by omega, HE2.out, HB.out⟩, rfl⟩)
      · have e : G = false := by
          rw [HE.out, HO.out]
          simp only [Bool.and_eq_false_iff, decide_eq_false_iff_not]
          by_cases q1 : last < x1
          · by_cases q2 : x1 ≤ 5
            · by_cases q3 : 1 ≤ x2
              · exact .inl (.inr fun q4 => h1 ⟨q1, q2, q3, q4⟩)
              · exact .inl (.inl (.inr q3))
            · exact .inl (.inl (.inl (.inr q2)))
          · exact .inl (.inl (.inl (.inl q1)))
        subst e
        clear HE HG
        have hcs : ¬ last < x1 ∨ (last < x1 ∧ isV x1 = false) ∨ (last < x1 ∧ isV x1 = true ∧ ¬ 1 ≤ x2) ∨ (last < x1 ∧ isV x1 = true ∧ 1 ≤ x2 ∧ ¬ x2 ≤ 1125899906842624) := by
          by_cases q1 : last < x1
          · by_cases q2 : x1 ≤ 5
            · have hv : isV x1 = true := by rw [hvI.out]; simp; omega
              by_cases q3 : 1 ≤ x2
              · exact .inr (.inr (.inr ⟨q1, hv, q3, fun q4 => h1 ⟨q1, q2, q3, q4⟩⟩))
              · exact .inr (.inr (.inl ⟨q1, hv, q3⟩))
            · have hv : isV x1 = false := by rw [hvI.out]; simp; omega
              exact .inr (.inl ⟨q1, hv⟩)
          · exact .inl q1
        clear h1
        rcases hcs with h1 | ⟨h1, h2⟩ | ⟨h1, h2, h3⟩ | ⟨h1, h2, h3, h4⟩
        all_goals
          go_wp2_with (go_at_call 79; refine (pval_any _ _).mono ?_; rintro e w' ⟨rfl, rfl⟩)
          go_ret
          exact ⟨rfl, HB.out⟩
    · obtain rfl : k = l.length := by omega
      have e : G = true := by have := HR.out.1; rw [List.drop_length] at this; exact this
      subst e
      go_wp2
      go_ret
      exact ⟨rfl, HR.out.2⟩
set_option maxHeartbeats 2000000 in
theorem prises_rep (l : List Int) (v : Value) (P : Nat → Prop) (w : World) (h : Rep P w v 1 8 (inC l)) : Calls Tryz.prog 80 #[v] w fun e w' => e = .returned (.bool (riseB (-1) l)) ∧ w = w' := by
  obtain ⟨A, C, rfl, hs, -, hc, -⟩ := h.open (inC_length _) (by decide)
  have HC := hide hc
  have hlen : l.length ≤ 17592186044405 := by omega
  obtain ⟨G, hG⟩ : ∃ G, riseB (-1) l = G := ⟨_, rfl⟩
  have HG := hide hG
  rw [hG]
  clear hc h hs hG
  go_enter Tryz.func80, Tryz.ntmps80
  go_upto_region 3 with fail
  go_loop [3, 8] (fun s3 i => ∃ (k : Nat) (last : Int), k ≤ l.length ∧ i = .int .i64 (k : Int) ∧ s3 = .int .i64 last ∧ -1 ≤ last ∧ Hid (G = riseB last (l.drop k))) (fun _ i => l.length - (intOf i).toNat)
  case atStart => exact ⟨0, -1, Nat.zero_le _, rfl, rfl, by omega, HG.out.symm⟩
  case round =>
    obtain ⟨k, last, hk, rfl, rfl, hla, HR⟩ := hrel
    by_cases hlt : k < l.length
    · have hkI : (k : Int) < (l.length : Int) := by omega
      obtain ⟨x, hx, hd⟩ := drop_at' hlt
      obtain ⟨b, off, rfl, -, hbl, hcell⟩ := HC.out (by omega)
      have gx : l.getD k 0 = x := by simp [List.getD, hx]
      have p0 := inC_get l k hlt
      rw [gx] at p0
      have c0 : w.cell? ⟨b, off + k, none⟩ = some (.int .i64 x) := hcell _ _ p0
      have HE : Hid (G = ((decide (last < x) && decide (x ≤ 5)) && riseB x (l.drop (k + 1)))) := by have := HR.out; rw [hd] at this; exact this
      have hvI : Hid (isV x = decide (0 ≤ x ∧ x < 6)) := rfl
      clear HR hd hx gx p0 hcell
      by_cases h1 : last < x ∧ x ≤ 5
      · obtain ⟨h1, h2⟩ := h1
        have e : G = riseB x (l.drop (k + 1)) := by rw [HE.out]; simp [h1, h2]
        have HE2 := hide e
        have hv : isV x = true := by rw [hvI.out]; simp; omega
        clear e HE
        go_wp2_with (go_at_call 79; refine (pval_any _ _).mono ?_; rintro e w' ⟨rfl, rfl⟩)
        go_round
        case rel => exact ⟨k + 1, x, by omega, by go_num, rfl, by omega, HE2⟩
        case measure => simp [intOf]; omega
      · have e : G = false := by
          rw [HE.out]
          have : (decide (last < x) && decide (x ≤ 5)) = false := by
            rw [Bool.eq_false_iff]; intro h; simp only [Bool.and_eq_true, decide_eq_true_eq] at h; exact h1 h
          rw [this, Bool.false_and]
        subst e
        clear HE HG
        have hcs : ¬ last < x ∨ (last < x ∧ isV x = false) := by
          by_cases q1 : last < x
          · have hv : isV x = false := by rw [hvI.out]; simp; omega
            exact .inr ⟨q1, hv⟩
          · exact .inl q1
        clear h1
        rcases hcs with h1 | ⟨h1, h2⟩
        all_goals
          go_wp2_with (go_at_call 79; refine (pval_any _ _).mono ?_; rintro e w' ⟨rfl, rfl⟩)
          go_ret
          exact ⟨rfl, rfl⟩
    · obtain rfl : k = l.length := by omega
      have e : G = true := by have := HR.out; rw [List.drop_length] at this; exact this
      subst e
      go_wp2
      go_ret
      exact ⟨rfl, rfl⟩
end Go.Proofs.YtjghbciepinofaaGreat.Pv

set_option maxRecDepth 100000
namespace Go.Proofs.YtjghbciepinofaaGreat
open Go.RowKit
theorem stake_end1 {f : Func} {p : Tmp} (hres : f.results = #[.cell p 32]) {g : Nat} {wq : World} {zs : Array Value} (R : SAt wq g zs) (hz : zs.size = 63) (s' : St) (sl : Value) (Q : Ending → World → Prop) (hQ : Q (.returned (.agg (stC s' sl))) (wq.setCells g 0 (stC s' sl).toList)) (act : Act)
    (h8 : act.tmps.getD p undef = .pointer (some ⟨g, 0, none⟩)) (hd : act.defers = []) :
    bodyPost Tryz.prog f Q Exit.ret act (wq.setCells g 0 (stC s' sl).toList) := by
  have R3 := R.setAll (ds := stC s' sl) (by rw [hz]; rfl)
  refine bodyPost_ret (v := .agg (stC s' sl)) ?_ hd hQ
  exact results_cell_row hres _ _ _ _ _ _ _ h8 R3 Tryz.underlying32 rfl (by rw [infoS]; rfl)
/-- where the loop stands -/
structure RRl (s : St) (F : Wt → Wt) (B : Nat) (w : World) (A : Option Addr) (C k : Nat) (wl : World) : Prop where
  own : OwnW B wl A C ((s.W.take k).map F ++ s.W.drop k)
  S : SAt wl w.heap.size (stC s (.slice A s.W.length C))
  R : SAt wl (w.heap.size + 1) Z63
  below : Below w.heap.size w wl
set_option maxHeartbeats 8000000 in
theorem srelease_0 (s : St) (ao : Option Addr) (sb so c : Nat) (h : Int) (w : World) (hW : WsAt w ao sb so s.W) (h60 : s.W.length * 64 ≤ 140737488351232) :
    Calls Tryz.prog 110 #[.agg (stC s (.slice ao s.W.length c)), .int .i64 0, .int .i64 h] w fun e w' => ∃ A C, e = .returned (.agg (stC s (.slice A s.W.length C))) ∧ OwnW w.heap.size w' A C (relW 0 h s.W) ∧ Below w.heap.size w w' := by
  have SS := (SAt.new w (stC s (.slice ao s.W.length c))).alloc (.cells Z63 32)
  have RR := SAt.new2 w (.cells (stC s (.slice ao s.W.length c)) 32) Z63
  have HB : Hid (Below w.heap.size w ((w.alloc (.cells (stC s (.slice ao s.W.length c)) 32)).alloc (.cells Z63 32))) := ((Below.refl _ w).alloc (Nat.le_refl _) _).alloc (by simp) _
  have HW := hide hW
  clear hW
  go_enter Tryz.func110, Tryz.ntmps110
  go_upto_region 1 with fail
  change Code.wp Tryz.prog _ _ _ ((w.alloc (.cells (stC s (.slice ao s.W.length c)) 32)).alloc (.cells Z63 32))
  generalize (w.alloc (.cells (stC s (.slice ao s.W.length c)) 32)).alloc (.cells Z63 32) = w0 at *
  have hz0 : w.heap.size + 1 < w0.heap.size := RR.lt
  have hz0a : w.heap.size < w0.heap.size := by omega
  have x7 := (st_cells SS).2.2.2.2.2.2.2.1
  have hC := clone_any ao s.W c sb so w0 (HW.out.over HB.out)
  go_upto_region 4 with (go_at_call 146; refine hC.mono ?_; rintro e w1 ⟨A, C, rfl, hO, h1⟩; have S1 := SS.later h1 SS.lt; have R1 := RR.later h1 RR.lt; have HB1 := hide (HB.out.trans (h1.mono (by omega))); have HO1 := hide hO; have f61 := S1.free 61; have hz1 := S1.lt; clear x7; have x7 := (st_cells S1).2.2.2.2.2.2.2.1; clear h1 hO)
  have S2 := S1.set 61 (.slice A s.W.length C)
  rw [set_sl] at S2
  have hbt := (But.refl w.heap.size w1).set 61 (.slice A s.W.length C)
  have R2 := hbt.stake (by omega) R1
  have HO2 : Hid (OwnW w0.heap.size (w1.setCell ⟨w.heap.size, 61, none⟩ (.slice A s.W.length C)) A C s.W) := own_of HO1.out fun k hk => hbt.block _ (by have := (World.ownsRow.lt HO1.out k hk).1; omega)
  have HB2 := hide (HB1.out.trans (hbt.below (Nat.le_refl _)))
  generalize w1.setCell ⟨w.heap.size, 61, none⟩ (.slice A s.W.length C) = w2 at *
  clear x7 f61 S1 R1 HO1 HB1 hbt SS RR HB hC
  have x7 := (st_cells S2).2.2.2.2.2.2.2.1
  have hz2 : w.heap.size < w2.heap.size := S2.lt
  have HR0 : Hid (RRl s (relX 0 h) w0.heap.size w A C 0 w2) := ⟨HO2.out, S2, R2, HB2.out⟩
  clear S2 R2 HO2 HB2
  go_upto_region 5 with fail
  go_loopw [23] (fun i wl => ∃ (k : Nat), k ≤ s.W.length ∧ i = .int .i64 (k : Int) ∧ Hid (RRl s (relX 0 h) w0.heap.size w A C k wl)) (fun i _ => s.W.length - (intOf i).toNat)
  case atStart => exact ⟨0, Nat.zero_le _, rfl, HR0⟩
  case round =>
    obtain ⟨k, hk, rfl, HR⟩ := hrel
    clear HR0 x7
    have hwr := HR.out.S.lt
    by_cases hlt : k < s.W.length
    · obtain ⟨x, hx, _⟩ := drop_at hlt
      obtain ⟨e1, e2, e3⟩ := map_step (relX 0 h) hx
      obtain ⟨g, rfl, hgB, hgs, hcl⟩ := HR.out.own.holds (by omega)
      obtain ⟨c6, c7, f6, f7⟩ := hcl k x e2
      have hcap := HR.out.own.cap
      rw [e3] at hcap
      have x7 := (st_cells HR.out.S).2.2.2.2.2.2.2.1
      have HE1 := hide e1
      have HE2 := hide e2
      clear hcl e1 e2 hx
      by_cases hh : x.h0 ≤ h
      · have HX : Hid (relX 0 h x = { x with h0 := 0 }) := by show _ = _; unfold relX; simp [hh]
        go_wp2
        refine ⟨⟨k + 1, by omega, by go_num, ?_⟩, by simp [intOf]; omega⟩
        have hbt := (But.refl g wr).set (k * 8 + 6) (.int .i64 0)
        exact ⟨by rw [HE1.out, HX.out]; exact HR.out.own.put HE2.out _ 6 _ (by omega) rfl, hbt.stake (by omega) HR.out.S, hbt.stake (by omega) HR.out.R, HR.out.below.trans (hbt.below (by omega))⟩
      · have HX : Hid (relX 0 h x = x) := by show _ = _; unfold relX; simp [hh]
        have HR1 : Hid (RRl s (relX 0 h) w0.heap.size w (some ⟨g, 0, none⟩) C (k + 1) wr) := ⟨by rw [HE1.out, HX.out, set_same HE2.out]; exact HR.out.own, HR.out.S, HR.out.R, HR.out.below⟩
        go_wp2
        exact ⟨⟨k + 1, by omega, by go_num, HR1⟩, by simp [intOf]; omega⟩
    · obtain rfl : k = s.W.length := by omega
      have hO := HR.out.own
      rw [List.take_length, List.drop_length, List.append_nil] at hO
      have HO := hide hO
      have S3 := HR.out.S
      have R3 := HR.out.R
      have HB3 := hide HR.out.below
      clear hO HR
      go_upto_region 11 with fail
      apply wp_region_lit
      refine wpList_load_mid rfl 32 _ rfl _ 0 rfl _ _ S3.range Tryz.underlying32 rfl (by rw [infoS]; rfl) ?_
      refine wpList_store_mid rfl 32 _ _ rfl _ 0 (stC s (.slice A s.W.length C)) rfl rfl (R3.there 0 _ (by rw [Z63_size, stC_size]; omega)) (by rw [infoS]; rfl) (stC_one _ _ _ _) ?_
      go_wp2
      exact stake_end1 Tryz.results110 R3 rfl s _ _ ⟨A, C, rfl, own_base (own_of HO.out fun k' hk => heap_sets (by have := (World.ownsRow.lt HO.out k' hk).1; omega) _ _ _) (by omega), below_sets (by omega) _ _ _ HB3.out⟩ _ rfl rfl
set_option maxHeartbeats 8000000 in
theorem srelease_1 (s : St) (ao : Option Addr) (sb so c : Nat) (h : Int) (w : World) (hW : WsAt w ao sb so s.W) (h60 : s.W.length * 64 ≤ 140737488351232) :
    Calls Tryz.prog 110 #[.agg (stC s (.slice ao s.W.length c)), .int .i64 1, .int .i64 h] w fun e w' => ∃ A C, e = .returned (.agg (stC s (.slice A s.W.length C))) ∧ OwnW w.heap.size w' A C (relW 1 h s.W) ∧ Below w.heap.size w w' := by
  have SS := (SAt.new w (stC s (.slice ao s.W.length c))).alloc (.cells Z63 32)
  have RR := SAt.new2 w (.cells (stC s (.slice ao s.W.length c)) 32) Z63
  have HB : Hid (Below w.heap.size w ((w.alloc (.cells (stC s (.slice ao s.W.length c)) 32)).alloc (.cells Z63 32))) := ((Below.refl _ w).alloc (Nat.le_refl _) _).alloc (by simp) _
  have HW := hide hW
  clear hW
  go_enter Tryz.func110, Tryz.ntmps110
  go_upto_region 1 with fail
  change Code.wp Tryz.prog _ _ _ ((w.alloc (.cells (stC s (.slice ao s.W.length c)) 32)).alloc (.cells Z63 32))
  generalize (w.alloc (.cells (stC s (.slice ao s.W.length c)) 32)).alloc (.cells Z63 32) = w0 at *
  have hz0 : w.heap.size + 1 < w0.heap.size := RR.lt
  have hz0a : w.heap.size < w0.heap.size := by omega
  have x7 := (st_cells SS).2.2.2.2.2.2.2.1
  have hC := clone_any ao s.W c sb so w0 (HW.out.over HB.out)
  go_upto_region 4 with (go_at_call 146; refine hC.mono ?_; rintro e w1 ⟨A, C, rfl, hO, h1⟩; have S1 := SS.later h1 SS.lt; have R1 := RR.later h1 RR.lt; have HB1 := hide (HB.out.trans (h1.mono (by omega))); have HO1 := hide hO; have f61 := S1.free 61; have hz1 := S1.lt; clear x7; have x7 := (st_cells S1).2.2.2.2.2.2.2.1; clear h1 hO)
  have S2 := S1.set 61 (.slice A s.W.length C)
  rw [set_sl] at S2
  have hbt := (But.refl w.heap.size w1).set 61 (.slice A s.W.length C)
  have R2 := hbt.stake (by omega) R1
  have HO2 : Hid (OwnW w0.heap.size (w1.setCell ⟨w.heap.size, 61, none⟩ (.slice A s.W.length C)) A C s.W) := own_of HO1.out fun k hk => hbt.block _ (by have := (World.ownsRow.lt HO1.out k hk).1; omega)
  have HB2 := hide (HB1.out.trans (hbt.below (Nat.le_refl _)))
  generalize w1.setCell ⟨w.heap.size, 61, none⟩ (.slice A s.W.length C) = w2 at *
  clear x7 f61 S1 R1 HO1 HB1 hbt SS RR HB hC
  have x7 := (st_cells S2).2.2.2.2.2.2.2.1
  have hz2 : w.heap.size < w2.heap.size := S2.lt
  have HR0 : Hid (RRl s (relX 1 h) w0.heap.size w A C 0 w2) := ⟨HO2.out, S2, R2, HB2.out⟩
  clear S2 R2 HO2 HB2
  go_upto_region 5 with fail
  go_loopw [23] (fun i wl => ∃ (k : Nat), k ≤ s.W.length ∧ i = .int .i64 (k : Int) ∧ Hid (RRl s (relX 1 h) w0.heap.size w A C k wl)) (fun i _ => s.W.length - (intOf i).toNat)
  case atStart => exact ⟨0, Nat.zero_le _, rfl, HR0⟩
  case round =>
    obtain ⟨k, hk, rfl, HR⟩ := hrel
    clear HR0 x7
    have hwr := HR.out.S.lt
    by_cases hlt : k < s.W.length
    · obtain ⟨x, hx, _⟩ := drop_at hlt
      obtain ⟨e1, e2, e3⟩ := map_step (relX 1 h) hx
      obtain ⟨g, rfl, hgB, hgs, hcl⟩ := HR.out.own.holds (by omega)
      obtain ⟨c6, c7, f6, f7⟩ := hcl k x e2
      have hcap := HR.out.own.cap
      rw [e3] at hcap
      have x7 := (st_cells HR.out.S).2.2.2.2.2.2.2.1
      have HE1 := hide e1
      have HE2 := hide e2
      clear hcl e1 e2 hx
      by_cases hh : x.h1 ≤ h
      · have HX : Hid (relX 1 h x = { x with h1 := 0 }) := by show _ = _; unfold relX; simp [hh]
        go_wp2
        refine ⟨⟨k + 1, by omega, by go_num, ?_⟩, by simp [intOf]; omega⟩
        have hbt := (But.refl g wr).set (k * 8 + 7) (.int .i64 0)
        exact ⟨by rw [HE1.out, HX.out]; exact HR.out.own.put HE2.out _ 7 _ (by omega) rfl, hbt.stake (by omega) HR.out.S, hbt.stake (by omega) HR.out.R, HR.out.below.trans (hbt.below (by omega))⟩
      · have HX : Hid (relX 1 h x = x) := by show _ = _; unfold relX; simp [hh]
        have HR1 : Hid (RRl s (relX 1 h) w0.heap.size w (some ⟨g, 0, none⟩) C (k + 1) wr) := ⟨by rw [HE1.out, HX.out, set_same HE2.out]; exact HR.out.own, HR.out.S, HR.out.R, HR.out.below⟩
        go_wp2
        exact ⟨⟨k + 1, by omega, by go_num, HR1⟩, by simp [intOf]; omega⟩
    · obtain rfl : k = s.W.length := by omega
      have hO := HR.out.own
      rw [List.take_length, List.drop_length, List.append_nil] at hO
      have HO := hide hO
      have S3 := HR.out.S
      have R3 := HR.out.R
      have HB3 := hide HR.out.below
      clear hO HR
      go_upto_region 11 with fail
      apply wp_region_lit
      refine wpList_load_mid rfl 32 _ rfl _ 0 rfl _ _ S3.range Tryz.underlying32 rfl (by rw [infoS]; rfl) ?_
      refine wpList_store_mid rfl 32 _ _ rfl _ 0 (stC s (.slice A s.W.length C)) rfl rfl (R3.there 0 _ (by rw [Z63_size, stC_size]; omega)) (by rw [infoS]; rfl) (stC_one _ _ _ _) ?_
      go_wp2
      exact stake_end1 Tryz.results110 R3 rfl s _ _ ⟨A, C, rfl, own_base (own_of HO.out fun k' hk => heap_sets (by have := (World.ownsRow.lt HO.out k' hk).1; omega) _ _ _) (by omega), below_sets (by omega) _ _ _ HB3.out⟩ _ rfl rfl
end Go.Proofs.YtjghbciepinofaaGreat

set_option maxRecDepth 100000
namespace Go.Proofs.YtjghbciepinofaaGreat.Df
open Go.RowKit
theorem own_mono {w : World} {B B' : Nat} {v : Value} {l : List Pw} (h : Pows w B v l) (hb : B' ≤ B) : Pows w B' v l := by
  refine ⟨h.1, ?_⟩
  rcases h.2 with hn | ⟨g, cap, cur, hv, h2, h3⟩
  · exact .inl hn
  · exact .inr ⟨g, cap, cur, hv, Nat.le_trans hb h2, h3⟩
theorem ix0 (c0 c1 c2 c3 c4 c5 : Value) (w : World) : (Instr.index 28 (.agg #[c0, c1, c2, c3, c4, c5]) (.int .i64 0)).run Tryz.prog w = .ok c0 w := by kernel_rfl
theorem ix1 (c0 c1 c2 c3 c4 c5 : Value) (w : World) : (Instr.index 28 (.agg #[c0, c1, c2, c3, c4, c5]) (.int .i64 1)).run Tryz.prog w = .ok c1 w := by kernel_rfl
theorem ix2 (c0 c1 c2 c3 c4 c5 : Value) (w : World) : (Instr.index 28 (.agg #[c0, c1, c2, c3, c4, c5]) (.int .i64 2)).run Tryz.prog w = .ok c2 w := by kernel_rfl
theorem ix3 (c0 c1 c2 c3 c4 c5 : Value) (w : World) : (Instr.index 28 (.agg #[c0, c1, c2, c3, c4, c5]) (.int .i64 3)).run Tryz.prog w = .ok c3 w := by kernel_rfl
theorem ix4 (c0 c1 c2 c3 c4 c5 : Value) (w : World) : (Instr.index 28 (.agg #[c0, c1, c2, c3, c4, c5]) (.int .i64 4)).run Tryz.prog w = .ok c4 w := by kernel_rfl
theorem ix5 (c0 c1 c2 c3 c4 c5 : Value) (w : World) : (Instr.index 28 (.agg #[c0, c1, c2, c3, c4, c5]) (.int .i64 5)).run Tryz.prog w = .ok c5 w := by kernel_rfl
theorem ixAll (P : Nat → Int) {k : Nat} (hk : k < 6) (w : World) : (Instr.index 28 (.agg #[.int .i64 (P 0), .int .i64 (P 1), .int .i64 (P 2), .int .i64 (P 3), .int .i64 (P 4), .int .i64 (P 5)]) (.int .i64 (k : Int))).run Tryz.prog w = .ok (.int .i64 (P k)) w := by
  rcases (show k = 0 ∨ k = 1 ∨ k = 2 ∨ k = 3 ∨ k = 4 ∨ k = 5 by omega) with rfl | rfl | rfl | rfl | rfl | rfl
  · exact ix0 _ _ _ _ _ _ w
  · exact ix1 _ _ _ _ _ _ w
  · exact ix2 _ _ _ _ _ _ w
  · exact ix3 _ _ _ _ _ _ w
  · exact ix4 _ _ _ _ _ _ w
  · exact ix5 _ _ _ _ _ _ w
set_option maxHeartbeats 4000000 in
theorem diff_any (a b : List Pw) (ao bo : Option Addr) (ca cb ab aof bb bof : Nat) (w : World) (ha : PIn w a ao ab aof) (hb : PIn w b bo bb bof) :
    Calls Tryz.prog 71 #[.slice ao a.length ca, .slice bo b.length cb] w fun e w' => ∃ v, e = .returned v ∧ Pows w' w.heap.size v (diffL a b) ∧ Below w.heap.size w w' := by
  obtain ⟨i0, hi, hz0, hz1, hz2⟩ := info_parts infoPw
  have HA := hide ha
  have HB := hide hb
  have HF1 := hide (first_any a ao ca ab aof w ha)
  have HF2 := hide (fun w h => first_any b bo cb bb bof w h)
  unfold diffL
  generalize firstP a = P at *
  generalize firstP b = R at *
  clear ha hb
  go_enter Tryz.func71, Tryz.ntmps71
  go_upto_region 3 with (first
    | (go_at_call 115; have _m := m1; refine (HF2.out _ (HB.out.over HB1.out)).mono ?_; rintro e w2 ⟨rfl, hb2⟩; have HB2 := hide (HB1.out.trans (hb2.mono HB1.out.size)); clear hb2)
    | (go_at_call 115; refine HF1.out.mono ?_; rintro e w1 ⟨rfl, hb1⟩; have HB1 := hide hb1; have m1 : True := trivial; clear hb1))
  have Q6 := (QAt.new w2 P).alloc (.cells #[.int .i64 (R 0), .int .i64 (R 1), .int .i64 (R 2), .int .i64 (R 3), .int .i64 (R 4), .int .i64 (R 5)] 28)
  have Q7 := QAt.new (w2.alloc (.cells #[.int .i64 (P 0), .int .i64 (P 1), .int .i64 (P 2), .int .i64 (P 3), .int .i64 (P 4), .int .i64 (P 5)] 28)) R
  rw [show (w2.alloc (.cells #[.int .i64 (P 0), .int .i64 (P 1), .int .i64 (P 2), .int .i64 (P 3), .int .i64 (P 4), .int .i64 (P 5)] 28)).heap.size = w2.heap.size + 1 by simp] at Q7
  have BW := (HB2.out.alloc HB2.out.size (.cells #[.int .i64 (P 0), .int .i64 (P 1), .int .i64 (P 2), .int .i64 (P 3), .int .i64 (P 4), .int .i64 (P 5)] 28)).alloc (Nat.le_trans HB2.out.size (by simp)) (.cells #[.int .i64 (R 0), .int .i64 (R 1), .int .i64 (R 2), .int .i64 (R 3), .int .i64 (R 4), .int .i64 (R 5)] 28)
  have hwb : w.heap.size ≤ w2.heap.size := HB2.out.size
  clear HF1 HF2 HA HB HB1 HB2
  generalize w2.heap.size = b6 at *
  generalize (w2.alloc (.cells #[.int .i64 (P 0), .int .i64 (P 1), .int .i64 (P 2), .int .i64 (P 3), .int .i64 (P 4), .int .i64 (P 5)] 28)).alloc (.cells #[.int .i64 (R 0), .int .i64 (R 1), .int .i64 (R 2), .int .i64 (R 3), .int .i64 (R 4), .int .i64 (R 5)] 28) = w3 at *
  obtain ⟨⟨c0, c1, c2, c3, c4, c5⟩, -⟩ := Q7.facts
  have z6 : b6 < w3.heap.size := Q6.lt
  have HX := hide (And.intro Q6 BW)
  clear Q6 Q7 BW
  go_upto_region 4 with fail
  clear c0 c1 c2 c3 c4 c5
  go_loopw [5, 15] (fun v i wl => ∃ k : Nat, k ≤ 6 ∧ i = .int .i64 (k : Int) ∧ Pows wl w3.heap.size v (those (fun v => decide (R v ≠ P v)) R k) ∧ Hid (Below w3.heap.size w3 wl)) (fun _ i _ => (6 - intOf i).toNat)
  case atStart => exact ⟨0, by omega, rfl, Pows.nil _ _, Below.refl _ _⟩
  case round =>
    obtain ⟨k, hk, rfl, hown, HB⟩ := hrel
    have hsz : w3.heap.size ≤ wr.heap.size := HB.out.size
    by_cases hk6 : k < 6
    · have hkk : (k : Int) < 6 := by omega
      have hix := fun w => ixAll R hk6 w
      have cP := (HX.out.1.later HB.out z6).one hk6
      have HC := hide (those_succ (fun v => decide (R v ≠ P v)) R k)
      have hlen := those_len (fun v => decide (R v ≠ P v)) R k
      generalize R k = rk at *
      generalize P k = pk at *
      by_cases hne : rk = pk
      · subst hne
        go_wp2
        exact ⟨⟨k + 1, by omega, by go_num, by rw [HC.out, if_neg (by simp)]; exact hown, HB.out⟩, by simp [intOf]; omega⟩
      · have hne' : (rk != pk) = true := by simpa using hne
        go_wp2_with (at_builtin; refine wpList_append_own_at _ rfl _ _ 33 rfl w3.heap.size 74 i0 (.agg #[.int .i64 0, .int .i64 0]) 2 16 Tryz.underlying33 hi hz0 hz1 hz2 rfl (by decide) _ _ _ rfl (World.ownsRow.alloc hown _) ⟨wr.heap.size, 0, none⟩ 1 1 [.int .i64 (k : Int), .int .i64 rk] rfl rfl (pw_news _ _ _ _) (by intro u hu; simp at hu; rcases hu with rfl | rfl <;> rfl) (by unfold maxLen; omega) (by omega) (by simp; omega) ?_; intro v' w1 hown' hgrow _ hat)
        have hb : Below w3.heap.size w3 w1 := Pows.grow hown HB.out hgrow (Nat.le_refl _) hsz
        refine ⟨⟨k + 1, by omega, by go_num, ?_, hb⟩, by simp [intOf]; omega⟩
        rw [HC.out, if_pos (by simpa using hne)]
        exact Pows.append hown' rfl
    · obtain rfl : k = 6 := by omega
      go_wp2
      go_ret
      exact ⟨_, rfl, own_mono hown (by have := HX.out.2.size; omega), HX.out.2.trans (HB.out.mono HX.out.2.size)⟩
set_option maxHeartbeats 2000000 in
theorem all_any (l : List Pw) (ao : Option Addr) (c b off : Nat) (w : World) (hl : PIn w l ao b off) :
    Calls Tryz.prog 29 #[.slice ao l.length c] w fun e w' => e = .returned (.int .i64 (allN l)) ∧ Below w.heap.size w w' := by
  have hlen := hl.len
  have HL := hide hl
  clear hl
  go_enter Tryz.func29, Tryz.ntmps29
  go_upto_region 3 with fail
  go_loopw [3, 8] (fun s i wl => ∃ k : Nat, k ≤ l.length ∧ i = .int .i64 (k : Int) ∧ s = .int .i64 (allN (l.take k)) ∧ Hid (Below w.heap.size w wl)) (fun _ i _ => l.length - (intOf i).toNat)
  case atStart => exact ⟨0, Nat.zero_le _, rfl, rfl, Below.refl _ _⟩
  case round =>
    obtain ⟨k, hk, rfl, rfl, HR⟩ := hrel
    by_cases hlt : k < l.length
    · have hkI : (k : Int) < (l.length : Int) := by omega
      obtain ⟨c0, c1⟩ := (HL.out.over HR.out).cells k hlt
      have HS := hide (all_take l k hlt)
      have eao := HL.out.adr (by omega)
      subst eao
      generalize l.getD k (0, 0) = x at *
      obtain ⟨v, n⟩ := x
      dsimp only at c0 c1 HS
      generalize allN (l.take k) = s0 at *
      obtain ⟨s1, hs1⟩ : ∃ s1, allN (l.take (k + 1)) = s1 := ⟨_, rfl⟩
      rw [hs1] at HS
      have HS1 := hide hs1
      have hw : wrap64 (s0 + n) = s1 := by rw [HS.out]; unfold wrap64; rfl
      clear HS hs1
      go_wp2
      exact ⟨⟨k + 1, by omega, by go_num, by rw [HS1.out, hw], HR.out.alloc HR.out.size _⟩, by simp [intOf]; omega⟩
    · obtain rfl : k = l.length := by omega
      have HT : Hid (l.take l.length = l) := List.take_length
      go_wp2
      go_ret
      exact ⟨by rw [HT.out]; rfl, HR.out⟩
end Go.Proofs.YtjghbciepinofaaGreat.Df

