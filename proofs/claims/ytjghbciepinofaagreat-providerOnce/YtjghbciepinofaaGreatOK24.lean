/- Parts of the proof: PVM PGA. -/
import Derived.Test.YtjghbciepinofaaGreatRows
import Derived.Test.YtjghbciepinofaaGreatOK2
import Derived.Test.YtjghbciepinofaaGreatOK16
import Derived.Test.YtjghbciepinofaaGreatOK17
import Derived.Test.YtjghbciepinofaaGreatOK22
import Derived.Test.YtjghbciepinofaaGreatOK23
import Derived.Test.YtjghbciepinofaaGreatOK46
set_option maxRecDepth 100000
namespace Go.Proofs.YtjghbciepinofaaGreat.Pv
open Go.RowKit
def isC (c : Int) : Bool := decide (0 ≤ c) && decide (c < 2)
def updL (L : Nat → Lk) (c : Nat) (x : Lk) : Nat → Lk := fun i => if i = c then x else L i
/-- P7.2 -/
def delegP (p : Pr) (d v n : Int) : Pr × Int := if goodP p = true then ({ p with s := (delegS p.s d v n).1 }, (delegS p.s d v n).2) else (p, 2)
def isOn (p : Pr) (c : Int) : Bool := isC c && (p.L c.toNat).on
def hearP (p : Pr) (c : Int) (l : List Int) : Pr × Int :=
  if goodP p = true then
    if isOn p c = true then
      if Cd.decE l = 0 then
        if (pktOf l).k = 1 then (p, 3) else ({ p with q := p.q ++ [(c, pktOf l)] }, 0)
      else (p, Cd.decE l)
    else (p, 4)
  else (p, 2)
/-- burnt from a height on, and buried -/
def punS (s : St) (v : Nat) (h : Int) : St := setJ (slashS s v h 50) v true true
/-- validators with one more, by number -/
def doneL (D : List Int) (v : Int) : List Int := ((List.range 6).map Int.ofNat).filter fun u => decide (u = v) || decide (u ∈ D)
def powV (x : Vd) : Int := if x.tok / 100 < 1 then 1 else x.tok / 100
def maxI (a b : Int) : Int := if a < b then b else a
/-- P7.6: what comes of a packet; false: it waits -/
def dealP (p : Pr) (c : Nat) (x : Pkt) : Pr × Bool :=
  if x.k = 2 then ({ p with s := { p.s with W := relW c x.i p.s.W } }, true)
  else if x.k = 4 then
    if (p.s.V x.v.toNat).dead = true then (p, true) else ({ p with s := punS p.s x.v.toNat (maxI x.i (p.L c).base) }, true)
  else if (p.s.V x.v.toNat).jail = true then ({ p with L := updL p.L c { p.L c with done := doneL (p.L c).done x.v } }, true)
  else if p.ml < 1 then (p, false)
  else ({ p with ml := wrap64 (p.ml - powV (p.s.V x.v.toNat)), s := setJ p.s x.v.toNat true (p.s.V x.v.toNat).dead, L := updL p.L c { p.L c with done := doneL (p.L c).done x.v } }, true)
structure QS where
  p : Pr
  wt : Nat → Bool
  left : List (Int × Pkt)
def stepQ (z : QS) (a : Int × Pkt) : QS :=
  if z.wt a.1.toNat = true then { z with left := z.left ++ [a] }
  else if (dealP z.p a.1.toNat a.2).2 = true then { z with p := (dealP z.p a.1.toNat a.2).1 }
  else { z with wt := fun i => if i = a.1.toNat then true else z.wt i, left := z.left ++ [a] }
def goQ (p : Pr) : QS := p.q.foldl stepQ ⟨p, fun _ => false, []⟩
def queueP (p : Pr) : Pr := { (goQ p).p with q := (goQ p).left }
/-- what a consumer is told -/
def quietB (p : Pr) (x : Lk) : Bool := !x.on || (decide (x.told = p.set) && !x.fresh && decide (x.done.length = 0))
def tellP (p : Pr) (c : Nat) : Pr :=
  if quietB p (p.L c) = true then p
  else if Cd.goodN 1 p.h 0 0 (Df.diffL (p.L c).told p.set) (p.L c).done = 0 then
    if Ln.sayE (p.L c).out (p.t + 40) = 0 then { p with L := updL p.L c { p.L c with out := Ln.sayL (p.L c).out (Cd.encS 1 p.h 0 0 (Df.diffL (p.L c).told p.set) (p.L c).done) (p.t + 40), told := p.set, fresh := false, done := [] } } else p
  else p
/-- P7.8 -/
def tickP (p : Pr) (now : Int) : Pr := { p with h := p.h + 1, t := now, ml := if now < p.mn then p.ml else Mt.alw (Df.allN p.set), mn := if now < p.mn then p.mn else wrap64 (now + 10) }
def paidP (p : Pr) (now : Int) : Pr := { p with s := payS p.s now, set := setS (payS p.s now).V }
def endP (p : Pr) (now : Int) : Pr × List Int × Int :=
  if goodP p = true ∧ isT now = true ∧ p.t ≤ now then
    (tellP (tellP (paidP (queueP (tickP p now)) now) 0) 1, paidW now (queueP (tickP p now)).s.W, 0)
  else (p, [], 2)
def newP : Pr := ⟨0, 0, newS, [], fun _ => ⟨false, false, 0, [], false, [], ⟨[], [], 0, false⟩, 0, 0, 0, 0⟩, 1, 10, []⟩
end Go.Proofs.YtjghbciepinofaaGreat.Pv

set_option maxRecDepth 100000
namespace Go.Proofs.YtjghbciepinofaaGreat.Pv
open Go.RowKit
theorem ptime_any (n : Int) (w : World) : Calls Tryz.prog 27 #[.int .i64 n] w fun e w' => e = .returned (.bool (isT n)) ∧ w = w' := by
  have hT : isT n = (decide (0 ≤ n) && decide (n ≤ 1099511627776)) := rfl
  generalize isT n = t at *
  have HT := hide hT
  clear hT
  by_cases h : 0 ≤ n
  · by_cases h2 : n ≤ 1099511627776
    · have e : t = true := by rw [HT.out]; simp [h, h2]
      subst e
      go_enter Tryz.func27, Tryz.ntmps27
      go_wp2
      go_ret
      exact ⟨rfl, rfl⟩
    · have e : t = false := by rw [HT.out]; simp [h2]
      subst e
      go_enter Tryz.func27, Tryz.ntmps27
      go_wp2
      go_ret
      exact ⟨rfl, rfl⟩
  · have e : t = false := by rw [HT.out]; simp [h]
    subst e
    go_enter Tryz.func27, Tryz.ntmps27
    go_wp2
    go_ret
    exact ⟨rfl, rfl⟩
theorem pcons_any (n : Int) (w : World) : Calls Tryz.prog 63 #[.int .i64 n] w fun e w' => e = .returned (.bool (isC n)) ∧ w = w' := by
  have hT : isC n = (decide (0 ≤ n) && decide (n < 2)) := rfl
  generalize isC n = t at *
  have HT := hide hT
  clear hT
  by_cases h : 0 ≤ n
  · by_cases h2 : n < 2
    · have e : t = true := by rw [HT.out]; simp [h, h2]
      subst e
      go_enter Tryz.func63, Tryz.ntmps63
      go_wp2
      go_ret
      exact ⟨rfl, rfl⟩
    · have e : t = false := by rw [HT.out]; simp [h2]
      subst e
      go_enter Tryz.func63, Tryz.ntmps63
      go_wp2
      go_ret
      exact ⟨rfl, rfl⟩
  · have e : t = false := by rw [HT.out]; simp [h]
    subst e
    go_enter Tryz.func63, Tryz.ntmps63
    go_wp2
    go_ret
    exact ⟨rfl, rfl⟩
theorem pval_any (v : Int) (w : World) : Calls Tryz.prog 79 #[.int .i64 v] w fun e w' => e = .returned (.bool (isV v)) ∧ w = w' := by
  have hT : isV v = decide (0 ≤ v ∧ v < 6) := rfl
  generalize isV v = t at *
  have HT := hide hT
  clear hT
  by_cases h : 0 ≤ v
  · by_cases h2 : v < 6
    · have e : t = true := by rw [HT.out]; simp [h, h2]
      subst e
      go_enter Tryz.func79, Tryz.ntmps79
      go_wp2
      go_ret
      exact ⟨rfl, rfl⟩
    · have e : t = false := by rw [HT.out]; simp [h2]
      subst e
      go_enter Tryz.func79, Tryz.ntmps79
      go_wp2
      go_ret
      exact ⟨rfl, rfl⟩
  · have e : t = false := by rw [HT.out]; simp [h]
    subst e
    go_enter Tryz.func79, Tryz.ntmps79
    go_wp2
    go_ret
    exact ⟨rfl, rfl⟩
theorem isC_of {c : Int} (h : isC c = true) : ∃ k : Nat, c = (k : Int) ∧ k < 2 := by
  unfold isC at h
  simp only [Bool.and_eq_true, decide_eq_true_eq] at h
  exact ⟨c.toNat, by omega, by omega⟩
/-- whether a consumer is on -/
theorem pison_any (g : Nat) (p : Pr) (v : PrV) (c : Int) (w : World) (h : CAt 47 w g (prC p v)) : Calls Tryz.prog 23 #[.pointer (some ⟨g, 0, none⟩), .int .i64 c] w fun e w' => e = .returned (.bool (isOn p c)) ∧ w = w' := by
  have hO : isOn p c = (isC c && (p.L c.toNat).on) := rfl
  generalize isOn p c = o at *
  by_cases hc : isC c = true
  · obtain ⟨k, rfl, hk⟩ := isC_of hc
    rw [hc, Bool.true_and, Int.toNat_natCast] at hO
    have c0 : w.cell? ⟨g, 66 + k * 14, none⟩ = some (.bool (p.L k).on) := by
      have := pr_link (p := p) (v := v) k hk 0 (by omega)
      rw [Nat.add_zero] at this
      exact (h.cell _).trans this
    have k0 : (0 : Int) ≤ (k : Int) := by omega
    have k2 : (k : Int) < 2 := by omega
    subst hO
    generalize (p.L k).on = o at *
    clear h
    go_enter Tryz.func23, Tryz.ntmps23
    go_wp2_with (go_at_call 63; refine (pcons_any _ _).mono ?_; rintro e w' ⟨rfl, rfl⟩)
    go_ret
    exact ⟨rfl, rfl⟩
  · have hc : isC c = false := by simpa using hc
    rw [hc, Bool.false_and] at hO
    subst hO
    clear h
    go_enter Tryz.func23, Tryz.ntmps23
    go_wp2_with (go_at_call 63; refine (pcons_any _ _).mono ?_; rintro e w' ⟨rfl, rfl⟩)
    go_ret
    exact ⟨rfl, rfl⟩
set_option maxHeartbeats 2000000 in
theorem pset_rep (l : List (Int × Int)) (v : Value) (P : Nat → Prop) (w : World) (h : Rep P w v 2 16 (pwC l)) : Calls Tryz.prog 34 #[v] w fun e w' => e = .returned (.bool (setB (-1) l)) ∧ Below w.heap.size w w' := by
  obtain ⟨A, C, rfl, hs, -, hc, -⟩ := h.open (pwC_length _) (by decide)
  have HC := hide hc
  have hlen : l.length ≤ 8796093022202 := by omega
  obtain ⟨G, hG⟩ : ∃ G, setB (-1) l = G := ⟨_, rfl⟩
  have HG := hide hG
  rw [hG]
  clear hc h hs hG
  go_enter Tryz.func34, Tryz.ntmps34
  go_upto_region 3 with fail
  go_loopw [3, 8] (fun s3 i wl => ∃ (k : Nat) (last : Int), k ≤ l.length ∧ i = .int .i64 (k : Int) ∧ s3 = .int .i64 last ∧ -1 ≤ last ∧ Hid (G = setB last (l.drop k) ∧ Below w.heap.size w wl)) (fun _ i _ => l.length - (intOf i).toNat)
  case atStart => exact ⟨0, -1, Nat.zero_le _, rfl, rfl, by omega, HG.out.symm, Below.refl _ _⟩
  case round =>
    obtain ⟨k, last, hk, rfl, rfl, hla, HR⟩ := hrel
    by_cases hlt : k < l.length
    · have hkI : (k : Int) < (l.length : Int) := by omega
      obtain ⟨x, hx, hd⟩ := drop_at' hlt
      obtain ⟨b, off, rfl, -, hbl, hcell⟩ := HC.out (by omega)
      have gx : l.getD k (0, 0) = x := by simp [List.getD, hx]
      obtain ⟨p0, p1⟩ := pwC_get l k hlt
      rw [gx] at p0 p1
      have c0 : wr.cell? ⟨b, off + k * 2, none⟩ = some (.int .i64 x.1) := (HR.out.2.cell (p := ⟨b, off + k * 2, none⟩) hbl).trans (hcell _ _ p0)
      have c1 : wr.cell? ⟨b, off + k * 2 + 1, none⟩ = some (.int .i64 x.2) := (HR.out.2.cell (p := ⟨b, off + k * 2 + 1, none⟩) hbl).trans (hcell _ _ p1)
      have HE : Hid (G = (setB1 last x && setB x.1 (l.drop (k + 1)))) := by have := HR.out.1; rw [hd] at this; exact this
      have HB := hide (HR.out.2.alloc HR.out.2.size (.cells #[.int .i64 x.1, .int .i64 x.2] 74))
      have HO : Hid (∀ last, setB1 last x = (decide (last < x.1) && decide (x.1 ≤ 5) && decide (1 ≤ x.2) && decide (x.2 ≤ 1125899906842624))) := fun _ => rfl
      have hvI : Hid (isV x.1 = decide (0 ≤ x.1 ∧ x.1 < 6)) := rfl
      clear HR hd hx gx p0 p1 hcell
      obtain ⟨x1, x2⟩ := x
      dsimp only at c0 c1 hvI
      by_cases h1 : last < x1 ∧ x1 ≤ 5 ∧ 1 ≤ x2 ∧ x2 ≤ 1125899906842624
      · obtain ⟨h1, h2, h3, h4⟩ := h1
        have e : G = setB x1 (l.drop (k + 1)) := by rw [HE.out, HO.out]; simp [h1, h2, h3, h4]
        have HE2 := hide e
        have hv : isV x1 = true := by rw [hvI.out]; simp; omega
        clear e HE
        go_wp2_with (go_at_call 79; refine (pval_any _ _).mono ?_; rintro e w' ⟨rfl, rfl⟩)
        first | exact ⟨⟨k + 1, x1, by omega, by go_num, rfl, by omega, HE2.out, HB.out⟩, by simp [intOf]; omega⟩ | ((repeat apply Exists.intro); exact ⟨⟨k + 1, x1, by omega, by go_num, rfl, by omega, HE2.out, HB.out⟩, rfl⟩)
      · have e : G = false := by
          rw [HE.out, HO.out]
          simp only [Bool.and_eq_false_iff, decide_eq_false_iff_not]
          by_cases q1 : last < x1
          · by_cases q2 : x1 ≤ 5
            · by_cases q3 : 1 ≤ x2
              · exact .inl (.inr fun q4 => h1 ⟨q1, q2, q3, q4⟩)
              · exact .inl (.inl (.inr q3))
            · exact .inl (.inl (.inl (.inr q2)))
          · exact .inl (.inl (.inl (.inl q1)))
        subst e
        clear HE HG
        have hcs : ¬ last < x1 ∨ (last < x1 ∧ isV x1 = false) ∨ (last < x1 ∧ isV x1 = true ∧ ¬ 1 ≤ x2) ∨ (last < x1 ∧ isV x1 = true ∧ 1 ≤ x2 ∧ ¬ x2 ≤ 1125899906842624) := by
          by_cases q1 : last < x1
          · by_cases q2 : x1 ≤ 5
            · have hv : isV x1 = true := by rw [hvI.out]; simp; omega
              by_cases q3 : 1 ≤ x2
              · exact .inr (.inr (.inr ⟨q1, hv, q3, fun q4 => h1 ⟨q1, q2, q3, q4⟩⟩))
              · exact .inr (.inr (.inl ⟨q1, hv, q3⟩))
            · have hv : isV x1 = false := by rw [hvI.out]; simp; omega
              exact .inr (.inl ⟨q1, hv⟩)
          · exact .inl q1
        clear h1
        rcases hcs with h1 | ⟨h1, h2⟩ | ⟨h1, h2, h3⟩ | ⟨h1, h2, h3, h4⟩
        all_goals
          go_wp2_with (go_at_call 79; refine (pval_any _ _).mono ?_; rintro e w' ⟨rfl, rfl⟩)
          go_ret
          exact ⟨rfl, HB.out⟩
    · obtain rfl : k = l.length := by omega
      have e : G = true := by have := HR.out.1; rw [List.drop_length] at this; exact this
      subst e
      go_wp2
      go_ret
      exact ⟨rfl, HR.out.2⟩
set_option maxHeartbeats 2000000 in
theorem prises_rep (l : List Int) (v : Value) (P : Nat → Prop) (w : World) (h : Rep P w v 1 8 (inC l)) : Calls Tryz.prog 80 #[v] w fun e w' => e = .returned (.bool (riseB (-1) l)) ∧ w = w' := by
  obtain ⟨A, C, rfl, hs, -, hc, -⟩ := h.open (inC_length _) (by decide)
  have HC := hide hc
  have hlen : l.length ≤ 17592186044405 := by omega
  obtain ⟨G, hG⟩ : ∃ G, riseB (-1) l = G := ⟨_, rfl⟩
  have HG := hide hG
  rw [hG]
  clear hc h hs hG
  go_enter Tryz.func80, Tryz.ntmps80
  go_upto_region 3 with fail
  go_loop [3, 8] (fun s3 i => ∃ (k : Nat) (last : Int), k ≤ l.length ∧ i = .int .i64 (k : Int) ∧ s3 = .int .i64 last ∧ -1 ≤ last ∧ Hid (G = riseB last (l.drop k))) (fun _ i => l.length - (intOf i).toNat)
  case atStart => exact ⟨0, -1, Nat.zero_le _, rfl, rfl, by omega, HG.out.symm⟩
  case round =>
    obtain ⟨k, last, hk, rfl, rfl, hla, HR⟩ := hrel
    by_cases hlt : k < l.length
    · have hkI : (k : Int) < (l.length : Int) := by omega
      obtain ⟨x, hx, hd⟩ := drop_at' hlt
      obtain ⟨b, off, rfl, -, hbl, hcell⟩ := HC.out (by omega)
      have gx : l.getD k 0 = x := by simp [List.getD, hx]
      have p0 := inC_get l k hlt
      rw [gx] at p0
      have c0 : w.cell? ⟨b, off + k, none⟩ = some (.int .i64 x) := hcell _ _ p0
      have HE : Hid (G = ((decide (last < x) && decide (x ≤ 5)) && riseB x (l.drop (k + 1)))) := by have := HR.out; rw [hd] at this; exact this
      have hvI : Hid (isV x = decide (0 ≤ x ∧ x < 6)) := rfl
      clear HR hd hx gx p0 hcell
      by_cases h1 : last < x ∧ x ≤ 5
      · obtain ⟨h1, h2⟩ := h1
        have e : G = riseB x (l.drop (k + 1)) := by rw [HE.out]; simp [h1, h2]
        have HE2 := hide e
        have hv : isV x = true := by rw [hvI.out]; simp; omega
        clear e HE
        go_wp2_with (go_at_call 79; refine (pval_any _ _).mono ?_; rintro e w' ⟨rfl, rfl⟩)
        go_round
        case rel => exact ⟨k + 1, x, by omega, by go_num, rfl, by omega, HE2⟩
        case measure => simp [intOf]; omega
      · have e : G = false := by
          rw [HE.out]
          have : (decide (last < x) && decide (x ≤ 5)) = false := by
            rw [Bool.eq_false_iff]; intro h; simp only [Bool.and_eq_true, decide_eq_true_eq] at h; exact h1 h
          rw [this, Bool.false_and]
        subst e
        clear HE HG
        have hcs : ¬ last < x ∨ (last < x ∧ isV x = false) := by
          by_cases q1 : last < x
          · have hv : isV x = false := by rw [hvI.out]; simp; omega
            exact .inr ⟨q1, hv⟩
          · exact .inl q1
        clear h1
        rcases hcs with h1 | ⟨h1, h2⟩
        all_goals
          go_wp2_with (go_at_call 79; refine (pval_any _ _).mono ?_; rintro e w' ⟨rfl, rfl⟩)
          go_ret
          exact ⟨rfl, rfl⟩
    · obtain rfl : k = l.length := by omega
      have e : G = true := by have := HR.out; rw [List.drop_length] at this; exact this
      subst e
      go_wp2
      go_ret
      exact ⟨rfl, rfl⟩
end Go.Proofs.YtjghbciepinofaaGreat.Pv

