/- Parts of the proof: MG1 PVM. -/
import Derived.Test.YtjghbciepinofaaGreatRows
import Derived.Test.YtjghbciepinofaaGreatPK6
import Derived.Test.YtjghbciepinofaaGreatPK7
import Derived.Test.YtjghbciepinofaaGreatPK8
import Derived.Test.YtjghbciepinofaaGreatPK10
import Derived.Test.YtjghbciepinofaaGreatPK11
import Derived.Test.YtjghbciepinofaaGreatPK17
import Derived.Test.YtjghbciepinofaaGreatPK18
import Derived.Test.YtjghbciepinofaaGreatPK37
import Derived.Test.YtjghbciepinofaaGreatPK45
set_option maxRecDepth 100000
namespace Go.Proofs.YtjghbciepinofaaGreat
structure Kp (s : St) (r : St × Int) : Prop where
  good : goodS r.1 = true
  bu : s.b.bu ≤ r.1.b.bu
  dead : ∀ k, k < 6 → (s.V k).dead = true → (r.1.V k).dead = true
  lost : ∀ k, k < 6 → (s.V k).lost ≤ (r.1.V k).lost
  no : r.2 ≠ 0 → r.1 = s
theorem Kp.same {s : St} (hg : goodS s = true) (e : Int) : Kp s (s, e) := ⟨hg, Int.le_refl _, fun _ _ h => h, fun _ _ => Int.le_refl _, fun _ => rfl⟩
theorem kp_slash {s : St} (hg : goodS s = true) {v : Nat} (hv : v < 6) (h : Int) {f : Int} (hf : 0 ≤ f ∧ f ≤ 1000) : Kp s (slashS s v h f, 0) := by
  obtain ⟨b0, b1, b2, b3, b4⟩ := slash_burn hg hv h hf
  obtain ⟨n1, n2, n3, n4, n5, n6, n7, n8, n9, n10, n11⟩ := slash_nums hg hv h hf
  refine ⟨slash_good hg hv h hf, by show s.b.bu ≤ (slashS s v h f).b.bu; omega, fun k hk hd => ?_, fun k hk => ?_, fun h => absurd rfl h⟩
  · show (setV s.V v _ k).dead = true
    unfold setV
    split
    · rename_i e; subst e; exact hd
    · exact hd
  · show (s.V k).lost ≤ (setV s.V v _ k).lost
    unfold setV
    split
    · rename_i e; subst e; show _ ≤ (s.V k).lost + _; omega
    · exact Int.le_refl _
theorem setJ_good {s : St} (hg : goodS s = true) {v : Nat} (hv : v < 6) {j d : Bool} (hjd : d = true → j = true) : goodS (setJ s v j d) = true := by
  rw [goodS_iff] at hg ⊢
  obtain ⟨h1, h2, h3, h4, h5, h6, h7, h8, h9⟩ := hg
  refine ⟨h1, h2, h3, h4, h5, fun k hk => ?_, ?_, h8, ?_⟩
  · obtain ⟨i1, i2, i3⟩ := h6 k hk
    show vOk (setV s.V v _ k) = true ∧ pshOk s.S k 4 = true ∧ psh s.S k 4 = (setV s.V v _ k).sh
    unfold setV
    by_cases hkv : k = v
    · subst hkv
      rw [if_pos rfl]
      rw [vOk_iff] at i1
      refine ⟨?_, i2, i3⟩
      rw [vOk_iff]
      exact ⟨i1.1, i1.2.1, i1.2.2.1, i1.2.2.2.1, hjd⟩
    · rw [if_neg hkv]
      exact ⟨i1, i2, i3⟩
  · show ptok (setV s.V v _) 6 = s.b.bo
    rw [ptok_set _ _ _ hv, h7]
    simp only
    omega
  · show plost (setV s.V v _) 6 = s.b.bu
    rw [plost_set _ _ _ hv, h9]
    simp only
    omega
theorem kp_pay {s : St} (hg : goodS s = true) (t : Int) : Kp s (payS s t, 0) := by
  obtain ⟨a1, a2, a3, a4⟩ := pay_all hg t
  exact ⟨pay_good hg t, by show s.b.bu ≤ (payS s t).b.bu; omega, fun k hk h => h, fun k hk => Int.le_refl _, fun h => absurd rfl h⟩
theorem relX_keeps (c : Nat) (h : Int) (x : Wt) : (relX c h x).num = x.num ∧ (relX c h x).d = x.d ∧ (relX c h x).v = x.v ∧ (relX c h x).hei = x.hei ∧ (relX c h x).due = x.due ∧ (relX c h x).amt = x.amt := by
  unfold relX
  repeat' split
  all_goals exact ⟨rfl, rfl, rfl, rfl, rfl, rfl⟩
theorem wOk_rel {next h : Int} {c : Nat} : ∀ {W : List Wt} {last : Int}, wOk next last W = true → wOk next last (relW c h W) = true
  | [], _, _ => rfl
  | x :: W, last, hw => by
    obtain ⟨k1, k2, k3, k4, k5, k6⟩ := relX_keeps c h x
    simp only [wOk, Bool.and_eq_true] at hw
    have ih := wOk_rel (c := c) (h := h) hw.2
    have h1 := hw.1
    simp only [relW, List.map_cons, wOk, wOk1, Bool.and_eq_true, decide_eq_true_eq, k1, k2, k3, k4, k5, k6] at h1 ⊢
    exact ⟨h1, ih⟩
theorem amts_rel (c : Nat) (h : Int) : ∀ W : List Wt, amts (relW c h W) = amts W
  | [] => rfl
  | x :: W => by
    show (relX c h x).amt + amts (relW c h W) = x.amt + amts W
    rw [amts_rel c h W, (relX_keeps c h x).2.2.2.2.2]
theorem kp_rel {s : St} (hg : goodS s = true) (c : Nat) (h : Int) : Kp s ({ s with W := relW c h s.W }, 0) := by
  refine ⟨?_, Int.le_refl _, fun _ _ h => h, fun _ _ => Int.le_refl _, fun h => absurd rfl h⟩
  rw [goodS_iff] at hg ⊢
  obtain ⟨h1, h2, h3, h4, h5, h6, h7, h8, h9⟩ := hg
  exact ⟨h1, h2, h3, by show (relW c h s.W).length ≤ 60; unfold relW; rw [List.length_map]; exact h4, wOk_rel h5, h6, h7, by show amts (relW c h s.W) = _; rw [amts_rel]; exact h8, h9⟩
end Go.Proofs.YtjghbciepinofaaGreat

set_option maxRecDepth 100000
namespace Go.Proofs.YtjghbciepinofaaGreat.Pv
open Go.RowKit
def isC (c : Int) : Bool := decide (0 ≤ c) && decide (c < 2)
def updL (L : Nat → Lk) (c : Nat) (x : Lk) : Nat → Lk := fun i => if i = c then x else L i
/-- P7.2 -/
def delegP (p : Pr) (d v n : Int) : Pr × Int := if goodP p = true then ({ p with s := (delegS p.s d v n).1 }, (delegS p.s d v n).2) else (p, 2)
def isOn (p : Pr) (c : Int) : Bool := isC c && (p.L c.toNat).on
/-- burnt from a height on, and buried -/
def punS (s : St) (v : Nat) (h : Int) : St := setJ (slashS s v h 50) v true true
/-- validators with one more, by number -/
def doneL (D : List Int) (v : Int) : List Int := ((List.range 6).map Int.ofNat).filter fun u => decide (u = v) || decide (u ∈ D)
def powV (x : Vd) : Int := if x.tok / 100 < 1 then 1 else x.tok / 100
def maxI (a b : Int) : Int := if a < b then b else a
/-- P7.6: what comes of a packet; false: it waits -/
def dealP (p : Pr) (c : Nat) (x : Pkt) : Pr × Bool :=
  if x.k = 2 then ({ p with s := { p.s with W := relW c x.i p.s.W } }, true)
  else if x.k = 4 then
    if (p.s.V x.v.toNat).dead = true then (p, true) else ({ p with s := punS p.s x.v.toNat (maxI x.i (p.L c).base) }, true)
  else if (p.s.V x.v.toNat).jail = true then ({ p with L := updL p.L c { p.L c with done := doneL (p.L c).done x.v } }, true)
  else if p.ml < 1 then (p, false)
  else ({ p with ml := wrap64 (p.ml - powV (p.s.V x.v.toNat)), s := setJ p.s x.v.toNat true (p.s.V x.v.toNat).dead, L := updL p.L c { p.L c with done := doneL (p.L c).done x.v } }, true)
structure QS where
  p : Pr
  wt : Nat → Bool
  left : List (Int × Pkt)
def stepQ (z : QS) (a : Int × Pkt) : QS :=
  if z.wt a.1.toNat = true then { z with left := z.left ++ [a] }
  else if (dealP z.p a.1.toNat a.2).2 = true then { z with p := (dealP z.p a.1.toNat a.2).1 }
  else { z with wt := fun i => if i = a.1.toNat then true else z.wt i, left := z.left ++ [a] }
def goQ (p : Pr) : QS := p.q.foldl stepQ ⟨p, fun _ => false, []⟩
def queueP (p : Pr) : Pr := { (goQ p).p with q := (goQ p).left }
/-- what a consumer is told -/
def quietB (p : Pr) (x : Lk) : Bool := !x.on || (decide (x.told = p.set) && !x.fresh && decide (x.done.length = 0))
def tellP (p : Pr) (c : Nat) : Pr :=
  if quietB p (p.L c) = true then p
  else if Cd.goodN 1 p.h 0 0 (Df.diffL (p.L c).told p.set) (p.L c).done = 0 then
    if Ln.sayE (p.L c).out (p.t + 40) = 0 then { p with L := updL p.L c { p.L c with out := Ln.sayL (p.L c).out (Cd.encS 1 p.h 0 0 (Df.diffL (p.L c).told p.set) (p.L c).done) (p.t + 40), told := p.set, fresh := false, done := [] } } else p
  else p
/-- P7.8 -/
def tickP (p : Pr) (now : Int) : Pr := { p with h := p.h + 1, t := now, ml := if now < p.mn then p.ml else Mt.alw (Df.allN p.set), mn := if now < p.mn then p.mn else wrap64 (now + 10) }
def paidP (p : Pr) (now : Int) : Pr := { p with s := payS p.s now, set := setS (payS p.s now).V }
def endP (p : Pr) (now : Int) : Pr × List Int × Int :=
  if goodP p = true ∧ isT now = true ∧ p.t ≤ now then
    (tellP (tellP (paidP (queueP (tickP p now)) now) 0) 1, paidW now (queueP (tickP p now)).s.W, 0)
  else (p, [], 2)
def newP : Pr := ⟨0, 0, newS, [], fun _ => ⟨false, false, 0, [], false, [], ⟨[], [], 0, false⟩, 0, 0, 0, 0⟩, 1, 10, []⟩
end Go.Proofs.YtjghbciepinofaaGreat.Pv

