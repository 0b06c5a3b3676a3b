/- Parts of the proof: SRL MG1 PVM. -/
import Derived.Test.YtkhlihpghbhppabGreatRows
import Derived.Test.YtkhlihpghbhppabGreatProviderRemovesK30
import Derived.Test.YtkhlihpghbhppabGreatProviderRemovesK31
import Derived.Test.YtkhlihpghbhppabGreatProviderRemovesK32
import Derived.Test.YtkhlihpghbhppabGreatProviderRemovesK33
import Derived.Test.YtkhlihpghbhppabGreatProviderRemovesK34
import Derived.Test.YtkhlihpghbhppabGreatProviderRemovesK35
import Derived.Test.YtkhlihpghbhppabGreatProviderRemovesK39
import Derived.Test.YtkhlihpghbhppabGreatProviderRemovesK40
import Derived.Test.YtkhlihpghbhppabGreatProviderRemovesK42
import Derived.Test.YtkhlihpghbhppabGreatProviderRemovesK46
set_option maxRecDepth 100000
namespace Go.Proofs.YtkhlihpghbhppabGreat
open Go.RowKit
/-- a hold is given up -/
def relX (c : Nat) (h : Int) (x : Wt) : Wt := if c = 0 then (if x.h0 ≤ h then { x with h0 := 0 } else x) else (if x.h1 ≤ h then { x with h1 := 0 } else x)
def relW (c : Nat) (h : Int) (W : List Wt) : List Wt := W.map (relX c h)
theorem map_step (F : Wt → Wt) {W : List Wt} {k : Nat} {x : Wt} (hx : W[k]? = some x) : (W.take (k + 1)).map F ++ W.drop (k + 1) = ((W.take k).map F ++ W.drop k).set k (F x) ∧ ((W.take k).map F ++ W.drop k)[k]? = some x ∧ ((W.take k).map F ++ W.drop k).length = W.length := by
  obtain ⟨hk, he⟩ := List.getElem?_eq_some_iff.1 hx
  have hl : ((W.take k).map F).length = k := by rw [List.length_map, List.length_take]; omega
  have hd : W.drop k = x :: W.drop (k + 1) := by rw [← he]; exact List.drop_eq_getElem_cons hk
  refine ⟨?_, ?_, ?_⟩
  · rw [take_snoc hx, hd, List.map_append, List.set_append_right _ _ (by omega), hl, Nat.sub_self, List.append_assoc]
    rfl
  · rw [List.getElem?_append_right (by omega), hl, Nat.sub_self, hd]
    rfl
  · rw [List.length_append, List.length_map, ← List.length_append, List.take_append_drop]
theorem wsL_setg : ∀ (W : List Wt) (k : Nat) (x x' : Wt) (j : Nat) (v : Value), W[k]? = some x → j < 8 → wtL x' = (wtL x).set j v → wsL (W.set k x') = (wsL W).set (k * 8 + j) v
  | [], k, x, x', j, v, h, _, _ => by simp at h
  | z :: W, 0, x, x', j, v, h, hj, he => by
    simp at h
    subst h
    show wtL x' ++ wsL W = (wtL z ++ wsL W).set _ _
    rw [List.set_append_left _ _ (by rw [wtL_length]; omega), he]
    simp
  | z :: W, k + 1, x, x', j, v, h, hj, he => by
    have ih := wsL_setg W k x x' j v (by simpa using h) hj he
    show wtL z ++ wsL (W.set k _) = (wtL z ++ wsL W).set _ _
    rw [List.set_append_right _ _ (by rw [wtL_length]; omega), wtL_length, ih]
    congr 2
    omega
theorem OwnW.put {B : Nat} {w : World} {g C : Nat} {W : List Wt} (h : OwnW B w (some ⟨g, 0, none⟩) C W) {k : Nat} {x : Wt} (hx : W[k]? = some x) (x' : Wt) (j : Nat) (v : Value) (hj : j < 8) (he : wtL x' = (wtL x).set j v) : OwnW B (w.setCell ⟨g, k * 8 + j, none⟩ v) (some ⟨g, 0, none⟩) C (W.set k x') := by
  have h1 := (World.ownsRow.stored h (k * 8 + j) v).1
  unfold OwnW
  rw [wsL_setg W k x x' j v hx hj he, List.length_set]
  exact h1
theorem OwnW.holds {B : Nat} {w : World} {A : Option Addr} {C : Nat} {W : List Wt} (h : OwnW B w A C W) (h0 : 0 < W.length) : ∃ g, A = some ⟨g, 0, none⟩ ∧ B ≤ g ∧ g < w.heap.size ∧ ∀ k x, W[k]? = some x → (w.cell? ⟨g, k * 8 + 6, none⟩ = some (.int .i64 x.h0) ∧ w.cell? ⟨g, k * 8 + 7, none⟩ = some (.int .i64 x.h1) ∧ w.frozen? ⟨g, k * 8 + 6, none⟩ = false ∧ w.frozen? ⟨g, k * 8 + 7, none⟩ = false) := by
  have h' := h
  rcases h.2 with ⟨hv, hn⟩ | ⟨g, cap, cur, hv, hb, hg, hrest⟩
  · omega
  · cases hv
    refine ⟨g, rfl, hb, (Array.getElem?_eq_some_iff.1 hg).1, fun k x hx => ?_⟩
    have c : ∀ j v, (wtL x)[j]? = some v → j < 8 → w.cell? ⟨g, k * 8 + j, none⟩ = some v := fun j v hj hl => by
      have := World.ownsRow.cells h' (g := g) rfl (k * 8 + j) v ((wsL_get W k x j hx hl).trans hj)
      rwa [Addr.add_lit, Nat.zero_add] at this
    exact ⟨c 6 _ rfl (by omega), c 7 _ rfl (by omega), World.ownsRow.frozenAt h' _, World.ownsRow.frozenAt h' _⟩
end Go.Proofs.YtkhlihpghbhppabGreat

set_option maxRecDepth 100000
namespace Go.Proofs.YtkhlihpghbhppabGreat
structure Kp (s : St) (r : St × Int) : Prop where
  good : goodS r.1 = true
  bu : s.b.bu ≤ r.1.b.bu
  dead : ∀ k, k < 6 → (s.V k).dead = true → (r.1.V k).dead = true
  lost : ∀ k, k < 6 → (s.V k).lost ≤ (r.1.V k).lost
  no : r.2 ≠ 0 → r.1 = s
theorem Kp.same {s : St} (hg : goodS s = true) (e : Int) : Kp s (s, e) := ⟨hg, Int.le_refl _, fun _ _ h => h, fun _ _ => Int.le_refl _, fun _ => rfl⟩
theorem kp_pay {s : St} (hg : goodS s = true) (t : Int) : Kp s (payS s t, 0) := by
  obtain ⟨a1, a2, a3, a4⟩ := pay_all hg t
  exact ⟨pay_good hg t, by show s.b.bu ≤ (payS s t).b.bu; omega, fun k hk h => h, fun k hk => Int.le_refl _, fun h => absurd rfl h⟩
theorem relX_keeps (c : Nat) (h : Int) (x : Wt) : (relX c h x).num = x.num ∧ (relX c h x).d = x.d ∧ (relX c h x).v = x.v ∧ (relX c h x).hei = x.hei ∧ (relX c h x).due = x.due ∧ (relX c h x).amt = x.amt := by
  unfold relX
  repeat' split
  all_goals exact ⟨rfl, rfl, rfl, rfl, rfl, rfl⟩
theorem wOk_rel {next h : Int} {c : Nat} : ∀ {W : List Wt} {last : Int}, wOk next last W = true → wOk next last (relW c h W) = true
  | [], _, _ => rfl
  | x :: W, last, hw => by
    obtain ⟨k1, k2, k3, k4, k5, k6⟩ := relX_keeps c h x
    simp only [wOk, Bool.and_eq_true] at hw
    have ih := wOk_rel (c := c) (h := h) hw.2
    have h1 := hw.1
    simp only [relW, List.map_cons, wOk, wOk1, Bool.and_eq_true, decide_eq_true_eq, k1, k2, k3, k4, k5, k6] at h1 ⊢
    exact ⟨h1, ih⟩
theorem amts_rel (c : Nat) (h : Int) : ∀ W : List Wt, amts (relW c h W) = amts W
  | [] => rfl
  | x :: W => by
    show (relX c h x).amt + amts (relW c h W) = x.amt + amts W
    rw [amts_rel c h W, (relX_keeps c h x).2.2.2.2.2]
theorem kp_rel {s : St} (hg : goodS s = true) (c : Nat) (h : Int) : Kp s ({ s with W := relW c h s.W }, 0) := by
  refine ⟨?_, Int.le_refl _, fun _ _ h => h, fun _ _ => Int.le_refl _, fun h => absurd rfl h⟩
  rw [goodS_iff] at hg ⊢
  obtain ⟨h1, h2, h3, h4, h5, h6, h7, h8, h9⟩ := hg
  exact ⟨h1, h2, h3, by show (relW c h s.W).length ≤ 60; unfold relW; rw [List.length_map]; exact h4, wOk_rel h5, h6, h7, by show amts (relW c h s.W) = _; rw [amts_rel]; exact h8, h9⟩
end Go.Proofs.YtkhlihpghbhppabGreat

set_option maxRecDepth 100000
namespace Go.Proofs.YtkhlihpghbhppabGreat.Pv
open Go.RowKit
def isT (n : Int) : Bool := decide (0 ≤ n) && decide (n ≤ 1099511627776)
def isC (c : Int) : Bool := decide (0 ≤ c) && decide (c < 2)
def updL (L : Nat → Lk) (c : Nat) (x : Lk) : Nat → Lk := fun i => if i = c then x else L i
/-- P7.2 -/
def delegP (p : Pr) (d v n : Int) : Pr × Int := if goodP p = true then ({ p with s := (delegS p.s d v n).1 }, (delegS p.s d v n).2) else (p, 2)
def holdOf (p : Pr) (c : Nat) : Int := if (p.L c).on = true then p.h + 1 else 0
/-- P7.4 -/
def goneLk (x : Lk) : Lk := { x with on := false, gone := true, fresh := false, done := [], out := { x.out with cl := true } }
def isOn (p : Pr) (c : Int) : Bool := isC c && (p.L c.toNat).on
def removeP (p : Pr) (c : Int) : Pr :=
  if goodP p = true ∧ isOn p c = true then { p with s := { p.s with W := relW c.toNat 1099511627776 p.s.W }, L := updL p.L c.toNat (goneLk (p.L c.toNat)), q := p.q.filter fun a => decide (a.1 ≠ c) } else p
/-- P7.5 -/
def pktOf (l : List Int) : Pkt := ⟨(Cd.decP l).1, (Cd.decP l).2.1, (Cd.decP l).2.2.1, (Cd.decP l).2.2.2.1, (Cd.decP l).2.2.2.2.1, (Cd.decP l).2.2.2.2.2⟩
def hearP (p : Pr) (c : Int) (l : List Int) : Pr × Int :=
  if goodP p = true then
    if isOn p c = true then
      if Cd.decE l = 0 then
        if (pktOf l).k = 1 then (p, 3) else ({ p with q := p.q ++ [(c, pktOf l)] }, 0)
      else (p, Cd.decE l)
    else (p, 4)
  else (p, 2)
/-- burnt from a height on, and buried -/
def punS (s : St) (v : Nat) (h : Int) : St := setJ (slashS s v h 50) v true true
/-- validators with one more, by number -/
def doneL (D : List Int) (v : Int) : List Int := ((List.range 6).map Int.ofNat).filter fun u => decide (u = v) || decide (u ∈ D)
def powV (x : Vd) : Int := if x.tok / 100 < 1 then 1 else x.tok / 100
def maxI (a b : Int) : Int := if a < b then b else a
/-- P7.6: what comes of a packet; false: it waits -/
def dealP (p : Pr) (c : Nat) (x : Pkt) : Pr × Bool :=
  if x.k = 2 then ({ p with s := { p.s with W := relW c x.i p.s.W } }, true)
  else if x.k = 4 then
    if (p.s.V x.v.toNat).dead = true then (p, true) else ({ p with s := punS p.s x.v.toNat (maxI x.i (p.L c).base) }, true)
  else if (p.s.V x.v.toNat).jail = true then ({ p with L := updL p.L c { p.L c with done := doneL (p.L c).done x.v } }, true)
  else if p.ml < 1 then (p, false)
  else ({ p with ml := wrap64 (p.ml - powV (p.s.V x.v.toNat)), s := setJ p.s x.v.toNat true (p.s.V x.v.toNat).dead, L := updL p.L c { p.L c with done := doneL (p.L c).done x.v } }, true)
structure QS where
  p : Pr
  wt : Nat → Bool
  left : List (Int × Pkt)
def stepQ (z : QS) (a : Int × Pkt) : QS :=
  if z.wt a.1.toNat = true then { z with left := z.left ++ [a] }
  else if (dealP z.p a.1.toNat a.2).2 = true then { z with p := (dealP z.p a.1.toNat a.2).1 }
  else { z with wt := fun i => if i = a.1.toNat then true else z.wt i, left := z.left ++ [a] }
def goQ (p : Pr) : QS := p.q.foldl stepQ ⟨p, fun _ => false, []⟩
def queueP (p : Pr) : Pr := { (goQ p).p with q := (goQ p).left }
/-- what a consumer is told -/
def quietB (p : Pr) (x : Lk) : Bool := !x.on || (decide (x.told = p.set) && !x.fresh && decide (x.done.length = 0))
def tellP (p : Pr) (c : Nat) : Pr :=
  if quietB p (p.L c) = true then p
  else if Cd.goodN 1 p.h 0 0 (Df.diffL (p.L c).told p.set) (p.L c).done = 0 then
    if Ln.sayE (p.L c).out (p.t + 40) = 0 then { p with L := updL p.L c { p.L c with out := Ln.sayL (p.L c).out (Cd.encS 1 p.h 0 0 (Df.diffL (p.L c).told p.set) (p.L c).done) (p.t + 40), told := p.set, fresh := false, done := [] } } else p
  else p
/-- P7.8 -/
def tickP (p : Pr) (now : Int) : Pr := { p with h := p.h + 1, t := now, ml := if now < p.mn then p.ml else Mt.alw (Df.allN p.set), mn := if now < p.mn then p.mn else wrap64 (now + 10) }
def paidP (p : Pr) (now : Int) : Pr := { p with s := payS p.s now, set := setS (payS p.s now).V }
def endP (p : Pr) (now : Int) : Pr × List Int × Int :=
  if goodP p = true ∧ isT now = true ∧ p.t ≤ now then
    (tellP (tellP (paidP (queueP (tickP p now)) now) 0) 1, paidW now (queueP (tickP p now)).s.W, 0)
  else (p, [], 2)
def newP : Pr := ⟨0, 0, newS, [], fun _ => ⟨false, false, 0, [], false, [], ⟨[], [], 0, false⟩, 0, 0, 0, 0⟩, 1, 10, []⟩
end Go.Proofs.YtkhlihpghbhppabGreat.Pv

