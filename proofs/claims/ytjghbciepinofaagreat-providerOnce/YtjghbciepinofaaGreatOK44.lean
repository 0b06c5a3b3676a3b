/- Parts of the proof: PVKR PGR PVL PV0. -/
import Derived.Test.YtjghbciepinofaaGreatRows
import Derived.Test.YtjghbciepinofaaGreatOK40
import Derived.Test.YtjghbciepinofaaGreatOK41
import Derived.Test.YtjghbciepinofaaGreatOK43
import Derived.Test.YtjghbciepinofaaGreatOK47
import Derived.Deep.RegionLaw
import Derived.Deep.DeepCutAuto
import Derived.Deep.MidRow
import Derived.Deep.QuietTactic
import Derived.BigQuiet
import Derived.WalkSmall
set_option maxRecDepth 100000
namespace Go.Proofs.YtjghbciepinofaaGreat.Pv
open Go.RowKit
section
variable {P : Nat → Prop} {w w' : World} {v : Value} {sz bts : Nat} {cs : List Value}
theorem Rep.copied {n C C1 : Nat} {A A1 : Option Addr} {w1 : World} (h : Rep P w (.slice A n C) sz bts cs) (hz : 0 < sz) (hc : Cd.Copied w A n sz A1 C1 w1) (hk : ∀ b, w.heap.size ≤ b → w'.heap[b]? = w1.heap[b]?) : Rep (fun b => w.heap.size ≤ b) w' (.slice A1 n C1) sz bts cs := by
  obtain ⟨A', m, C', h1, h2, h3, h4, h5⟩ := h
  cases h1
  refine ⟨A1, n, C1, rfl, h2, h3, ⟨hc.nil, hc.cap⟩, fun h0 => ?_⟩
  obtain ⟨b, off, rfl, _, _, hcell⟩ := h5 h0
  obtain ⟨a, g, ea, rfl, hg, hj⟩ := hc.cells h0
  cases ea
  have key : ∀ j u, cs[j]? = some u → w'.cell? ⟨g, 0 + j, none⟩ = some u := fun j u hu => by
    have hlt := (List.getElem?_eq_some_iff.1 hu).1
    rw [Nat.zero_add, World.cell?_of_block (w := w1) (a := ⟨g, j, none⟩) (hk g hg), hj j (by omega), Addr.add_lit]
    exact hcell j u hu
  have hpos : 0 < cs.length := by rw [h2]; exact Nat.mul_pos h0 hz
  have hlt : g < w'.heap.size := World.block_lt_of_cell? w' _ (key 0 cs[0] (List.getElem?_eq_getElem hpos))
  exact ⟨g, 0, rfl, hg, hlt, key⟩
theorem Rep.cellsOf {A : Option Addr} {n C : Nat} (h : Rep P w v sz bts cs) (hv : v = .slice A n C) : ∀ ad, A = some ad → ∀ j u, cs[j]? = some u → w.cell? (ad.add j) = some u := by
  subst hv
  obtain ⟨A', m, C', h1, h2, h3, h4, h5⟩ := h
  cases h1
  intro ad e j u hu
  rcases Nat.eq_zero_or_pos n with h0 | h0
  · subst h0
    have := (List.getElem?_eq_some_iff.1 hu).1
    omega
  · obtain ⟨b, off, a1, _, _, a4⟩ := h5 h0
    rw [a1] at e
    cases e
    rw [Addr.add_lit]
    exact a4 j u hu
/-- a line's two lists -/
theorem Rep.line {x : Ln.Line} {v1 v2 : Value} (h1 : Rep P w v1 1 16 (txC x.S)) (h2 : Rep P w v2 1 8 (inC x.D)) : ∃ A1 C1 A2 C2 sb so db dO, v1 = .slice A1 x.S.length C1 ∧ v2 = .slice A2 x.D.length C2 ∧ Ln.LAt w x A1 A2 C1 C2 sb so db dO ∧ (0 < x.S.length → P sb) ∧ (0 < x.D.length → P db) := by
  obtain ⟨A1, n1, C1, a1, a2, a3, a4, a5⟩ := h1
  obtain ⟨A2, n2, C2, b1, b2, b3, b4, b5⟩ := h2
  rw [txC_length] at a2
  rw [inC_length] at b2
  have e1 : n1 = x.S.length := by omega
  have e2 : n2 = x.D.length := by omega
  subst e1 e2
  have hs : ∃ sb so, (0 < x.S.length → A1 = some ⟨sb, so, none⟩ ∧ P sb) ∧ Ln.StrsAt w sb so x.S := by
    rcases Nat.eq_zero_or_pos x.S.length with h0 | h0
    · exact ⟨0, 0, fun h => by omega, fun i hi => by omega⟩
    · obtain ⟨b, off, e, hp, _, hc⟩ := a5 h0
      exact ⟨b, off, fun _ => ⟨e, hp⟩, fun i hi => hc i _ (txC_get _ i hi)⟩
  have hd : ∃ db dO, (0 < x.D.length → A2 = some ⟨db, dO, none⟩ ∧ P db) ∧ Ln.IntsAt w db dO x.D := by
    rcases Nat.eq_zero_or_pos x.D.length with h0 | h0
    · exact ⟨0, 0, fun h => by omega, fun i hi => by omega⟩
    · obtain ⟨b, off, e, hp, _, hc⟩ := b5 h0
      exact ⟨b, off, fun _ => ⟨e, hp⟩, fun i hi => hc i _ (inC_get _ i hi)⟩
  obtain ⟨sb, so, s1, s2⟩ := hs
  obtain ⟨db, dO, d1, d2⟩ := hd
  exact ⟨A1, C1, A2, C2, sb, so, db, dO, a1, b1, ⟨a3, b3, fun h => (s1 h).1, fun h => (d1 h).1, a4.1, b4.1, s2, d2⟩, fun h => (s1 h).2, fun h => (d1 h).2⟩
/-- a packet's two lists -/
theorem Rep.lies {S : List (Int × Int)} {D : List Int} {v1 v2 : Value} (h1 : Rep P w v1 2 16 (pwC S)) (h2 : Rep P w v2 1 8 (inC D)) : ∃ A1 C1 A2 C2 sb so db dO, v1 = .slice A1 S.length C1 ∧ v2 = .slice A2 D.length C2 ∧ Cd.Lies w S D A1 A2 sb so db dO := by
  obtain ⟨A1, n1, C1, a1, a2, a3, a4, a5⟩ := h1
  obtain ⟨A2, n2, C2, b1, b2, b3, b4, b5⟩ := h2
  rw [pwC_length] at a2
  rw [inC_length] at b2
  have e1 : n1 = S.length := by omega
  have e2 : n2 = D.length := by omega
  subst e1 e2
  have hs : ∃ sb so, (0 < S.length → A1 = some ⟨sb, so, none⟩) ∧ Cd.PwsAt w sb so S := by
    rcases Nat.eq_zero_or_pos S.length with h0 | h0
    · exact ⟨0, 0, fun h => by omega, fun i hi => by omega⟩
    · obtain ⟨b, off, e, hp, _, hc⟩ := a5 h0
      exact ⟨b, off, fun _ => e, fun i hi => ⟨hc _ _ (pwC_get _ i hi).1, hc _ _ (pwC_get _ i hi).2⟩⟩
  have hd : ∃ db dO, (0 < D.length → A2 = some ⟨db, dO, none⟩) ∧ Cd.IntsAt w db dO D := by
    rcases Nat.eq_zero_or_pos D.length with h0 | h0
    · exact ⟨0, 0, fun h => by omega, fun i hi => by omega⟩
    · obtain ⟨b, off, e, hp, _, hc⟩ := b5 h0
      exact ⟨b, off, fun _ => e, fun i hi => hc i _ (inC_get _ i hi)⟩
  obtain ⟨sb, so, s1, s2⟩ := hs
  obtain ⟨db, dO, d1, d2⟩ := hd
  exact ⟨A1, C1, A2, C2, sb, so, db, dO, a1, b1, ⟨by unfold maxLen; omega, by unfold maxLen; omega, s1, d1, s2, d2⟩⟩
end
theorem spl_mid (a x c y : List Value) (h : x.length = y.length) : spl (a ++ (x ++ c)).toArray a.length y = (a ++ (y ++ c)).toArray := by
  apply Array.ext_getElem?
  intro i
  rw [spl_get _ _ _ _ (by simp; omega)]
  simp only [List.getElem?_toArray]
  by_cases h1 : i < a.length
  · rw [if_neg (by omega), List.getElem?_append_left h1, List.getElem?_append_left h1]
  · obtain ⟨j, rfl⟩ : ∃ j, i = a.length + j := ⟨i - a.length, by omega⟩
    have e : ∀ z : List Value, (a ++ z)[a.length + j]? = z[j]? := fun z => by rw [List.getElem?_append_right (by omega), Nat.add_sub_cancel_left]
    rw [e, e, Nat.add_sub_cancel_left]
    by_cases h2 : j < y.length
    · rw [if_pos ⟨by omega, by omega⟩, List.getElem?_append_left h2]
    · rw [if_neg (by omega), List.getElem?_append_right (by omega), List.getElem?_append_right (by omega), h]
theorem set_mid (a x c : List Value) (n j : Nat) (u : Value) (hn : a.length = n) (hj : j < x.length) : ((a ++ (x ++ c)).toArray).setIfInBounds (n + j) u = (a ++ (x.set j u ++ c)).toArray := by
  subst hn
  rw [List.setIfInBounds_toArray, List.set_append_right _ _ (by omega), Nat.add_sub_cancel_left, List.set_append_left _ _ hj]
/-- all orders of a region come to one frame -/
def Join (A : Act) (R : World → Prop) (ex : Exit) (a : Act) (w : World) : Prop := ex = Exit.normal ∧ a = A ∧ R w
theorem wp_join {P : Program} {c : Code} {Q : Exit → Act → World → Prop} {a : Act} {w : World} (R : World → Prop) (A : Act) (h1 : Code.wp P c (Join A R) a w) (h2 : ∀ w', R w' → Q Exit.normal A w') : Code.wp P c Q a w :=
  Code.wp_mono (fun e a' w' h => by obtain ⟨rfl, rfl, h⟩ := h; exact h2 w' h) h1
/-- the same, with a value that comes about -/
def Joinx (A : Value → Act) (R : Value → World → Prop) (ex : Exit) (a : Act) (w : World) : Prop := ∃ x, ex = Exit.normal ∧ a = A x ∧ R x w
theorem wp_joinx {P : Program} {c : Code} {Q : Exit → Act → World → Prop} {a : Act} {w : World} (R : Value → World → Prop) (A : Value → Act) (h1 : Code.wp P c (Joinx A R) a w) (h2 : ∀ x w', R x w' → Q Exit.normal (A x) w') : Code.wp P c Q a w :=
  Code.wp_mono (fun e a' w' h => by obtain ⟨x, rfl, rfl, h⟩ := h; exact h2 x w' h) h1
end Go.Proofs.YtjghbciepinofaaGreat.Pv

set_option maxRecDepth 100000
namespace Go.Proofs.YtjghbciepinofaaGreat.Pv
open Go.RowKit
/-- but for one block and new ones the world is as it was -/
structure Alt (g : Nat) (w w' : World) : Prop where
  os : w'.os = w.os
  tape : w'.tape = w.tape
  output : w'.output = w.output
  size : w.heap.size ≤ w'.heap.size
  block : ∀ k, k < w.heap.size → k ≠ g → w'.heap[k]? = w.heap[k]?
theorem Alt.refl (g : Nat) (w : World) : Alt g w w := ⟨rfl, rfl, rfl, Nat.le_refl _, fun _ _ _ => rfl⟩
theorem Alt.trans {g : Nat} {w w1 w2 : World} (h : Alt g w w1) (k : Alt g w1 w2) : Alt g w w2 := ⟨k.os.trans h.os, k.tape.trans h.tape, k.output.trans h.output, Nat.le_trans h.size k.size, fun i hi hn => (k.block i (Nat.lt_of_lt_of_le hi h.size) hn).trans (h.block i hi hn)⟩
theorem Alt.of {g : Nat} {w w' : World} (h : Below w.heap.size w w') : Alt g w w' := ⟨h.os, h.tape, h.output, h.size, fun k hk _ => h.block k hk⟩
theorem Alt.below {g B : Nat} {w w' : World} (h : Alt g w w') (hB : B ≤ g) (hw : B ≤ w.heap.size) : Below B w w' := ⟨h.os, h.tape, h.output, h.size, fun k hk => h.block k (by omega) (by omega)⟩
theorem Alt.set {g : Nat} {w w' : World} (h : Alt g w w') (o : Nat) (v : Value) : Alt g w (w'.setCell ⟨g, o, none⟩ v) :=
  ⟨h.os, h.tape, h.output, (by simp [World.setCell]; exact h.size), fun k hk hn => (Below.heap_setCell _ _ _ _ hn).trans (h.block k hk hn)⟩
theorem Alt.sets {g : Nat} : ∀ (vs : List Value) {w w' : World} (_ : Alt g w w') (o : Nat), Alt g w (w'.setCells g o vs)
  | [], _, _, h, _ => h
  | _ :: r, _, _, h, o => Alt.sets r (h.set o _) (o + 1)
theorem Alt.cat {g : Nat} {w w' : World} (h : Alt g w w') {b : Nat} (hb : b ≠ g) {t : TypeId} {cs : Array Value} (c : CAt t w b cs) : CAt t w' b cs := (h.block b c.lt hb).trans c
theorem Alt.rep {g : Nat} {w w' : World} (h : Alt g w w') {P : Nat → Prop} (hP : ¬ P g) {v : Value} {sz bts : Nat} {cs : List Value} (hp : Rep P w v sz bts cs) : Rep P w' v sz bts cs := hp.keep fun b hb hlt => h.block b hlt (fun e => hP (e ▸ hb))
/-- blocks that were there, or that came later -/
def New (P : Nat → Prop) (w : World) (k b : Nat) : Prop := (P b ∧ b < w.heap.size) ∨ w.heap.size + k ≤ b
theorem new_no {P : Nat → Prop} {w : World} {k j : Nat} (h : j < k) : ¬ New P w k (w.heap.size + j) := fun hn => by
  rcases hn with ⟨_, h1⟩ | h1 <;> omega
end Go.Proofs.YtjghbciepinofaaGreat.Pv

set_option maxRecDepth 100000
namespace Go.Proofs.YtjghbciepinofaaGreat.Pv
open Go.RowKit
/-- a list whose room is not told -/
def RepC (P : Nat → Prop) (w : World) (v : Value) (sz bts : Nat) (cs : List Value) : Prop := ∃ (A : Option Addr) (n C C' : Nat), v = .slice A n C ∧ (A = none → C = 0) ∧ Rep P w (.slice A n C') sz bts cs
section
variable {P P' : Nat → Prop} {w w' : World} {v : Value} {sz bts : Nat} {cs : List Value}
theorem Rep.c (h : Rep P w v sz bts cs) : RepC P w v sz bts cs := by
  obtain ⟨A, n, C, rfl, h2⟩ := id h
  exact ⟨A, n, C, C, rfl, h2.2.2.1.1, h⟩
theorem RepC.nil (P : Nat → Prop) (w : World) (sz bts : Nat) : RepC P w (.slice none 0 0) sz bts [] := (Rep.nil P w sz bts).c
theorem RepC.mono (h : RepC P w v sz bts cs) (hp : ∀ b, b < w.heap.size → P b → P' b) : RepC P' w v sz bts cs := by
  obtain ⟨A, n, C, C', h1, h2, h3⟩ := h
  exact ⟨A, n, C, C', h1, h2, h3.mono hp⟩
theorem RepC.keep (h : RepC P w v sz bts cs) (hk : ∀ b, P b → b < w.heap.size → w'.heap[b]? = w.heap[b]?) : RepC P w' v sz bts cs := by
  obtain ⟨A, n, C, C', h1, h2, h3⟩ := h
  exact ⟨A, n, C, C', h1, h2, h3.keep hk⟩
theorem RepC.over (h : RepC P w v sz bts cs) (hb : Below w.heap.size w w') : RepC P w' v sz bts cs := h.keep fun b _ hlt => hb.block b hlt
theorem RepC.map (h : RepC P w v sz bts cs) (k : ∀ u, Rep P w u sz bts cs → Rep P' w' u sz bts cs) : RepC P' w' v sz bts cs := by
  obtain ⟨A, n, C, C', h1, h2, h3⟩ := h
  exact ⟨A, n, C, C', h1, h2, k _ h3⟩
theorem RepC.one (h : RepC P w v sz bts cs) : v.oneCell' = true := by
  obtain ⟨A, n, C, C', rfl, _⟩ := h
  rfl
/-- a line's two lists -/
theorem RepC.line {x : Ln.Line} {v1 v2 : Value} (h1 : RepC P w v1 1 16 (txC x.S)) (h2 : RepC P w v2 1 8 (inC x.D)) : ∃ A1 C1 A2 C2 sb so db dO, v1 = .slice A1 x.S.length C1 ∧ v2 = .slice A2 x.D.length C2 ∧ Ln.LAt w x A1 A2 C1 C2 sb so db dO ∧ (0 < x.S.length → P sb) ∧ (0 < x.D.length → P db) := by
  obtain ⟨A, n, C, C', rfl, n1, r1⟩ := h1
  obtain ⟨B, m, D, D', rfl, n2, r2⟩ := h2
  obtain ⟨A1, C1, A2, C2, sb, so, db, dO, e1, e2, L, p1, p2⟩ := Rep.line r1 r2
  cases e1
  cases e2
  exact ⟨_, _, _, _, sb, so, db, dO, rfl, rfl, ⟨L.hls, L.hld, L.hsa, L.hda, n1, n2, L.PS, L.PD⟩, p1, p2⟩
theorem rep_txt {x : Ln.Line} {sa da : Option Addr} {cs cd sb so db dO : Nat} (L : Ln.LAt w x sa da cs cd sb so db dO) (hp : 0 < x.S.length → P sb) : RepC P w (.slice sa x.S.length cs) 1 16 (txC x.S) := by
  refine ⟨sa, x.S.length, cs, x.S.length, rfl, L.ncs, sa, x.S.length, x.S.length, rfl, txC_length _, L.hls, ⟨fun e => ?_, Nat.le_refl _⟩, fun h0 => ⟨sb, so, L.hsa h0, hp h0, L.ltS h0, fun j u hu => ?_⟩⟩
  · rcases Nat.eq_zero_or_pos x.S.length with h | h
    · exact h
    · rw [L.hsa h] at e; cases e
  · have hj : j < x.S.length := by have := (List.getElem?_eq_some_iff.1 hu).1; rw [txC_length] at this; omega
    rw [L.PS j hj, ← hu, txC_get _ j hj]
theorem rep_due {x : Ln.Line} {sa da : Option Addr} {cs cd sb so db dO : Nat} (L : Ln.LAt w x sa da cs cd sb so db dO) (hp : 0 < x.D.length → P db) : RepC P w (.slice da x.D.length cd) 1 8 (inC x.D) := by
  refine ⟨da, x.D.length, cd, x.D.length, rfl, L.ncd, da, x.D.length, x.D.length, rfl, inC_length _, L.hld, ⟨fun e => ?_, Nat.le_refl _⟩, fun h0 => ⟨db, dO, L.hda h0, hp h0, L.ltD h0, fun j u hu => ?_⟩⟩
  · rcases Nat.eq_zero_or_pos x.D.length with h | h
    · exact h
    · rw [L.hda h] at e; cases e
  · have hj : j < x.D.length := by have := (List.getElem?_eq_some_iff.1 hu).1; rw [inC_length] at this; omega
    rw [L.PD j hj, ← hu, inC_get _ j hj]
end
/-- what a call on a line answers -/
def AnsL (P : Nat → Prop) (w : World) (x : Ln.Line) (er : Int) (e : Ending) (w' : World) : Prop := ∃ u1 u2, e = .returned (.tuple #[.agg #[u1, u2, .int .i64 x.g, .bool x.cl], .int .i64 er]) ∧ RepC (New P w 0) w' u1 1 16 (txC x.S) ∧ RepC (New P w 0) w' u2 1 8 (inC x.D) ∧ Below w.heap.size w w'
theorem ans_l {P : Nat → Prop} {w w' : World} {x y : Ln.Line} {er : Int} {e : Ending} {A1 A2 : Option Addr} {C1 C2 sb so db dO : Nat} (L : Ln.LAt w x A1 A2 C1 C2 sb so db dO) (p1 : 0 < x.S.length → P sb) (p2 : 0 < x.D.length → P db) (h : Ln.Ans sb db x w (y, er) e w') : AnsL P w y er e w' := by
  obtain ⟨v, rfl, ⟨sa, da, cs, cd, sb', so', db', dO', rfl, L', s1, s2⟩, hb⟩ := h
  refine ⟨_, _, rfl, rep_txt L' fun h0 => ?_, rep_due L' fun h0 => ?_, hb⟩
  · rcases (s1 h0).2 with ⟨rfl, e⟩ | h
    · rw [e] at h0; exact .inl ⟨p1 h0, L.ltS h0⟩
    · exact .inr h
  · rcases (s2 h0).2 with ⟨rfl, e⟩ | h
    · rw [e] at h0; exact .inl ⟨p2 h0, L.ltD h0⟩
    · exact .inr h
theorem say_rep (x : Ln.Line) (s : ByteArray) (due : Int) (v1 v2 : Value) (P : Nat → Prop) (w : World) (h1 : RepC P w v1 1 16 (txC x.S)) (h2 : RepC P w v2 1 8 (inC x.D)) : Calls Tryz.prog 72 #[.agg #[v1, v2, .int .i64 x.g, .bool x.cl], .string s, .int .i64 due] w (AnsL P w (Ln.sayL x s due) (Ln.sayE x due)) := by
  obtain ⟨A1, C1, A2, C2, sb, so, db, dO, rfl, rfl, L, p1, p2⟩ := RepC.line h1 h2
  exact (Ln.say_any x A1 A2 C1 C2 sb so db dO s due w L).mono fun e w' h => ans_l L p1 p2 h
end Go.Proofs.YtjghbciepinofaaGreat.Pv

set_option maxRecDepth 100000
namespace Go.Proofs.YtjghbciepinofaaGreat.Pv
open Go.RowKit
/-- a link of the provider, the provider -/
structure Lk where
  on : Bool
  gone : Bool
  base : Int
  told : List (Int × Int)
  fresh : Bool
  done : List Int
  out : Ln.Line
  h0 : Int
  h1 : Int
  h2 : Int
  h3 : Int
structure Pr where
  h : Int
  t : Int
  s : St
  set : List (Int × Int)
  L : Nat → Lk
  ml : Int
  mn : Int
  q : List (Int × Pkt)
/-- the slices of a link, of a provider -/
structure LkV where
  told : Value
  done : Value
  said : Value
  due : Value
structure PrV where
  ws : Value
  set : Value
  l : Nat → LkV
  q : Value
def lkL (x : Lk) (v : LkV) : List Value := [.bool x.on, .bool x.gone, .int .i64 x.base, v.told, .bool x.fresh, v.done, v.said, v.due, .int .i64 x.out.g, .bool x.out.cl, .int .i64 x.h0, .int .i64 x.h1, .int .i64 x.h2, .int .i64 x.h3]
def prC (p : Pr) (v : PrV) : Array Value := (([.int .i64 p.h, .int .i64 p.t] : List Value) ++ ((stC p.s v.ws).toList ++ (v.set :: (lkL (p.L 0) (v.l 0) ++ (lkL (p.L 1) (v.l 1) ++ [.int .i64 p.ml, .int .i64 p.mn, v.q]))))).toArray
theorem prC_size (p : Pr) (v : PrV) : (prC p v).size = 97 := rfl
/-- a packet's cells in a queue -/
def akL (x : Int × Pkt) (y : Value × Value) : List Value := [.int .i64 x.1, .int .i64 x.2.k, .int .i64 x.2.i, .int .i64 x.2.v, .int .i64 x.2.n, y.1, y.2]
def quL : List (Int × Pkt) → List (Value × Value) → List Value
  | x :: q, y :: z => akL x y ++ quL q z
  | _, _ => []
/-- a queue lies in memory -/
def QRep (P : Nat → Prop) (w : World) (v : Value) (q : List (Int × Pkt)) : Prop :=
  ∃ z : List (Value × Value), z.length = q.length ∧ Rep P w v 7 80 (quL q z) ∧ ∀ (i : Nat) (x : Int × Pkt) (y : Value × Value), q[i]? = some x → z[i]? = some y → Rep P w y.1 2 16 (pwC x.2.S) ∧ Rep P w y.2 1 8 (inC x.2.D)
structure LkIn (P : Nat → Prop) (w : World) (x : Lk) (v : LkV) : Prop where
  told : Rep P w v.told 2 16 (pwC x.told)
  done : Rep P w v.done 1 8 (inC x.done)
  said : RepC P w v.said 1 16 (txC x.out.S)
  due : RepC P w v.due 1 8 (inC x.out.D)
/-- a provider's lists lie in memory -/
structure PIn (P : Nat → Prop) (w : World) (p : Pr) (v : PrV) : Prop where
  ws : Rep P w v.ws 8 64 (wsL p.s.W)
  set : Rep P w v.set 2 16 (pwC p.set)
  lk : ∀ c, c < 2 → LkIn P w (p.L c) (v.l c)
  q : QRep P w v.q p.q
section
variable {P P' : Nat → Prop} {w w' : World}
theorem QRep.mono {v : Value} {q : List (Int × Pkt)} (h : QRep P w v q) (hp : ∀ b, b < w.heap.size → P b → P' b) : QRep P' w v q := by
  obtain ⟨z, h1, h2, h3⟩ := h
  exact ⟨z, h1, h2.mono hp, fun i x y hx hy => ⟨(h3 i x y hx hy).1.mono hp, (h3 i x y hx hy).2.mono hp⟩⟩
theorem QRep.keep {v : Value} {q : List (Int × Pkt)} (h : QRep P w v q) (hk : ∀ b, P b → b < w.heap.size → w'.heap[b]? = w.heap[b]?) : QRep P w' v q := by
  obtain ⟨z, h1, h2, h3⟩ := h
  exact ⟨z, h1, h2.keep hk, fun i x y hx hy => ⟨(h3 i x y hx hy).1.keep hk, (h3 i x y hx hy).2.keep hk⟩⟩
theorem LkIn.mono {x : Lk} {v : LkV} (h : LkIn P w x v) (hp : ∀ b, b < w.heap.size → P b → P' b) : LkIn P' w x v := ⟨h.told.mono hp, h.done.mono hp, h.said.mono hp, h.due.mono hp⟩
theorem LkIn.keep {x : Lk} {v : LkV} (h : LkIn P w x v) (hk : ∀ b, P b → b < w.heap.size → w'.heap[b]? = w.heap[b]?) : LkIn P w' x v := ⟨h.told.keep hk, h.done.keep hk, h.said.keep hk, h.due.keep hk⟩
theorem PIn.mono {p : Pr} {v : PrV} (h : PIn P w p v) (hp : ∀ b, b < w.heap.size → P b → P' b) : PIn P' w p v := ⟨h.ws.mono hp, h.set.mono hp, fun c hc => (h.lk c hc).mono hp, h.q.mono hp⟩
theorem PIn.keep {p : Pr} {v : PrV} (h : PIn P w p v) (hk : ∀ b, P b → b < w.heap.size → w'.heap[b]? = w.heap[b]?) : PIn P w' p v := ⟨h.ws.keep hk, h.set.keep hk, fun c hc => (h.lk c hc).keep hk, h.q.keep hk⟩
theorem PIn.over {p : Pr} {v : PrV} (h : PIn P w p v) (hb : Below w.heap.size w w') : PIn P w' p v := h.keep fun b _ hlt => hb.block b hlt
end
end Go.Proofs.YtjghbciepinofaaGreat.Pv

