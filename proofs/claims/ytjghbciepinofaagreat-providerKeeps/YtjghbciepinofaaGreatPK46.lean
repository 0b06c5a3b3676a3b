/- Parts of the proof: PVL PV0 PVK PV7. -/
import Derived.Test.YtjghbciepinofaaGreatRows
import Derived.Test.YtjghbciepinofaaGreatPK38
import Derived.Test.YtjghbciepinofaaGreatPK39
import Derived.Test.YtjghbciepinofaaGreatPK40
import Derived.Test.YtjghbciepinofaaGreatPK41
import Derived.Test.YtjghbciepinofaaGreatPK42
import Derived.Test.YtjghbciepinofaaGreatPK48
import Derived.Deep.RegionHeld3
import Derived.Deep.DeepCutAuto
set_option maxRecDepth 100000
namespace Go.Proofs.YtjghbciepinofaaGreat.Pv
open Go.RowKit
/-- a list whose room is not told -/
def RepC (P : Nat → Prop) (w : World) (v : Value) (sz bts : Nat) (cs : List Value) : Prop := ∃ (A : Option Addr) (n C C' : Nat), v = .slice A n C ∧ (A = none → C = 0) ∧ Rep P w (.slice A n C') sz bts cs
section
variable {P P' : Nat → Prop} {w w' : World} {v : Value} {sz bts : Nat} {cs : List Value}
theorem Rep.c (h : Rep P w v sz bts cs) : RepC P w v sz bts cs := by
  obtain ⟨A, n, C, rfl, h2⟩ := id h
  exact ⟨A, n, C, C, rfl, h2.2.2.1.1, h⟩
theorem RepC.nil (P : Nat → Prop) (w : World) (sz bts : Nat) : RepC P w (.slice none 0 0) sz bts [] := (Rep.nil P w sz bts).c
theorem RepC.mono (h : RepC P w v sz bts cs) (hp : ∀ b, b < w.heap.size → P b → P' b) : RepC P' w v sz bts cs := by
  obtain ⟨A, n, C, C', h1, h2, h3⟩ := h
  exact ⟨A, n, C, C', h1, h2, h3.mono hp⟩
theorem RepC.keep (h : RepC P w v sz bts cs) (hk : ∀ b, P b → b < w.heap.size → w'.heap[b]? = w.heap[b]?) : RepC P w' v sz bts cs := by
  obtain ⟨A, n, C, C', h1, h2, h3⟩ := h
  exact ⟨A, n, C, C', h1, h2, h3.keep hk⟩
theorem RepC.over (h : RepC P w v sz bts cs) (hb : Below w.heap.size w w') : RepC P w' v sz bts cs := h.keep fun b _ hlt => hb.block b hlt
theorem RepC.map (h : RepC P w v sz bts cs) (k : ∀ u, Rep P w u sz bts cs → Rep P' w' u sz bts cs) : RepC P' w' v sz bts cs := by
  obtain ⟨A, n, C, C', h1, h2, h3⟩ := h
  exact ⟨A, n, C, C', h1, h2, k _ h3⟩
theorem RepC.one (h : RepC P w v sz bts cs) : v.oneCell' = true := by
  obtain ⟨A, n, C, C', rfl, _⟩ := h
  rfl
/-- a line's two lists -/
theorem RepC.line {x : Ln.Line} {v1 v2 : Value} (h1 : RepC P w v1 1 16 (txC x.S)) (h2 : RepC P w v2 1 8 (inC x.D)) : ∃ A1 C1 A2 C2 sb so db dO, v1 = .slice A1 x.S.length C1 ∧ v2 = .slice A2 x.D.length C2 ∧ Ln.LAt w x A1 A2 C1 C2 sb so db dO ∧ (0 < x.S.length → P sb) ∧ (0 < x.D.length → P db) := by
  obtain ⟨A, n, C, C', rfl, n1, r1⟩ := h1
  obtain ⟨B, m, D, D', rfl, n2, r2⟩ := h2
  obtain ⟨A1, C1, A2, C2, sb, so, db, dO, e1, e2, L, p1, p2⟩ := Rep.line r1 r2
  cases e1
  cases e2
  exact ⟨_, _, _, _, sb, so, db, dO, rfl, rfl, ⟨L.hls, L.hld, L.hsa, L.hda, n1, n2, L.PS, L.PD⟩, p1, p2⟩
theorem rep_txt {x : Ln.Line} {sa da : Option Addr} {cs cd sb so db dO : Nat} (L : Ln.LAt w x sa da cs cd sb so db dO) (hp : 0 < x.S.length → P sb) : RepC P w (.slice sa x.S.length cs) 1 16 (txC x.S) := by
  refine ⟨sa, x.S.length, cs, x.S.length, rfl, L.ncs, sa, x.S.length, x.S.length, rfl, txC_length _, L.hls, ⟨fun e => ?_, Nat.le_refl _⟩, fun h0 => ⟨sb, so, L.hsa h0, hp h0, L.ltS h0, fun j u hu => ?_⟩⟩
  · rcases Nat.eq_zero_or_pos x.S.length with h | h
    · exact h
    · rw [L.hsa h] at e; cases e
  · have hj : j < x.S.length := by have := (List.getElem?_eq_some_iff.1 hu).1; rw [txC_length] at this; omega
    rw [L.PS j hj, ← hu, txC_get _ j hj]
theorem rep_due {x : Ln.Line} {sa da : Option Addr} {cs cd sb so db dO : Nat} (L : Ln.LAt w x sa da cs cd sb so db dO) (hp : 0 < x.D.length → P db) : RepC P w (.slice da x.D.length cd) 1 8 (inC x.D) := by
  refine ⟨da, x.D.length, cd, x.D.length, rfl, L.ncd, da, x.D.length, x.D.length, rfl, inC_length _, L.hld, ⟨fun e => ?_, Nat.le_refl _⟩, fun h0 => ⟨db, dO, L.hda h0, hp h0, L.ltD h0, fun j u hu => ?_⟩⟩
  · rcases Nat.eq_zero_or_pos x.D.length with h | h
    · exact h
    · rw [L.hda h] at e; cases e
  · have hj : j < x.D.length := by have := (List.getElem?_eq_some_iff.1 hu).1; rw [inC_length] at this; omega
    rw [L.PD j hj, ← hu, inC_get _ j hj]
end
/-- what a call on a line answers -/
def AnsL (P : Nat → Prop) (w : World) (x : Ln.Line) (er : Int) (e : Ending) (w' : World) : Prop := ∃ u1 u2, e = .returned (.tuple #[.agg #[u1, u2, .int .i64 x.g, .bool x.cl], .int .i64 er]) ∧ RepC (New P w 0) w' u1 1 16 (txC x.S) ∧ RepC (New P w 0) w' u2 1 8 (inC x.D) ∧ Below w.heap.size w w'
theorem ans_l {P : Nat → Prop} {w w' : World} {x y : Ln.Line} {er : Int} {e : Ending} {A1 A2 : Option Addr} {C1 C2 sb so db dO : Nat} (L : Ln.LAt w x A1 A2 C1 C2 sb so db dO) (p1 : 0 < x.S.length → P sb) (p2 : 0 < x.D.length → P db) (h : Ln.Ans sb db x w (y, er) e w') : AnsL P w y er e w' := by
  obtain ⟨v, rfl, ⟨sa, da, cs, cd, sb', so', db', dO', rfl, L', s1, s2⟩, hb⟩ := h
  refine ⟨_, _, rfl, rep_txt L' fun h0 => ?_, rep_due L' fun h0 => ?_, hb⟩
  · rcases (s1 h0).2 with ⟨rfl, e⟩ | h
    · rw [e] at h0; exact .inl ⟨p1 h0, L.ltS h0⟩
    · exact .inr h
  · rcases (s2 h0).2 with ⟨rfl, e⟩ | h
    · rw [e] at h0; exact .inl ⟨p2 h0, L.ltD h0⟩
    · exact .inr h
theorem say_rep (x : Ln.Line) (s : ByteArray) (due : Int) (v1 v2 : Value) (P : Nat → Prop) (w : World) (h1 : RepC P w v1 1 16 (txC x.S)) (h2 : RepC P w v2 1 8 (inC x.D)) : Calls Tryz.prog 72 #[.agg #[v1, v2, .int .i64 x.g, .bool x.cl], .string s, .int .i64 due] w (AnsL P w (Ln.sayL x s due) (Ln.sayE x due)) := by
  obtain ⟨A1, C1, A2, C2, sb, so, db, dO, rfl, rfl, L, p1, p2⟩ := RepC.line h1 h2
  exact (Ln.say_any x A1 A2 C1 C2 sb so db dO s due w L).mono fun e w' h => ans_l L p1 p2 h
end Go.Proofs.YtjghbciepinofaaGreat.Pv

set_option maxRecDepth 100000
namespace Go.Proofs.YtjghbciepinofaaGreat.Pv
open Go.RowKit
/-- a link of the provider, the provider -/
structure Lk where
  on : Bool
  gone : Bool
  base : Int
  told : List (Int × Int)
  fresh : Bool
  done : List Int
  out : Ln.Line
  h0 : Int
  h1 : Int
  h2 : Int
  h3 : Int
structure Pr where
  h : Int
  t : Int
  s : St
  set : List (Int × Int)
  L : Nat → Lk
  ml : Int
  mn : Int
  q : List (Int × Pkt)
/-- the slices of a link, of a provider -/
structure LkV where
  told : Value
  done : Value
  said : Value
  due : Value
structure PrV where
  ws : Value
  set : Value
  l : Nat → LkV
  q : Value
def lkL (x : Lk) (v : LkV) : List Value := [.bool x.on, .bool x.gone, .int .i64 x.base, v.told, .bool x.fresh, v.done, v.said, v.due, .int .i64 x.out.g, .bool x.out.cl, .int .i64 x.h0, .int .i64 x.h1, .int .i64 x.h2, .int .i64 x.h3]
def prC (p : Pr) (v : PrV) : Array Value := (([.int .i64 p.h, .int .i64 p.t] : List Value) ++ ((stC p.s v.ws).toList ++ (v.set :: (lkL (p.L 0) (v.l 0) ++ (lkL (p.L 1) (v.l 1) ++ [.int .i64 p.ml, .int .i64 p.mn, v.q]))))).toArray
theorem prC_size (p : Pr) (v : PrV) : (prC p v).size = 97 := rfl
/-- a packet's cells in a queue -/
def akL (x : Int × Pkt) (y : Value × Value) : List Value := [.int .i64 x.1, .int .i64 x.2.k, .int .i64 x.2.i, .int .i64 x.2.v, .int .i64 x.2.n, y.1, y.2]
def quL : List (Int × Pkt) → List (Value × Value) → List Value
  | x :: q, y :: z => akL x y ++ quL q z
  | _, _ => []
/-- a queue lies in memory -/
def QRep (P : Nat → Prop) (w : World) (v : Value) (q : List (Int × Pkt)) : Prop :=
  ∃ z : List (Value × Value), z.length = q.length ∧ Rep P w v 7 80 (quL q z) ∧ ∀ (i : Nat) (x : Int × Pkt) (y : Value × Value), q[i]? = some x → z[i]? = some y → Rep P w y.1 2 16 (pwC x.2.S) ∧ Rep P w y.2 1 8 (inC x.2.D)
structure LkIn (P : Nat → Prop) (w : World) (x : Lk) (v : LkV) : Prop where
  told : Rep P w v.told 2 16 (pwC x.told)
  done : Rep P w v.done 1 8 (inC x.done)
  said : RepC P w v.said 1 16 (txC x.out.S)
  due : RepC P w v.due 1 8 (inC x.out.D)
/-- a provider's lists lie in memory -/
structure PIn (P : Nat → Prop) (w : World) (p : Pr) (v : PrV) : Prop where
  ws : Rep P w v.ws 8 64 (wsL p.s.W)
  set : Rep P w v.set 2 16 (pwC p.set)
  lk : ∀ c, c < 2 → LkIn P w (p.L c) (v.l c)
  q : QRep P w v.q p.q
section
variable {P P' : Nat → Prop} {w w' : World}
theorem QRep.mono {v : Value} {q : List (Int × Pkt)} (h : QRep P w v q) (hp : ∀ b, b < w.heap.size → P b → P' b) : QRep P' w v q := by
  obtain ⟨z, h1, h2, h3⟩ := h
  exact ⟨z, h1, h2.mono hp, fun i x y hx hy => ⟨(h3 i x y hx hy).1.mono hp, (h3 i x y hx hy).2.mono hp⟩⟩
theorem QRep.keep {v : Value} {q : List (Int × Pkt)} (h : QRep P w v q) (hk : ∀ b, P b → b < w.heap.size → w'.heap[b]? = w.heap[b]?) : QRep P w' v q := by
  obtain ⟨z, h1, h2, h3⟩ := h
  exact ⟨z, h1, h2.keep hk, fun i x y hx hy => ⟨(h3 i x y hx hy).1.keep hk, (h3 i x y hx hy).2.keep hk⟩⟩
theorem LkIn.mono {x : Lk} {v : LkV} (h : LkIn P w x v) (hp : ∀ b, b < w.heap.size → P b → P' b) : LkIn P' w x v := ⟨h.told.mono hp, h.done.mono hp, h.said.mono hp, h.due.mono hp⟩
theorem LkIn.keep {x : Lk} {v : LkV} (h : LkIn P w x v) (hk : ∀ b, P b → b < w.heap.size → w'.heap[b]? = w.heap[b]?) : LkIn P w' x v := ⟨h.told.keep hk, h.done.keep hk, h.said.keep hk, h.due.keep hk⟩
theorem PIn.mono {p : Pr} {v : PrV} (h : PIn P w p v) (hp : ∀ b, b < w.heap.size → P b → P' b) : PIn P' w p v := ⟨h.ws.mono hp, h.set.mono hp, fun c hc => (h.lk c hc).mono hp, h.q.mono hp⟩
theorem PIn.keep {p : Pr} {v : PrV} (h : PIn P w p v) (hk : ∀ b, P b → b < w.heap.size → w'.heap[b]? = w.heap[b]?) : PIn P w' p v := ⟨h.ws.keep hk, h.set.keep hk, fun c hc => (h.lk c hc).keep hk, h.q.keep hk⟩
theorem PIn.over {p : Pr} {v : PrV} (h : PIn P w p v) (hb : Below w.heap.size w w') : PIn P w' p v := h.keep fun b _ hlt => hb.block b hlt
end
end Go.Proofs.YtjghbciepinofaaGreat.Pv

set_option maxRecDepth 100000
namespace Go.Proofs.YtjghbciepinofaaGreat.Pv
open Go.RowKit
section
variable {P : Nat → Prop} {w w' : World} {v : Value} {sz bts : Nat} {cs : List Value}
theorem Rep.wsAt {W : List Wt} (h : Rep P w v 8 64 (wsL W)) : ∃ A C b o, v = .slice A W.length C ∧ WsAt w A b o W ∧ (A = none → C = 0) ∧ (0 < W.length → P b) := by
  obtain ⟨A, n, C, h1, h2, h3, h4, h5⟩ := h
  rw [wsL_length] at h2
  have e : n = W.length := by omega
  subst e
  rcases Nat.eq_zero_or_pos W.length with h0 | h0
  · refine ⟨A, C, 0, 0, h1, ⟨fun h => by omega, h3, fun i x hx => ?_⟩, h4.1, fun h => by omega⟩
    have := (List.getElem?_eq_some_iff.1 hx).1
    omega
  · obtain ⟨b, off, rfl, hp, _, hc⟩ := h5 h0
    refine ⟨_, C, b, off, h1, ⟨fun _ => rfl, h3, fun i x hx => ?_⟩, h4.1, fun _ => hp⟩
    have k : ∀ j, j < 8 → ∀ u, (wtL x)[j]? = some u → w.cell? ⟨b, off + i * 8 + j, none⟩ = some u := fun j hj u hu => by
      rw [Nat.add_assoc]
      exact hc _ _ ((wsL_get W i x j hx hj).trans hu)
    exact ⟨k 0 (by omega) _ rfl, k 1 (by omega) _ rfl, k 2 (by omega) _ rfl, k 3 (by omega) _ rfl, k 4 (by omega) _ rfl, k 5 (by omega) _ rfl, k 6 (by omega) _ rfl, k 7 (by omega) _ rfl⟩
end
end Go.Proofs.YtjghbciepinofaaGreat.Pv

set_option maxRecDepth 100000
namespace Go.Proofs.YtjghbciepinofaaGreat.Pv
open Go.RowKit
/-- a link's four lists, copied -/
structure Lk4 (B : Nat) (w : World) (x : Lk) (T D S U : Value) : Prop where
  told : Rep (fun b => B ≤ b) w T 2 16 (pwC x.told)
  done : Rep (fun b => B ≤ b) w D 1 8 (inC x.done)
  said : Rep (fun b => B ≤ b) w S 1 16 (txC x.out.S)
  due : Rep (fun b => B ≤ b) w U 1 8 (inC x.out.D)
end Go.Proofs.YtjghbciepinofaaGreat.Pv

