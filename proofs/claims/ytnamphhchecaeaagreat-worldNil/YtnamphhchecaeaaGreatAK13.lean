/- Parts of the proof: PV0. -/
import Derived.Test.YtnamphhchecaeaaGreatRows
import Derived.Test.YtnamphhchecaeaaGreatAK1
import Derived.Test.YtnamphhchecaeaaGreatAK8
import Derived.Test.YtnamphhchecaeaaGreatAK12
set_option maxRecDepth 100000
namespace Go.Proofs.YtnamphhchecaeaaGreat.Pv
open Go.RowKit
/-- a link of the provider, the provider -/
structure Lk where
  on : Bool
  gone : Bool
  base : Int
  told : List (Int × Int)
  fresh : Bool
  done : List Int
  out : Ln.Line
  h0 : Int
  h1 : Int
  h2 : Int
  h3 : Int
structure Pr where
  h : Int
  t : Int
  s : St
  set : List (Int × Int)
  L : Nat → Lk
  ml : Int
  mn : Int
  q : List (Int × Pkt)
/-- the slices of a link, of a provider -/
structure LkV where
  told : Value
  done : Value
  said : Value
  due : Value
structure PrV where
  ws : Value
  set : Value
  l : Nat → LkV
  q : Value
def lkL (x : Lk) (v : LkV) : List Value := [.bool x.on, .bool x.gone, .int .i64 x.base, v.told, .bool x.fresh, v.done, v.said, v.due, .int .i64 x.out.g, .bool x.out.cl, .int .i64 x.h0, .int .i64 x.h1, .int .i64 x.h2, .int .i64 x.h3]
def prC (p : Pr) (v : PrV) : Array Value := (([.int .i64 p.h, .int .i64 p.t] : List Value) ++ ((stC p.s v.ws).toList ++ (v.set :: (lkL (p.L 0) (v.l 0) ++ (lkL (p.L 1) (v.l 1) ++ [.int .i64 p.ml, .int .i64 p.mn, v.q]))))).toArray
theorem prC_size (p : Pr) (v : PrV) : (prC p v).size = 97 := rfl
/-- a packet's cells in a queue -/
def akL (x : Int × Pkt) (y : Value × Value) : List Value := [.int .i64 x.1, .int .i64 x.2.k, .int .i64 x.2.i, .int .i64 x.2.v, .int .i64 x.2.n, y.1, y.2]
def quL : List (Int × Pkt) → List (Value × Value) → List Value
  | x :: q, y :: z => akL x y ++ quL q z
  | _, _ => []
/-- a queue lies in memory -/
def QRep (P : Nat → Prop) (w : World) (v : Value) (q : List (Int × Pkt)) : Prop :=
  ∃ z : List (Value × Value), z.length = q.length ∧ Rep P w v 7 80 (quL q z) ∧ ∀ (i : Nat) (x : Int × Pkt) (y : Value × Value), q[i]? = some x → z[i]? = some y → Rep P w y.1 2 16 (pwC x.2.S) ∧ Rep P w y.2 1 8 (inC x.2.D)
structure LkIn (P : Nat → Prop) (w : World) (x : Lk) (v : LkV) : Prop where
  told : Rep P w v.told 2 16 (pwC x.told)
  done : Rep P w v.done 1 8 (inC x.done)
  said : Rep P w v.said 1 16 (txC x.out.S)
  due : Rep P w v.due 1 8 (inC x.out.D)
/-- a provider's lists lie in memory -/
structure PIn (P : Nat → Prop) (w : World) (p : Pr) (v : PrV) : Prop where
  ws : Rep P w v.ws 8 64 (wsL p.s.W)
  set : Rep P w v.set 2 16 (pwC p.set)
  lk : ∀ c, c < 2 → LkIn P w (p.L c) (v.l c)
  q : QRep P w v.q p.q
section
variable {P P' : Nat → Prop} {w w' : World}
theorem QRep.mono {v : Value} {q : List (Int × Pkt)} (h : QRep P w v q) (hp : ∀ b, b < w.heap.size → P b → P' b) : QRep P' w v q := by
  obtain ⟨z, h1, h2, h3⟩ := h
  exact ⟨z, h1, h2.mono hp, fun i x y hx hy => ⟨(h3 i x y hx hy).1.mono hp, (h3 i x y hx hy).2.mono hp⟩⟩
theorem QRep.keep {v : Value} {q : List (Int × Pkt)} (h : QRep P w v q) (hk : ∀ b, P b → b < w.heap.size → w'.heap[b]? = w.heap[b]?) : QRep P w' v q := by
  obtain ⟨z, h1, h2, h3⟩ := h
  exact ⟨z, h1, h2.keep hk, fun i x y hx hy => ⟨(h3 i x y hx hy).1.keep hk, (h3 i x y hx hy).2.keep hk⟩⟩
theorem LkIn.mono {x : Lk} {v : LkV} (h : LkIn P w x v) (hp : ∀ b, b < w.heap.size → P b → P' b) : LkIn P' w x v := ⟨h.told.mono hp, h.done.mono hp, h.said.mono hp, h.due.mono hp⟩
theorem LkIn.keep {x : Lk} {v : LkV} (h : LkIn P w x v) (hk : ∀ b, P b → b < w.heap.size → w'.heap[b]? = w.heap[b]?) : LkIn P w' x v := ⟨h.told.keep hk, h.done.keep hk, h.said.keep hk, h.due.keep hk⟩
theorem PIn.mono {p : Pr} {v : PrV} (h : PIn P w p v) (hp : ∀ b, b < w.heap.size → P b → P' b) : PIn P' w p v := ⟨h.ws.mono hp, h.set.mono hp, fun c hc => (h.lk c hc).mono hp, h.q.mono hp⟩
theorem PIn.keep {p : Pr} {v : PrV} (h : PIn P w p v) (hk : ∀ b, P b → b < w.heap.size → w'.heap[b]? = w.heap[b]?) : PIn P w' p v := ⟨h.ws.keep hk, h.set.keep hk, fun c hc => (h.lk c hc).keep hk, h.q.keep hk⟩
theorem PIn.over {p : Pr} {v : PrV} (h : PIn P w p v) (hb : Below w.heap.size w w') : PIn P w' p v := h.keep fun b _ hlt => hb.block b hlt
end
end Go.Proofs.YtnamphhchecaeaaGreat.Pv

