/- Parts of the proof: PV0 RC3. -/
import Derived.Test.YtkhlihpghbhppabGreatRows
import Derived.Test.YtkhlihpghbhppabGreatProviderRemovesK8
import Derived.Test.YtkhlihpghbhppabGreatProviderRemovesK54
import Derived.Deep.AppendLies
set_option maxRecDepth 100000
namespace Go.Proofs.YtkhlihpghbhppabGreat.Pv
open Go.RowKit
theorem hide {p : Prop} (h : p) : Hid p := h
/-- a block holds these cells -/
def CAt (ty : TypeId) (w : World) (b : Nat) (cs : Array Value) : Prop := w.heap[b]? = some (.cells cs ty)
section
variable {ty : TypeId} {w w' : World} {b B : Nat} {cs : Array Value}
theorem CAt.new (ty : TypeId) (w : World) (cs : Array Value) : CAt ty (w.alloc (.cells cs ty)) w.heap.size cs := heap_alloc_new _ _
theorem CAt.new2 (ty : TypeId) (w : World) (o : Obj) (cs : Array Value) : CAt ty ((w.alloc o).alloc (.cells cs ty)) (w.heap.size + 1) cs := by
  have h := CAt.new ty (w.alloc o) cs
  rwa [show (w.alloc o).heap.size = w.heap.size + 1 by simp] at h
theorem CAt.later (h : CAt ty w b cs) (hb : Below B w w') (hB : b < B) : CAt ty w' b cs := (hb.block b hB).trans h
theorem CAt.lt (h : CAt ty w b cs) : b < w.heap.size := (Array.getElem?_eq_some_iff.1 h).1
theorem CAt.over (h : CAt ty w b cs) (hb : Below w.heap.size w w') : CAt ty w' b cs := h.later hb h.lt
theorem CAt.alloc (h : CAt ty w b cs) (o : Obj) : CAt ty (w.alloc o) b cs := (Below.heap_alloc _ _ _ h.lt).trans h
theorem CAt.keep (h : CAt ty w b cs) (hk : w'.heap[b]? = w.heap[b]?) : CAt ty w' b cs := hk.trans h
theorem CAt.other {c o : Nat} (h : CAt ty w b cs) (hb : b ≠ c) (v : Value) : CAt ty (w.setCell ⟨c, o, none⟩ v) b cs := (Below.heap_setCell _ _ _ _ hb).trans h
theorem CAt.others {c o : Nat} (h : CAt ty w b cs) (hb : b ≠ c) (vs : List Value) : CAt ty (w.setCells c o vs) b cs := (heap_sets hb _ _ _).trans h
theorem CAt.cell (h : CAt ty w b cs) (o : Nat) : w.cell? ⟨b, o, none⟩ = cs[o]? := by
  unfold CAt at h
  simp [World.cell?, h]
theorem CAt.free (h : CAt ty w b cs) (o : Nat) : w.frozen? ⟨b, o, none⟩ = false := by
  unfold CAt at h
  simp [World.frozen?, h]
theorem CAt.set (h : CAt ty w b cs) (o : Nat) (v : Value) : CAt ty (w.setCell ⟨b, o, none⟩ v) b (cs.setIfInBounds o v) := by
  unfold CAt at *
  simp [World.setCell, Array.getElem?_modify, h]
theorem CAt.range (h : CAt ty w b cs) : w.rangeAt b 0 cs.toList := by
  intro j v hv
  rw [Nat.zero_add, h.cell]
  simpa using hv
/-- a part of a block -/
theorem CAt.part (h : CAt ty w b cs) {o : Nat} {ds : List Value} (hd : ∀ j v, ds[j]? = some v → cs[o + j]? = some v) : w.rangeAt b o ds := by
  intro j v hv
  rw [h.cell]
  exact hd j v hv
theorem CAt.there (h : CAt ty w b cs) (o n : Nat) (hn : o + n ≤ cs.size) : w.there b o n := by
  intro j hj
  rw [h.cell, h.free]
  have : o + j < cs.size := by omega
  simp [this]
theorem CAt.sets : ∀ (vs : List Value) (o : Nat) (w : World) (cs : Array Value), CAt ty w b cs → CAt ty (w.setCells b o vs) b (spl cs o vs)
  | [], _, _, _, h => h
  | v :: r, o, _, _, h => CAt.sets r (o + 1) _ _ (h.set o v)
theorem CAt.setAll {ds : Array Value} (h : CAt ty w b cs) (hd : ds.size = cs.size) : CAt ty (w.setCells b 0 ds.toList) b ds := by
  have := CAt.sets ds.toList 0 w cs h
  rwa [spl_all hd] at this
end
/-- a value is a slice of these cells (sz a piece, by bytes a piece), in a block of which P holds -/
def Rep (P : Nat → Prop) (w : World) (v : Value) (sz bts : Nat) (cs : List Value) : Prop :=
  ∃ (A : Option Addr) (n C : Nat), v = .slice A n C ∧ cs.length = n * sz ∧ n * bts ≤ 140737488351232 ∧ ((A = none → C = 0) ∧ n ≤ C) ∧
    (0 < n → ∃ b off, A = some ⟨b, off, none⟩ ∧ P b ∧ b < w.heap.size ∧ ∀ j u, cs[j]? = some u → w.cell? ⟨b, off + j, none⟩ = some u)
section
variable {P P' : Nat → Prop} {w w' : World} {v : Value} {sz bts : Nat} {cs : List Value}
theorem Rep.nil (P : Nat → Prop) (w : World) (sz bts : Nat) : Rep P w (.slice none 0 0) sz bts [] := ⟨none, 0, 0, rfl, by simp, by simp, ⟨fun _ => rfl, Nat.le_refl _⟩, fun h => absurd h (by omega)⟩
theorem Rep.mono (h : Rep P w v sz bts cs) (hp : ∀ b, b < w.heap.size → P b → P' b) : Rep P' w v sz bts cs := by
  obtain ⟨A, n, C, h1, h2, h3, h4, h5⟩ := h
  refine ⟨A, n, C, h1, h2, h3, h4, fun h0 => ?_⟩
  obtain ⟨b, off, a1, a2, a3, a4⟩ := h5 h0
  exact ⟨b, off, a1, hp b a3 a2, a3, a4⟩
theorem Rep.keep (h : Rep P w v sz bts cs) (hk : ∀ b, P b → b < w.heap.size → w'.heap[b]? = w.heap[b]?) : Rep P w' v sz bts cs := by
  obtain ⟨A, n, C, h1, h2, h3, h4, h5⟩ := h
  refine ⟨A, n, C, h1, h2, h3, h4, fun h0 => ?_⟩
  obtain ⟨b, off, a1, a2, a3, a4⟩ := h5 h0
  have hlt : b < w'.heap.size := by
    have e := hk b a2 a3
    rw [Array.getElem?_eq_getElem a3] at e
    exact (Array.getElem?_eq_some_iff.1 e).1
  refine ⟨b, off, a1, a2, hlt, fun j u hu => ?_⟩
  rw [← a4 j u hu]
  exact World.cell?_of_block (w := w) (a := ⟨b, off + j, none⟩) (hk b a2 a3)
theorem Rep.over (h : Rep P w v sz bts cs) (hb : Below w.heap.size w w') : Rep P w' v sz bts cs := h.keep fun b _ hlt => hb.block b hlt
theorem Rep.len (h : Rep P w v sz bts cs) : ∃ A C, v = .slice A (cs.length / sz) C ∨ sz = 0 := by
  obtain ⟨A, n, C, h1, h2, _⟩ := h
  rcases Nat.eq_zero_or_pos sz with hz | hz
  · exact ⟨A, C, .inr hz⟩
  · exact ⟨A, C, .inl (by rw [h1, h2, Nat.mul_div_cancel _ hz])⟩
/-- what an append of it wants -/
theorem Rep.open (h : Rep P w v sz bts cs) {n : Nat} (hn : cs.length = n * sz) (hz : 0 < sz) : ∃ (A : Option Addr) (C : Nat), v = .slice A n C ∧ n * bts ≤ 140737488351232 ∧ (A = none → n = 0 ∧ C = 0) ∧ (0 < n → ∃ b off, A = some ⟨b, off, none⟩ ∧ P b ∧ b < w.heap.size ∧ ∀ j u, cs[j]? = some u → w.cell? ⟨b, off + j, none⟩ = some u) ∧ (∀ ad, A = some ad → ∀ j u, cs[j]? = some u → w.cell? (ad.add j) = some u) := by
  obtain ⟨A, m, C, h1, h2, h3, h4, h5⟩ := h
  have e : m = n := Nat.eq_of_mul_eq_mul_right hz (h2.symm.trans hn)
  subst e
  refine ⟨A, C, h1, h3, fun e => ⟨?_, h4.1 e⟩, h5, fun ad e j u hu => ?_⟩
  · rcases Nat.eq_zero_or_pos m with h0 | h0
    · exact h0
    · obtain ⟨b, off, a1, _⟩ := h5 h0
      rw [a1] at e; cases e
  · rcases Nat.eq_zero_or_pos m with h0 | h0
    · subst h0
      have := (List.getElem?_eq_some_iff.1 hu).1
      omega
    · obtain ⟨b, off, a1, _, _, a4⟩ := h5 h0
      rw [a1] at e
      cases e
      rw [Addr.add_lit]
      exact a4 j u hu
theorem Rep.room (h : Rep P w v sz bts cs) {A : Option Addr} {n C : Nat} (hv : v = .slice A n C) : n ≤ C ∧ (A = none → C = 0) := by
  obtain ⟨A', n', C', h1, _, _, h4, _⟩ := h
  rw [hv] at h1
  cases h1
  exact ⟨h4.2, h4.1⟩
/-- a row of the call's own -/
theorem Rep.own {base n : Nat} {e : TypeId} (h : w.ownsRow base e sz v n cs) (hb : n * bts ≤ 140737488351232) : Rep (fun b => base ≤ b) w v sz bts cs := by
  rcases h.2 with ⟨hv, hn⟩ | ⟨g, cap, cur, hv, h1, h2, h3, _⟩
  · exact ⟨none, 0, 0, hv, by rw [h.1, hn], by omega, ⟨fun _ => rfl, Nat.le_refl _⟩, fun h => absurd h (by omega)⟩
  · subst hv
    refine ⟨_, n, cap, rfl, h.1, hb, ⟨fun h => (by cases h), h3⟩, fun _ => ⟨g, 0, rfl, h1, (Array.getElem?_eq_some_iff.1 h2).1, fun j u hu => ?_⟩⟩
    have := World.ownsRow.cells h (g := g) rfl j u hu
    rwa [Addr.add_lit] at this
end
/-- cells of lists -/
def pwC (l : List (Int × Int)) : List Value := l.flatMap fun x => [.int .i64 x.1, .int .i64 x.2]
def inC (l : List Int) : List Value := l.map (.int .i64)
def txC (l : List ByteArray) : List Value := l.map .string
theorem pwC_length : ∀ l : List (Int × Int), (pwC l).length = l.length * 2
  | [] => rfl
  | x :: l => by show (_ ++ pwC l).length = _; rw [List.length_append, pwC_length l, List.length_cons]; simp; omega
theorem inC_length (l : List Int) : (inC l).length = l.length * 1 := by simp [inC]
theorem txC_length (l : List ByteArray) : (txC l).length = l.length * 1 := by simp [txC]
theorem pwC_get : ∀ (l : List (Int × Int)) (i : Nat), i < l.length → (pwC l)[i * 2]? = some (.int .i64 (l.getD i (0, 0)).1) ∧ (pwC l)[i * 2 + 1]? = some (.int .i64 (l.getD i (0, 0)).2)
  | [], i, h => absurd h (by simp)
  | x :: l, 0, _ => ⟨rfl, rfl⟩
  | x :: l, i + 1, h => by
    have := pwC_get l i (by simpa using h)
    rw [show (i + 1) * 2 = i * 2 + 2 by omega]
    exact this
theorem inC_get (l : List Int) (i : Nat) (h : i < l.length) : (inC l)[i]? = some (.int .i64 (l.getD i 0)) := by simp [inC, List.getD, h]
theorem txC_get (l : List ByteArray) (i : Nat) (h : i < l.length) : (txC l)[i]? = some (.string (l.getD i ByteArray.empty)) := by simp [txC, List.getD, h]
/-- a packet, a link of the provider, the provider -/
structure Pkt where
  k : Int
  i : Int
  v : Int
  n : Int
  S : List (Int × Int)
  D : List Int
structure Lk where
  on : Bool
  gone : Bool
  base : Int
  told : List (Int × Int)
  fresh : Bool
  done : List Int
  out : Ln.Line
  h0 : Int
  h1 : Int
  h2 : Int
  h3 : Int
structure Pr where
  h : Int
  t : Int
  s : St
  set : List (Int × Int)
  L : Nat → Lk
  ml : Int
  mn : Int
  q : List (Int × Pkt)
/-- the slices of a link, of a provider -/
structure LkV where
  told : Value
  done : Value
  said : Value
  due : Value
structure PrV where
  ws : Value
  set : Value
  l : Nat → LkV
  q : Value
def lkL (x : Lk) (v : LkV) : List Value := [.bool x.on, .bool x.gone, .int .i64 x.base, v.told, .bool x.fresh, v.done, v.said, v.due, .int .i64 x.out.g, .bool x.out.cl, .int .i64 x.h0, .int .i64 x.h1, .int .i64 x.h2, .int .i64 x.h3]
def prC (p : Pr) (v : PrV) : Array Value := (([.int .i64 p.h, .int .i64 p.t] : List Value) ++ ((stC p.s v.ws).toList ++ (v.set :: (lkL (p.L 0) (v.l 0) ++ (lkL (p.L 1) (v.l 1) ++ [.int .i64 p.ml, .int .i64 p.mn, v.q]))))).toArray
theorem prC_size (p : Pr) (v : PrV) : (prC p v).size = 97 := rfl
/-- a packet's cells in a queue -/
def akL (x : Int × Pkt) (y : Value × Value) : List Value := [.int .i64 x.1, .int .i64 x.2.k, .int .i64 x.2.i, .int .i64 x.2.v, .int .i64 x.2.n, y.1, y.2]
def quL : List (Int × Pkt) → List (Value × Value) → List Value
  | x :: q, y :: z => akL x y ++ quL q z
  | _, _ => []
/-- a queue lies in memory -/
def QRep (P : Nat → Prop) (w : World) (v : Value) (q : List (Int × Pkt)) : Prop :=
  ∃ z : List (Value × Value), z.length = q.length ∧ Rep P w v 7 80 (quL q z) ∧ ∀ (i : Nat) (x : Int × Pkt) (y : Value × Value), q[i]? = some x → z[i]? = some y → Rep P w y.1 2 16 (pwC x.2.S) ∧ Rep P w y.2 1 8 (inC x.2.D)
structure LkIn (P : Nat → Prop) (w : World) (x : Lk) (v : LkV) : Prop where
  told : Rep P w v.told 2 16 (pwC x.told)
  done : Rep P w v.done 1 8 (inC x.done)
  said : Rep P w v.said 1 16 (txC x.out.S)
  due : Rep P w v.due 1 8 (inC x.out.D)
/-- a provider's lists lie in memory -/
structure PIn (P : Nat → Prop) (w : World) (p : Pr) (v : PrV) : Prop where
  ws : Rep P w v.ws 8 64 (wsL p.s.W)
  set : Rep P w v.set 2 16 (pwC p.set)
  lk : ∀ c, c < 2 → LkIn P w (p.L c) (v.l c)
  q : QRep P w v.q p.q
section
variable {P P' : Nat → Prop} {w w' : World}
theorem QRep.mono {v : Value} {q : List (Int × Pkt)} (h : QRep P w v q) (hp : ∀ b, b < w.heap.size → P b → P' b) : QRep P' w v q := by
  obtain ⟨z, h1, h2, h3⟩ := h
  exact ⟨z, h1, h2.mono hp, fun i x y hx hy => ⟨(h3 i x y hx hy).1.mono hp, (h3 i x y hx hy).2.mono hp⟩⟩
theorem QRep.keep {v : Value} {q : List (Int × Pkt)} (h : QRep P w v q) (hk : ∀ b, P b → b < w.heap.size → w'.heap[b]? = w.heap[b]?) : QRep P w' v q := by
  obtain ⟨z, h1, h2, h3⟩ := h
  exact ⟨z, h1, h2.keep hk, fun i x y hx hy => ⟨(h3 i x y hx hy).1.keep hk, (h3 i x y hx hy).2.keep hk⟩⟩
theorem LkIn.mono {x : Lk} {v : LkV} (h : LkIn P w x v) (hp : ∀ b, b < w.heap.size → P b → P' b) : LkIn P' w x v := ⟨h.told.mono hp, h.done.mono hp, h.said.mono hp, h.due.mono hp⟩
theorem LkIn.keep {x : Lk} {v : LkV} (h : LkIn P w x v) (hk : ∀ b, P b → b < w.heap.size → w'.heap[b]? = w.heap[b]?) : LkIn P w' x v := ⟨h.told.keep hk, h.done.keep hk, h.said.keep hk, h.due.keep hk⟩
theorem PIn.mono {p : Pr} {v : PrV} (h : PIn P w p v) (hp : ∀ b, b < w.heap.size → P b → P' b) : PIn P' w p v := ⟨h.ws.mono hp, h.set.mono hp, fun c hc => (h.lk c hc).mono hp, h.q.mono hp⟩
theorem PIn.keep {p : Pr} {v : PrV} (h : PIn P w p v) (hk : ∀ b, P b → b < w.heap.size → w'.heap[b]? = w.heap[b]?) : PIn P w' p v := ⟨h.ws.keep hk, h.set.keep hk, fun c hc => (h.lk c hc).keep hk, h.q.keep hk⟩
theorem PIn.over {p : Pr} {v : PrV} (h : PIn P w p v) (hb : Below w.heap.size w w') : PIn P w' p v := h.keep fun b _ hlt => hb.block b hlt
end
end Go.Proofs.YtkhlihpghbhppabGreat.Pv

set_option maxRecDepth 100000
namespace Go.Proofs.YtkhlihpghbhppabGreat
open Go.RowKit
theorem own_of {w w' : World} {b e z n : Nat} {v : Value} {xs : List Value} (h : w.ownsRow b e z v n xs) (hk : ∀ k, v.ownBlock = some k → w'.heap[k]? = w.heap[k]?) : w'.ownsRow b e z v n xs := by
  refine ⟨h.1, ?_⟩
  rcases h.2 with hn | ⟨g, cap, cur, rfl, hb, hg, rest⟩
  · exact .inl hn
  · exact .inr ⟨g, cap, cur, rfl, hb, (hk g rfl).trans hg, rest⟩
/-- the waits lie in a row of the call's own -/
def OwnW (B : Nat) (w : World) (A : Option Addr) (C : Nat) (W : List Wt) : Prop := w.ownsRow B 53 8 (.slice A W.length C) W.length (wsL W)
theorem OwnW.to {B : Nat} {w w' : World} {A : Option Addr} {C : Nat} {W : List Wt} (h : OwnW B w A C W) (hk : ∀ k, B ≤ k → k < w.heap.size → w'.heap[k]? = w.heap[k]?) : OwnW B w' A C W := own_of h fun k hv => hk k (h.lt k hv).1 (h.lt k hv).2
theorem OwnW.over {B : Nat} {w w' : World} {A : Option Addr} {C : Nat} {W : List Wt} (h : OwnW B w A C W) (hb : Below w.heap.size w w') : OwnW B w' A C W := h.to fun k _ hk => hb.block k hk
theorem OwnW.cap {B : Nat} {w : World} {A : Option Addr} {C : Nat} {W : List Wt} (h : OwnW B w A C W) : W.length ≤ C := by
  rcases h.2 with ⟨hv, hn⟩ | ⟨g, cap, cur, hv, _, _, hc, _⟩
  · omega
  · cases hv; exact hc
theorem OwnW.ws {B : Nat} {w : World} {A : Option Addr} {C : Nat} {W : List Wt} (h : OwnW B w A C W) (hl : W.length * 64 ≤ 140737488351232) : ∃ g, WsAt w A g 0 W ∧ (0 < W.length → B ≤ g ∧ g < w.heap.size) := by
  rcases h.2 with ⟨hv, hn⟩ | ⟨g, cap, cur, hv, hb, hg, hrest⟩
  · refine ⟨0, ⟨fun h => by omega, hl, fun i x hx => ?_⟩, fun h => by omega⟩
    have := (List.getElem?_eq_some_iff.1 hx).1
    omega
  · cases hv
    refine ⟨g, ws_of_cells hl fun j v hj => ?_, fun _ => ⟨hb, (Array.getElem?_eq_some_iff.1 hg).1⟩⟩
    have := World.ownsRow.cells h (g := g) rfl j v hj
    rwa [Addr.add_lit, Nat.zero_add] at this
/-- one wait more, behind a row of one's own -/
theorem ap3 (B : Nat) (w : World) (A : Option Addr) (C y : Nat) (W : List Wt) (x : Wt) (h : OwnW B w A C W) (h60 : W.length ≤ 60) (hB : B ≤ w.heap.size) (hy : ∀ j v, (wtL x)[j]? = some v → w.cell? ⟨y, j, none⟩ = some v) :
    ∃ g C' w', (Builtin.append_ #[30, 30] 30 #[.slice A W.length C, .slice (some ⟨y, 0, none⟩) 1 1]).run Tryz.prog w = .ok (.slice (some ⟨g, 0, none⟩) (W.length + 1) C') w' ∧ OwnW B w' (some ⟨g, 0, none⟩) C' (W ++ [x]) ∧ B ≤ g ∧ g < w'.heap.size ∧ Below B w w' ∧ (∀ k, k < w.heap.size → some k ≠ (Value.slice A W.length C).ownBlock → g ≠ k ∧ w'.heap[k]? = w.heap[k]?) := by
  obtain ⟨i0, hi, hz0, hz1, hz2⟩ := info_parts info44
  have hL : wsL (W ++ [x]) = wsL W ++ wtL x := by unfold wsL; rw [List.flatMap_append]; simp
  obtain ⟨g, cap, w', hr, ho, hg, hat, hlt⟩ := run_append_lies (P := Tryz.prog) w 30 30 B 53 i0 _ 8 64 Tryz.underlying30 hi hz0 hz1 hz2 rfl (by omega) (.slice A W.length C) W.length (wsL W) h ⟨y, 0, none⟩ 1 1 (wtL x) rfl (fun j v hv => by rw [Addr.add_lit, Nat.zero_add]; exact hy j v hv) (by intro u hu; simp [wtL] at hu; rcases hu with rfl | rfl | rfl | rfl | rfl | rfl | rfl | rfl <;> rfl) (by omega) (by simp only [maxLen]; omega) (by omega) hB _ rfl
  have ho' : OwnW B w' (some ⟨g, 0, none⟩) cap (W ++ [x]) := by
    unfold OwnW
    rw [hL, List.length_append]
    exact ho
  refine ⟨g, cap, w', hr, ho', ?_, hlt, ⟨hg.os, hg.tape, hg.output, hg.size, fun k hk => hg.block k (by omega) (fun he => ?_)⟩, fun k hk hne => ⟨?_, hg.block k hk hne⟩⟩
  · exact (ho'.lt g rfl).1
  · have := (h.lt k he.symm).1
    omega
  · rcases hat with hat | hat
    · rintro rfl
      exact hne hat.symm
    · omega
theorem wpList_ap3 {ops : Array Oper} {rest : List Oper} {o : Oper} {a : Act} {w : World} {Q : Exit → Act → World → Prop} (hg : o.guard = none) (hty : o.type = 30) (p q : Operand)
    (hop : o.op = Op.call { callee := Callee.builtin Builtin.append, args := #[p, q], argTypes := #[30, 30] }) (B : Nat) (A : Option Addr) (C y : Nat) (W : List Wt) (x : Wt) (hs : a.eval p = .slice A W.length C) (hx : a.eval q = .slice (some ⟨y, 0, none⟩) 1 1)
    (h : OwnW B w A C W) (h60 : W.length ≤ 60) (hB : B ≤ w.heap.size) (hy : ∀ j v, (wtL x)[j]? = some v → w.cell? ⟨y, j, none⟩ = some v)
    (hK : ∀ g C' w', OwnW B w' (some ⟨g, 0, none⟩) C' (W ++ [x]) ∧ B ≤ g ∧ g < w'.heap.size ∧ Below B w w' ∧ (∀ k, k < w.heap.size → some k ≠ (Value.slice A W.length C).ownBlock → g ≠ k ∧ w'.heap[k]? = w.heap[k]?) → wpList Tryz.prog ops Q rest (a.put o.dst (.slice (some ⟨g, 0, none⟩) (W.length + 1) C')) w') : wpList Tryz.prog ops Q (o :: rest) a w := by
  refine wpList_plain hg fun _ hK' => ?_
  unfold Oper.wp
  obtain ⟨g, C', w', hr, h1⟩ := ap3 B w A C y W x h h60 hB hy
  simp [execOp, hop, resolve, invoke, builtin, hs, hx, hty, hr, Result.andThen]
  exact hK' _ _ (hK _ _ _ h1)
end Go.Proofs.YtkhlihpghbhppabGreat

