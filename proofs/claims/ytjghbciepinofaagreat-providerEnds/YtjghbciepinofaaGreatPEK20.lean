/- Parts of the proof: SPL PVR LA LB. -/
import Derived.Test.YtjghbciepinofaaGreatRows
import Derived.WalkKit
import Derived.WalkSmall
import Derived.Below
import Derived.Deep.MidRow
import Derived.Deep.DeepCutAuto
import Derived.OneCell
import Derived.OwnWalk
import Derived.Deep.OwnRows
import Derived.WalkSpells
import Derived.WalkLawsBesides
import Derived.WideShapes
set_option maxRecDepth 100000
namespace Go.Proofs.YtjghbciepinofaaGreat
open Go.RowKit
/-- cells with others in their place, from a place on -/
def spl (cs : Array Value) : Nat → List Value → Array Value
  | _, [] => cs
  | o, v :: r => spl (cs.setIfInBounds o v) (o + 1) r
theorem spl_get : ∀ (vs : List Value) (cs : Array Value) (o i : Nat), o + vs.length ≤ cs.size → (spl cs o vs)[i]? = if o ≤ i ∧ i < o + vs.length then vs[i - o]? else cs[i]?
  | [], cs, o, i, _ => by simp [spl]; intro h1 h2; omega
  | v :: r, cs, o, i, h => by
    simp only [List.length_cons] at h
    rw [spl, spl_get r _ (o + 1) i (by simp; omega)]
    by_cases e : i = o
    · subst e
      have : i < cs.size := by omega
      simp [this]
      intro h1
      omega
    · by_cases h1 : o + 1 ≤ i ∧ i < o + 1 + r.length
      · rw [if_pos h1, if_pos ⟨by omega, by simp; omega⟩]
        obtain ⟨j, rfl⟩ : ∃ j, i = o + 1 + j := ⟨i - (o + 1), by omega⟩
        rw [show o + 1 + j - (o + 1) = j by omega, show o + 1 + j - o = j + 1 by omega]
        simp
      · rw [if_neg h1, if_neg (by simp; omega), Array.getElem?_setIfInBounds_ne (by omega)]
theorem spl_all {cs ds : Array Value} (h : ds.size = cs.size) : spl cs 0 ds.toList = ds := by
  apply Array.ext_getElem?
  intro i
  rw [spl_get _ _ _ _ (by simp; omega)]
  by_cases hi : i < ds.size
  · rw [if_pos ⟨by omega, by simp; omega⟩]; simp
  · rw [if_neg (by simp; omega), Array.getElem?_eq_none (by omega), Array.getElem?_eq_none (by omega)]
theorem below_sets {B b : Nat} {a : World} (hB : B ≤ b) : ∀ (vs : List Value) (o : Nat) (w : World), Below B a w → Below B a (w.setCells b o vs)
  | [], _, _, h => h
  | v :: r, o, _, h => below_sets hB r (o + 1) _ (h.setCell hB v)
theorem heap_sets {b k : Nat} (hk : k ≠ b) : ∀ (vs : List Value) (o : Nat) (w : World), (w.setCells b o vs).heap[k]? = w.heap[k]?
  | [], _, _ => rfl
  | _ :: r, o, _ => (heap_sets hk r (o + 1) _).trans (Below.heap_setCell _ _ _ _ hk)
theorem all_set {cs : Array Value} {i : Nat} {v : Value} (h : cs.all (·.oneCell') = true) (hv : v.oneCell' = true) : (cs.setIfInBounds i v).all (·.oneCell') = true := by
  rw [Array.all_eq_true_iff_forall_mem] at *
  intro x hx
  rcases Array.mem_or_eq_of_mem_setIfInBounds hx with h' | rfl
  · exact h x h'
  · exact hv
end Go.Proofs.YtjghbciepinofaaGreat

set_option maxRecDepth 100000
namespace Go.Proofs.YtjghbciepinofaaGreat.Pv
open Go.RowKit
theorem hide {p : Prop} (h : p) : Hid p := h
/-- a block holds these cells -/
def CAt (ty : TypeId) (w : World) (b : Nat) (cs : Array Value) : Prop := w.heap[b]? = some (.cells cs ty)
section
variable {ty : TypeId} {w w' : World} {b B : Nat} {cs : Array Value}
theorem CAt.new (ty : TypeId) (w : World) (cs : Array Value) : CAt ty (w.alloc (.cells cs ty)) w.heap.size cs := heap_alloc_new _ _
theorem CAt.new2 (ty : TypeId) (w : World) (o : Obj) (cs : Array Value) : CAt ty ((w.alloc o).alloc (.cells cs ty)) (w.heap.size + 1) cs := by
  have h := CAt.new ty (w.alloc o) cs
  rwa [show (w.alloc o).heap.size = w.heap.size + 1 by simp] at h
theorem CAt.later (h : CAt ty w b cs) (hb : Below B w w') (hB : b < B) : CAt ty w' b cs := (hb.block b hB).trans h
theorem CAt.lt (h : CAt ty w b cs) : b < w.heap.size := (Array.getElem?_eq_some_iff.1 h).1
theorem CAt.over (h : CAt ty w b cs) (hb : Below w.heap.size w w') : CAt ty w' b cs := h.later hb h.lt
theorem CAt.alloc (h : CAt ty w b cs) (o : Obj) : CAt ty (w.alloc o) b cs := (Below.heap_alloc _ _ _ h.lt).trans h
theorem CAt.keep (h : CAt ty w b cs) (hk : w'.heap[b]? = w.heap[b]?) : CAt ty w' b cs := hk.trans h
theorem CAt.other {c o : Nat} (h : CAt ty w b cs) (hb : b ≠ c) (v : Value) : CAt ty (w.setCell ⟨c, o, none⟩ v) b cs := (Below.heap_setCell _ _ _ _ hb).trans h
theorem CAt.others {c o : Nat} (h : CAt ty w b cs) (hb : b ≠ c) (vs : List Value) : CAt ty (w.setCells c o vs) b cs := (heap_sets hb _ _ _).trans h
theorem CAt.cell (h : CAt ty w b cs) (o : Nat) : w.cell? ⟨b, o, none⟩ = cs[o]? := by
  unfold CAt at h
  simp [World.cell?, h]
theorem CAt.free (h : CAt ty w b cs) (o : Nat) : w.frozen? ⟨b, o, none⟩ = false := by
  unfold CAt at h
  simp [World.frozen?, h]
theorem CAt.set (h : CAt ty w b cs) (o : Nat) (v : Value) : CAt ty (w.setCell ⟨b, o, none⟩ v) b (cs.setIfInBounds o v) := by
  unfold CAt at *
  simp [World.setCell, Array.getElem?_modify, h]
theorem CAt.range (h : CAt ty w b cs) : w.rangeAt b 0 cs.toList := by
  intro j v hv
  rw [Nat.zero_add, h.cell]
  simpa using hv
/-- a part of a block -/
theorem CAt.part (h : CAt ty w b cs) {o : Nat} {ds : List Value} (hd : ∀ j v, ds[j]? = some v → cs[o + j]? = some v) : w.rangeAt b o ds := by
  intro j v hv
  rw [h.cell]
  exact hd j v hv
theorem CAt.there (h : CAt ty w b cs) (o n : Nat) (hn : o + n ≤ cs.size) : w.there b o n := by
  intro j hj
  rw [h.cell, h.free]
  have : o + j < cs.size := by omega
  simp [this]
theorem CAt.sets : ∀ (vs : List Value) (o : Nat) (w : World) (cs : Array Value), CAt ty w b cs → CAt ty (w.setCells b o vs) b (spl cs o vs)
  | [], _, _, _, h => h
  | v :: r, o, _, _, h => CAt.sets r (o + 1) _ _ (h.set o v)
theorem CAt.setAll {ds : Array Value} (h : CAt ty w b cs) (hd : ds.size = cs.size) : CAt ty (w.setCells b 0 ds.toList) b ds := by
  have := CAt.sets ds.toList 0 w cs h
  rwa [spl_all hd] at this
end
/-- a value is a slice of these cells (sz a piece, by bytes a piece), in a block of which P holds -/
def Rep (P : Nat → Prop) (w : World) (v : Value) (sz bts : Nat) (cs : List Value) : Prop :=
  ∃ (A : Option Addr) (n C : Nat), v = .slice A n C ∧ cs.length = n * sz ∧ n * bts ≤ 140737488351232 ∧ ((A = none → C = 0) ∧ n ≤ C) ∧
    (0 < n → ∃ b off, A = some ⟨b, off, none⟩ ∧ P b ∧ b < w.heap.size ∧ ∀ j u, cs[j]? = some u → w.cell? ⟨b, off + j, none⟩ = some u)
section
variable {P P' : Nat → Prop} {w w' : World} {v : Value} {sz bts : Nat} {cs : List Value}
theorem Rep.nil (P : Nat → Prop) (w : World) (sz bts : Nat) : Rep P w (.slice none 0 0) sz bts [] := ⟨none, 0, 0, rfl, by simp, by simp, ⟨fun _ => rfl, Nat.le_refl _⟩, fun h => absurd h (by omega)⟩
theorem Rep.mono (h : Rep P w v sz bts cs) (hp : ∀ b, b < w.heap.size → P b → P' b) : Rep P' w v sz bts cs := by
  obtain ⟨A, n, C, h1, h2, h3, h4, h5⟩ := h
  refine ⟨A, n, C, h1, h2, h3, h4, fun h0 => ?_⟩
  obtain ⟨b, off, a1, a2, a3, a4⟩ := h5 h0
  exact ⟨b, off, a1, hp b a3 a2, a3, a4⟩
theorem Rep.keep (h : Rep P w v sz bts cs) (hk : ∀ b, P b → b < w.heap.size → w'.heap[b]? = w.heap[b]?) : Rep P w' v sz bts cs := by
  obtain ⟨A, n, C, h1, h2, h3, h4, h5⟩ := h
  refine ⟨A, n, C, h1, h2, h3, h4, fun h0 => ?_⟩
  obtain ⟨b, off, a1, a2, a3, a4⟩ := h5 h0
  have hlt : b < w'.heap.size := by
    have e := hk b a2 a3
    rw [Array.getElem?_eq_getElem a3] at e
    exact (Array.getElem?_eq_some_iff.1 e).1
  refine ⟨b, off, a1, a2, hlt, fun j u hu => ?_⟩
  rw [← a4 j u hu]
  exact World.cell?_of_block (w := w) (a := ⟨b, off + j, none⟩) (hk b a2 a3)
theorem Rep.over (h : Rep P w v sz bts cs) (hb : Below w.heap.size w w') : Rep P w' v sz bts cs := h.keep fun b _ hlt => hb.block b hlt
theorem Rep.len (h : Rep P w v sz bts cs) : ∃ A C, v = .slice A (cs.length / sz) C ∨ sz = 0 := by
  obtain ⟨A, n, C, h1, h2, _⟩ := h
  rcases Nat.eq_zero_or_pos sz with hz | hz
  · exact ⟨A, C, .inr hz⟩
  · exact ⟨A, C, .inl (by rw [h1, h2, Nat.mul_div_cancel _ hz])⟩
/-- what an append of it wants -/
theorem Rep.open (h : Rep P w v sz bts cs) {n : Nat} (hn : cs.length = n * sz) (hz : 0 < sz) : ∃ (A : Option Addr) (C : Nat), v = .slice A n C ∧ n * bts ≤ 140737488351232 ∧ (A = none → n = 0 ∧ C = 0) ∧ (0 < n → ∃ b off, A = some ⟨b, off, none⟩ ∧ P b ∧ b < w.heap.size ∧ ∀ j u, cs[j]? = some u → w.cell? ⟨b, off + j, none⟩ = some u) ∧ (∀ ad, A = some ad → ∀ j u, cs[j]? = some u → w.cell? (ad.add j) = some u) := by
  obtain ⟨A, m, C, h1, h2, h3, h4, h5⟩ := h
  have e : m = n := Nat.eq_of_mul_eq_mul_right hz (h2.symm.trans hn)
  subst e
  refine ⟨A, C, h1, h3, fun e => ⟨?_, h4.1 e⟩, h5, fun ad e j u hu => ?_⟩
  · rcases Nat.eq_zero_or_pos m with h0 | h0
    · exact h0
    · obtain ⟨b, off, a1, _⟩ := h5 h0
      rw [a1] at e; cases e
  · rcases Nat.eq_zero_or_pos m with h0 | h0
    · subst h0
      have := (List.getElem?_eq_some_iff.1 hu).1
      omega
    · obtain ⟨b, off, a1, _, _, a4⟩ := h5 h0
      rw [a1] at e
      cases e
      rw [Addr.add_lit]
      exact a4 j u hu
theorem Rep.room (h : Rep P w v sz bts cs) {A : Option Addr} {n C : Nat} (hv : v = .slice A n C) : n ≤ C ∧ (A = none → C = 0) := by
  obtain ⟨A', n', C', h1, _, _, h4, _⟩ := h
  rw [hv] at h1
  cases h1
  exact ⟨h4.2, h4.1⟩
/-- a row of the call's own -/
theorem Rep.own {base n : Nat} {e : TypeId} (h : w.ownsRow base e sz v n cs) (hb : n * bts ≤ 140737488351232) : Rep (fun b => base ≤ b) w v sz bts cs := by
  rcases h.2 with ⟨hv, hn⟩ | ⟨g, cap, cur, hv, h1, h2, h3, _⟩
  · exact ⟨none, 0, 0, hv, by rw [h.1, hn], by omega, ⟨fun _ => rfl, Nat.le_refl _⟩, fun h => absurd h (by omega)⟩
  · subst hv
    refine ⟨_, n, cap, rfl, h.1, hb, ⟨fun h => (by cases h), h3⟩, fun _ => ⟨g, 0, rfl, h1, (Array.getElem?_eq_some_iff.1 h2).1, fun j u hu => ?_⟩⟩
    have := World.ownsRow.cells h (g := g) rfl j u hu
    rwa [Addr.add_lit] at this
end
/-- cells of lists -/
def pwC (l : List (Int × Int)) : List Value := l.flatMap fun x => [.int .i64 x.1, .int .i64 x.2]
def inC (l : List Int) : List Value := l.map (.int .i64)
def txC (l : List ByteArray) : List Value := l.map .string
theorem pwC_length : ∀ l : List (Int × Int), (pwC l).length = l.length * 2
  | [] => rfl
  | x :: l => by show (_ ++ pwC l).length = _; rw [List.length_append, pwC_length l, List.length_cons]; simp; omega
theorem inC_length (l : List Int) : (inC l).length = l.length * 1 := by simp [inC]
theorem txC_length (l : List ByteArray) : (txC l).length = l.length * 1 := by simp [txC]
theorem pwC_get : ∀ (l : List (Int × Int)) (i : Nat), i < l.length → (pwC l)[i * 2]? = some (.int .i64 (l.getD i (0, 0)).1) ∧ (pwC l)[i * 2 + 1]? = some (.int .i64 (l.getD i (0, 0)).2)
  | [], i, h => absurd h (by simp)
  | x :: l, 0, _ => ⟨rfl, rfl⟩
  | x :: l, i + 1, h => by
    have := pwC_get l i (by simpa using h)
    rw [show (i + 1) * 2 = i * 2 + 2 by omega]
    exact this
theorem inC_get (l : List Int) (i : Nat) (h : i < l.length) : (inC l)[i]? = some (.int .i64 (l.getD i 0)) := by simp [inC, List.getD, h]
theorem txC_get (l : List ByteArray) (i : Nat) (h : i < l.length) : (txC l)[i]? = some (.string (l.getD i ByteArray.empty)) := by simp [txC, List.getD, h]
theorem one_pws (l : List (Int × Int)) : ∀ u ∈ pwC l, u.oneCell' = true := fun u hu => by
  simp only [pwC, List.mem_flatMap, List.mem_cons, List.not_mem_nil, or_false] at hu
  obtain ⟨x, _, rfl | rfl⟩ := hu <;> rfl
/-- a packet -/
structure Pkt where
  k : Int
  i : Int
  v : Int
  n : Int
  S : List (Int × Int)
  D : List Int
/-- a piece of a code -/
def subC : List Nat → Code → Code
  | [], c => c
  | 0 :: p, .seq a _ => subC p a
  | 1 :: p, .seq _ b => subC p b
  | _ :: p, .block _ c => subC p c
  | _ :: p, .loop c => subC p c
  | 1 :: p, .cond _ a _ => subC p a
  | 2 :: p, .cond _ _ b => subC p b
  | _, _ => .skip
end Go.Proofs.YtjghbciepinofaaGreat.Pv

set_option maxRecDepth 100000
namespace Go.Proofs.YtjghbciepinofaaGreat.Ln
open Go.RowKit
/-- a line: what was said, when each of it is too late, how much came, whether it is closed -/
structure Line where
  S : List ByteArray
  D : List Int
  g : Int
  cl : Bool
/-- a list of ints lies at an address -/
def IntsAt (w : World) (b off : Nat) (l : List Int) : Prop := ∀ i, i < l.length → w.cell? ⟨b, off + i, none⟩ = some (.int .i64 (l.getD i 0))
/-- a list of texts lies at an address -/
def StrsAt (w : World) (b off : Nat) (l : List ByteArray) : Prop := ∀ i, i < l.length → w.cell? ⟨b, off + i, none⟩ = some (.string (l.getD i ByteArray.empty))
theorem IntsAt.laterB {B : Nat} {w w' : World} {b off : Nat} {l : List Int} (h : IntsAt w b off l) (hb : Below B w w') (hB : 0 < l.length → b < B) : IntsAt w' b off l := fun i hi =>
  (hb.cell (p := ⟨b, off + i, none⟩) (hB (by omega))).trans (h i hi)
theorem StrsAt.laterB {B : Nat} {w w' : World} {b off : Nat} {l : List ByteArray} (h : StrsAt w b off l) (hb : Below B w w') (hB : 0 < l.length → b < B) : StrsAt w' b off l := fun i hi =>
  (hb.cell (p := ⟨b, off + i, none⟩) (hB (by omega))).trans (h i hi)
theorem IntsAt.later {w w' : World} {b off : Nat} {l : List Int} (h : IntsAt w b off l) (hb : Below w.heap.size w w') : IntsAt w' b off l := fun i hi =>
  (hb.cell (p := ⟨b, off + i, none⟩) (World.block_lt_of_cell? w _ (h i hi))).trans (h i hi)
theorem StrsAt.later {w w' : World} {b off : Nat} {l : List ByteArray} (h : StrsAt w b off l) (hb : Below w.heap.size w w') : StrsAt w' b off l := fun i hi =>
  (hb.cell (p := ⟨b, off + i, none⟩) (World.block_lt_of_cell? w _ (h i hi))).trans (h i hi)
/-- a line's two lists lie in memory -/
structure LAt (w : World) (x : Line) (sa da : Option Addr) (cs cd sb so db dO : Nat) : Prop where
  hls : x.S.length * 16 ≤ 140737488351232
  hld : x.D.length * 8 ≤ 140737488351232
  hsa : 0 < x.S.length → sa = some ⟨sb, so, none⟩
  hda : 0 < x.D.length → da = some ⟨db, dO, none⟩
  ncs : sa = none → cs = 0
  ncd : da = none → cd = 0
  PS : StrsAt w sb so x.S
  PD : IntsAt w db dO x.D
theorem LAt.later {w w' : World} {x : Line} {sa da : Option Addr} {cs cd sb so db dO : Nat} (h : LAt w x sa da cs cd sb so db dO) (hb : Below w.heap.size w w') : LAt w' x sa da cs cd sb so db dO :=
  ⟨h.hls, h.hld, h.hsa, h.hda, h.ncs, h.ncd, h.PS.later hb, h.PD.later hb⟩
theorem LAt.ltS {w : World} {x : Line} {sa da : Option Addr} {cs cd sb so db dO : Nat} (h : LAt w x sa da cs cd sb so db dO) (h0 : 0 < x.S.length) : sb < w.heap.size := World.block_lt_of_cell? w _ (h.PS 0 h0)
theorem LAt.ltD {w : World} {x : Line} {sa da : Option Addr} {cs cd sb so db dO : Nat} (h : LAt w x sa da cs cd sb so db dO) (h0 : 0 < x.D.length) : db < w.heap.size := World.block_lt_of_cell? w _ (h.PD 0 h0)
theorem LAt.laterB {B : Nat} {w w' : World} {x : Line} {sa da : Option Addr} {cs cd sb so db dO : Nat} (h : LAt w x sa da cs cd sb so db dO) (hb : Below B w w') (hS : 0 < x.S.length → sb < B) (hD : 0 < x.D.length → db < B) : LAt w' x sa da cs cd sb so db dO :=
  ⟨h.hls, h.hld, h.hsa, h.hda, h.ncs, h.ncd, h.PS.laterB hb hS, h.PD.laterB hb hD⟩
/-- a value is a line, in memory below B -/
def LV (B : Nat) (w : World) (x : Line) (v : Value) : Prop :=
  ∃ sa da cs cd sb so db dO, v = .agg #[.slice sa x.S.length cs, .slice da x.D.length cd, .int .i64 x.g, .bool x.cl] ∧ LAt w x sa da cs cd sb so db dO ∧ (0 < x.S.length → sb < B) ∧ (0 < x.D.length → db < B)
theorem LV.later {B : Nat} {w w' : World} {x : Line} {v : Value} (h : LV B w x v) (hb : Below B w w') : LV B w' x v := by
  obtain ⟨sa, da, cs, cd, sb, so, db, dO, e, L, h1, h2⟩ := h
  exact ⟨sa, da, cs, cd, sb, so, db, dO, e, L.laterB hb h1 h2, h1, h2⟩
theorem hide {p : Prop} (h : p) : Hid p := h
theorem below_new (w : World) (o : Obj) : Below w.heap.size w (w.alloc o) := (Below.refl _ _).alloc (Nat.le_refl _) o
theorem below_step {w w' : World} {o : Obj} (h : Below (w.alloc o).heap.size (w.alloc o) w') : Below w.heap.size w w' :=
  (below_new w o).trans (h.mono (by simp))
theorem below_then {w w1 w2 : World} (h : Below w.heap.size w w1) (k : Below w1.heap.size w1 w2) : Below w.heap.size w w2 := h.trans (k.mono h.size)
theorem bcell {W w1 : World} (hb : Below W.heap.size W w1) : (∀ b o, b < W.heap.size → w1.cell? ⟨b, o, none⟩ = W.cell? ⟨b, o, none⟩) ∧ (∀ b o, b < W.heap.size → w1.frozen? ⟨b, o, none⟩ = W.frozen? ⟨b, o, none⟩) :=
  ⟨fun b o h => hb.cell (p := ⟨b, o, none⟩) h, fun b o h => hb.frozen (p := ⟨b, o, none⟩) h⟩
theorem take_step {α : Type} {l m : List α} {k : Nat} (d : α) (h : l.take k = m.take k) (hl : k < l.length) (hm : k < m.length) (he : l.getD k d = m.getD k d) : l.take (k + 1) = m.take (k + 1) := by
  rw [List.take_succ_eq_append_getElem hl, List.take_succ_eq_append_getElem hm, h]
  simp [List.getD, hl, hm] at he
  rw [he]
/-- no number below 0 -/
def nonneg (l : List Int) : Bool := l.all fun d => decide (0 ≤ d)
theorem nonneg_step {l : List Int} {k : Nat} (h : nonneg (l.take k) = true) (hl : k < l.length) (hd : 0 ≤ l.getD k 0) : nonneg (l.take (k + 1)) = true := by
  rw [List.take_succ_eq_append_getElem hl]
  simp [List.getD, hl] at hd
  unfold nonneg at *
  rw [List.all_append, h]
  simp [hd]
theorem nonneg_not {l : List Int} {k : Nat} (hl : k < l.length) (hd : l.getD k 0 < 0) : nonneg l = false := by
  simp [List.getD, hl] at hd
  simp only [nonneg, List.all_eq_false, decide_eq_true_eq]
  exact ⟨l[k], List.getElem_mem hl, by omega⟩
/-- P5.1: a line is one -/
def goodL (x : Line) : Bool := decide (x.D.length = x.S.length) && decide (x.S.length ≤ 400) && nonneg x.D && decide (0 ≤ x.g) && decide (x.g ≤ x.S.length)
/-- what any call says first -/
def refN (x : Line) : Int := if goodL x = false then 2 else if x.cl = true then 11 else 0
def sayE (x : Line) (due : Int) : Int := if due < 0 then 2 else if refN x ≠ 0 then refN x else if 400 ≤ x.S.length then 6 else 0
def sayL (x : Line) (s : ByteArray) (due : Int) : Line := if sayE x due = 0 then ⟨x.S ++ [s], x.D ++ [due], x.g, x.cl⟩ else x
theorem goodL_len {x : Line} (h : goodL x = true) : x.D.length = x.S.length ∧ x.S.length ≤ 400 ∧ 0 ≤ x.g ∧ x.g ≤ x.S.length := by
  simp [goodL] at h
  omega
theorem refN_good {x : Line} (h : refN x = 0) : goodL x = true ∧ x.cl = false := by
  unfold refN at h
  split at h
  · omega
  split at h
  · omega
  exact ⟨by simpa using ‹¬ goodL x = false›, by simpa using ‹¬ x.cl = true›⟩
end Go.Proofs.YtjghbciepinofaaGreat.Ln

set_option maxRecDepth 100000
namespace Go.Proofs.YtjghbciepinofaaGreat.Ln
open Go.RowKit
theorem goodL_cases (x : Line) :
    (x.D.length ≠ x.S.length ∧ goodL x = false) ∨ (x.D.length = x.S.length ∧ 400 < x.S.length ∧ goodL x = false) ∨
    (x.D.length = x.S.length ∧ x.S.length ≤ 400 ∧ (nonneg x.D = false → goodL x = false) ∧ (nonneg x.D = true → goodL x = (decide (0 ≤ x.g) && decide (x.g ≤ x.S.length)))) := by
  by_cases h1 : x.D.length = x.S.length
  · right
    by_cases h2 : x.S.length ≤ 400
    · right
      exact ⟨h1, h2, fun h3 => by simp [goodL, h3], fun h3 => by simp [goodL, h1, h2, h3]⟩
    · left
      exact ⟨h1, by omega, by simp [goodL, h2]⟩
  · left
    exact ⟨h1, by simp [goodL, h1]⟩
set_option maxHeartbeats 1000000 in
theorem good_any (x : Line) (sa da : Option Addr) (cs cd sb so db dO : Nat) (w : World) (L : LAt w x sa da cs cd sb so db dO) :
    Calls Tryz.prog 81 #[.agg #[.slice sa x.S.length cs, .slice da x.D.length cd, .int .i64 x.g, .bool x.cl]] w fun e w' => e = .returned (.bool (goodL x)) ∧ Below w.heap.size w w' := by
  obtain ⟨S, D, g, cl⟩ := x
  have hcs := goodL_cases ⟨S, D, g, cl⟩
  obtain ⟨hls, hld, hsa, hda, -, -, PS, PD⟩ := L
  have HB0 : Hid (∀ o, Below w.heap.size w (w.alloc o)) := fun o => below_new w o
  have HDA : Hid (0 < D.length → da = some ⟨db, dO, none⟩) := hda
  have HPD : Hid (IntsAt w db dO D) := PD
  clear hsa hda PS PD
  dsimp only at *
  generalize goodL ⟨S, D, g, cl⟩ = G at *
  rcases hcs with ⟨h1, rfl⟩ | ⟨h1, h2, rfl⟩ | ⟨h1, h2, h3, h4⟩
  · have hne : ((D.length : Int) != (S.length : Int)) = true := by simp; omega
    clear h1
    go_enter Tryz.func81, Tryz.ntmps81
    go_wp2
    go_ret
    exact ⟨rfl, HB0.out _⟩
  · have hne : ((D.length : Int) != (S.length : Int)) = false := by simp; omega
    clear h1
    go_enter Tryz.func81, Tryz.ntmps81
    go_wp2
    go_ret
    exact ⟨rfl, HB0.out _⟩
  · have hne : ((D.length : Int) != (S.length : Int)) = false := by simp; omega
    have hd2 : D.length ≤ 400 := by omega
    have HG : Hid ((nonneg D = false → G = false) ∧ (nonneg D = true → G = (decide (0 ≤ g) && decide (g ≤ S.length)))) := ⟨h3, h4⟩
    clear h1 h3 h4
    go_enter Tryz.func81, Tryz.ntmps81
    go_wp2
    go_loop [21] (fun i => ∃ (k : Nat), k ≤ D.length ∧ i = .int .i64 (k : Int) ∧ Hid (nonneg (D.take k) = true)) (fun i => D.length - (intOf i).toNat)
    case atStart => exact ⟨0, Nat.zero_le _, rfl, by simp [Hid, nonneg]⟩
    case round =>
      obtain ⟨k, hk, rfl, HR⟩ := hrel
      by_cases hlt : k < D.length
      · have hcell := (HPD.out.later (HB0.out (.cells #[.slice sa S.length cs, .slice da D.length cd, .int .i64 g, .bool cl] 37))) k hlt
        obtain ⟨y, hy⟩ : ∃ y, D.getD k 0 = y := ⟨_, rfl⟩
        rw [hy] at hcell
        have HY : Hid (D.getD k 0 = y) := hy
        clear hy
        have e := HDA.out (by omega)
        subst e
        by_cases hy0 : y < 0
        · go_wp2
          go_ret
          exact ⟨by rw [HG.out.1 (nonneg_not hlt (by rw [HY.out]; exact hy0))]; rfl, HB0.out _⟩
        · go_wp2
          go_round
          case rel => exact ⟨k + 1, by omega, by go_num, nonneg_step HR.out hlt (by rw [HY.out]; omega)⟩
          case measure => simp [intOf]; omega
      · have hG := HG.out.2 (by have := HR.out; rwa [List.take_of_length_le (by omega)] at this)
        by_cases hg0 : 0 ≤ g
        · by_cases hg1 : g ≤ (S.length : Int)
          · have HF : Hid (G = true) := by show _ = _; rw [hG]; simp [hg0, hg1]
            clear hG
            go_wp2
            go_ret
            exact ⟨by rw [HF.out]; rfl, HB0.out _⟩
          · have HF : Hid (G = false) := by show _ = _; rw [hG]; simp [hg1]
            clear hG
            go_wp2
            go_ret
            exact ⟨by rw [HF.out]; rfl, HB0.out _⟩
        · have HF : Hid (G = false) := by show _ = _; rw [hG]; simp [hg0]
          clear hG
          go_wp2
          go_ret
          exact ⟨by rw [HF.out]; rfl, HB0.out _⟩
set_option maxHeartbeats 1000000 in
theorem ref_any (x : Line) (sa da : Option Addr) (cs cd sb so db dO : Nat) (w : World) (L : LAt w x sa da cs cd sb so db dO) :
    Calls Tryz.prog 116 #[.agg #[.slice sa x.S.length cs, .slice da x.D.length cd, .int .i64 x.g, .bool x.cl]] w fun e w' => e = .returned (.int .i64 (refN x)) ∧ Below w.heap.size w w' := by
  have hg := good_any x sa da cs cd sb so db dO _ (L.later (below_new w (.cells #[.slice sa x.S.length cs, .slice da x.D.length cd, .int .i64 x.g, .bool x.cl] 37)))
  clear L
  obtain ⟨S, D, g, cl⟩ := x
  unfold refN
  dsimp only at *
  generalize goodL ⟨S, D, g, cl⟩ = G at *
  cases G <;> cases cl
  all_goals go_enter Tryz.func116, Tryz.ntmps116
  all_goals go_wp2_with (go_at_call 81; refine hg.mono ?_; rintro e w1 ⟨rfl, hb⟩; obtain ⟨hc, hf⟩ := bcell hb; have HB1 : Hid (Below w.heap.size w w1) := below_step hb; clear hb)
  all_goals go_ret
  all_goals exact ⟨rfl, HB1.out⟩
end Go.Proofs.YtjghbciepinofaaGreat.Ln

