/- Parts of the proof: SPL PVR S Q. -/
import Derived.Test.YtjghbciepinofaaGreatRows
import Derived.WalkKit
import Derived.WalkSmall
import Derived.Below
import Derived.Deep.MidRow
import Derived.Deep.DeepCutAuto
import Derived.OneCell
import Derived.OwnWalk
import Derived.Deep.OwnRows
import Derived.Test.YtjghbciepinofaaGreatProg
import Derived.ChangeKeysEq
set_option maxRecDepth 100000
namespace Go.Proofs.YtjghbciepinofaaGreat
open Go.RowKit
/-- cells with others in their place, from a place on -/
def spl (cs : Array Value) : Nat → List Value → Array Value
  | _, [] => cs
  | o, v :: r => spl (cs.setIfInBounds o v) (o + 1) r
theorem spl_get : ∀ (vs : List Value) (cs : Array Value) (o i : Nat), o + vs.length ≤ cs.size → (spl cs o vs)[i]? = if o ≤ i ∧ i < o + vs.length then vs[i - o]? else cs[i]?
  | [], cs, o, i, _ => by simp [spl]; intro h1 h2; omega
  | v :: r, cs, o, i, h => by
    simp only [List.length_cons] at h
    rw [spl, spl_get r _ (o + 1) i (by simp; omega)]
    by_cases e : i = o
    · subst e
      have : i < cs.size := by omega
      simp [this]
      intro h1
      omega
    · by_cases h1 : o + 1 ≤ i ∧ i < o + 1 + r.length
      · rw [if_pos h1, if_pos ⟨by omega, by simp; omega⟩]
        obtain ⟨j, rfl⟩ : ∃ j, i = o + 1 + j := ⟨i - (o + 1), by omega⟩
        rw [show o + 1 + j - (o + 1) = j by omega, show o + 1 + j - o = j + 1 by omega]
        simp
      · rw [if_neg h1, if_neg (by simp; omega), Array.getElem?_setIfInBounds_ne (by omega)]
theorem spl_all {cs ds : Array Value} (h : ds.size = cs.size) : spl cs 0 ds.toList = ds := by
  apply Array.ext_getElem?
  intro i
  rw [spl_get _ _ _ _ (by simp; omega)]
  by_cases hi : i < ds.size
  · rw [if_pos ⟨by omega, by simp; omega⟩]; simp
  · rw [if_neg (by simp; omega), Array.getElem?_eq_none (by omega), Array.getElem?_eq_none (by omega)]
theorem below_sets {B b : Nat} {a : World} (hB : B ≤ b) : ∀ (vs : List Value) (o : Nat) (w : World), Below B a w → Below B a (w.setCells b o vs)
  | [], _, _, h => h
  | v :: r, o, _, h => below_sets hB r (o + 1) _ (h.setCell hB v)
theorem heap_sets {b k : Nat} (hk : k ≠ b) : ∀ (vs : List Value) (o : Nat) (w : World), (w.setCells b o vs).heap[k]? = w.heap[k]?
  | [], _, _ => rfl
  | _ :: r, o, _ => (heap_sets hk r (o + 1) _).trans (Below.heap_setCell _ _ _ _ hk)
end Go.Proofs.YtjghbciepinofaaGreat

set_option maxRecDepth 100000
namespace Go.Proofs.YtjghbciepinofaaGreat.Pv
open Go.RowKit
theorem hide {p : Prop} (h : p) : Hid p := h
/-- a block holds these cells -/
def CAt (ty : TypeId) (w : World) (b : Nat) (cs : Array Value) : Prop := w.heap[b]? = some (.cells cs ty)
section
variable {ty : TypeId} {w w' : World} {b B : Nat} {cs : Array Value}
theorem CAt.new (ty : TypeId) (w : World) (cs : Array Value) : CAt ty (w.alloc (.cells cs ty)) w.heap.size cs := heap_alloc_new _ _
theorem CAt.new2 (ty : TypeId) (w : World) (o : Obj) (cs : Array Value) : CAt ty ((w.alloc o).alloc (.cells cs ty)) (w.heap.size + 1) cs := by
  have h := CAt.new ty (w.alloc o) cs
  rwa [show (w.alloc o).heap.size = w.heap.size + 1 by simp] at h
theorem CAt.later (h : CAt ty w b cs) (hb : Below B w w') (hB : b < B) : CAt ty w' b cs := (hb.block b hB).trans h
theorem CAt.lt (h : CAt ty w b cs) : b < w.heap.size := (Array.getElem?_eq_some_iff.1 h).1
theorem CAt.over (h : CAt ty w b cs) (hb : Below w.heap.size w w') : CAt ty w' b cs := h.later hb h.lt
theorem CAt.alloc (h : CAt ty w b cs) (o : Obj) : CAt ty (w.alloc o) b cs := (Below.heap_alloc _ _ _ h.lt).trans h
theorem CAt.keep (h : CAt ty w b cs) (hk : w'.heap[b]? = w.heap[b]?) : CAt ty w' b cs := hk.trans h
theorem CAt.other {c o : Nat} (h : CAt ty w b cs) (hb : b ≠ c) (v : Value) : CAt ty (w.setCell ⟨c, o, none⟩ v) b cs := (Below.heap_setCell _ _ _ _ hb).trans h
theorem CAt.others {c o : Nat} (h : CAt ty w b cs) (hb : b ≠ c) (vs : List Value) : CAt ty (w.setCells c o vs) b cs := (heap_sets hb _ _ _).trans h
theorem CAt.cell (h : CAt ty w b cs) (o : Nat) : w.cell? ⟨b, o, none⟩ = cs[o]? := by
  unfold CAt at h
  simp [World.cell?, h]
theorem CAt.free (h : CAt ty w b cs) (o : Nat) : w.frozen? ⟨b, o, none⟩ = false := by
  unfold CAt at h
  simp [World.frozen?, h]
theorem CAt.set (h : CAt ty w b cs) (o : Nat) (v : Value) : CAt ty (w.setCell ⟨b, o, none⟩ v) b (cs.setIfInBounds o v) := by
  unfold CAt at *
  simp [World.setCell, Array.getElem?_modify, h]
theorem CAt.range (h : CAt ty w b cs) : w.rangeAt b 0 cs.toList := by
  intro j v hv
  rw [Nat.zero_add, h.cell]
  simpa using hv
/-- a part of a block -/
theorem CAt.part (h : CAt ty w b cs) {o : Nat} {ds : List Value} (hd : ∀ j v, ds[j]? = some v → cs[o + j]? = some v) : w.rangeAt b o ds := by
  intro j v hv
  rw [h.cell]
  exact hd j v hv
theorem CAt.there (h : CAt ty w b cs) (o n : Nat) (hn : o + n ≤ cs.size) : w.there b o n := by
  intro j hj
  rw [h.cell, h.free]
  have : o + j < cs.size := by omega
  simp [this]
theorem CAt.sets : ∀ (vs : List Value) (o : Nat) (w : World) (cs : Array Value), CAt ty w b cs → CAt ty (w.setCells b o vs) b (spl cs o vs)
  | [], _, _, _, h => h
  | v :: r, o, _, _, h => CAt.sets r (o + 1) _ _ (h.set o v)
theorem CAt.setAll {ds : Array Value} (h : CAt ty w b cs) (hd : ds.size = cs.size) : CAt ty (w.setCells b 0 ds.toList) b ds := by
  have := CAt.sets ds.toList 0 w cs h
  rwa [spl_all hd] at this
end
/-- a value is a slice of these cells (sz a piece, by bytes a piece), in a block of which P holds -/
def Rep (P : Nat → Prop) (w : World) (v : Value) (sz bts : Nat) (cs : List Value) : Prop :=
  ∃ (A : Option Addr) (n C : Nat), v = .slice A n C ∧ cs.length = n * sz ∧ n * bts ≤ 140737488351232 ∧ ((A = none → C = 0) ∧ n ≤ C) ∧
    (0 < n → ∃ b off, A = some ⟨b, off, none⟩ ∧ P b ∧ b < w.heap.size ∧ ∀ j u, cs[j]? = some u → w.cell? ⟨b, off + j, none⟩ = some u)
section
variable {P P' : Nat → Prop} {w w' : World} {v : Value} {sz bts : Nat} {cs : List Value}
theorem Rep.nil (P : Nat → Prop) (w : World) (sz bts : Nat) : Rep P w (.slice none 0 0) sz bts [] := ⟨none, 0, 0, rfl, by simp, by simp, ⟨fun _ => rfl, Nat.le_refl _⟩, fun h => absurd h (by omega)⟩
theorem Rep.mono (h : Rep P w v sz bts cs) (hp : ∀ b, b < w.heap.size → P b → P' b) : Rep P' w v sz bts cs := by
  obtain ⟨A, n, C, h1, h2, h3, h4, h5⟩ := h
  refine ⟨A, n, C, h1, h2, h3, h4, fun h0 => ?_⟩
  obtain ⟨b, off, a1, a2, a3, a4⟩ := h5 h0
  exact ⟨b, off, a1, hp b a3 a2, a3, a4⟩
theorem Rep.keep (h : Rep P w v sz bts cs) (hk : ∀ b, P b → b < w.heap.size → w'.heap[b]? = w.heap[b]?) : Rep P w' v sz bts cs := by
  obtain ⟨A, n, C, h1, h2, h3, h4, h5⟩ := h
  refine ⟨A, n, C, h1, h2, h3, h4, fun h0 => ?_⟩
  obtain ⟨b, off, a1, a2, a3, a4⟩ := h5 h0
  have hlt : b < w'.heap.size := by
    have e := hk b a2 a3
    rw [Array.getElem?_eq_getElem a3] at e
    exact (Array.getElem?_eq_some_iff.1 e).1
  refine ⟨b, off, a1, a2, hlt, fun j u hu => ?_⟩
  rw [← a4 j u hu]
  exact World.cell?_of_block (w := w) (a := ⟨b, off + j, none⟩) (hk b a2 a3)
theorem Rep.over (h : Rep P w v sz bts cs) (hb : Below w.heap.size w w') : Rep P w' v sz bts cs := h.keep fun b _ hlt => hb.block b hlt
theorem Rep.len (h : Rep P w v sz bts cs) : ∃ A C, v = .slice A (cs.length / sz) C ∨ sz = 0 := by
  obtain ⟨A, n, C, h1, h2, _⟩ := h
  rcases Nat.eq_zero_or_pos sz with hz | hz
  · exact ⟨A, C, .inr hz⟩
  · exact ⟨A, C, .inl (by rw [h1, h2, Nat.mul_div_cancel _ hz])⟩
/-- what an append of it wants -/
theorem Rep.open (h : Rep P w v sz bts cs) {n : Nat} (hn : cs.length = n * sz) (hz : 0 < sz) : ∃ (A : Option Addr) (C : Nat), v = .slice A n C ∧ n * bts ≤ 140737488351232 ∧ (A = none → n = 0 ∧ C = 0) ∧ (0 < n → ∃ b off, A = some ⟨b, off, none⟩ ∧ P b ∧ b < w.heap.size ∧ ∀ j u, cs[j]? = some u → w.cell? ⟨b, off + j, none⟩ = some u) ∧ (∀ ad, A = some ad → ∀ j u, cs[j]? = some u → w.cell? (ad.add j) = some u) := by
  obtain ⟨A, m, C, h1, h2, h3, h4, h5⟩ := h
  have e : m = n := Nat.eq_of_mul_eq_mul_right hz (h2.symm.trans hn)
  subst e
  refine ⟨A, C, h1, h3, fun e => ⟨?_, h4.1 e⟩, h5, fun ad e j u hu => ?_⟩
  · rcases Nat.eq_zero_or_pos m with h0 | h0
    · exact h0
    · obtain ⟨b, off, a1, _⟩ := h5 h0
      rw [a1] at e; cases e
  · rcases Nat.eq_zero_or_pos m with h0 | h0
    · subst h0
      have := (List.getElem?_eq_some_iff.1 hu).1
      omega
    · obtain ⟨b, off, a1, _, _, a4⟩ := h5 h0
      rw [a1] at e
      cases e
      rw [Addr.add_lit]
      exact a4 j u hu
theorem Rep.room (h : Rep P w v sz bts cs) {A : Option Addr} {n C : Nat} (hv : v = .slice A n C) : n ≤ C ∧ (A = none → C = 0) := by
  obtain ⟨A', n', C', h1, _, _, h4, _⟩ := h
  rw [hv] at h1
  cases h1
  exact ⟨h4.2, h4.1⟩
/-- a row of the call's own -/
theorem Rep.own {base n : Nat} {e : TypeId} (h : w.ownsRow base e sz v n cs) (hb : n * bts ≤ 140737488351232) : Rep (fun b => base ≤ b) w v sz bts cs := by
  rcases h.2 with ⟨hv, hn⟩ | ⟨g, cap, cur, hv, h1, h2, h3, _⟩
  · exact ⟨none, 0, 0, hv, by rw [h.1, hn], by omega, ⟨fun _ => rfl, Nat.le_refl _⟩, fun h => absurd h (by omega)⟩
  · subst hv
    refine ⟨_, n, cap, rfl, h.1, hb, ⟨fun h => (by cases h), h3⟩, fun _ => ⟨g, 0, rfl, h1, (Array.getElem?_eq_some_iff.1 h2).1, fun j u hu => ?_⟩⟩
    have := World.ownsRow.cells h (g := g) rfl j u hu
    rwa [Addr.add_lit] at this
end
/-- cells of lists -/
def pwC (l : List (Int × Int)) : List Value := l.flatMap fun x => [.int .i64 x.1, .int .i64 x.2]
def inC (l : List Int) : List Value := l.map (.int .i64)
def txC (l : List ByteArray) : List Value := l.map .string
theorem pwC_length : ∀ l : List (Int × Int), (pwC l).length = l.length * 2
  | [] => rfl
  | x :: l => by show (_ ++ pwC l).length = _; rw [List.length_append, pwC_length l, List.length_cons]; simp; omega
theorem inC_length (l : List Int) : (inC l).length = l.length * 1 := by simp [inC]
theorem txC_length (l : List ByteArray) : (txC l).length = l.length * 1 := by simp [txC]
theorem pwC_get : ∀ (l : List (Int × Int)) (i : Nat), i < l.length → (pwC l)[i * 2]? = some (.int .i64 (l.getD i (0, 0)).1) ∧ (pwC l)[i * 2 + 1]? = some (.int .i64 (l.getD i (0, 0)).2)
  | [], i, h => absurd h (by simp)
  | x :: l, 0, _ => ⟨rfl, rfl⟩
  | x :: l, i + 1, h => by
    have := pwC_get l i (by simpa using h)
    rw [show (i + 1) * 2 = i * 2 + 2 by omega]
    exact this
theorem inC_get (l : List Int) (i : Nat) (h : i < l.length) : (inC l)[i]? = some (.int .i64 (l.getD i 0)) := by simp [inC, List.getD, h]
theorem txC_get (l : List ByteArray) (i : Nat) (h : i < l.length) : (txC l)[i]? = some (.string (l.getD i ByteArray.empty)) := by simp [txC, List.getD, h]
theorem one_pws (l : List (Int × Int)) : ∀ u ∈ pwC l, u.oneCell' = true := fun u hu => by
  simp only [pwC, List.mem_flatMap, List.mem_cons, List.not_mem_nil, or_false] at hu
  obtain ⟨x, _, rfl | rfl⟩ := hu <;> rfl
/-- a packet -/
structure Pkt where
  k : Int
  i : Int
  v : Int
  n : Int
  S : List (Int × Int)
  D : List Int
/-- a piece of a code -/
def subC : List Nat → Code → Code
  | [], c => c
  | 0 :: p, .seq a _ => subC p a
  | 1 :: p, .seq _ b => subC p b
  | _ :: p, .block _ c => subC p c
  | _ :: p, .loop c => subC p c
  | 1 :: p, .cond _ a _ => subC p a
  | 2 :: p, .cond _ _ b => subC p b
  | _, _ => .skip
end Go.Proofs.YtjghbciepinofaaGreat.Pv

set_option maxRecDepth 100000
namespace Go.Proofs.YtjghbciepinofaaGreat
open Go.RowKit
/-- a bank's numbers lie in a block -/
def BAt (w : World) (b : Nat) (f0 f1 f2 f3 bo wa bu : Int) : Prop := w.heap[b]? = some (.cells #[.int .i64 f0, .int .i64 f1, .int .i64 f2, .int .i64 f3, .int .i64 bo, .int .i64 wa, .int .i64 bu] 24)
section
variable {w w' : World} {b B : Nat} {f0 f1 f2 f3 bo wa bu : Int}
theorem BAt.later (h : BAt w b f0 f1 f2 f3 bo wa bu) (hb : Below B w w') (hB : b < B) : BAt w' b f0 f1 f2 f3 bo wa bu := (hb.block b hB).trans h
theorem BAt.new (w : World) (f0 f1 f2 f3 bo wa bu : Int) : BAt (w.alloc (.cells #[.int .i64 f0, .int .i64 f1, .int .i64 f2, .int .i64 f3, .int .i64 bo, .int .i64 wa, .int .i64 bu] 24)) w.heap.size f0 f1 f2 f3 bo wa bu := heap_alloc_new _ _
theorem BAt.other {c o : Nat} (h : BAt w b f0 f1 f2 f3 bo wa bu) (hb : b ≠ c) (v : Value) : BAt (w.setCell ⟨c, o, none⟩ v) b f0 f1 f2 f3 bo wa bu := (Below.heap_setCell _ _ _ _ hb).trans h
theorem BAt.alloc (h : BAt w b f0 f1 f2 f3 bo wa bu) (o : Obj) : BAt (w.alloc o) b f0 f1 f2 f3 bo wa bu := (Below.heap_alloc _ _ _ (Array.getElem?_eq_some_iff.1 h).1).trans h
theorem BAt.lt (h : BAt w b f0 f1 f2 f3 bo wa bu) : b < w.heap.size := (Array.getElem?_eq_some_iff.1 h).1
theorem BAt.cells (h : BAt w b f0 f1 f2 f3 bo wa bu) : w.cell? ⟨b, 0, none⟩ = some (.int .i64 f0) ∧ w.cell? ⟨b, 1, none⟩ = some (.int .i64 f1) ∧ w.cell? ⟨b, 2, none⟩ = some (.int .i64 f2) ∧ w.cell? ⟨b, 3, none⟩ = some (.int .i64 f3) ∧ w.cell? ⟨b, 4, none⟩ = some (.int .i64 bo) ∧ w.cell? ⟨b, 5, none⟩ = some (.int .i64 wa) ∧ w.cell? ⟨b, 6, none⟩ = some (.int .i64 bu) := by
  unfold BAt at h
  simp [World.cell?, h]
theorem BAt.frees (h : BAt w b f0 f1 f2 f3 bo wa bu) : w.frozen? ⟨b, 0, none⟩ = false ∧ w.frozen? ⟨b, 1, none⟩ = false ∧ w.frozen? ⟨b, 2, none⟩ = false ∧ w.frozen? ⟨b, 3, none⟩ = false ∧ w.frozen? ⟨b, 4, none⟩ = false ∧ w.frozen? ⟨b, 5, none⟩ = false ∧ w.frozen? ⟨b, 6, none⟩ = false := by
  unfold BAt at h
  simp [World.frozen?, h]
theorem BAt.set_0 (h : BAt w b f0 f1 f2 f3 bo wa bu) (v : Int) : BAt (w.setCell ⟨b, 0, none⟩ (.int .i64 v)) b v f1 f2 f3 bo wa bu := by
  unfold BAt at *
  simp [World.setCell, Array.getElem?_modify, h]
theorem BAt.set_1 (h : BAt w b f0 f1 f2 f3 bo wa bu) (v : Int) : BAt (w.setCell ⟨b, 1, none⟩ (.int .i64 v)) b f0 v f2 f3 bo wa bu := by
  unfold BAt at *
  simp [World.setCell, Array.getElem?_modify, h]
theorem BAt.set_2 (h : BAt w b f0 f1 f2 f3 bo wa bu) (v : Int) : BAt (w.setCell ⟨b, 2, none⟩ (.int .i64 v)) b f0 f1 v f3 bo wa bu := by
  unfold BAt at *
  simp [World.setCell, Array.getElem?_modify, h]
theorem BAt.set_3 (h : BAt w b f0 f1 f2 f3 bo wa bu) (v : Int) : BAt (w.setCell ⟨b, 3, none⟩ (.int .i64 v)) b f0 f1 f2 v bo wa bu := by
  unfold BAt at *
  simp [World.setCell, Array.getElem?_modify, h]
theorem BAt.set_4 (h : BAt w b f0 f1 f2 f3 bo wa bu) (v : Int) : BAt (w.setCell ⟨b, 4, none⟩ (.int .i64 v)) b f0 f1 f2 f3 v wa bu := by
  unfold BAt at *
  simp [World.setCell, Array.getElem?_modify, h]
theorem BAt.set_5 (h : BAt w b f0 f1 f2 f3 bo wa bu) (v : Int) : BAt (w.setCell ⟨b, 5, none⟩ (.int .i64 v)) b f0 f1 f2 f3 bo v bu := by
  unfold BAt at *
  simp [World.setCell, Array.getElem?_modify, h]
theorem BAt.set_6 (h : BAt w b f0 f1 f2 f3 bo wa bu) (v : Int) : BAt (w.setCell ⟨b, 6, none⟩ (.int .i64 v)) b f0 f1 f2 f3 bo wa v := by
  unfold BAt at *
  simp [World.setCell, Array.getElem?_modify, h]
/-- the seven numbers are written -/
def set7 (w : World) (b : Nat) (v0 v1 v2 v3 v4 v5 v6 : Int) : World := ((((((w.setCell ⟨b, 0, none⟩ (.int .i64 v0)).setCell ⟨b, 1, none⟩ (.int .i64 v1)).setCell ⟨b, 2, none⟩ (.int .i64 v2)).setCell ⟨b, 3, none⟩ (.int .i64 v3)).setCell ⟨b, 4, none⟩ (.int .i64 v4)).setCell ⟨b, 5, none⟩ (.int .i64 v5)).setCell ⟨b, 6, none⟩ (.int .i64 v6)
theorem BAt.set7 (h : BAt w b f0 f1 f2 f3 bo wa bu) (v0 v1 v2 v3 v4 v5 v6 : Int) : BAt (set7 w b v0 v1 v2 v3 v4 v5 v6) b v0 v1 v2 v3 v4 v5 v6 :=
  ((((((h.set_0 v0).set_1 v1).set_2 v2).set_3 v3).set_4 v4).set_5 v5).set_6 v6
theorem set7_below (h : Below B w w') (hB : B ≤ b) (v0 v1 v2 v3 v4 v5 v6 : Int) : Below B w (Go.Proofs.YtjghbciepinofaaGreat.set7 w' b v0 v1 v2 v3 v4 v5 v6) :=
  ((((((h.setCell hB _).setCell hB _).setCell hB _).setCell hB _).setCell hB _).setCell hB _).setCell hB _
end
end Go.Proofs.YtjghbciepinofaaGreat

set_option maxRecDepth 100000
namespace Go.Proofs.YtjghbciepinofaaGreat
open Go.RowKit
theorem eqA (w : World) (a0 a1 a2 a3 b0 b1 b2 b3 : Int) : (Op.equalIn 9999 22 (.agg #[.int .i64 a0, .int .i64 a1, .int .i64 a2, .int .i64 a3]) (.agg #[.int .i64 b0, .int .i64 b1, .int .i64 b2, .int .i64 b3])).run Tryz.prog w = .ok (decide (a0 = b0 ∧ a1 = b1 ∧ a2 = b2 ∧ a3 = b3)) w := by
  have hi : (Tryz.prog.info? 3).isSome = true := by kernel_rfl
  obtain ⟨i, hi⟩ := Option.isSome_iff_exists.1 hi
  have hc : Tryz.prog.cellsOf 3 = 1 := by kernel_rfl
  rw [run_equalIn_array w 9998 _ _ Tryz.underlying22 hi, hc, show List.range 4 = [0, 1, 2, 3] from rfl]
  simp only [Op.eqItems]
  go_simp
  by_cases h0 : a0 = b0 <;> by_cases h1 : a1 = b1 <;> by_cases h2 : a2 = b2 <;> by_cases h3 : a3 = b3 <;> simp [h0, h1, h2, h3]
theorem eqB (w : World) (a0 a1 a2 a3 a4 a5 a6 b0 b1 b2 b3 b4 b5 b6 : Int) : (binOp .eql 24 (.agg #[.int .i64 a0, .int .i64 a1, .int .i64 a2, .int .i64 a3, .int .i64 a4, .int .i64 a5, .int .i64 a6]) (.agg #[.int .i64 b0, .int .i64 b1, .int .i64 b2, .int .i64 b3, .int .i64 b4, .int .i64 b5, .int .i64 b6])).run Tryz.prog w = .ok (.bool (decide (a0 = b0 ∧ a1 = b1 ∧ a2 = b2 ∧ a3 = b3 ∧ a4 = b4 ∧ a5 = b5 ∧ a6 = b6))) w := by
  have h := fun w => eqA w a0 a1 a2 a3 b0 b1 b2 b3
  rw [run_eql_struct]
  by_cases hh : a0 = b0 ∧ a1 = b1 ∧ a2 = b2 ∧ a3 = b3
  · rw [decide_eq_true hh] at h
    obtain ⟨h0, h1, h2, h3⟩ := hh
    go_simp
    subst h0 h1 h2 h3
    by_cases h4 : a4 = b4 <;> by_cases h5 : a5 = b5 <;> by_cases h6 : a6 = b6 <;> simp [h4, h5, h6, h]
  · rw [decide_eq_false hh] at h
    have e : decide (a0 = b0 ∧ a1 = b1 ∧ a2 = b2 ∧ a3 = b3 ∧ a4 = b4 ∧ a5 = b5 ∧ a6 = b6) = false := decide_eq_false (fun g => hh ⟨g.1, g.2.1, g.2.2.1, g.2.2.2.1⟩)
    rw [e]
    go_simp
theorem neB (w : World) (a0 a1 a2 a3 a4 a5 a6 b0 b1 b2 b3 b4 b5 b6 : Int) : (binOp .neq 24 (.agg #[.int .i64 a0, .int .i64 a1, .int .i64 a2, .int .i64 a3, .int .i64 a4, .int .i64 a5, .int .i64 a6]) (.agg #[.int .i64 b0, .int .i64 b1, .int .i64 b2, .int .i64 b3, .int .i64 b4, .int .i64 b5, .int .i64 b6])).run Tryz.prog w = .ok (.bool (!decide (a0 = b0 ∧ a1 = b1 ∧ a2 = b2 ∧ a3 = b3 ∧ a4 = b4 ∧ a5 = b5 ∧ a6 = b6))) w := by
  have h := eqB w a0 a1 a2 a3 a4 a5 a6 b0 b1 b2 b3 b4 b5 b6
  rw [run_eql_struct] at h
  rw [run_neq_struct]
  revert h
  generalize (Op.equalIn 10000 24 _ _).run Tryz.prog w = r
  intro h
  cases r with
  | ok a w1 => 
    simp only [Result.andThen_ok] at h ⊢
    cases h
    rfl
  | _ => cases h
end Go.Proofs.YtjghbciepinofaaGreat

