/- Parts of the proof: SPL PVR. -/
import Derived.Test.YtdkalcnlncjgiaaRows
import Derived.WalkKit
import Derived.WalkSmall
import Derived.Below
import Derived.Deep.MidRow
import Derived.Deep.DeepCutAuto
import Derived.OneCell
import Derived.OwnWalk
import Derived.Deep.OwnRows
set_option maxRecDepth 100000
namespace Go.Proofs.Ytdkalcnlncjgiaa
open Go.RowKit
/-- cells with others in their place, from a place on -/
def spl (cs : Array Value) : Nat → List Value → Array Value
  | _, [] => cs
  | o, v :: r => spl (cs.setIfInBounds o v) (o + 1) r
theorem spl_get : ∀ (vs : List Value) (cs : Array Value) (o i : Nat), o + vs.length ≤ cs.size → (spl cs o vs)[i]? = if o ≤ i ∧ i < o + vs.length then vs[i - o]? else cs[i]?
  | [], cs, o, i, _ => by simp [spl]; intro h1 h2; omega
  | v :: r, cs, o, i, h => by
    simp only [List.length_cons] at h
    rw [spl, spl_get r _ (o + 1) i (by simp; omega)]
    by_cases e : i = o
    · subst e
      have : i < cs.size := by omega
      simp [this]
      intro h1
      omega
    · by_cases h1 : o + 1 ≤ i ∧ i < o + 1 + r.length
      · rw [if_pos h1, if_pos ⟨by omega, by simp; omega⟩]
        obtain ⟨j, rfl⟩ : ∃ j, i = o + 1 + j := ⟨i - (o + 1), by omega⟩
        rw [show o + 1 + j - (o + 1) = j by omega, show o + 1 + j - o = j + 1 by omega]
        simp
      · rw [if_neg h1, if_neg (by simp; omega), Array.getElem?_setIfInBounds_ne (by omega)]
theorem spl_all {cs ds : Array Value} (h : ds.size = cs.size) : spl cs 0 ds.toList = ds := by
  apply Array.ext_getElem?
  intro i
  rw [spl_get _ _ _ _ (by simp; omega)]
  by_cases hi : i < ds.size
  · rw [if_pos ⟨by omega, by simp; omega⟩]; simp
  · rw [if_neg (by simp; omega), Array.getElem?_eq_none (by omega), Array.getElem?_eq_none (by omega)]
theorem below_sets {B b : Nat} {a : World} (hB : B ≤ b) : ∀ (vs : List Value) (o : Nat) (w : World), Below B a w → Below B a (w.setCells b o vs)
  | [], _, _, h => h
  | v :: r, o, _, h => below_sets hB r (o + 1) _ (h.setCell hB v)
theorem heap_sets {b k : Nat} (hk : k ≠ b) : ∀ (vs : List Value) (o : Nat) (w : World), (w.setCells b o vs).heap[k]? = w.heap[k]?
  | [], _, _ => rfl
  | _ :: r, o, _ => (heap_sets hk r (o + 1) _).trans (Below.heap_setCell _ _ _ _ hk)
end Go.Proofs.Ytdkalcnlncjgiaa

set_option maxRecDepth 100000
namespace Go.Proofs.Ytdkalcnlncjgiaa.Pv
open Go.RowKit
theorem hide {p : Prop} (h : p) : Hid p := h
/-- a block holds these cells -/
def CAt (ty : TypeId) (w : World) (b : Nat) (cs : Array Value) : Prop := w.heap[b]? = some (.cells cs ty)
section
variable {ty : TypeId} {w w' : World} {b B : Nat} {cs : Array Value}
theorem CAt.new (ty : TypeId) (w : World) (cs : Array Value) : CAt ty (w.alloc (.cells cs ty)) w.heap.size cs := heap_alloc_new _ _
theorem CAt.new2 (ty : TypeId) (w : World) (o : Obj) (cs : Array Value) : CAt ty ((w.alloc o).alloc (.cells cs ty)) (w.heap.size + 1) cs := by
  have h := CAt.new ty (w.alloc o) cs
  rwa [show (w.alloc o).heap.size = w.heap.size + 1 by simp] at h
theorem CAt.later (h : CAt ty w b cs) (hb : Below B w w') (hB : b < B) : CAt ty w' b cs := (hb.block b hB).trans h
theorem CAt.lt (h : CAt ty w b cs) : b < w.heap.size := (Array.getElem?_eq_some_iff.1 h).1
theorem CAt.over (h : CAt ty w b cs) (hb : Below w.heap.size w w') : CAt ty w' b cs := h.later hb h.lt
theorem CAt.alloc (h : CAt ty w b cs) (o : Obj) : CAt ty (w.alloc o) b cs := (Below.heap_alloc _ _ _ h.lt).trans h
theorem CAt.keep (h : CAt ty w b cs) (hk : w'.heap[b]? = w.heap[b]?) : CAt ty w' b cs := hk.trans h
theorem CAt.other {c o : Nat} (h : CAt ty w b cs) (hb : b ≠ c) (v : Value) : CAt ty (w.setCell ⟨c, o, none⟩ v) b cs := (Below.heap_setCell _ _ _ _ hb).trans h
theorem CAt.others {c o : Nat} (h : CAt ty w b cs) (hb : b ≠ c) (vs : List Value) : CAt ty (w.setCells c o vs) b cs := (heap_sets hb _ _ _).trans h
theorem CAt.cell (h : CAt ty w b cs) (o : Nat) : w.cell? ⟨b, o, none⟩ = cs[o]? := by
  unfold CAt at h
  simp [World.cell?, h]
theorem CAt.free (h : CAt ty w b cs) (o : Nat) : w.frozen? ⟨b, o, none⟩ = false := by
  unfold CAt at h
  simp [World.frozen?, h]
theorem CAt.set (h : CAt ty w b cs) (o : Nat) (v : Value) : CAt ty (w.setCell ⟨b, o, none⟩ v) b (cs.setIfInBounds o v) := by
  unfold CAt at *
  simp [World.setCell, Array.getElem?_modify, h]
theorem CAt.range (h : CAt ty w b cs) : w.rangeAt b 0 cs.toList := by
  intro j v hv
  rw [Nat.zero_add, h.cell]
  simpa using hv
theorem CAt.there (h : CAt ty w b cs) (o n : Nat) (hn : o + n ≤ cs.size) : w.there b o n := by
  intro j hj
  rw [h.cell, h.free]
  have : o + j < cs.size := by omega
  simp [this]
theorem CAt.sets : ∀ (vs : List Value) (o : Nat) (w : World) (cs : Array Value), CAt ty w b cs → CAt ty (w.setCells b o vs) b (spl cs o vs)
  | [], _, _, _, h => h
  | v :: r, o, _, _, h => CAt.sets r (o + 1) _ _ (h.set o v)
theorem CAt.setAll {ds : Array Value} (h : CAt ty w b cs) (hd : ds.size = cs.size) : CAt ty (w.setCells b 0 ds.toList) b ds := by
  have := CAt.sets ds.toList 0 w cs h
  rwa [spl_all hd] at this
end
/-- a value is a slice of these cells (sz a piece, by bytes a piece), in a block of which P holds -/
def Rep (P : Nat → Prop) (w : World) (v : Value) (sz bts : Nat) (cs : List Value) : Prop :=
  ∃ (A : Option Addr) (n C : Nat), v = .slice A n C ∧ cs.length = n * sz ∧ n * bts ≤ 140737488351232 ∧ ((A = none → C = 0) ∧ n ≤ C) ∧
    (0 < n → ∃ b off, A = some ⟨b, off, none⟩ ∧ P b ∧ b < w.heap.size ∧ ∀ j u, cs[j]? = some u → w.cell? ⟨b, off + j, none⟩ = some u)
section
variable {P P' : Nat → Prop} {w w' : World} {v : Value} {sz bts : Nat} {cs : List Value}
theorem Rep.nil (P : Nat → Prop) (w : World) (sz bts : Nat) : Rep P w (.slice none 0 0) sz bts [] := ⟨none, 0, 0, rfl, by simp, by simp, ⟨fun _ => rfl, Nat.le_refl _⟩, fun h => absurd h (by omega)⟩
theorem Rep.mono (h : Rep P w v sz bts cs) (hp : ∀ b, b < w.heap.size → P b → P' b) : Rep P' w v sz bts cs := by
  obtain ⟨A, n, C, h1, h2, h3, h4, h5⟩ := h
  refine ⟨A, n, C, h1, h2, h3, h4, fun h0 => ?_⟩
  obtain ⟨b, off, a1, a2, a3, a4⟩ := h5 h0
  exact ⟨b, off, a1, hp b a3 a2, a3, a4⟩
theorem Rep.keep (h : Rep P w v sz bts cs) (hk : ∀ b, P b → b < w.heap.size → w'.heap[b]? = w.heap[b]?) : Rep P w' v sz bts cs := by
  obtain ⟨A, n, C, h1, h2, h3, h4, h5⟩ := h
  refine ⟨A, n, C, h1, h2, h3, h4, fun h0 => ?_⟩
  obtain ⟨b, off, a1, a2, a3, a4⟩ := h5 h0
  have hlt : b < w'.heap.size := by
    have e := hk b a2 a3
    rw [Array.getElem?_eq_getElem a3] at e
    exact (Array.getElem?_eq_some_iff.1 e).1
  refine ⟨b, off, a1, a2, hlt, fun j u hu => ?_⟩
  rw [← a4 j u hu]
  exact World.cell?_of_block (w := w) (a := ⟨b, off + j, none⟩) (hk b a2 a3)
theorem Rep.over (h : Rep P w v sz bts cs) (hb : Below w.heap.size w w') : Rep P w' v sz bts cs := h.keep fun b _ hlt => hb.block b hlt
theorem Rep.len (h : Rep P w v sz bts cs) : ∃ A C, v = .slice A (cs.length / sz) C ∨ sz = 0 := by
  obtain ⟨A, n, C, h1, h2, _⟩ := h
  rcases Nat.eq_zero_or_pos sz with hz | hz
  · exact ⟨A, C, .inr hz⟩
  · exact ⟨A, C, .inl (by rw [h1, h2, Nat.mul_div_cancel _ hz])⟩
/-- what an append of it wants -/
theorem Rep.open (h : Rep P w v sz bts cs) {n : Nat} (hn : cs.length = n * sz) (hz : 0 < sz) : ∃ (A : Option Addr) (C : Nat), v = .slice A n C ∧ n * bts ≤ 140737488351232 ∧ (A = none → n = 0 ∧ C = 0) ∧ (0 < n → ∃ b off, A = some ⟨b, off, none⟩ ∧ P b ∧ b < w.heap.size ∧ ∀ j u, cs[j]? = some u → w.cell? ⟨b, off + j, none⟩ = some u) ∧ (∀ ad, A = some ad → ∀ j u, cs[j]? = some u → w.cell? (ad.add j) = some u) := by
  obtain ⟨A, m, C, h1, h2, h3, h4, h5⟩ := h
  have e : m = n := Nat.eq_of_mul_eq_mul_right hz (h2.symm.trans hn)
  subst e
  refine ⟨A, C, h1, h3, fun e => ⟨?_, h4.1 e⟩, h5, fun ad e j u hu => ?_⟩
  · rcases Nat.eq_zero_or_pos m with h0 | h0
    · exact h0
    · obtain ⟨b, off, a1, _⟩ := h5 h0
      rw [a1] at e; cases e
  · rcases Nat.eq_zero_or_pos m with h0 | h0
    · subst h0
      have := (List.getElem?_eq_some_iff.1 hu).1
      omega
    · obtain ⟨b, off, a1, _, _, a4⟩ := h5 h0
      rw [a1] at e
      cases e
      rw [Addr.add_lit]
      exact a4 j u hu
theorem Rep.room (h : Rep P w v sz bts cs) {A : Option Addr} {n C : Nat} (hv : v = .slice A n C) : n ≤ C ∧ (A = none → C = 0) := by
  obtain ⟨A', n', C', h1, _, _, h4, _⟩ := h
  rw [hv] at h1
  cases h1
  exact ⟨h4.2, h4.1⟩
/-- a row of the call's own -/
theorem Rep.own {base n : Nat} {e : TypeId} (h : w.ownsRow base e sz v n cs) (hb : n * bts ≤ 140737488351232) : Rep (fun b => base ≤ b) w v sz bts cs := by
  rcases h.2 with ⟨hv, hn⟩ | ⟨g, cap, cur, hv, h1, h2, h3, _⟩
  · exact ⟨none, 0, 0, hv, by rw [h.1, hn], by omega, ⟨fun _ => rfl, Nat.le_refl _⟩, fun h => absurd h (by omega)⟩
  · subst hv
    refine ⟨_, n, cap, rfl, h.1, hb, ⟨fun h => (by cases h), h3⟩, fun _ => ⟨g, 0, rfl, h1, (Array.getElem?_eq_some_iff.1 h2).1, fun j u hu => ?_⟩⟩
    have := World.ownsRow.cells h (g := g) rfl j u hu
    rwa [Addr.add_lit] at this
end
/-- cells of lists -/
def pwC (l : List (Int × Int)) : List Value := l.flatMap fun x => [.int .i64 x.1, .int .i64 x.2]
def inC (l : List Int) : List Value := l.map (.int .i64)
def txC (l : List ByteArray) : List Value := l.map .string
theorem pwC_length : ∀ l : List (Int × Int), (pwC l).length = l.length * 2
  | [] => rfl
  | x :: l => by show (_ ++ pwC l).length = _; rw [List.length_append, pwC_length l, List.length_cons]; simp; omega
theorem inC_length (l : List Int) : (inC l).length = l.length * 1 := by simp [inC]
theorem txC_length (l : List ByteArray) : (txC l).length = l.length * 1 := by simp [txC]
theorem pwC_get : ∀ (l : List (Int × Int)) (i : Nat), i < l.length → (pwC l)[i * 2]? = some (.int .i64 (l.getD i (0, 0)).1) ∧ (pwC l)[i * 2 + 1]? = some (.int .i64 (l.getD i (0, 0)).2)
  | [], i, h => absurd h (by simp)
  | x :: l, 0, _ => ⟨rfl, rfl⟩
  | x :: l, i + 1, h => by
    have := pwC_get l i (by simpa using h)
    rw [show (i + 1) * 2 = i * 2 + 2 by omega]
    exact this
theorem inC_get (l : List Int) (i : Nat) (h : i < l.length) : (inC l)[i]? = some (.int .i64 (l.getD i 0)) := by simp [inC, List.getD, h]
theorem txC_get (l : List ByteArray) (i : Nat) (h : i < l.length) : (txC l)[i]? = some (.string (l.getD i ByteArray.empty)) := by simp [txC, List.getD, h]
theorem one_pws (l : List (Int × Int)) : ∀ u ∈ pwC l, u.oneCell' = true := fun u hu => by
  simp only [pwC, List.mem_flatMap, List.mem_cons, List.not_mem_nil, or_false] at hu
  obtain ⟨x, _, rfl | rfl⟩ := hu <;> rfl
/-- a packet -/
structure Pkt where
  k : Int
  i : Int
  v : Int
  n : Int
  S : List (Int × Int)
  D : List Int
end Go.Proofs.Ytdkalcnlncjgiaa.Pv

