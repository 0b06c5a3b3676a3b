/- Parts of the proof: SO SP. -/
import Derived.Test.YtjghbciepinofaaGreatRows
import Derived.Test.YtjghbciepinofaaGreatPK47
import Derived.Test.YtjghbciepinofaaGreatPK52
import Derived.WalkKit
import Derived.WalkSmall
import Derived.Below
import Derived.BigQuiet
import Derived.Deep.QuietTactic
import Derived.Deep.RegionHeld3
import Derived.Deep.RegionWith
import Derived.Deep.DeepCutAuto
set_option maxRecDepth 100000
namespace Go.Proofs.YtjghbciepinofaaGreat
open Go.RowKit
def cmpI (x y : Int) : Int := if x < y then -1 else if y < x then 1 else 0
theorem cmpI_eq (x y : Int) : cmpI x y = if x < y then -1 else if y < x then 1 else 0 := rfl
def cmpV (a b : Int × Int) : Int := cmpI a.1 b.1
def cmpP (a b : Int × Int) : Int := if a.2 = b.2 then cmpV a b else cmpI b.2 a.2
theorem isnan_any (x : Int) (w : World) : Calls Tryz.prog 136 #[.int .i64 x] w fun e w' => e = .returned (.bool false) ∧ w = w' := by
  go_enter Tryz.func136, Tryz.ntmps136
  go_wp2
  go_ret
  exact ⟨by simp, rfl⟩
theorem cmpi_any (x y : Int) (w : World) : Calls Tryz.prog 88 #[.int .i64 x, .int .i64 y] w fun e w' => e = .returned (.int .i64 (cmpI x y)) ∧ w = w' := by
  have HC := hide (cmpI_eq x y)
  generalize cmpI x y = r at *
  go_enter Tryz.func88, Tryz.ntmps88
  go_wp2_with (go_at_call 136; refine (isnan_any _ _).mono ?_; rintro e w1 ⟨rfl, rfl⟩)
  all_goals (go_ret; refine ⟨?_, rfl⟩; have h := HC.out; first | (simp_all; done) | (simp_all; omega) | (rw [h, if_neg (by omega), if_neg (by omega)]; rfl) | (rw [h, if_neg (by omega), if_pos (by omega)]; rfl) | (rw [h, if_pos (by omega)]; rfl))
theorem byNumber_any (a b : Int × Int) (w : World) : Calls Tryz.prog 39 #[.agg #[.int .i64 a.1, .int .i64 a.2], .agg #[.int .i64 b.1, .int .i64 b.2]] w fun e w' => e = .returned (.int .i64 (cmpV a b)) ∧ Below w.heap.size w w' := by
  have hc := cmpi_any a.1 b.1
  unfold cmpV
  generalize cmpI a.1 b.1 = r at *
  go_enter Tryz.func39, Tryz.ntmps39
  go_wp2_with (go_at_call 88; refine (hc _).mono ?_; rintro e w1 ⟨rfl, rfl⟩)
  go_ret
  exact ⟨rfl, ((Below.refl _ _).alloc (Nat.le_refl _) _).alloc (by simp) _⟩
theorem byPower_any (a b : Int × Int) (w : World) : Calls Tryz.prog 38 #[.agg #[.int .i64 a.1, .int .i64 a.2], .agg #[.int .i64 b.1, .int .i64 b.2]] w fun e w' => e = .returned (.int .i64 (cmpP a b)) ∧ Below w.heap.size w w' := by
  have hc := cmpi_any b.2 a.2
  have hn := fun w => byNumber_any a b w
  by_cases h : a.2 = b.2
  · have e : cmpP a b = cmpV a b := if_pos h
    rw [e]
    generalize cmpV a b = r at *
    have hb : (a.2 != b.2) = false := by simpa using h
    clear hc
    obtain ⟨a1, a2⟩ := a
    obtain ⟨b1, b2⟩ := b
    simp only at *
    subst h
    go_enter Tryz.func38, Tryz.ntmps38
    go_wp2_with (go_at_call 39; refine (hn _).mono ?_; rintro e w1 ⟨rfl, h1⟩)
    go_ret
    exact ⟨rfl, (((Below.refl _ _).alloc (Nat.le_refl _) _).alloc (by simp) _).trans (h1.mono (by simp; omega))⟩
  · have e : cmpP a b = cmpI b.2 a.2 := if_neg h
    rw [e]
    generalize cmpI b.2 a.2 = r at *
    have hb : (a.2 != b.2) = true := by simpa using h
    go_enter Tryz.func38, Tryz.ntmps38
    go_wp2_with (go_at_call 88; refine (hc _).mono ?_; rintro e w1 ⟨rfl, rfl⟩)
    go_ret
    exact ⟨rfl, ((Below.refl _ _).alloc (Nat.le_refl _) _).alloc (by simp) _⟩
end Go.Proofs.YtjghbciepinofaaGreat

set_option maxRecDepth 100000
namespace Go.Proofs.YtjghbciepinofaaGreat
open Go.RowKit
theorem wrapI {n : Int} (h0 : -9223372036854775808 ≤ n) (h1 : n < 9223372036854775808) : IntKind.i64.wrap n = n := by
  rw [IntKind.wrap_i64]
  omega
abbrev Pw := Int × Int
def pz : Pw := (0, 0)
def swapAt (l : List Pw) (p : Nat) : List Pw := (l.set (p + 1) (l.getD p pz)).set p (l.getD (p + 1) pz)
/-- the element at a place goes down as long as it is less than the one ahead of it -/
def insG (lt : Pw → Pw → Bool) : Nat → List Pw → List Pw
  | 0, l => l
  | p + 1, l => if lt (l.getD (p + 1) pz) (l.getD p pz) = true then insG lt p (swapAt l p) else l
def sortTo (lt : Pw → Pw → Bool) (l : List Pw) : Nat → List Pw
  | 0 => l
  | m + 1 => insG lt (m + 1) (sortTo lt l m)
def isort (lt : Pw → Pw → Bool) (l : List Pw) : List Pw := sortTo lt l (l.length - 1)
def ltV (a b : Pw) : Bool := decide (cmpV a b < 0)
def ltP (a b : Pw) : Bool := decide (cmpP a b < 0)
/-- a row of powers lies at a block's beginning -/
def RowAt (w : World) (g : Nat) (l : List Pw) : Prop := ∃ cur, w.heap[g]? = some (.cells cur 74 (0, 0)) ∧ ∀ i x, l[i]? = some x → cur[i * 2]? = some (.int .i64 x.1) ∧ cur[i * 2 + 1]? = some (.int .i64 x.2)
theorem swap_length (l : List Pw) (p : Nat) : (swapAt l p).length = l.length := by simp [swapAt]
theorem ins_length (lt : Pw → Pw → Bool) : ∀ (j : Nat) (l : List Pw), (insG lt j l).length = l.length
  | 0, _ => rfl
  | p + 1, l => by rw [insG]; split; rw [ins_length lt p, swap_length]; rfl
theorem sortTo_length (lt : Pw → Pw → Bool) (l : List Pw) : ∀ m, (sortTo lt l m).length = l.length
  | 0 => rfl
  | m + 1 => by rw [sortTo, ins_length, sortTo_length lt l m]
/-- blocks that were there are as they were, but for one -/
structure ButB (g : Nat) (w w' : World) : Prop where
  os : w'.os = w.os
  tape : w'.tape = w.tape
  output : w'.output = w.output
  size : w.heap.size ≤ w'.heap.size
  block : ∀ k, k < w.heap.size → k ≠ g → w'.heap[k]? = w.heap[k]?
theorem ButB.refl (g : Nat) (w : World) : ButB g w w := ⟨rfl, rfl, rfl, Nat.le_refl _, fun _ _ _ => rfl⟩
theorem ButB.trans {g : Nat} {a b c : World} (h : ButB g a b) (k : ButB g b c) : ButB g a c :=
  ⟨k.os.trans h.os, k.tape.trans h.tape, k.output.trans h.output, Nat.le_trans h.size k.size, fun i hi hg => (k.block i (Nat.lt_of_lt_of_le hi h.size) hg).trans (h.block i hi hg)⟩
theorem ButB.of_below {g : Nat} {a b : World} (h : Below a.heap.size a b) : ButB g a b := ⟨h.os, h.tape, h.output, h.size, fun k hk _ => h.block k hk⟩
theorem ButB.set {g : Nat} {w w' : World} (h : ButB g w w') (o : Nat) (v : Value) : ButB g w (w'.setCell ⟨g, o, none⟩ v) :=
  ⟨h.os, h.tape, h.output, (by simp [World.setCell]; exact h.size), fun k hk hg => (Below.heap_setCell _ _ _ _ hg).trans (h.block k hk hg)⟩
theorem ButB.drew {g : Nat} {w w' : World} (h : ButB g w w') : ButB g w w'.drew := ⟨h.os, h.tape, h.output, h.size, h.block⟩
theorem ButB.drewN {g : Nat} {w w' : World} (h : ButB g w w') (n : Nat) : ButB g w (w'.drewN n) := ⟨h.os, h.tape, h.output, h.size, h.block⟩
theorem ButB.below {g B : Nat} {w w' : World} (h : ButB g w w') (hB : B ≤ g) (hs : B ≤ w.heap.size) : Below B w w' := ⟨h.os, h.tape, h.output, h.size, fun k hk => h.block k (by omega) (by omega)⟩
theorem RowAt.later {w w' : World} {g : Nat} {l : List Pw} (h : RowAt w g l) (hb : Below w.heap.size w w') : RowAt w' g l := by
  obtain ⟨cur, hc, hx⟩ := h
  exact ⟨cur, (hb.block g (Array.getElem?_eq_some_iff.1 hc).1).trans hc, hx⟩
theorem RowAt.cell {w : World} {g : Nat} {l : List Pw} (h : RowAt w g l) {i : Nat} (hi : i < l.length) : w.cell? ⟨g, i * 2, none⟩ = some (.int .i64 (l.getD i pz).1) ∧ w.cell? ⟨g, i * 2 + 1, none⟩ = some (.int .i64 (l.getD i pz).2) := by
  obtain ⟨cur, hc, hx⟩ := h
  have e : l[i]? = some (l.getD i pz) := by simp [List.getD, hi]
  obtain ⟨h1, h2⟩ := hx i _ e
  simp only [World.cell?, hc]
  simp [h1, h2]
theorem RowAt.free {w : World} {g : Nat} {l : List Pw} (h : RowAt w g l) (o : Nat) : w.frozen? ⟨g, o, none⟩ = false := by
  obtain ⟨cur, hc, _⟩ := h
  simp [World.frozen?, hc]
theorem RowAt.lt {w : World} {g : Nat} {l : List Pw} (h : RowAt w g l) : g < w.heap.size := by
  obtain ⟨cur, hc, _⟩ := h
  exact (Array.getElem?_eq_some_iff.1 hc).1
/-- an element is written -/
theorem RowAt.put {w : World} {g : Nat} {l : List Pw} (h : RowAt w g l) {i : Nat} (hi : i < l.length) (x : Pw) : RowAt ((w.setCell ⟨g, i * 2, none⟩ (.int .i64 x.1)).setCell ⟨g, i * 2 + 1, none⟩ (.int .i64 x.2)) g (l.set i x) := by
  have hc0 := h.cell hi
  obtain ⟨cur, hc, hx⟩ := h
  have s1 : i * 2 < cur.size := by
    have := (hx i _ (List.getElem?_eq_getElem hi)).1
    exact (Array.getElem?_eq_some_iff.1 this).1
  have s2 : i * 2 + 1 < cur.size := by
    have := (hx i _ (List.getElem?_eq_getElem hi)).2
    exact (Array.getElem?_eq_some_iff.1 this).1
  refine ⟨(cur.setIfInBounds (i * 2) (.int .i64 x.1)).setIfInBounds (i * 2 + 1) (.int .i64 x.2), ?_, fun j y hy => ?_⟩
  · simp [World.setCell, Array.getElem?_modify, hc]
  · rw [List.getElem?_set] at hy
    by_cases hj : i = j
    · subst hj
      rw [if_pos rfl, if_pos hi] at hy
      simp at hy
      subst hy
      simp [s1, s2]
    · rw [if_neg hj] at hy
      obtain ⟨h1, h2⟩ := hx j y hy
      simp only [Array.getElem?_setIfInBounds]
      rw [if_neg (by omega), if_neg (by omega), if_neg (by omega), if_neg (by omega)]
      exact ⟨h1, h2⟩
end Go.Proofs.YtjghbciepinofaaGreat

