/- Parts of the proof: RM RM2 LO OS0. -/
import Derived.Test.YtjghbciepinofaaGreatRows
import Derived.Test.YtjghbciepinofaaGreatPEK20
import Derived.Laws.MathBits
import Derived.Laws.Bits64b
import Derived.ProofKit
import Derived.OpenShut
import Derived.Deep.Slices
import Derived.SliceStrings
import Derived.SizedLaws
import Derived.WalkKit
import Derived.Laws.IdiomArrays
/-
  The arithmetic under MulDiv, no Go in sight: that a division of 128 bits by 64, two digits of 32 bits each (as the library's text goes), gives the quotient; and the reference's way, bit by bit.
-/
set_option maxRecDepth 100000
namespace Go.Proofs.YtjghbciepinofaaGreat.Ra

/-- A digit is too great just if its product is. -/
theorem digit_gt (y1 y0 u u1 q r : Int) (hy : 0 < y1 * 4294967296 + y0) (hu : q * y1 + r = u) :
    (4294967296 * r + u1 < q * y0) ↔ (u * 4294967296 + u1) / (y1 * 4294967296 + y0) < q := by
  rw [Int.ediv_lt_iff_lt_mul hy, Int.mul_add, ← Int.mul_assoc]
  generalize q * y1 = p1 at *
  generalize q * y0 = p0 at *
  omega

/-- The digit's own bound. -/
theorem digit_lt (y1 y0 u u1 : Int) (hy : 0 < y1 * 4294967296 + y0) (hu : u < y1 * 4294967296 + y0) (h1 : u1 < 4294967296) :
    (u * 4294967296 + u1) / (y1 * 4294967296 + y0) < 4294967296 := by
  rw [Int.ediv_lt_iff_lt_mul hy]
  omega

/-- The first guess is no less than the digit, and at most two more. -/
theorem digit_first (y1 y0 u u1 : Int) (h0 : 0 ≤ y0) (h0' : y0 < 4294967296) (h1 : 2147483648 ≤ y1) (hu0 : 0 ≤ u) (hu : u < y1 * 4294967296 + y0) (h1u : 0 ≤ u1) (h1u' : u1 < 4294967296) :
    (u * 4294967296 + u1) / (y1 * 4294967296 + y0) ≤ u / y1 ∧ u / y1 ≤ 4294967297 := by
  constructor
  · have e := Int.mul_ediv_add_emod u y1
    have m := Int.emod_lt_of_pos u (show 0 < y1 by omega)
    have : (u * 4294967296 + u1) / (y1 * 4294967296 + y0) < u / y1 + 1 := by
      rw [Int.ediv_lt_iff_lt_mul (by omega)]
      have q0 : 0 ≤ u / y1 := Int.ediv_nonneg hu0 (by omega)
      have : 0 ≤ (u / y1 + 1) * y0 := Int.mul_nonneg (by omega) h0
      rw [Int.mul_add, ← Int.mul_assoc, Int.add_mul (u / y1) 1 y1, Int.mul_comm (u / y1) y1]
      generalize (u / y1 + 1) * y0 = p0 at *
      generalize y1 * (u / y1) = p1 at *
      omega
    omega
  · have : u / y1 < 4294967298 := by
      rw [Int.ediv_lt_iff_lt_mul (by omega)]
      omega
    omega

/-- Two digits: the quotient. -/
theorem two_digits (Y u a b : Int) (hY : 0 < Y) :
    (u * 4294967296 + a) / Y * 4294967296 + (((u * 4294967296 + a) % Y) * 4294967296 + b) / Y = (u * 18446744073709551616 + a * 4294967296 + b) / Y := by
  have e := Int.mul_ediv_add_emod (u * 4294967296 + a) Y
  generalize (u * 4294967296 + a) / Y = q at *
  generalize (u * 4294967296 + a) % Y = r at *
  have : u * 18446744073709551616 + a * 4294967296 + b = r * 4294967296 + b + q * 4294967296 * Y := by
    have : Y * q * 4294967296 = q * 4294967296 * Y := by rw [Int.mul_comm Y q, Int.mul_right_comm]
    omega
  rw [this, Int.add_mul_ediv_right _ _ (by omega)]
  omega

/-- Shifted alike, a quotient stays. -/
theorem quot_scale (U y p : Int) (hp : 0 < p) : U * p / (y * p) = U / y := Int.mul_ediv_mul_of_pos_left U y hp


/-! ### the reference: bit by bit -/
/-- q times c and r is X, and r is a rest. -/
def Rest (X c q r : Int) : Prop := X = q * c + r ∧ 0 ≤ r ∧ r < c

theorem Rest.zero (c : Int) (hc : 0 < c) : Rest 0 c 0 0 := ⟨by omega, by omega, hc⟩

/-! ### a digit's loop -/
/-- The guess q of a digit Q, with r left. -/
def Dig (y1 u Q q r : Int) : Prop := q * y1 + r = u ∧ Q ≤ q ∧ 0 ≤ q ∧ q ≤ 4294967297 ∧ 0 ≤ r ∧ r < 4294967296

theorem Dig.prod {y1 u Q q r : Int} (h : Dig y1 u Q q r) {y0 : Int} (h0 : 0 ≤ y0) (h0' : y0 < 4294967296) : 0 ≤ q * y0 ∧ q * y0 < 18446744073709551616 := by
  obtain ⟨_, _, h1, h2, _, _⟩ := h
  refine ⟨Int.mul_nonneg h1 h0, ?_⟩
  have := Int.mul_le_mul h2 (show y0 ≤ 4294967295 by omega) h0 (by omega)
  omega

theorem Dig.gt {y1 u Q q r : Int} (h : Dig y1 u Q q r) {y0 u1 : Int} (hy : 0 < y1 * 4294967296 + y0) (hQ : Q = (u * 4294967296 + u1) / (y1 * 4294967296 + y0)) : (4294967296 * r + u1 < q * y0) ↔ Q < q := by
  rw [hQ]
  exact digit_gt y1 y0 u u1 q r hy h.1

theorem Dig.next {y1 u Q q r : Int} (h : Dig y1 u Q q r) (hq : Q < q) (hQ : 0 ≤ Q) (h1 : 0 ≤ y1) (hr : r + y1 < 4294967296) : Dig y1 u Q (q - 1) (r + y1) := by
  obtain ⟨e, h2, h3, h4, h5, h6⟩ := h
  refine ⟨?_, by omega, by omega, by omega, by omega, hr⟩
  rw [Int.sub_mul]
  generalize q * y1 = p at *
  omega

theorem Dig.last {y1 u Q q r : Int} (h : Dig y1 u Q q r) (hq : Q < q) {y0 u1 : Int} (h0 : 0 ≤ y0) (h0' : y0 < 4294967296) (hu : 0 ≤ u1) (hy : 0 < y1 * 4294967296 + y0) (hQ : Q = (u * 4294967296 + u1) / (y1 * 4294967296 + y0)) (hr : 4294967296 ≤ r + y1) : q - 1 = Q := by
  obtain ⟨e, h2, h3, h4, h5, h6⟩ := h
  have e' : (q - 1) * y1 + (r + y1) = u := by
    rw [Int.sub_mul]
    generalize q * y1 = p at *
    omega
  have g := digit_gt y1 y0 u u1 (q - 1) (r + y1) hy e'
  rw [← hQ] at g
  have b := Int.mul_le_mul (show q - 1 ≤ 4294967296 by omega) (show y0 ≤ 4294967295 by omega) h0 (by omega)
  generalize (q - 1) * y0 = p at *
  omega

theorem Dig.first (y1 y0 u u1 Q : Int) (h0 : 0 ≤ y0) (h0' : y0 < 4294967296) (h1 : 2147483648 ≤ y1) (h1' : y1 < 4294967296) (hu0 : 0 ≤ u) (hu : u < y1 * 4294967296 + y0) (h1u : 0 ≤ u1) (h1u' : u1 < 4294967296) (hQ : Q = (u * 4294967296 + u1) / (y1 * 4294967296 + y0)) :
    Dig y1 u Q (u / y1) (u % y1) ∧ 0 ≤ Q ∧ Q < 4294967296 ∧ 0 ≤ u / y1 * y1 ∧ u / y1 * y1 ≤ u ∧ u - u / y1 * y1 = u % y1 := by
  have f := digit_first y1 y0 u u1 h0 h0' h1 hu0 hu h1u h1u'
  have l := digit_lt y1 y0 u u1 (by omega) hu h1u'
  have n : 0 ≤ (u * 4294967296 + u1) / (y1 * 4294967296 + y0) := Int.ediv_nonneg (by omega) (by omega)
  rw [← hQ] at f l n
  have e := Int.mul_ediv_add_emod u y1
  rw [Int.mul_comm] at e
  have m := Int.emod_lt_of_pos u (show 0 < y1 by omega)
  have m0 := Int.emod_nonneg u (show y1 ≠ 0 by omega)
  have q0 : 0 ≤ u / y1 := Int.ediv_nonneg hu0 (by omega)
  have p0 : 0 ≤ u / y1 * y1 := Int.mul_nonneg q0 (by omega)
  have D : Dig y1 u Q (u / y1) (u % y1) := ⟨e, f.1, q0, f.2, m0, by omega⟩
  exact ⟨D, n, l, p0, by omega, by omega⟩

end Go.Proofs.YtjghbciepinofaaGreat.Ra

set_option maxRecDepth 100000
namespace Go.Proofs.YtjghbciepinofaaGreat.Ra

theorem lead_norm (y : Nat) (hy0 : 0 < y) (hy : y < 9223372036854775808) : ∃ s : Nat, bitLen y + s = 64 ∧ 1 ≤ s ∧ s ≤ 63 ∧ 9223372036854775808 ≤ y * 2 ^ s ∧ y * 2 ^ s < 18446744073709551616 := by
  obtain ⟨h1, h2⟩ := bitLen_spec y
  have h2 := h2 (by omega)
  have hb0 : bitLen y ≠ 0 := by intro h; rw [h] at h1; omega
  have hb : bitLen y ≤ 63 := by
    apply Decidable.byContradiction
    intro h
    have : 2 ^ 63 ≤ 2 ^ (bitLen y - 1) := Nat.pow_le_pow_right (by decide) (by omega)
    omega
  refine ⟨64 - bitLen y, by omega, by omega, by omega, ?_, ?_⟩
  · have e : 2 ^ (bitLen y - 1) * 2 ^ (64 - bitLen y) = 2 ^ 63 := by rw [← Nat.pow_add]; congr 1; omega
    have := Nat.mul_le_mul_right (2 ^ (64 - bitLen y)) h2
    omega
  · have e : 2 ^ bitLen y * 2 ^ (64 - bitLen y) = 2 ^ 64 := by rw [← Nat.pow_add]; congr 1; omega
    have := Nat.mul_lt_mul_of_pos_right h1 (Nat.two_pow_pos (64 - bitLen y))
    omega

/-- The two shifted words, put together. -/
theorem shift_pair (hi lo y s : Nat) (hs : 1 ≤ s) (hs2 : s ≤ 63) (h : hi < y) (hl : lo < 18446744073709551616) (hY : y * 2 ^ s < 18446744073709551616) :
    (hi * 18446744073709551616 + lo) * 2 ^ s = (hi * 2 ^ s + lo / 2 ^ (64 - s)) * 18446744073709551616 + lo * 2 ^ s % 18446744073709551616 ∧ hi * 2 ^ s + lo / 2 ^ (64 - s) < y * 2 ^ s ∧
    hi * 2 ^ s < 18446744073709551616 ∧ lo / 2 ^ (64 - s) < 2 ^ s := by
  have ep : 2 ^ (64 - s) * 2 ^ s = 18446744073709551616 := by rw [← Nat.pow_add, show 64 - s + s = 64 by omega]
  have e1 : lo * 2 ^ s / 18446744073709551616 = lo / 2 ^ (64 - s) := by rw [← ep]; exact Nat.mul_div_mul_right lo (2 ^ (64 - s)) (Nat.two_pow_pos s)
  have e2 := Nat.div_add_mod (lo * 2 ^ s) 18446744073709551616
  rw [e1] at e2
  have e : (hi * 18446744073709551616 + lo) * 2 ^ s = (hi * 2 ^ s + lo / 2 ^ (64 - s)) * 18446744073709551616 + lo * 2 ^ s % 18446744073709551616 := by
    rw [Nat.add_mul, Nat.add_mul, Nat.mul_right_comm]
    generalize hi * 2 ^ s = a
    generalize lo * 2 ^ s = b at *
    omega
  have b1 : hi * 18446744073709551616 + lo < y * 18446744073709551616 := by omega
  have b2 := Nat.mul_lt_mul_of_pos_right b1 (Nat.two_pow_pos s)
  rw [e, Nat.mul_right_comm] at b2
  have b3 : lo / 2 ^ (64 - s) < 2 ^ s := by rw [Nat.div_lt_iff_lt_mul (Nat.two_pow_pos _), Nat.mul_comm, ep]; exact hl
  refine ⟨e, ?_, ?_, b3⟩
  · generalize y * 2 ^ s = Y at *
    generalize hi * 2 ^ s + lo / 2 ^ (64 - s) = u at *
    omega
  · have := Nat.mul_le_mul_right (2 ^ s) (Nat.le_of_lt h)
    omega

/-- Or, of a word whose low bits are nought and one of these bits. -/
theorem or_join (a b s : Nat) (ha : a * 2 ^ s < 18446744073709551616) (hb : b < 2 ^ s) (hb2 : b < 18446744073709551616) : bits .or .u64 ((a * 2 ^ s : Nat) : Int) (b : Int) = ((a * 2 ^ s + b : Nat) : Int) := by
  rw [bits_or_u64_nat _ _ ha hb2, Nat.mul_comm a, Nat.two_pow_add_eq_or_of_lt hb]

end Go.Proofs.YtjghbciepinofaaGreat.Ra

set_option maxRecDepth 100000
namespace Go.Proofs.YtjghbciepinofaaGreat.Ln
open Go.ChangeShapes Go.WideShapes Go.ChangeAt Go.RowKit Go.Deep
theorem cI : Tryz.prog.cellsOf 3 = 1 := by kernel_rfl
theorem cT : Tryz.prog.cellsOf 4 = 1 := by kernel_rfl
theorem cStr : Tryz.prog.cellsOf 9 = 1 := by kernel_rfl
theorem cStrs : Tryz.prog.cellsOf 35 = 1 := by kernel_rfl
theorem cIs : Tryz.prog.cellsOf 34 = 1 := by kernel_rfl
theorem cLn : Tryz.prog.cellsOf 37 = 4 := by kernel_rfl
section
variable {H : Type} {enc : TypeId × Value → H} {W : World}
theorem open_num {r : Reach} {b0 : Nat} {v : Value} {d : DataW H} {p : List MemPlace} (hv : Value.okWide Tryz.prog W r b0 3 v) (h : DataW.Trod enc Tryz.prog W 0 (fun _ => true) true 3 v d p) : ∃ n : Int, v = .int .i64 n := by
  obtain ⟨n, e, _⟩ := open_int Tryz.underlying3 hv h
  exact ⟨n, e⟩
end
end Go.Proofs.YtjghbciepinofaaGreat.Ln

set_option maxRecDepth 100000
namespace Go.Proofs.YtjghbciepinofaaGreat
open Go.ChangeShapes Go.WideShapes Go.ChangeAt Go.RowKit Go.Deep
theorem chunks {α : Type} (k : Nat) : ∀ (n : Nat) (l : List α), l.length = n * k → l = (List.range n).flatMap fun i => (l.drop (i * k)).take k
  | 0, l, h => by simp at h; subst h; rfl
  | n + 1, l, h => by
    rw [List.range_succ, List.flatMap_append]
    have hm : (n + 1) * k = n * k + k := Nat.succ_mul n k
    have h1 := chunks k n (l.take (n * k)) (by rw [List.length_take]; omega)
    have h2 : ((List.range n).flatMap fun i => ((l.take (n * k)).drop (i * k)).take k) = (List.range n).flatMap fun i => (l.drop (i * k)).take k := by
      refine flatMap_congr_range fun i hi => ?_
      have hik : i * k + k ≤ n * k := by rw [← Nat.succ_mul]; exact Nat.mul_le_mul_right k hi
      rw [List.drop_take, List.take_take, Nat.min_eq_left (by omega)]
    rw [← h2, ← h1]
    simp only [List.flatMap_cons, List.flatMap_nil, List.append_nil]
    rw [List.take_of_length_le (l := l.drop (n * k)) (by rw [List.length_drop]; omega), List.take_append_drop]
theorem pick_all {β : Type} {p : Nat → β → Prop} (d : β) {n : Nat} (h : ∀ i, i < n → ∃ y, p i y) : ∃ f : Nat → β, ∀ i, i < n → p i (f i) := by
  refine ⟨fun i => if hi : i < n then Classical.choose (h i hi) else d, fun i hi => ?_⟩
  simp only [dif_pos hi]
  exact Classical.choose_spec (h i hi)
section
variable {H : Type} {enc : TypeId × Value → H} {W : World}
theorem open_arr {β : Type} (d : β) (f : β → List Value) {t e : TypeId} {n fuel : Nat} {cs : List Value} {x : DataW H × List MemPlace} (ht : Tryz.prog.underlying t = some (.array n e)) (hc : Tryz.prog.cellsOf t = n * Tryz.prog.cellsOf e)
    (h : DataW.trod enc Tryz.prog W 0 (fun _ => true) true fuel t cs = some x)
    (he : ∀ {m : Nat} {l : List Value} {y : DataW H × List MemPlace}, DataW.trod enc Tryz.prog W 0 (fun _ => true) true m e l = some y → ∃ b, l = f b) : ∃ g : Nat → β, cs = (List.range n).flatMap fun i => f (g i) := by
  obtain ⟨xs, m, _, _, hl, hxl, hx⟩ := DataW.trod_array ht h
  obtain ⟨g, hg⟩ := pick_all (n := n) (p := fun i b => (cs.drop (i * Tryz.prog.cellsOf e)).take (Tryz.prog.cellsOf e) = f b) d (fun i hi => by
    have := hx i hi
    rw [List.getElem?_eq_getElem (by omega)] at this
    exact he this)
  refine ⟨g, ?_⟩
  rw [chunks (Tryz.prog.cellsOf e) n cs (by rw [hl, hc])]
  exact flatMap_congr_range hg
theorem open_i {m : Nat} {l : List Value} {y : DataW H × List MemPlace} (h : DataW.trod enc Tryz.prog W 0 (fun _ => true) true m 3 l = some y) : ∃ b : Int, l = [.int .i64 b] := by
  obtain ⟨q, e, _⟩ := DataW.trod_int Tryz.underlying3 h
  exact ⟨q, e⟩
theorem open_t {m : Nat} {l : List Value} {y : DataW H × List MemPlace} (h : DataW.trod enc Tryz.prog W 0 (fun _ => true) true m 4 l = some y) : ∃ b : Bool, l = [.bool b] := by
  obtain ⟨q, e, _⟩ := DataW.trod_bool Tryz.underlying4 h
  exact ⟨q, e⟩
theorem cI : Tryz.prog.cellsOf 3 = 1 := by kernel_rfl
theorem cT : Tryz.prog.cellsOf 4 = 1 := by kernel_rfl
end
end Go.Proofs.YtjghbciepinofaaGreat

