/- Parts of the proof: RD1 RE RG1 SH. -/
import Derived.Test.YtjghbciepinofaaGreatRows
import Derived.Test.YtjghbciepinofaaGreatPK51
import Derived.Test.YtjghbciepinofaaGreatPK52
import Derived.BigQuiet
import Derived.Deep.QuietTactic
import Derived.Deep.RegionHeld3
set_option maxRecDepth 100000
namespace Go.Proofs.YtjghbciepinofaaGreat
open Go.RowKit
/-- a validator's five cells lie in a block -/
def VAt (w : World) (y : Nat) (x : Vd) : Prop := w.heap[y]? = some (.cells #[.int .i64 x.tok, .int .i64 x.sh, .int .i64 x.lost, .bool x.jail, .bool x.dead] 26)
theorem VAt.later {w w' : World} {y B : Nat} {x : Vd} (h : VAt w y x) (hb : Below B w w') (hB : y < B) : VAt w' y x := (hb.block y hB).trans h
theorem VAt.lt {w : World} {y : Nat} {x : Vd} (h : VAt w y x) : y < w.heap.size := (Array.getElem?_eq_some_iff.1 h).1
theorem VAt.cells {w : World} {y : Nat} {x : Vd} (h : VAt w y x) : w.cell? ⟨y, 0, none⟩ = some (.int .i64 x.tok) ∧ w.cell? ⟨y, 1, none⟩ = some (.int .i64 x.sh) ∧ w.cell? ⟨y, 2, none⟩ = some (.int .i64 x.lost) ∧ w.cell? ⟨y, 3, none⟩ = some (.bool x.jail) ∧ w.cell? ⟨y, 4, none⟩ = some (.bool x.dead) := by
  unfold VAt at h
  simp [World.cell?, h]
end Go.Proofs.YtjghbciepinofaaGreat

set_option maxRecDepth 100000
namespace Go.Proofs.YtjghbciepinofaaGreat.Ra
open Go.RowKit

theorem div64_zero (lo y : Int) (l0 : 0 ≤ lo) (l1 : lo < 18446744073709551616) (hy0 : 0 < y) (_hy : y < 9223372036854775808) (w : World) :
    Calls Tryz.prog 160 #[.int .u64 0, .int .u64 lo, .int .u64 y] w fun e w' => ∃ r, e = .returned (.tuple #[.int .u64 (lo / y), .int .u64 r]) ∧ Below w.heap.size w w' := by
  have t1 : (y == 0) = false := by simp; omega
  have t1' : ¬ y = 0 := by omega
  have t2 : ¬ y ≤ 0 := by omega
  have ed : lo.tdiv y = lo / y := Int.tdiv_eq_ediv_of_nonneg l0
  have b0 : 0 ≤ lo / y := Int.ediv_nonneg l0 (by omega)
  have b1 : lo / y ≤ lo := Int.ediv_le_self _ l0
  obtain ⟨q, hq⟩ : ∃ q, lo / y = q := ⟨_, rfl⟩
  rw [hq] at ed b0 b1 ⊢
  have eq : IntKind.u64.wrap q = q := by rw [IntKind.wrap_u64]; omega
  go_enter Tryz.func160, Tryz.ntmps160
  go_wp2
  go_quiet (fail)
  go_wp2
  go_ret2
  exact ⟨_, rfl, ⟨rfl, rfl, rfl, Nat.le_refl _, fun _ _ => rfl⟩⟩

/-- math/bits.Div64 where it does not panic. -/
theorem div64 (hi lo y : Int) (h0 : 0 ≤ hi) (h1 : hi < y) (l0 : 0 ≤ lo) (l1 : lo < 18446744073709551616) (hy : y < 9223372036854775808) (w : World) :
    Calls Tryz.prog 160 #[.int .u64 hi, .int .u64 lo, .int .u64 y] w fun e w' => ∃ r, e = .returned (.tuple #[.int .u64 ((hi * 18446744073709551616 + lo) / y), .int .u64 r]) ∧ Below w.heap.size w w' := by
  by_cases hz : hi = 0
  · subst hz
    have e : 0 * 18446744073709551616 + lo = lo := by omega
    rw [e]
    exact div64_zero lo y l0 l1 h1 hy w
  · obtain ⟨hn, rfl⟩ := Int.eq_ofNat_of_zero_le h0
    obtain ⟨ln, rfl⟩ := Int.eq_ofNat_of_zero_le l0
    obtain ⟨yn, rfl⟩ := Int.eq_ofNat_of_zero_le (show 0 ≤ y by omega)
    obtain ⟨s, hs, hs1, hs2, hY1, hY2⟩ := lead_norm yn (by omega) (by omega)
    obtain ⟨e, b1, b2, b3⟩ := shift_pair hn ln yn s hs1 hs2 (by omega) (by omega) hY2
    have hc : ∀ w, Calls Tryz.prog 168 #[.int .u64 (yn : Int)] w fun e w' => e = .returned (.int .i64 s) ∧ w' = w := fun w => by
      have := leading64 yn (by omega) (by omega) w
      rwa [show (64 : Int) - (bitLen yn : Int) = (s : Int) by omega] at this
    have hp : ((2 ^ s : Nat) : Int) = (2 : Int) ^ s := by rw [Int.natCast_pow]; rfl
    have hp' : ((2 ^ (64 - s) : Nat) : Int) = (2 : Int) ^ (64 - s) := by rw [Int.natCast_pow]; rfl
    have b4 : ln / 2 ^ (64 - s) ≤ ln := Nat.div_le_self _ _
    obtain ⟨Y, eY⟩ : ∃ Y, yn * 2 ^ s = Y := ⟨_, rfl⟩
    obtain ⟨u, eu⟩ : ∃ u, hn * 2 ^ s + ln / 2 ^ (64 - s) = u := ⟨_, rfl⟩
    obtain ⟨N, eN⟩ : ∃ N, ln * 2 ^ s % 18446744073709551616 = N := ⟨_, rfl⟩
    have hN : N < 18446744073709551616 := by omega
    have hor := or_join hn (ln / 2 ^ (64 - s)) s b2 b3 (by omega)
    rw [eu] at e b1 hor
    rw [eY] at hY1 hY2 b1
    rw [eN] at e
    have c := div64_core (hn : Int) (ln : Int) (yn : Int) (Y : Int) ((Y : Int) / 4294967296) ((Y : Int) % 4294967296) ((hn * 2 ^ s : Nat) : Int) ((ln / 2 ^ (64 - s) : Nat) : Int) (u : Int) (N : Int) ((N : Int) / 4294967296) ((N : Int) % 4294967296)
      _ _ _ s (by omega) h1 hs1 hs2
      (by rw [← hp, ← Int.natCast_mul, eY, IntKind.wrap_u64]; omega) rfl (and_low32 _ (by omega) (by omega))
      (by rw [← hp, ← Int.natCast_mul, IntKind.wrap_u64]; omega) (by rw [← hp', ← Int.natCast_ediv]) hor
      (by rw [← hp, ← Int.natCast_mul, IntKind.wrap_u64, ← eN]; omega) rfl (and_low32 _ (by omega) (by omega))
      (by omega) (by omega) (by omega) (by omega) (by omega) (by show _ = _; omega) (by show _ < _; omega) (by omega) (by omega) (by omega) (by omega) rfl rfl rfl hc w
    have eYY : (Y : Int) / 4294967296 * 4294967296 + (Y : Int) % 4294967296 = (Y : Int) := by omega
    rw [eYY, two_digits _ _ _ _ (by omega)] at c
    have eNN : (u : Int) * 18446744073709551616 + (N : Int) / 4294967296 * 4294967296 + (N : Int) % 4294967296 = ((hn : Int) * 18446744073709551616 + (ln : Int)) * (2 : Int) ^ s := by
      have : (u : Int) * 18446744073709551616 + (N : Int) = ((hn : Int) * 18446744073709551616 + (ln : Int)) * (2 : Int) ^ s := by
        rw [← hp]
        have e' : (((hn * 18446744073709551616 + ln) * 2 ^ s : Nat) : Int) = ((u * 18446744073709551616 + N : Nat) : Int) := by rw [e]
        rw [Int.natCast_mul, Int.natCast_add, Int.natCast_mul, Int.natCast_add, Int.natCast_mul] at e'
        exact e'.symm
      rw [← this]
      omega
    rw [eNN, ← eY, Int.natCast_mul, hp, quot_scale _ _ _ (Int.pow_pos (by decide))] at c
    exact c


/-! ### the answers -/
/-- What MulDiv answers: the number. -/
def mdN (a b c : Int) : Int := if a < 0 ∨ b < 0 ∨ c < 1 then 0 else if a * b / c ≤ 1125899906842624 then a * b / c else 0
/-- What MulDiv answers: the error (2: ErrRange). -/
def mdE (a b c : Int) : Int := if a < 0 ∨ b < 0 ∨ c < 1 then 2 else if a * b / c ≤ 1125899906842624 then 0 else 2

theorem md_bad {a b c : Int} (h : a < 0 ∨ b < 0 ∨ c < 1) : mdN a b c = 0 ∧ mdE a b c = 2 := by
  unfold mdN mdE; rw [if_pos h, if_pos h]; exact ⟨rfl, rfl⟩
theorem md_over {a b c : Int} (h : 1125899906842624 < a * b / c) : mdN a b c = 0 ∧ mdE a b c = 2 := by
  unfold mdN mdE
  have : ¬ a * b / c ≤ 1125899906842624 := by omega
  by_cases g : a < 0 ∨ b < 0 ∨ c < 1
  · rw [if_pos g, if_pos g]; exact ⟨rfl, rfl⟩
  · rw [if_neg g, if_neg g, if_neg this, if_neg this]; exact ⟨rfl, rfl⟩
theorem md_good {a b c : Int} (h1 : 0 ≤ a) (h2 : 0 ≤ b) (h3 : 1 ≤ c) (h : a * b / c ≤ 1125899906842624) : mdN a b c = a * b / c ∧ mdE a b c = 0 := by
  unfold mdN mdE
  have g : ¬ (a < 0 ∨ b < 0 ∨ c < 1) := by omega
  rw [if_neg g, if_neg g, if_pos h, if_pos h]; exact ⟨rfl, rfl⟩

/-- ratio.MulDiv, where the numbers are right. -/
theorem muldiv_right (a b c : Int) (a0 : 0 ≤ a) (a1 : a ≤ 9223372036854775807) (b0 : 0 ≤ b) (b1 : b ≤ 9223372036854775807) (c0 : 1 ≤ c) (c1 : c ≤ 9223372036854775807) (w : World) :
    Calls Tryz.prog 145 #[.int .i64 a, .int .i64 b, .int .i64 c] w fun e w' => e = .returned (.tuple #[.int .i64 (mdN a b c), .int .i64 (mdE a b c)]) ∧ Below w.heap.size w w' := by
  have t1 : ¬ a < 0 := by omega
  have t2 : ¬ b < 0 := by omega
  have t3 : ¬ c < 1 := by omega
  have cm := mul64 a b a0 (by omega) b0 (by omega)
  have hab : 0 ≤ a * b := Int.mul_nonneg a0 b0
  have hab1 : a * b < 340282366920938463463374607431768211456 := by
    have := Int.mul_le_mul a1 b1 b0 (by omega)
    omega
  have dv := Int.mul_ediv_add_emod (a * b) c
  have Hgood : Hid (a * b / c ≤ 1125899906842624 → mdN a b c = a * b / c ∧ mdE a b c = 0) := fun h => md_good a0 b0 c0 h
  have Hover : Hid (1125899906842624 < a * b / c → mdN a b c = 0 ∧ mdE a b c = 2) := fun h => md_over h
  have hdv : a * b / 18446744073709551616 ≥ c → 1125899906842624 < a * b / c := fun h => by
    have : 1125899906842625 ≤ a * b / c := by
      rw [Int.le_ediv_iff_mul_le (by omega)]
      omega
    omega
  have hq0 : 0 ≤ a * b / c := Int.ediv_nonneg hab (by omega)
  generalize mdN a b c = X at *
  generalize mdE a b c = Y at *
  clear dv
  generalize a * b = p at *
  obtain ⟨hi, hhi⟩ : ∃ h, p / 18446744073709551616 = h := ⟨_, rfl⟩
  obtain ⟨lo, hlo⟩ : ∃ l, p % 18446744073709551616 = l := ⟨_, rfl⟩
  have hp : hi * 18446744073709551616 + lo = p := by omega
  have hi0 : 0 ≤ hi := by omega
  have lo0 : 0 ≤ lo := by omega
  have lo1 : lo < 18446744073709551616 := by omega
  rw [hhi] at hdv cm
  rw [hlo] at cm
  by_cases hc : c ≤ hi
  · have hX := Hover.out (hdv hc)
    obtain ⟨rfl, rfl⟩ := hX
    clear Hgood Hover hdv hhi hlo hp hab hab1 hq0
    go_enter Tryz.func145, Tryz.ntmps145
    go_wp2_with (go_at_call 159; refine (cm _).mono ?_; rintro e w' ⟨rfl, rfl⟩)
    go_ret2
    exact ⟨rfl, ⟨rfl, rfl, rfl, Nat.le_refl _, fun _ _ => rfl⟩⟩
  · have cd := div64 hi lo c hi0 (by omega) lo0 lo1 (by omega)
    rw [hp] at cd
    obtain ⟨n, hn⟩ : ∃ n, p / c = n := ⟨_, rfl⟩
    rw [hn] at cd Hgood Hover hq0
    by_cases hm : n ≤ 1125899906842624
    · obtain ⟨rfl, rfl⟩ := Hgood.out hm
      have hm' : ¬ 1125899906842624 < X := by omega
      clear Hgood Hover hdv hhi hlo hp hab hab1 hn
      go_enter Tryz.func145, Tryz.ntmps145
      go_wp2_with (first | (go_at_call 159; refine (cm _).mono ?_; rintro e w' ⟨rfl, rfl⟩) | (go_at_call 160; refine (cd _).mono ?_; rintro e w' ⟨r, rfl, hg⟩))
      go_ret2
      exact ⟨rfl, hg⟩
    · obtain ⟨rfl, rfl⟩ := Hover.out (by omega)
      have hm' : 1125899906842624 < n := by omega
      clear Hgood Hover hdv hhi hlo hp hab hab1 hn
      go_enter Tryz.func145, Tryz.ntmps145
      go_wp2_with (first | (go_at_call 159; refine (cm _).mono ?_; rintro e w' ⟨rfl, rfl⟩) | (go_at_call 160; refine (cd _).mono ?_; rintro e w' ⟨r, rfl, hg⟩))
      go_ret2
      exact ⟨rfl, hg⟩

/-- ratio.MulDiv, where a number is not right. -/
theorem muldiv_bad (a b c : Int) (h : a < 0 ∨ b < 0 ∨ c < 1) (w : World) :
    Calls Tryz.prog 145 #[.int .i64 a, .int .i64 b, .int .i64 c] w fun e w' => e = .returned (.tuple #[.int .i64 (mdN a b c), .int .i64 (mdE a b c)]) ∧ Below w.heap.size w w' := by
  obtain ⟨e1, e2⟩ := md_bad h
  rw [e1, e2]
  clear e1 e2
  by_cases t1 : a < 0
  · clear h
    go_enter Tryz.func145, Tryz.ntmps145
    go_wp2
    go_ret2
    exact ⟨rfl, ⟨rfl, rfl, rfl, Nat.le_refl _, fun _ _ => rfl⟩⟩
  · by_cases t2 : b < 0
    · clear h
      go_enter Tryz.func145, Tryz.ntmps145
      go_wp2
      go_ret2
      exact ⟨rfl, ⟨rfl, rfl, rfl, Nat.le_refl _, fun _ _ => rfl⟩⟩
    · have t3 : c < 1 := by omega
      clear h
      go_enter Tryz.func145, Tryz.ntmps145
      go_wp2
      go_ret2
      exact ⟨rfl, ⟨rfl, rfl, rfl, Nat.le_refl _, fun _ _ => rfl⟩⟩

/-- ratio.MulDiv. -/
theorem muldiv (a b c : Int) (a1 : a ≤ 9223372036854775807) (b1 : b ≤ 9223372036854775807) (c1 : c ≤ 9223372036854775807) (w : World) :
    Calls Tryz.prog 145 #[.int .i64 a, .int .i64 b, .int .i64 c] w fun e w' => e = .returned (.tuple #[.int .i64 (mdN a b c), .int .i64 (mdE a b c)]) ∧ Below w.heap.size w w' := by
  by_cases h : a < 0 ∨ b < 0 ∨ c < 1
  · exact muldiv_bad a b c h w
  · exact muldiv_right a b c (by omega) a1 (by omega) b1 (by omega) c1 w

end Go.Proofs.YtjghbciepinofaaGreat.Ra

set_option maxRecDepth 100000
namespace Go.Proofs.YtjghbciepinofaaGreat.Ra
open Go.RowKit

/-- Whether a number is an amount. -/
def inB (n : Int) : Bool := decide (0 ≤ n) && decide (n ≤ 1125899906842624)
theorem inB_true {n : Int} (h0 : 0 ≤ n) (h1 : n ≤ 1125899906842624) : inB n = true := by simp [inB, h0, h1]
theorem inB_low {n : Int} (h : ¬ 0 ≤ n) : inB n = false := by simp [inB, h]
theorem inB_high {n : Int} (h : ¬ n ≤ 1125899906842624) : inB n = false := by simp [inB, h]
theorem inB_iff {n : Int} : inB n = true ↔ 0 ≤ n ∧ n ≤ 1125899906842624 := by simp [inB]

theorem in10 (n : Int) (w : World) : Calls Tryz.prog 121 #[.int .i64 n] w fun e w' => e = .returned (.bool (inB n)) ∧ w' = w := by
  by_cases h0 : 0 ≤ n
  · by_cases h1 : n ≤ 1125899906842624
    · rw [inB_true h0 h1]
      go_enter Tryz.func121, Tryz.ntmps121
      go_wp2
      go_ret
      exact ⟨rfl, rfl⟩
    · rw [inB_high h1]
      go_enter Tryz.func121, Tryz.ntmps121
      go_wp2
      go_ret
      exact ⟨rfl, rfl⟩
  · rw [inB_low h0]
    go_enter Tryz.func121, Tryz.ntmps121
    go_wp2
    go_ret
    exact ⟨rfl, rfl⟩
/-- What Part answers. -/
def ptN (n f : Int) : Int := if inB n = true ∧ 0 ≤ f ∧ f ≤ 1000 then n * f / 1000 else 0
def ptE (n f : Int) : Int := if inB n = true ∧ 0 ≤ f ∧ f ≤ 1000 then 0 else 2
theorem pt_good {n f : Int} (h : inB n = true ∧ 0 ≤ f ∧ f ≤ 1000) : ptN n f = n * f / 1000 ∧ ptE n f = 0 := by unfold ptN ptE; rw [if_pos h, if_pos h]; exact ⟨rfl, rfl⟩
theorem pt_bad {n f : Int} (h : ¬ (inB n = true ∧ 0 ≤ f ∧ f ≤ 1000)) : ptN n f = 0 ∧ ptE n f = 2 := by unfold ptN ptE; rw [if_neg h, if_neg h]; exact ⟨rfl, rfl⟩
theorem pt_le {n f : Int} (h0 : 0 ≤ n) (f0 : 0 ≤ f) (f1 : f ≤ 1000) : 0 ≤ n * f / 1000 ∧ n * f / 1000 ≤ n := by
  have h1 : 0 ≤ n * f := Int.mul_nonneg h0 f0
  have h2 := Int.mul_le_mul_of_nonneg_left f1 h0
  omega
theorem part13 (n f : Int) (w : World) : Calls Tryz.prog 164 #[.int .i64 n, .int .i64 f] w fun e w' => e = .returned (.tuple #[.int .i64 (ptN n f), .int .i64 (ptE n f)]) ∧ Below w.heap.size w w' := by
  have ci := in10 n
  by_cases hi : inB n = true
  · obtain ⟨n0, n1⟩ := inB_iff.1 hi
    by_cases f0 : f < 0
    · obtain ⟨e1, e2⟩ := pt_bad (n := n) (f := f) (by omega)
      rw [e1, e2]
      rw [hi] at ci
      clear e1 e2 hi
      go_enter Tryz.func164, Tryz.ntmps164
      go_wp2_with (go_at_call 121; refine (ci _).mono ?_; rintro e w' ⟨rfl, rfl⟩)
      go_ret2
      exact ⟨rfl, ⟨rfl, rfl, rfl, Nat.le_refl _, fun _ _ => rfl⟩⟩
    · by_cases f1 : 1000 < f
      · obtain ⟨e1, e2⟩ := pt_bad (n := n) (f := f) (by omega)
        rw [e1, e2]
        rw [hi] at ci
        clear e1 e2 hi
        go_enter Tryz.func164, Tryz.ntmps164
        go_wp2_with (go_at_call 121; refine (ci _).mono ?_; rintro e w' ⟨rfl, rfl⟩)
        go_ret2
        exact ⟨rfl, ⟨rfl, rfl, rfl, Nat.le_refl _, fun _ _ => rfl⟩⟩
      · obtain ⟨e1, e2⟩ := pt_good (n := n) (f := f) ⟨hi, by omega, by omega⟩
        have cm := muldiv n f 1000 (by omega) (by omega) (by omega)
        have hl := pt_le (n := n) (f := f) n0 (by omega) (by omega)
        obtain ⟨e3, e4⟩ := md_good (a := n) (b := f) (c := 1000) n0 (by omega) (by omega) (by omega)
        rw [e3, e4] at cm
        rw [e1, e2]
        rw [hi] at ci
        generalize n * f / 1000 = x at *
        clear e1 e2 e3 e4 hi
        go_enter Tryz.func164, Tryz.ntmps164
        go_wp2_with (first | (go_at_call 121; refine (ci _).mono ?_; rintro e w' ⟨rfl, rfl⟩) | (go_at_call 145; refine (cm _).mono ?_; rintro e w' ⟨rfl, hg⟩))
        go_ret2
        exact ⟨rfl, hg⟩
  · obtain ⟨e1, e2⟩ := pt_bad (n := n) (f := f) (by simp [hi])
    rw [e1, e2]
    have hi' : inB n = false := by simpa using hi
    rw [hi'] at ci
    clear e1 e2 hi hi'
    go_enter Tryz.func164, Tryz.ntmps164
    go_wp2_with (go_at_call 121; refine (ci _).mono ?_; rintro e w' ⟨rfl, rfl⟩)
    go_ret2
    exact ⟨rfl, ⟨rfl, rfl, rfl, Nat.le_refl _, fun _ _ => rfl⟩⟩

end Go.Proofs.YtjghbciepinofaaGreat.Ra

set_option maxRecDepth 100000
namespace Go.Proofs.YtjghbciepinofaaGreat
open Go.RowKit
theorem muldiv_any (a b c : Int) (w : World) (a1 : a ≤ 9223372036854775807) (b1 : b ≤ 9223372036854775807) (c1 : c ≤ 9223372036854775807) :
    Calls Tryz.prog 145 #[.int .i64 a, .int .i64 b, .int .i64 c] w fun e w' => e = .returned (.tuple #[.int .i64 (mdN a b c), .int .i64 (mdE a b c)]) ∧ Below w.heap.size w w' := Ra.muldiv a b c a1 b1 c1 w
theorem mdN_bound (a b c : Int) : 0 ≤ mdN a b c ∧ mdN a b c ≤ 1125899906842624 := by
  unfold mdN
  split
  · omega
  · rename_i h
    have h0 : 0 ≤ a * b := Int.mul_nonneg (by omega) (by omega)
    have h1 : 0 ≤ a * b / c := Int.ediv_nonneg h0 (by omega)
    split <;> omega
theorem shN_eq (x : Vd) (n : Int) : shN x n = if x.sh = 0 then n else if x.tok = 0 then 0 else if mdE n x.sh x.tok = 0 ∧ inA (x.sh + mdN n x.sh x.tok) = true then mdN n x.sh x.tok else 0 := rfl
theorem shE_eq (x : Vd) (n : Int) : shE x n = if x.sh = 0 then 0 else if x.tok = 0 then 8 else if mdE n x.sh x.tok = 0 ∧ inA (x.sh + mdN n x.sh x.tok) = true then if mdN n x.sh x.tok = 0 then 8 else 0 else 6 := rfl
set_option maxHeartbeats 1000000 in
theorem sharesFor_any (b o : Nat) (x : Vd) (n : Int) (w : World) (hn : n ≤ 1125899906842624) (hx : vOk x = true) (h0 : w.cell? ⟨b, o, none⟩ = some (.int .i64 x.tok)) (h1 : w.cell? ⟨b, o + 1, none⟩ = some (.int .i64 x.sh)) :
    Calls Tryz.prog 105 #[.pointer (some ⟨b, o, none⟩), .int .i64 n] w fun e w' => e = .returned (.tuple #[.int .i64 (shN x n), .int .i64 (shE x n)]) ∧ Below w.heap.size w w' := by
  obtain ⟨k1, k2, k3⟩ := vOk_amounts hx
  rw [inA_iff] at k1 k2 k3
  have hM := fun w => muldiv_any n x.sh x.tok w (by omega) (by omega) (by omega)
  have hI := inA_any (x.sh + mdN n x.sh x.tok)
  have HN := hide (shN_eq x n)
  have HE := hide (shE_eq x n)
  have hblt : b < w.heap.size := World.block_lt_of_cell? w _ h0
  clear hx
  obtain ⟨xt, xs, xl, xj, xd⟩ := x
  simp only at *
  have hb := mdN_bound n xs xt
  generalize shN ⟨xt, xs, xl, xj, xd⟩ n = rN at *
  generalize shE ⟨xt, xs, xl, xj, xd⟩ n = rE at *
  generalize mdN n xs xt = m at *
  generalize mdE n xs xt = er at *
  generalize inA (xs + m) = t at *
  go_enter Tryz.func105, Tryz.ntmps105
  go_upto_region 5 with fail
  all_goals first
    | (go_ret2; refine ⟨?_, Below.refl _ _⟩; have e1 := HN.out; have e2 := HE.out; simp_all; done)
    | skip
  go_region_held3 (fun wx => wx.cell? ⟨b, o, none⟩ = some (.int .i64 xt) ∧ wx.cell? ⟨b, o + 1, none⟩ = some (.int .i64 xs)) (first | go_keep | (refine ⟨?_, ?_⟩ <;> (rw [hbM.cell hblt]; simp [*])))
    (first | (go_at_call 145; refine (hM _).mono ?_; rintro e w1 ⟨rfl, hbM⟩))
  rename_i hh
  obtain ⟨g0, g1⟩ := hh
  have HB : Hid (Below w.heap.size w w1) := (Below.refl _ w).drew.trans hbM
  clear hbM
  go_wp2_with (go_at_call 121; refine (hI _).mono ?_; rintro e w2 ⟨rfl, rfl⟩)
  all_goals (go_ret2; refine ⟨?_, HB.out⟩; have e1 := HN.out; have e2 := HE.out; clear HN HE hM hI; simp_all)
end Go.Proofs.YtjghbciepinofaaGreat

