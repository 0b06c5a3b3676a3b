/- The walks of math/bits.Mul64, Len64 and LeadingZeros64, as this program calls them. -/
import Derived.Below
import Derived.Test.YtfajfebpchfkoaeProg
import Derived.WalkKit
import Derived.ProofKit
import Derived.Laws.MathBits
set_option maxRecDepth 100000
namespace Go.Proofs.Ytfajfebpchfkoae.Ra
open Go.RowKit

/-- math/bits.Mul64: the product of 128 bits, in two words. -/
theorem mul64 (x y : Int) (hx0 : 0 ≤ x) (hx : x < 18446744073709551616) (hy0 : 0 ≤ y) (hy : y < 18446744073709551616) (w : World) :
    Calls Try.prog 91 #[.int .u64 x, .int .u64 y] w fun e w' => e = .returned (.tuple #[.int .u64 (x * y / 18446744073709551616), .int .u64 (x * y % 18446744073709551616)]) ∧ w' = w := by
  have A := mul64_arith x y hx0 hx hy0 hy
  go_enter Try.func91, Try.ntmps91
  go_wp2
  simp only [IntKind.wrap_u64, and_low32 x hx0 hx, and_low32 y hy0 hy, and_low32 (_ % 18446744073709551616) (Int.emod_nonneg _ (by decide)) (Int.emod_lt_of_pos _ (by decide)), A]
  go_ret2
  exact ⟨rfl, rfl⟩

theorem shift_len (x b : Nat) (h : 2 ^ b ≤ x) : bitLen x = b + bitLen (x / 2 ^ b) :=
  bitLen_shift x b (by have := (Nat.le_div_iff_mul_le (Nat.two_pow_pos b)).2 (show 1 * 2 ^ b ≤ x by omega); omega)

/-- A shift, under a name. -/
theorem shifted (x b p : Nat) (hp : 2 ^ b = p) (h : p ≤ x) : ∃ z : Nat, (x : Int) / p = z ∧ bitLen x = b + bitLen z ∧ z = x / p := by
  subst hp
  exact ⟨x / 2 ^ b, by rw [Int.natCast_ediv], shift_len x b h, rfl⟩

theorem wrap_small (a : Nat) (h : a ≤ 8) : wrap64 (a : Int) = (a : Int) := by unfold wrap64; omega
theorem wrap_sum (k a b : Nat) (hk : k ≤ 56) (h : a ≤ 8) (e : b = k + a) : wrap64 ((k : Int) + (a : Int)) = (b : Int) := by unfold wrap64; omega

set_option maxRecDepth 1000000 in
set_option maxHeartbeats 2000000 in
/-- math/bits.Len64: how many bits a word has. -/
theorem len64 (x : Nat) (hx : x < 18446744073709551616) (w : World) :
    Calls Try.prog 102 #[.int .u64 x] w fun e w' => e = .returned (.int .i64 (bitLen x)) ∧ w' = w := by
  by_cases h0 : 4294967296 ≤ x
  · have i0 : (4294967296 : Int) ≤ (x : Int) := by omega
    obtain ⟨z, q0, e0, f0⟩ := shifted x 32 4294967296 (by decide) h0
    simp only [Int.cast_ofNat_Int] at q0
    by_cases h1 : 65536 ≤ z
    · have i1 : (65536 : Int) ≤ (z : Int) := by omega
      obtain ⟨y, q1, e1, f1⟩ := shifted z 16 65536 (by decide) h1
      simp only [Int.cast_ofNat_Int] at q1
      by_cases h2 : 256 ≤ y
      · have i2 : (256 : Int) ≤ (y : Int) := by omega
        obtain ⟨v, q2, e2, f2⟩ := shifted y 8 256 (by decide) h2
        simp only [Int.cast_ofNat_Int] at q2
        have hb := bitLen_le8 v (by omega)
        have j : (v : Int) < 256 := by omega
        have e : bitLen x = 56 + bitLen v := by clear h0 h1 h2 hx hb j; omega
        have g1 : wrap64 ((bitLen v : Nat) : Int) = (bitLen v : Nat) := wrap_small _ hb
        have g2 : wrap64 (56 + ((bitLen v : Nat) : Int)) = (bitLen x : Nat) := wrap_sum 56 _ _ (by decide) hb e
        clear e
        clear hb h0 h1 h2 hx e0 f0 e1 f1 e2 f2
        go_enter Try.func102, Try.ntmps102
        go_wp2
        simp only [len8tab_get, g1, g2]
        go_ret
        exact ⟨rfl, rfl⟩
      · have i2 : ¬ (256 : Int) ≤ (y : Int) := by omega
        have hb := bitLen_le8 y (by omega)
        have j : (y : Int) < 256 := by omega
        have e : bitLen x = 48 + bitLen y := by clear h0 h1 h2 hx hb j; omega
        have g1 : wrap64 ((bitLen y : Nat) : Int) = (bitLen y : Nat) := wrap_small _ hb
        have g2 : wrap64 (48 + ((bitLen y : Nat) : Int)) = (bitLen x : Nat) := wrap_sum 48 _ _ (by decide) hb e
        clear e
        clear hb h0 h1 h2 hx e0 f0 e1 f1
        go_enter Try.func102, Try.ntmps102
        go_wp2
        simp only [len8tab_get, g1, g2]
        go_ret
        exact ⟨rfl, rfl⟩
    · have i1 : ¬ (65536 : Int) ≤ (z : Int) := by omega
      by_cases h2 : 256 ≤ z
      · have i2 : (256 : Int) ≤ (z : Int) := by omega
        obtain ⟨v, q2, e2, f2⟩ := shifted z 8 256 (by decide) h2
        simp only [Int.cast_ofNat_Int] at q2
        have hb := bitLen_le8 v (by omega)
        have j : (v : Int) < 256 := by omega
        have e : bitLen x = 40 + bitLen v := by clear h0 h1 h2 hx hb j; omega
        have g1 : wrap64 ((bitLen v : Nat) : Int) = (bitLen v : Nat) := wrap_small _ hb
        have g2 : wrap64 (40 + ((bitLen v : Nat) : Int)) = (bitLen x : Nat) := wrap_sum 40 _ _ (by decide) hb e
        clear e
        clear hb h0 h1 h2 hx e0 f0 e2 f2
        go_enter Try.func102, Try.ntmps102
        go_wp2
        simp only [len8tab_get, g1, g2]
        go_ret
        exact ⟨rfl, rfl⟩
      · have i2 : ¬ (256 : Int) ≤ (z : Int) := by omega
        have hb := bitLen_le8 z (by omega)
        have j : (z : Int) < 256 := by omega
        have e : bitLen x = 32 + bitLen z := by clear h0 h1 h2 hx hb j; omega
        have g1 : wrap64 ((bitLen z : Nat) : Int) = (bitLen z : Nat) := wrap_small _ hb
        have g2 : wrap64 (32 + ((bitLen z : Nat) : Int)) = (bitLen x : Nat) := wrap_sum 32 _ _ (by decide) hb e
        clear e
        clear hb h0 h1 h2 hx e0 f0
        go_enter Try.func102, Try.ntmps102
        go_wp2
        simp only [len8tab_get, g1, g2]
        go_ret
        exact ⟨rfl, rfl⟩
  · have i0 : ¬ (4294967296 : Int) ≤ (x : Int) := by omega
    by_cases h1 : 65536 ≤ x
    · have i1 : (65536 : Int) ≤ (x : Int) := by omega
      obtain ⟨y, q1, e1, f1⟩ := shifted x 16 65536 (by decide) h1
      simp only [Int.cast_ofNat_Int] at q1
      by_cases h2 : 256 ≤ y
      · have i2 : (256 : Int) ≤ (y : Int) := by omega
        obtain ⟨v, q2, e2, f2⟩ := shifted y 8 256 (by decide) h2
        simp only [Int.cast_ofNat_Int] at q2
        have hb := bitLen_le8 v (by omega)
        have j : (v : Int) < 256 := by omega
        have e : bitLen x = 24 + bitLen v := by clear h0 h1 h2 hx hb j; omega
        have g1 : wrap64 ((bitLen v : Nat) : Int) = (bitLen v : Nat) := wrap_small _ hb
        have g2 : wrap64 (24 + ((bitLen v : Nat) : Int)) = (bitLen x : Nat) := wrap_sum 24 _ _ (by decide) hb e
        clear e
        clear hb h0 h1 h2 hx e1 f1 e2 f2
        go_enter Try.func102, Try.ntmps102
        go_wp2
        simp only [len8tab_get, g1, g2]
        go_ret
        exact ⟨rfl, rfl⟩
      · have i2 : ¬ (256 : Int) ≤ (y : Int) := by omega
        have hb := bitLen_le8 y (by omega)
        have j : (y : Int) < 256 := by omega
        have e : bitLen x = 16 + bitLen y := by clear h0 h1 h2 hx hb j; omega
        have g1 : wrap64 ((bitLen y : Nat) : Int) = (bitLen y : Nat) := wrap_small _ hb
        have g2 : wrap64 (16 + ((bitLen y : Nat) : Int)) = (bitLen x : Nat) := wrap_sum 16 _ _ (by decide) hb e
        clear e
        clear hb h0 h1 h2 hx e1 f1
        go_enter Try.func102, Try.ntmps102
        go_wp2
        simp only [len8tab_get, g1, g2]
        go_ret
        exact ⟨rfl, rfl⟩
    · have i1 : ¬ (65536 : Int) ≤ (x : Int) := by omega
      by_cases h2 : 256 ≤ x
      · have i2 : (256 : Int) ≤ (x : Int) := by omega
        obtain ⟨v, q2, e2, f2⟩ := shifted x 8 256 (by decide) h2
        simp only [Int.cast_ofNat_Int] at q2
        have hb := bitLen_le8 v (by omega)
        have j : (v : Int) < 256 := by omega
        have e : bitLen x = 8 + bitLen v := by clear h0 h1 h2 hx hb j; omega
        have g1 : wrap64 ((bitLen v : Nat) : Int) = (bitLen v : Nat) := wrap_small _ hb
        have g2 : wrap64 (8 + ((bitLen v : Nat) : Int)) = (bitLen x : Nat) := wrap_sum 8 _ _ (by decide) hb e
        clear e
        clear hb h0 h1 h2 hx e2 f2
        go_enter Try.func102, Try.ntmps102
        go_wp2
        simp only [len8tab_get, g1, g2]
        go_ret
        exact ⟨rfl, rfl⟩
      · have i2 : ¬ (256 : Int) ≤ (x : Int) := by omega
        have hb := bitLen_le8 x (by omega)
        have j : (x : Int) < 256 := by omega
        have g1 : wrap64 ((bitLen x : Nat) : Int) = (bitLen x : Nat) := wrap_small _ hb
        clear hb h0 h1 h2 hx 
        go_enter Try.func102, Try.ntmps102
        go_wp2
        simp only [len8tab_get, g1]
        go_ret
        exact ⟨rfl, rfl⟩

/-- math/bits.LeadingZeros64. -/
theorem leading64 (x : Nat) (hx : x < 18446744073709551616) (hl : bitLen x ≤ 64) (w : World) :
    Calls Try.prog 104 #[.int .u64 x] w fun e w' => e = .returned (.int .i64 (64 - bitLen x)) ∧ w' = w := by
  have c := len64 x hx w
  generalize bitLen x = n at *
  go_enter Try.func104, Try.ntmps104
  go_wp2_with (go_at_call 102; refine c.mono ?_; rintro e w' ⟨rfl, rfl⟩)
  go_ret
  exact ⟨rfl, rfl⟩

end Go.Proofs.Ytfajfebpchfkoae.Ra
