/- Parts of the proof: RA RD RE RG1. -/
import Derived.Test.YtkhlihpghbhppaaGreatRows
import Derived.Test.YtkhlihpghbhppaaGreatProviderHearsK49
import Derived.Below
import Derived.Test.YtkhlihpghbhppaaGreatProg
import Derived.WalkKit
import Derived.ProofKit
import Derived.Laws.MathBits
import Derived.RowKit3
import Derived.BigQuiet
set_option maxRecDepth 100000
namespace Go.Proofs.YtkhlihpghbhppaaGreat.Ra
open Go.RowKit

/-- math/bits.Mul64: the product of 128 bits, in two words. -/
theorem mul64 (x y : Int) (hx0 : 0 ≤ x) (hx : x < 18446744073709551616) (hy0 : 0 ≤ y) (hy : y < 18446744073709551616) (w : World) :
    Calls Tryz.prog 184 #[.int .u64 x, .int .u64 y] w fun e w' => e = .returned (.tuple #[.int .u64 (x * y / 18446744073709551616), .int .u64 (x * y % 18446744073709551616)]) ∧ w' = w := by
  have A := mul64_arith x y hx0 hx hy0 hy
  go_enter Tryz.func184, Tryz.ntmps184
  go_wp2
  simp only [IntKind.wrap_u64, and_low32 x hx0 hx, and_low32 y hy0 hy, and_low32 (_ % 18446744073709551616) (Int.emod_nonneg _ (by decide)) (Int.emod_lt_of_pos _ (by decide)), A]
  go_ret2
  exact ⟨rfl, rfl⟩

theorem shift_len (x b : Nat) (h : 2 ^ b ≤ x) : bitLen x = b + bitLen (x / 2 ^ b) :=
  bitLen_shift x b (by have := (Nat.le_div_iff_mul_le (Nat.two_pow_pos b)).2 (show 1 * 2 ^ b ≤ x by omega); omega)

/-- A shift, under a name. -/
theorem shifted (x b p : Nat) (hp : 2 ^ b = p) (h : p ≤ x) : ∃ z : Nat, (x : Int) / p = z ∧ bitLen x = b + bitLen z ∧ z = x / p := by
  subst hp
  exact ⟨x / 2 ^ b, by rw [Int.natCast_ediv], shift_len x b h, rfl⟩

theorem wrap_small (a : Nat) (h : a ≤ 8) : wrap64 (a : Int) = (a : Int) := by unfold wrap64; omega
theorem wrap_sum (k a b : Nat) (hk : k ≤ 56) (h : a ≤ 8) (e : b = k + a) : wrap64 ((k : Int) + (a : Int)) = (b : Int) := by unfold wrap64; omega

set_option maxRecDepth 1000000 in
set_option maxHeartbeats 2000000 in
/-- math/bits.Len64: how many bits a word has. -/
theorem len64 (x : Nat) (hx : x < 18446744073709551616) (w : World) :
    Calls Tryz.prog 182 #[.int .u64 x] w fun e w' => e = .returned (.int .i64 (bitLen x)) ∧ w' = w := by
  by_cases h0 : 4294967296 ≤ x
  · have i0 : (4294967296 : Int) ≤ (x : Int) := by omega
    obtain ⟨z, q0, e0, f0⟩ := shifted x 32 4294967296 (by decide) h0
    simp only [Int.cast_ofNat_Int] at q0
    by_cases h1 : 65536 ≤ z
    · have i1 : (65536 : Int) ≤ (z : Int) := by omega
      obtain ⟨y, q1, e1, f1⟩ := shifted z 16 65536 (by decide) h1
      simp only [Int.cast_ofNat_Int] at q1
      by_cases h2 : 256 ≤ y
      · have i2 : (256 : Int) ≤ (y : Int) := by omega
        obtain ⟨v, q2, e2, f2⟩ := shifted y 8 256 (by decide) h2
        simp only [Int.cast_ofNat_Int] at q2
        have hb := bitLen_le8 v (by omega)
        have j : (v : Int) < 256 := by omega
        have e : bitLen x = 56 + bitLen v := by clear h0 h1 h2 hx hb j; omega
        have g1 : wrap64 ((bitLen v : Nat) : Int) = (bitLen v : Nat) := wrap_small _ hb
        have g2 : wrap64 (56 + ((bitLen v : Nat) : Int)) = (bitLen x : Nat) := wrap_sum 56 _ _ (by decide) hb e
        clear e
        clear hb h0 h1 h2 hx e0 f0 e1 f1 e2 f2
        go_enter Tryz.func182, Tryz.ntmps182
        go_wp2
        simp only [len8tab_get, g1, g2]
        go_ret
        exact ⟨rfl, rfl⟩
      · have i2 : ¬ (256 : Int) ≤ (y : Int) := by omega
        have hb := bitLen_le8 y (by omega)
        have j : (y : Int) < 256 := by omega
        have e : bitLen x = 48 + bitLen y := by clear h0 h1 h2 hx hb j; omega
        have g1 : wrap64 ((bitLen y : Nat) : Int) = (bitLen y : Nat) := wrap_small _ hb
        have g2 : wrap64 (48 + ((bitLen y : Nat) : Int)) = (bitLen x : Nat) := wrap_sum 48 _ _ (by decide) hb e
        clear e
        clear hb h0 h1 h2 hx e0 f0 e1 f1
        go_enter Tryz.func182, Tryz.ntmps182
        go_wp2
        simp only [len8tab_get, g1, g2]
        go_ret
        exact ⟨rfl, rfl⟩
    · have i1 : ¬ (65536 : Int) ≤ (z : Int) := by omega
      by_cases h2 : 256 ≤ z
      · have i2 : (256 : Int) ≤ (z : Int) := by omega
        obtain ⟨v, q2, e2, f2⟩ := shifted z 8 256 (by decide) h2
        simp only [Int.cast_ofNat_Int] at q2
        have hb := bitLen_le8 v (by omega)
        have j : (v : Int) < 256 := by omega
        have e : bitLen x = 40 + bitLen v := by clear h0 h1 h2 hx hb j; omega
        have g1 : wrap64 ((bitLen v : Nat) : Int) = (bitLen v : Nat) := wrap_small _ hb
        have g2 : wrap64 (40 + ((bitLen v : Nat) : Int)) = (bitLen x : Nat) := wrap_sum 40 _ _ (by decide) hb e
        clear e
        clear hb h0 h1 h2 hx e0 f0 e2 f2
        go_enter Tryz.func182, Tryz.ntmps182
        go_wp2
        simp only [len8tab_get, g1, g2]
        go_ret
        exact ⟨rfl, rfl⟩
      · have i2 : ¬ (256 : Int) ≤ (z : Int) := by omega
        have hb := bitLen_le8 z (by omega)
        have j : (z : Int) < 256 := by omega
        have e : bitLen x = 32 + bitLen z := by clear h0 h1 h2 hx hb j; omega
        have g1 : wrap64 ((bitLen z : Nat) : Int) = (bitLen z : Nat) := wrap_small _ hb
        have g2 : wrap64 (32 + ((bitLen z : Nat) : Int)) = (bitLen x : Nat) := wrap_sum 32 _ _ (by decide) hb e
        clear e
        clear hb h0 h1 h2 hx e0 f0
        go_enter Tryz.func182, Tryz.ntmps182
        go_wp2
        simp only [len8tab_get, g1, g2]
        go_ret
        exact ⟨rfl, rfl⟩
  · have i0 : ¬ (4294967296 : Int) ≤ (x : Int) := by omega
    by_cases h1 : 65536 ≤ x
    · have i1 : (65536 : Int) ≤ (x : Int) := by omega
      obtain ⟨y, q1, e1, f1⟩ := shifted x 16 65536 (by decide) h1
      simp only [Int.cast_ofNat_Int] at q1
      by_cases h2 : 256 ≤ y
      · have i2 : (256 : Int) ≤ (y : Int) := by omega
        obtain ⟨v, q2, e2, f2⟩ := shifted y 8 256 (by decide) h2
        simp only [Int.cast_ofNat_Int] at q2
        have hb := bitLen_le8 v (by omega)
        have j : (v : Int) < 256 := by omega
        have e : bitLen x = 24 + bitLen v := by clear h0 h1 h2 hx hb j; omega
        have g1 : wrap64 ((bitLen v : Nat) : Int) = (bitLen v : Nat) := wrap_small _ hb
        have g2 : wrap64 (24 + ((bitLen v : Nat) : Int)) = (bitLen x : Nat) := wrap_sum 24 _ _ (by decide) hb e
        clear e
        clear hb h0 h1 h2 hx e1 f1 e2 f2
        go_enter Tryz.func182, Tryz.ntmps182
        go_wp2
        simp only [len8tab_get, g1, g2]
        go_ret
        exact ⟨rfl, rfl⟩
      · have i2 : ¬ (256 : Int) ≤ (y : Int) := by omega
        have hb := bitLen_le8 y (by omega)
        have j : (y : Int) < 256 := by omega
        have e : bitLen x = 16 + bitLen y := by clear h0 h1 h2 hx hb j; omega
        have g1 : wrap64 ((bitLen y : Nat) : Int) = (bitLen y : Nat) := wrap_small _ hb
        have g2 : wrap64 (16 + ((bitLen y : Nat) : Int)) = (bitLen x : Nat) := wrap_sum 16 _ _ (by decide) hb e
        clear e
        clear hb h0 h1 h2 hx e1 f1
        go_enter Tryz.func182, Tryz.ntmps182
        go_wp2
        simp only [len8tab_get, g1, g2]
        go_ret
        exact ⟨rfl, rfl⟩
    · have i1 : ¬ (65536 : Int) ≤ (x : Int) := by omega
      by_cases h2 : 256 ≤ x
      · have i2 : (256 : Int) ≤ (x : Int) := by omega
        obtain ⟨v, q2, e2, f2⟩ := shifted x 8 256 (by decide) h2
        simp only [Int.cast_ofNat_Int] at q2
        have hb := bitLen_le8 v (by omega)
        have j : (v : Int) < 256 := by omega
        have e : bitLen x = 8 + bitLen v := by clear h0 h1 h2 hx hb j; omega
        have g1 : wrap64 ((bitLen v : Nat) : Int) = (bitLen v : Nat) := wrap_small _ hb
        have g2 : wrap64 (8 + ((bitLen v : Nat) : Int)) = (bitLen x : Nat) := wrap_sum 8 _ _ (by decide) hb e
        clear e
        clear hb h0 h1 h2 hx e2 f2
        go_enter Tryz.func182, Tryz.ntmps182
        go_wp2
        simp only [len8tab_get, g1, g2]
        go_ret
        exact ⟨rfl, rfl⟩
      · have i2 : ¬ (256 : Int) ≤ (x : Int) := by omega
        have hb := bitLen_le8 x (by omega)
        have j : (x : Int) < 256 := by omega
        have g1 : wrap64 ((bitLen x : Nat) : Int) = (bitLen x : Nat) := wrap_small _ hb
        clear hb h0 h1 h2 hx 
        go_enter Tryz.func182, Tryz.ntmps182
        go_wp2
        simp only [len8tab_get, g1]
        go_ret
        exact ⟨rfl, rfl⟩

/-- math/bits.LeadingZeros64. -/
theorem leading64 (x : Nat) (hx : x < 18446744073709551616) (hl : bitLen x ≤ 64) (w : World) :
    Calls Tryz.prog 194 #[.int .u64 x] w fun e w' => e = .returned (.int .i64 (64 - bitLen x)) ∧ w' = w := by
  have c := len64 x hx w
  generalize bitLen x = n at *
  go_enter Tryz.func194, Tryz.ntmps194
  go_wp2_with (go_at_call 182; refine c.mono ?_; rintro e w' ⟨rfl, rfl⟩)
  go_ret
  exact ⟨rfl, rfl⟩

end Go.Proofs.YtkhlihpghbhppaaGreat.Ra

set_option maxRecDepth 100000
namespace Go.Proofs.YtkhlihpghbhppaaGreat.Ra
open Go.RowKit

set_option maxHeartbeats 4000000 in
theorem div64_core (hi lo y Y y1 y0 H L u N u1 u0 Q1 R1 Q0 : Int) (s : Nat) (h0 : 0 < hi) (h1 : hi < y) (hs1 : 1 ≤ s) (hs2 : s ≤ 63)
    (eY : IntKind.u64.wrap (y * 2 ^ s) = Y) (ey1 : Y / 4294967296 = y1) (ey0 : bits .and .u64 Y 4294967295 = y0)
    (eH : IntKind.u64.wrap (hi * 2 ^ s) = H) (eL : lo / 2 ^ (64 - s) = L) (eu : bits .or .u64 H L = u)
    (eN : IntKind.u64.wrap (lo * 2 ^ s) = N) (eu1 : N / 4294967296 = u1) (eu0 : bits .and .u64 N 4294967295 = u0)
    (by0 : 0 ≤ y0) (by0' : y0 < 4294967296) (by1 : 2147483648 ≤ y1) (by1' : y1 < 4294967296) (bu : 0 ≤ u) (HY : Hid (Y = y1 * 4294967296 + y0)) (HU : Hid (u < y1 * 4294967296 + y0))
    (bu1 : 0 ≤ u1) (bu1' : u1 < 4294967296) (bu0 : 0 ≤ u0) (bu0' : u0 < 4294967296)
    (HQ1 : Hid (Q1 = (u * 4294967296 + u1) / (y1 * 4294967296 + y0))) (HR1 : Hid (R1 = (u * 4294967296 + u1) % (y1 * 4294967296 + y0))) (HQ0 : Hid (Q0 = (R1 * 4294967296 + u0) / (y1 * 4294967296 + y0)))
    (c : ∀ w, Calls Tryz.prog 194 #[.int .u64 y] w fun e w' => e = .returned (.int .i64 s) ∧ w' = w) (w : World) :
    Calls Tryz.prog 185 #[.int .u64 hi, .int .u64 lo, .int .u64 y] w fun e w' => ∃ r, e = .returned (.tuple #[.int .u64 (Q1 * 4294967296 + Q0), .int .u64 r]) ∧ Below w.heap.size w w' := by
  have t1 : (y == 0) = false := by simp; omega
  have t2 : ¬ y ≤ hi := by omega
  have t3 : (hi == 0) = false := by simp; omega
  have t4 : ¬ y1 = 0 := by omega
  have bR : 0 ≤ R1 := by rw [HR1.out]; exact Int.emod_nonneg _ (by omega)
  have HR : Hid (R1 < y1 * 4294967296 + y0) := by show _ < _; rw [HR1.out]; exact Int.emod_lt_of_pos _ (by omega)
  obtain ⟨D1, a0, a1, p0, p1, d1⟩ := Dig.first y1 y0 u u1 Q1 by0 by0' by1 by1' bu HU.out bu1 bu1' HQ1.out
  obtain ⟨D2, b0, b1, v0, v1, d2⟩ := Dig.first y1 y0 R1 u0 Q0 by0 by0' by1 by1' bR HR.out bu0 bu0' HQ0.out
  have ed : u.tdiv y1 = u / y1 := Int.tdiv_eq_ediv_of_nonneg bu
  have ed2 : R1.tdiv y1 = R1 / y1 := Int.tdiv_eq_ediv_of_nonneg bR
  have bU : u < 18446744073709551616 := by have := HU.out; omega
  have bRr : R1 < 18446744073709551616 := by have := HR.out; omega
  have gd : 0 ≤ u / y1 ∧ u / y1 ≤ 4294967297 := ⟨D1.2.2.1, D1.2.2.2.1⟩
  have gm : 0 ≤ u % y1 ∧ u % y1 < 4294967296 := ⟨D1.2.2.2.2.1, D1.2.2.2.2.2⟩
  have gd2 : 0 ≤ R1 / y1 ∧ R1 / y1 ≤ 4294967297 := ⟨D2.2.2.1, D2.2.2.2.1⟩
  have gm2 : 0 ≤ R1 % y1 ∧ R1 % y1 < 4294967296 := ⟨D2.2.2.2.2.1, D2.2.2.2.2.2⟩
  -- what the text reckons between the loops
  obtain ⟨A, eA⟩ : ∃ A, IntKind.u64.wrap (u * 4294967296) = A := ⟨_, rfl⟩
  obtain ⟨B, eB⟩ : ∃ B, IntKind.u64.wrap (A + u1) = B := ⟨_, rfl⟩
  obtain ⟨C, eC⟩ : ∃ C, IntKind.u64.wrap (Q1 * Y) = C := ⟨_, rfl⟩
  have eD : IntKind.u64.wrap (B - C) = R1 := by
    have e := Int.mul_ediv_add_emod (u * 4294967296 + u1) (y1 * 4294967296 + y0)
    rw [← HR1.out, ← HQ1.out, ← HY.out, Int.mul_comm Y Q1] at e
    rw [← eB, ← eC, ← eA]
    simp only [IntKind.wrap_u64]
    generalize Q1 * Y = z at *
    omega
  obtain ⟨E1, eE⟩ : ∃ E, IntKind.u64.wrap (Q1 * 4294967296) = E := ⟨_, rfl⟩
  have eF : IntKind.u64.wrap (E1 + Q0) = Q1 * 4294967296 + Q0 := by
    rw [← eE]
    simp only [IntKind.wrap_u64]
    omega
  obtain ⟨q, hq⟩ : ∃ q, u / y1 = q := ⟨_, rfl⟩
  obtain ⟨r, hr⟩ : ∃ r, u % y1 = r := ⟨_, rfl⟩
  rw [hq] at gd ed D1 p0 p1 d1
  rw [hr] at gm d1 D1
  obtain ⟨p, hp⟩ : ∃ p, q * y1 = p := ⟨_, rfl⟩
  rw [hp] at p0 p1 d1
  have eq1 : IntKind.u64.wrap q = q := by rw [IntKind.wrap_u64]; omega
  have ep : IntKind.u64.wrap p = p := by rw [IntKind.wrap_u64]; omega
  have er : IntKind.u64.wrap (u - p) = r := by rw [IntKind.wrap_u64]; omega
  obtain ⟨q', hq'⟩ : ∃ q, R1 / y1 = q := ⟨_, rfl⟩
  obtain ⟨r', hr'⟩ : ∃ r, R1 % y1 = r := ⟨_, rfl⟩
  rw [hq'] at gd2 ed2 D2 v0 v1 d2
  rw [hr'] at gm2 d2 D2
  obtain ⟨p', hp'⟩ : ∃ p, q' * y1 = p := ⟨_, rfl⟩
  rw [hp'] at v0 v1 d2
  have eq2 : IntKind.u64.wrap q' = q' := by rw [IntKind.wrap_u64]; omega
  have ep2 : IntKind.u64.wrap p' = p' := by rw [IntKind.wrap_u64]; omega
  have er2 : IntKind.u64.wrap (R1 - p') = r' := by rw [IntKind.wrap_u64]; omega
  have HD : Hid (Dig y1 u Q1 q r) := D1
  have HD2 : Hid (Dig y1 R1 Q0 q' r') := D2
  clear D1 hr hq d1 D2 hr' hq' d2
  go_enter Tryz.func185, Tryz.ntmps185
  go_wp2_with (go_at_call 194; refine (c _).mono ?_; rintro e w' ⟨rfl, rfl⟩)
  clear eY ey1 ey0 eH eL eu eN eu1 eu0 ed hp ep er c gd gm p0 p1 eq1 t1 t2 t3
  go_loop [15, 16] (fun a b => ∃ q r : Int, a = .int .u64 q ∧ b = .int .u64 r ∧ Hid (Dig y1 u Q1 q r)) (fun a _ => (intOf a).toNat)
  case atStart => exact ⟨q, r, rfl, rfl, HD⟩
  case round =>
    obtain ⟨a1, b1, rfl, rfl, D1⟩ := hrel
    have ga1 : 0 ≤ a1 ∧ a1 ≤ 4294967297 ∧ 0 ≤ b1 ∧ b1 < 4294967296 ∧ Q1 ≤ a1 := ⟨D1.out.2.2.1, D1.out.2.2.2.1, D1.out.2.2.2.2.1, D1.out.2.2.2.2.2, D1.out.2.1⟩
    obtain ⟨ga1, ga2, ga3, ga4, ga5⟩ := ga1
    by_cases hlt : Q1 < a1
    · by_cases hbig : 4294967296 ≤ a1
      · skip
        have hm : IntKind.u64.wrap (a1 - 1) = a1 - 1 := by rw [IntKind.wrap_u64]; omega
        have hp : IntKind.u64.wrap (b1 + y1) = b1 + y1 := by rw [IntKind.wrap_u64]; omega
        by_cases hr : 4294967296 ≤ b1 + y1
        · have hl := D1.out.last hlt by0 by0' bu1 (by omega) HQ1.out hr
          obtain rfl : a1 = Q1 + 1 := by omega
          have hm2 : IntKind.u64.wrap (Q1 + 1 - 1) = Q1 := by rw [IntKind.wrap_u64]; omega
          clear D1 hl hm 
          go_wp2
          go_loop [18, 16] (fun a b => ∃ q r : Int, a = .int .u64 q ∧ b = .int .u64 r ∧ Hid (Dig y1 R1 Q0 q r)) (fun a _ => (intOf a).toNat)
          case atStart => exact ⟨q', r', rfl, rfl, HD2⟩
          case round =>
            obtain ⟨a2, b2, rfl, rfl, D2⟩ := hrel
            have ga2 : 0 ≤ a2 ∧ a2 ≤ 4294967297 ∧ 0 ≤ b2 ∧ b2 < 4294967296 ∧ Q0 ≤ a2 := ⟨D2.out.2.2.1, D2.out.2.2.2.1, D2.out.2.2.2.2.1, D2.out.2.2.2.2.2, D2.out.2.1⟩
            obtain ⟨ga1, ga2, ga3, ga4, ga5⟩ := ga2
            by_cases hlt : Q0 < a2
            · by_cases hbig : 4294967296 ≤ a2
              · skip
                have hm : IntKind.u64.wrap (a2 - 1) = a2 - 1 := by rw [IntKind.wrap_u64]; omega
                have hp : IntKind.u64.wrap (b2 + y1) = b2 + y1 := by rw [IntKind.wrap_u64]; omega
                by_cases hr : 4294967296 ≤ b2 + y1
                · have hl := D2.out.last hlt by0 by0' bu0 (by omega) HQ0.out hr
                  obtain rfl : a2 = Q0 + 1 := by omega
                  have hm2 : IntKind.u64.wrap (Q0 + 1 - 1) = Q0 := by rw [IntKind.wrap_u64]; omega
                  clear D2 hl hm 
                  go_wp2
                  go_ret2
                  exact ⟨⟨_, rfl⟩, ⟨rfl, rfl, rfl, Nat.le_refl _, fun _ _ => rfl⟩⟩
                · have HN : Hid (Dig y1 R1 Q0 (a2 - 1) (b2 + y1)) := D2.out.next hlt (by omega) (by omega) (by omega)
                  clear D2
                  go_wp2
                  go_round
                  case rel => exact ⟨_, _, rfl, rfl, HN⟩
                  case measure => simp [intOf]; omega
              · skip
                have hP := D2.out.prod by0 by0'
                have hG := D2.out.gt (y0 := y0) (u1 := u0) (by omega) HQ0.out
                obtain ⟨P, eP⟩ : ∃ P, a2 * y0 = P := ⟨_, rfl⟩
                rw [eP] at hP hG
                have wP : IntKind.u64.wrap P = P := by rw [IntKind.wrap_u64]; omega
                have wT : IntKind.u64.wrap (4294967296 * b2) = 4294967296 * b2 := by rw [IntKind.wrap_u64]; omega
                have wS : IntKind.u64.wrap (4294967296 * b2 + u0) = 4294967296 * b2 + u0 := by rw [IntKind.wrap_u64]; omega
                have hS : 4294967296 * b2 + u0 < P := hG.2 hlt
                clear hG hP
                have hm : IntKind.u64.wrap (a2 - 1) = a2 - 1 := by rw [IntKind.wrap_u64]; omega
                have hp : IntKind.u64.wrap (b2 + y1) = b2 + y1 := by rw [IntKind.wrap_u64]; omega
                by_cases hr : 4294967296 ≤ b2 + y1
                · have hl := D2.out.last hlt by0 by0' bu0 (by omega) HQ0.out hr
                  obtain rfl : a2 = Q0 + 1 := by omega
                  have hm2 : IntKind.u64.wrap (Q0 + 1 - 1) = Q0 := by rw [IntKind.wrap_u64]; omega
                  clear D2 hl hm 
                  go_wp2
                  go_ret2
                  exact ⟨⟨_, rfl⟩, ⟨rfl, rfl, rfl, Nat.le_refl _, fun _ _ => rfl⟩⟩
                · have HN : Hid (Dig y1 R1 Q0 (a2 - 1) (b2 + y1)) := D2.out.next hlt (by omega) (by omega) (by omega)
                  clear D2
                  go_wp2
                  go_round
                  case rel => exact ⟨_, _, rfl, rfl, HN⟩
                  case measure => simp [intOf]; omega
            · obtain rfl : Q0 = a2 := by omega
              have hbig : ¬ 4294967296 ≤ Q0 := by omega
              have hP := D2.out.prod by0 by0'
              have hG := D2.out.gt (y0 := y0) (u1 := u0) (by omega) HQ0.out
              obtain ⟨P, eP⟩ : ∃ P, Q0 * y0 = P := ⟨_, rfl⟩
              rw [eP] at hP hG
              have wP : IntKind.u64.wrap P = P := by rw [IntKind.wrap_u64]; omega
              have wT : IntKind.u64.wrap (4294967296 * b2) = 4294967296 * b2 := by rw [IntKind.wrap_u64]; omega
              have wS : IntKind.u64.wrap (4294967296 * b2 + u0) = 4294967296 * b2 + u0 := by rw [IntKind.wrap_u64]; omega
              have hS : ¬ 4294967296 * b2 + u0 < P := fun h => hlt (hG.1 h)
              clear hG hP D2
              go_wp2
              go_ret2
              exact ⟨⟨_, rfl⟩, ⟨rfl, rfl, rfl, Nat.le_refl _, fun _ _ => rfl⟩⟩
        · have HN : Hid (Dig y1 u Q1 (a1 - 1) (b1 + y1)) := D1.out.next hlt (by omega) (by omega) (by omega)
          clear D1
          go_wp2
          go_round
          case rel => exact ⟨_, _, rfl, rfl, HN⟩
          case measure => simp [intOf]; omega
      · skip
        have hP := D1.out.prod by0 by0'
        have hG := D1.out.gt (y0 := y0) (u1 := u1) (by omega) HQ1.out
        obtain ⟨P, eP⟩ : ∃ P, a1 * y0 = P := ⟨_, rfl⟩
        rw [eP] at hP hG
        have wP : IntKind.u64.wrap P = P := by rw [IntKind.wrap_u64]; omega
        have wT : IntKind.u64.wrap (4294967296 * b1) = 4294967296 * b1 := by rw [IntKind.wrap_u64]; omega
        have wS : IntKind.u64.wrap (4294967296 * b1 + u1) = 4294967296 * b1 + u1 := by rw [IntKind.wrap_u64]; omega
        have hS : 4294967296 * b1 + u1 < P := hG.2 hlt
        clear hG hP
        have hm : IntKind.u64.wrap (a1 - 1) = a1 - 1 := by rw [IntKind.wrap_u64]; omega
        have hp : IntKind.u64.wrap (b1 + y1) = b1 + y1 := by rw [IntKind.wrap_u64]; omega
        by_cases hr : 4294967296 ≤ b1 + y1
        · have hl := D1.out.last hlt by0 by0' bu1 (by omega) HQ1.out hr
          obtain rfl : a1 = Q1 + 1 := by omega
          have hm2 : IntKind.u64.wrap (Q1 + 1 - 1) = Q1 := by rw [IntKind.wrap_u64]; omega
          clear D1 hl hm 
          go_wp2
          go_loop [18, 16] (fun a b => ∃ q r : Int, a = .int .u64 q ∧ b = .int .u64 r ∧ Hid (Dig y1 R1 Q0 q r)) (fun a _ => (intOf a).toNat)
          case atStart => exact ⟨q', r', rfl, rfl, HD2⟩
          case round =>
            obtain ⟨a2, b2, rfl, rfl, D2⟩ := hrel
            have ga2 : 0 ≤ a2 ∧ a2 ≤ 4294967297 ∧ 0 ≤ b2 ∧ b2 < 4294967296 ∧ Q0 ≤ a2 := ⟨D2.out.2.2.1, D2.out.2.2.2.1, D2.out.2.2.2.2.1, D2.out.2.2.2.2.2, D2.out.2.1⟩
            obtain ⟨ga1, ga2, ga3, ga4, ga5⟩ := ga2
            by_cases hlt : Q0 < a2
            · by_cases hbig : 4294967296 ≤ a2
              · skip
                have hm : IntKind.u64.wrap (a2 - 1) = a2 - 1 := by rw [IntKind.wrap_u64]; omega
                have hp : IntKind.u64.wrap (b2 + y1) = b2 + y1 := by rw [IntKind.wrap_u64]; omega
                by_cases hr : 4294967296 ≤ b2 + y1
                · have hl := D2.out.last hlt by0 by0' bu0 (by omega) HQ0.out hr
                  obtain rfl : a2 = Q0 + 1 := by omega
                  have hm2 : IntKind.u64.wrap (Q0 + 1 - 1) = Q0 := by rw [IntKind.wrap_u64]; omega
                  clear D2 hl hm 
                  go_wp2
                  go_ret2
                  exact ⟨⟨_, rfl⟩, ⟨rfl, rfl, rfl, Nat.le_refl _, fun _ _ => rfl⟩⟩
                · have HN : Hid (Dig y1 R1 Q0 (a2 - 1) (b2 + y1)) := D2.out.next hlt (by omega) (by omega) (by omega)
                  clear D2
                  go_wp2
                  go_round
                  case rel => exact ⟨_, _, rfl, rfl, HN⟩
                  case measure => simp [intOf]; omega
              · skip
                have hP := D2.out.prod by0 by0'
                have hG := D2.out.gt (y0 := y0) (u1 := u0) (by omega) HQ0.out
                obtain ⟨P, eP⟩ : ∃ P, a2 * y0 = P := ⟨_, rfl⟩
                rw [eP] at hP hG
                have wP : IntKind.u64.wrap P = P := by rw [IntKind.wrap_u64]; omega
                have wT : IntKind.u64.wrap (4294967296 * b2) = 4294967296 * b2 := by rw [IntKind.wrap_u64]; omega
                have wS : IntKind.u64.wrap (4294967296 * b2 + u0) = 4294967296 * b2 + u0 := by rw [IntKind.wrap_u64]; omega
                have hS : 4294967296 * b2 + u0 < P := hG.2 hlt
                clear hG hP
                have hm : IntKind.u64.wrap (a2 - 1) = a2 - 1 := by rw [IntKind.wrap_u64]; omega
                have hp : IntKind.u64.wrap (b2 + y1) = b2 + y1 := by rw [IntKind.wrap_u64]; omega
                by_cases hr : 4294967296 ≤ b2 + y1
                · have hl := D2.out.last hlt by0 by0' bu0 (by omega) HQ0.out hr
                  obtain rfl : a2 = Q0 + 1 := by omega
                  have hm2 : IntKind.u64.wrap (Q0 + 1 - 1) = Q0 := by rw [IntKind.wrap_u64]; omega
                  clear D2 hl hm 
                  go_wp2
                  go_ret2
                  exact ⟨⟨_, rfl⟩, ⟨rfl, rfl, rfl, Nat.le_refl _, fun _ _ => rfl⟩⟩
                · have HN : Hid (Dig y1 R1 Q0 (a2 - 1) (b2 + y1)) := D2.out.next hlt (by omega) (by omega) (by omega)
                  clear D2
                  go_wp2
                  go_round
                  case rel => exact ⟨_, _, rfl, rfl, HN⟩
                  case measure => simp [intOf]; omega
            · obtain rfl : Q0 = a2 := by omega
              have hbig : ¬ 4294967296 ≤ Q0 := by omega
              have hP := D2.out.prod by0 by0'
              have hG := D2.out.gt (y0 := y0) (u1 := u0) (by omega) HQ0.out
              obtain ⟨P, eP⟩ : ∃ P, Q0 * y0 = P := ⟨_, rfl⟩
              rw [eP] at hP hG
              have wP : IntKind.u64.wrap P = P := by rw [IntKind.wrap_u64]; omega
              have wT : IntKind.u64.wrap (4294967296 * b2) = 4294967296 * b2 := by rw [IntKind.wrap_u64]; omega
              have wS : IntKind.u64.wrap (4294967296 * b2 + u0) = 4294967296 * b2 + u0 := by rw [IntKind.wrap_u64]; omega
              have hS : ¬ 4294967296 * b2 + u0 < P := fun h => hlt (hG.1 h)
              clear hG hP D2
              go_wp2
              go_ret2
              exact ⟨⟨_, rfl⟩, ⟨rfl, rfl, rfl, Nat.le_refl _, fun _ _ => rfl⟩⟩
        · have HN : Hid (Dig y1 u Q1 (a1 - 1) (b1 + y1)) := D1.out.next hlt (by omega) (by omega) (by omega)
          clear D1
          go_wp2
          go_round
          case rel => exact ⟨_, _, rfl, rfl, HN⟩
          case measure => simp [intOf]; omega
    · obtain rfl : Q1 = a1 := by omega
      have hbig : ¬ 4294967296 ≤ Q1 := by omega
      have hP := D1.out.prod by0 by0'
      have hG := D1.out.gt (y0 := y0) (u1 := u1) (by omega) HQ1.out
      obtain ⟨P, eP⟩ : ∃ P, Q1 * y0 = P := ⟨_, rfl⟩
      rw [eP] at hP hG
      have wP : IntKind.u64.wrap P = P := by rw [IntKind.wrap_u64]; omega
      have wT : IntKind.u64.wrap (4294967296 * b1) = 4294967296 * b1 := by rw [IntKind.wrap_u64]; omega
      have wS : IntKind.u64.wrap (4294967296 * b1 + u1) = 4294967296 * b1 + u1 := by rw [IntKind.wrap_u64]; omega
      have hS : ¬ 4294967296 * b1 + u1 < P := fun h => hlt (hG.1 h)
      clear hG hP D1
      go_wp2
      go_loop [18, 16] (fun a b => ∃ q r : Int, a = .int .u64 q ∧ b = .int .u64 r ∧ Hid (Dig y1 R1 Q0 q r)) (fun a _ => (intOf a).toNat)
      case atStart => exact ⟨q', r', rfl, rfl, HD2⟩
      case round =>
        obtain ⟨a2, b2, rfl, rfl, D2⟩ := hrel
        have ga2 : 0 ≤ a2 ∧ a2 ≤ 4294967297 ∧ 0 ≤ b2 ∧ b2 < 4294967296 ∧ Q0 ≤ a2 := ⟨D2.out.2.2.1, D2.out.2.2.2.1, D2.out.2.2.2.2.1, D2.out.2.2.2.2.2, D2.out.2.1⟩
        obtain ⟨ga1, ga2, ga3, ga4, ga5⟩ := ga2
        by_cases hlt : Q0 < a2
        · by_cases hbig : 4294967296 ≤ a2
          · skip
            have hm : IntKind.u64.wrap (a2 - 1) = a2 - 1 := by rw [IntKind.wrap_u64]; omega
            have hp : IntKind.u64.wrap (b2 + y1) = b2 + y1 := by rw [IntKind.wrap_u64]; omega
            by_cases hr : 4294967296 ≤ b2 + y1
            · have hl := D2.out.last hlt by0 by0' bu0 (by omega) HQ0.out hr
              obtain rfl : a2 = Q0 + 1 := by omega
              have hm2 : IntKind.u64.wrap (Q0 + 1 - 1) = Q0 := by rw [IntKind.wrap_u64]; omega
              clear D2 hl hm 
              go_wp2
              go_ret2
              exact ⟨⟨_, rfl⟩, ⟨rfl, rfl, rfl, Nat.le_refl _, fun _ _ => rfl⟩⟩
            · have HN : Hid (Dig y1 R1 Q0 (a2 - 1) (b2 + y1)) := D2.out.next hlt (by omega) (by omega) (by omega)
              clear D2
              go_wp2
              go_round
              case rel => exact ⟨_, _, rfl, rfl, HN⟩
              case measure => simp [intOf]; omega
          · skip
            have hP := D2.out.prod by0 by0'
            have hG := D2.out.gt (y0 := y0) (u1 := u0) (by omega) HQ0.out
            obtain ⟨P, eP⟩ : ∃ P, a2 * y0 = P := ⟨_, rfl⟩
            rw [eP] at hP hG
            have wP : IntKind.u64.wrap P = P := by rw [IntKind.wrap_u64]; omega
            have wT : IntKind.u64.wrap (4294967296 * b2) = 4294967296 * b2 := by rw [IntKind.wrap_u64]; omega
            have wS : IntKind.u64.wrap (4294967296 * b2 + u0) = 4294967296 * b2 + u0 := by rw [IntKind.wrap_u64]; omega
            have hS : 4294967296 * b2 + u0 < P := hG.2 hlt
            clear hG hP
            have hm : IntKind.u64.wrap (a2 - 1) = a2 - 1 := by rw [IntKind.wrap_u64]; omega
            have hp : IntKind.u64.wrap (b2 + y1) = b2 + y1 := by rw [IntKind.wrap_u64]; omega
            by_cases hr : 4294967296 ≤ b2 + y1
            · have hl := D2.out.last hlt by0 by0' bu0 (by omega) HQ0.out hr
              obtain rfl : a2 = Q0 + 1 := by omega
              have hm2 : IntKind.u64.wrap (Q0 + 1 - 1) = Q0 := by rw [IntKind.wrap_u64]; omega
              clear D2 hl hm 
              go_wp2
              go_ret2
              exact ⟨⟨_, rfl⟩, ⟨rfl, rfl, rfl, Nat.le_refl _, fun _ _ => rfl⟩⟩
            · have HN : Hid (Dig y1 R1 Q0 (a2 - 1) (b2 + y1)) := D2.out.next hlt (by omega) (by omega) (by omega)
              clear D2
              go_wp2
              go_round
              case rel => exact ⟨_, _, rfl, rfl, HN⟩
              case measure => simp [intOf]; omega
        · obtain rfl : Q0 = a2 := by omega
          have hbig : ¬ 4294967296 ≤ Q0 := by omega
          have hP := D2.out.prod by0 by0'
          have hG := D2.out.gt (y0 := y0) (u1 := u0) (by omega) HQ0.out
          obtain ⟨P, eP⟩ : ∃ P, Q0 * y0 = P := ⟨_, rfl⟩
          rw [eP] at hP hG
          have wP : IntKind.u64.wrap P = P := by rw [IntKind.wrap_u64]; omega
          have wT : IntKind.u64.wrap (4294967296 * b2) = 4294967296 * b2 := by rw [IntKind.wrap_u64]; omega
          have wS : IntKind.u64.wrap (4294967296 * b2 + u0) = 4294967296 * b2 + u0 := by rw [IntKind.wrap_u64]; omega
          have hS : ¬ 4294967296 * b2 + u0 < P := fun h => hlt (hG.1 h)
          clear hG hP D2
          go_wp2
          go_ret2
          exact ⟨⟨_, rfl⟩, ⟨rfl, rfl, rfl, Nat.le_refl _, fun _ _ => rfl⟩⟩

end Go.Proofs.YtkhlihpghbhppaaGreat.Ra

set_option maxRecDepth 100000
namespace Go.Proofs.YtkhlihpghbhppaaGreat.Ra
open Go.RowKit

theorem div64_zero (lo y : Int) (l0 : 0 ≤ lo) (l1 : lo < 18446744073709551616) (hy0 : 0 < y) (_hy : y < 9223372036854775808) (w : World) :
    Calls Tryz.prog 185 #[.int .u64 0, .int .u64 lo, .int .u64 y] w fun e w' => ∃ r, e = .returned (.tuple #[.int .u64 (lo / y), .int .u64 r]) ∧ Below w.heap.size w w' := by
  have t1 : (y == 0) = false := by simp; omega
  have t1' : ¬ y = 0 := by omega
  have t2 : ¬ y ≤ 0 := by omega
  have ed : lo.tdiv y = lo / y := Int.tdiv_eq_ediv_of_nonneg l0
  have b0 : 0 ≤ lo / y := Int.ediv_nonneg l0 (by omega)
  have b1 : lo / y ≤ lo := Int.ediv_le_self _ l0
  obtain ⟨q, hq⟩ : ∃ q, lo / y = q := ⟨_, rfl⟩
  rw [hq] at ed b0 b1 ⊢
  have eq : IntKind.u64.wrap q = q := by rw [IntKind.wrap_u64]; omega
  go_enter Tryz.func185, Tryz.ntmps185
  go_wp2
  go_quiet (fail)
  go_wp2
  go_ret2
  exact ⟨_, rfl, ⟨rfl, rfl, rfl, Nat.le_refl _, fun _ _ => rfl⟩⟩

/-- math/bits.Div64 where it does not panic. -/
theorem div64 (hi lo y : Int) (h0 : 0 ≤ hi) (h1 : hi < y) (l0 : 0 ≤ lo) (l1 : lo < 18446744073709551616) (hy : y < 9223372036854775808) (w : World) :
    Calls Tryz.prog 185 #[.int .u64 hi, .int .u64 lo, .int .u64 y] w fun e w' => ∃ r, e = .returned (.tuple #[.int .u64 ((hi * 18446744073709551616 + lo) / y), .int .u64 r]) ∧ Below w.heap.size w w' := by
  by_cases hz : hi = 0
  · subst hz
    have e : 0 * 18446744073709551616 + lo = lo := by omega
    rw [e]
    exact div64_zero lo y l0 l1 h1 hy w
  · obtain ⟨hn, rfl⟩ := Int.eq_ofNat_of_zero_le h0
    obtain ⟨ln, rfl⟩ := Int.eq_ofNat_of_zero_le l0
    obtain ⟨yn, rfl⟩ := Int.eq_ofNat_of_zero_le (show 0 ≤ y by omega)
    obtain ⟨s, hs, hs1, hs2, hY1, hY2⟩ := lead_norm yn (by omega) (by omega)
    obtain ⟨e, b1, b2, b3⟩ := shift_pair hn ln yn s hs1 hs2 (by omega) (by omega) hY2
    have hc : ∀ w, Calls Tryz.prog 194 #[.int .u64 (yn : Int)] w fun e w' => e = .returned (.int .i64 s) ∧ w' = w := fun w => by
      have := leading64 yn (by omega) (by omega) w
      rwa [show (64 : Int) - (bitLen yn : Int) = (s : Int) by omega] at this
    have hp : ((2 ^ s : Nat) : Int) = (2 : Int) ^ s := by rw [Int.natCast_pow]; rfl
    have hp' : ((2 ^ (64 - s) : Nat) : Int) = (2 : Int) ^ (64 - s) := by rw [Int.natCast_pow]; rfl
    have b4 : ln / 2 ^ (64 - s) ≤ ln := Nat.div_le_self _ _
    obtain ⟨Y, eY⟩ : ∃ Y, yn * 2 ^ s = Y := ⟨_, rfl⟩
    obtain ⟨u, eu⟩ : ∃ u, hn * 2 ^ s + ln / 2 ^ (64 - s) = u := ⟨_, rfl⟩
    obtain ⟨N, eN⟩ : ∃ N, ln * 2 ^ s % 18446744073709551616 = N := ⟨_, rfl⟩
    have hN : N < 18446744073709551616 := by omega
    have hor := or_join hn (ln / 2 ^ (64 - s)) s b2 b3 (by omega)
    rw [eu] at e b1 hor
    rw [eY] at hY1 hY2 b1
    rw [eN] at e
    have c := div64_core (hn : Int) (ln : Int) (yn : Int) (Y : Int) ((Y : Int) / 4294967296) ((Y : Int) % 4294967296) ((hn * 2 ^ s : Nat) : Int) ((ln / 2 ^ (64 - s) : Nat) : Int) (u : Int) (N : Int) ((N : Int) / 4294967296) ((N : Int) % 4294967296)
      _ _ _ s (by omega) h1 hs1 hs2
      (by rw [← hp, ← Int.natCast_mul, eY, IntKind.wrap_u64]; omega) rfl (and_low32 _ (by omega) (by omega))
      (by rw [← hp, ← Int.natCast_mul, IntKind.wrap_u64]; omega) (by rw [← hp', ← Int.natCast_ediv]) hor
      (by rw [← hp, ← Int.natCast_mul, IntKind.wrap_u64, ← eN]; omega) rfl (and_low32 _ (by omega) (by omega))
      (by omega) (by omega) (by omega) (by omega) (by omega) (by show _ = _; omega) (by show _ < _; omega) (by omega) (by omega) (by omega) (by omega) rfl rfl rfl hc w
    have eYY : (Y : Int) / 4294967296 * 4294967296 + (Y : Int) % 4294967296 = (Y : Int) := by omega
    rw [eYY, two_digits _ _ _ _ (by omega)] at c
    have eNN : (u : Int) * 18446744073709551616 + (N : Int) / 4294967296 * 4294967296 + (N : Int) % 4294967296 = ((hn : Int) * 18446744073709551616 + (ln : Int)) * (2 : Int) ^ s := by
      have : (u : Int) * 18446744073709551616 + (N : Int) = ((hn : Int) * 18446744073709551616 + (ln : Int)) * (2 : Int) ^ s := by
        rw [← hp]
        have e' : (((hn * 18446744073709551616 + ln) * 2 ^ s : Nat) : Int) = ((u * 18446744073709551616 + N : Nat) : Int) := by rw [e]
        rw [Int.natCast_mul, Int.natCast_add, Int.natCast_mul, Int.natCast_add, Int.natCast_mul] at e'
        exact e'.symm
      rw [← this]
      omega
    rw [eNN, ← eY, Int.natCast_mul, hp, quot_scale _ _ _ (Int.pow_pos (by decide))] at c
    exact c


/-! ### the answers -/
/-- What MulDiv answers: the number. -/
def mdN (a b c : Int) : Int := if a < 0 ∨ b < 0 ∨ c < 1 then 0 else if a * b / c ≤ 1125899906842624 then a * b / c else 0
/-- What MulDiv answers: the error (2: ErrRange). -/
def mdE (a b c : Int) : Int := if a < 0 ∨ b < 0 ∨ c < 1 then 2 else if a * b / c ≤ 1125899906842624 then 0 else 2

theorem md_bad {a b c : Int} (h : a < 0 ∨ b < 0 ∨ c < 1) : mdN a b c = 0 ∧ mdE a b c = 2 := by
  unfold mdN mdE; rw [if_pos h, if_pos h]; exact ⟨rfl, rfl⟩
theorem md_over {a b c : Int} (h : 1125899906842624 < a * b / c) : mdN a b c = 0 ∧ mdE a b c = 2 := by
  unfold mdN mdE
  have : ¬ a * b / c ≤ 1125899906842624 := by omega
  by_cases g : a < 0 ∨ b < 0 ∨ c < 1
  · rw [if_pos g, if_pos g]; exact ⟨rfl, rfl⟩
  · rw [if_neg g, if_neg g, if_neg this, if_neg this]; exact ⟨rfl, rfl⟩
theorem md_good {a b c : Int} (h1 : 0 ≤ a) (h2 : 0 ≤ b) (h3 : 1 ≤ c) (h : a * b / c ≤ 1125899906842624) : mdN a b c = a * b / c ∧ mdE a b c = 0 := by
  unfold mdN mdE
  have g : ¬ (a < 0 ∨ b < 0 ∨ c < 1) := by omega
  rw [if_neg g, if_neg g, if_pos h, if_pos h]; exact ⟨rfl, rfl⟩

/-- ratio.MulDiv, where the numbers are right. -/
theorem muldiv_right (a b c : Int) (a0 : 0 ≤ a) (a1 : a ≤ 9223372036854775807) (b0 : 0 ≤ b) (b1 : b ≤ 9223372036854775807) (c0 : 1 ≤ c) (c1 : c ≤ 9223372036854775807) (w : World) :
    Calls Tryz.prog 153 #[.int .i64 a, .int .i64 b, .int .i64 c] w fun e w' => e = .returned (.tuple #[.int .i64 (mdN a b c), .int .i64 (mdE a b c)]) ∧ Below w.heap.size w w' := by
  have t1 : ¬ a < 0 := by omega
  have t2 : ¬ b < 0 := by omega
  have t3 : ¬ c < 1 := by omega
  have cm := mul64 a b a0 (by omega) b0 (by omega)
  have hab : 0 ≤ a * b := Int.mul_nonneg a0 b0
  have hab1 : a * b < 340282366920938463463374607431768211456 := by
    have := Int.mul_le_mul a1 b1 b0 (by omega)
    omega
  have dv := Int.mul_ediv_add_emod (a * b) c
  have Hgood : Hid (a * b / c ≤ 1125899906842624 → mdN a b c = a * b / c ∧ mdE a b c = 0) := fun h => md_good a0 b0 c0 h
  have Hover : Hid (1125899906842624 < a * b / c → mdN a b c = 0 ∧ mdE a b c = 2) := fun h => md_over h
  have hdv : a * b / 18446744073709551616 ≥ c → 1125899906842624 < a * b / c := fun h => by
    have : 1125899906842625 ≤ a * b / c := by
      rw [Int.le_ediv_iff_mul_le (by omega)]
      omega
    omega
  have hq0 : 0 ≤ a * b / c := Int.ediv_nonneg hab (by omega)
  generalize mdN a b c = X at *
  generalize mdE a b c = Y at *
  clear dv
  generalize a * b = p at *
  obtain ⟨hi, hhi⟩ : ∃ h, p / 18446744073709551616 = h := ⟨_, rfl⟩
  obtain ⟨lo, hlo⟩ : ∃ l, p % 18446744073709551616 = l := ⟨_, rfl⟩
  have hp : hi * 18446744073709551616 + lo = p := by omega
  have hi0 : 0 ≤ hi := by omega
  have lo0 : 0 ≤ lo := by omega
  have lo1 : lo < 18446744073709551616 := by omega
  rw [hhi] at hdv cm
  rw [hlo] at cm
  by_cases hc : c ≤ hi
  · have hX := Hover.out (hdv hc)
    obtain ⟨rfl, rfl⟩ := hX
    clear Hgood Hover hdv hhi hlo hp hab hab1 hq0
    go_enter Tryz.func153, Tryz.ntmps153
    go_wp2_with (go_at_call 184; refine (cm _).mono ?_; rintro e w' ⟨rfl, rfl⟩)
    go_ret2
    exact ⟨rfl, ⟨rfl, rfl, rfl, Nat.le_refl _, fun _ _ => rfl⟩⟩
  · have cd := div64 hi lo c hi0 (by omega) lo0 lo1 (by omega)
    rw [hp] at cd
    obtain ⟨n, hn⟩ : ∃ n, p / c = n := ⟨_, rfl⟩
    rw [hn] at cd Hgood Hover hq0
    by_cases hm : n ≤ 1125899906842624
    · obtain ⟨rfl, rfl⟩ := Hgood.out hm
      have hm' : ¬ 1125899906842624 < X := by omega
      clear Hgood Hover hdv hhi hlo hp hab hab1 hn
      go_enter Tryz.func153, Tryz.ntmps153
      go_wp2_with (first | (go_at_call 184; refine (cm _).mono ?_; rintro e w' ⟨rfl, rfl⟩) | (go_at_call 185; refine (cd _).mono ?_; rintro e w' ⟨r, rfl, hg⟩))
      go_ret2
      exact ⟨rfl, hg⟩
    · obtain ⟨rfl, rfl⟩ := Hover.out (by omega)
      have hm' : 1125899906842624 < n := by omega
      clear Hgood Hover hdv hhi hlo hp hab hab1 hn
      go_enter Tryz.func153, Tryz.ntmps153
      go_wp2_with (first | (go_at_call 184; refine (cm _).mono ?_; rintro e w' ⟨rfl, rfl⟩) | (go_at_call 185; refine (cd _).mono ?_; rintro e w' ⟨r, rfl, hg⟩))
      go_ret2
      exact ⟨rfl, hg⟩

/-- ratio.MulDiv, where a number is not right. -/
theorem muldiv_bad (a b c : Int) (h : a < 0 ∨ b < 0 ∨ c < 1) (w : World) :
    Calls Tryz.prog 153 #[.int .i64 a, .int .i64 b, .int .i64 c] w fun e w' => e = .returned (.tuple #[.int .i64 (mdN a b c), .int .i64 (mdE a b c)]) ∧ Below w.heap.size w w' := by
  obtain ⟨e1, e2⟩ := md_bad h
  rw [e1, e2]
  clear e1 e2
  by_cases t1 : a < 0
  · clear h
    go_enter Tryz.func153, Tryz.ntmps153
    go_wp2
    go_ret2
    exact ⟨rfl, ⟨rfl, rfl, rfl, Nat.le_refl _, fun _ _ => rfl⟩⟩
  · by_cases t2 : b < 0
    · clear h
      go_enter Tryz.func153, Tryz.ntmps153
      go_wp2
      go_ret2
      exact ⟨rfl, ⟨rfl, rfl, rfl, Nat.le_refl _, fun _ _ => rfl⟩⟩
    · have t3 : c < 1 := by omega
      clear h
      go_enter Tryz.func153, Tryz.ntmps153
      go_wp2
      go_ret2
      exact ⟨rfl, ⟨rfl, rfl, rfl, Nat.le_refl _, fun _ _ => rfl⟩⟩

/-- ratio.MulDiv. -/
theorem muldiv (a b c : Int) (a1 : a ≤ 9223372036854775807) (b1 : b ≤ 9223372036854775807) (c1 : c ≤ 9223372036854775807) (w : World) :
    Calls Tryz.prog 153 #[.int .i64 a, .int .i64 b, .int .i64 c] w fun e w' => e = .returned (.tuple #[.int .i64 (mdN a b c), .int .i64 (mdE a b c)]) ∧ Below w.heap.size w w' := by
  by_cases h : a < 0 ∨ b < 0 ∨ c < 1
  · exact muldiv_bad a b c h w
  · exact muldiv_right a b c (by omega) a1 (by omega) b1 (by omega) c1 w

end Go.Proofs.YtkhlihpghbhppaaGreat.Ra

set_option maxRecDepth 100000
namespace Go.Proofs.YtkhlihpghbhppaaGreat.Ra
open Go.RowKit

/-- Whether a number is an amount. -/
def inB (n : Int) : Bool := decide (0 ≤ n) && decide (n ≤ 1125899906842624)
/-- What Part answers. -/
def ptN (n f : Int) : Int := if inB n = true ∧ 0 ≤ f ∧ f ≤ 1000 then n * f / 1000 else 0
end Go.Proofs.YtkhlihpghbhppaaGreat.Ra

