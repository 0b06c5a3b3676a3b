/- The walk of RatioBounds. -/
import Derived.Test.YtpagfnfmiffgpabH
namespace Go.Proofs.Ytpagfnfmiffgpab
open Go.RowKit

set_option maxHeartbeats 4000000 in
theorem bounds_walk (a b c : Int) (a1 : a ≤ 9223372036854775807) (b1 : b ≤ 9223372036854775807) (c1 : c ≤ 9223372036854775807) (w : World) :
    Calls Try.prog 5 #[.int .i64 a, .int .i64 b, .int .i64 c] w fun e w' => e = .returned (.bool true) ∧ Grown w w' := by
  have k8 := muldiv a b c a1 b1 c1
  have k9 := muldiv b a c b1 a1 c1
  rw [(md_comm a b c).1, (md_comm a b c).2] at k9
  have h8 := md_cases a b c
  generalize mdN a b c = X at *
  generalize mdE a b c = Y at *
  rcases h8 with ⟨rfl, rfl⟩ | ⟨a0, b0, c0, e1, e2, rfl⟩
  · have kX := in10 0
    have kA := in10 a
    have kB := in10 b
    go_enter Try.func5, Try.ntmps5
    go_wp2_with (first
      | (go_at_call 8; have _h := g1; refine (k9 _).mono ?_; rintro e w2 ⟨rfl, g2⟩)
      | (go_at_call 8; refine (k8 _).mono ?_; rintro e w1 ⟨rfl, g1⟩)
      | (go_at_call 15; refine (div15 _).mono ?_; rintro e w5 ⟨rfl, g5⟩)
      | (go_at_call 10; have _h := m2; refine (kB _).mono ?_; rintro e w8 ⟨rfl, rfl⟩)
      | (go_at_call 10; have _h := m1; refine (kA _).mono ?_; rintro e w7 ⟨rfl, rfl⟩; have m2 : Hid True := trivial)
      | (go_at_call 10; refine (kX _).mono ?_; rintro e w6 ⟨rfl, rfl⟩; have m1 : Hid True := trivial))
    go_ret
    exact ⟨rfl, grown_trans (grown_trans g1 g2) g5⟩
  · have kX := in10 X
    have x0 : 0 ≤ X := by rw [e2]; exact Int.ediv_nonneg (Int.mul_nonneg a0 b0) (by omega)
    rw [inB_true x0 (by omega)] at kX
    have kA := in10 a
    have kB := in10 b
    have q1 : a ≤ c → ¬ b < X := fun h => by have := quot_le b0 c0 h; omega
    have q2 : c ≤ a → ¬ X < b := fun h => by have := quot_ge b0 c0 h; omega
    have hsm : a ≤ 1073741824 → b ≤ 1073741824 → wrap64 (a * b) = a * b := fun h1 h2 => by
      have h3 := Int.mul_le_mul h1 h2 b0 (by omega)
      have h4 := Int.mul_nonneg a0 b0
      unfold wrap64
      omega
    have hdv : (a * b).tdiv c = X := by rw [Int.tdiv_eq_ediv_of_nonneg (Int.mul_nonneg a0 b0), e2]
    have hw : wrap64 X = X := by unfold wrap64; omega
    have t4 : ¬ c = 0 := by omega
    clear e1 e2
    have hc : (a ≤ c ∧ ¬ b < X ∧ c ≤ a ∧ ¬ X < b) ∨ (a ≤ c ∧ ¬ b < X ∧ ¬ c ≤ a) ∨ (¬ a ≤ c ∧ c ≤ a ∧ ¬ X < b) := by
      by_cases p1 : a ≤ c
      · by_cases p2 : c ≤ a
        · exact .inl ⟨p1, q1 p1, p2, q2 p2⟩
        · exact .inr (.inl ⟨p1, q1 p1, p2⟩)
      · exact .inr (.inr ⟨p1, by omega, q2 (by omega)⟩)
    clear q1 q2
    rcases hc with ⟨p1, p2, p3, p4⟩ | ⟨p1, p2, p3⟩ | ⟨p1, p2, p3⟩
    all_goals
      by_cases hA : inB a = true
      · rw [hA] at kA
        by_cases hB : inB b = true
        · rw [hB] at kB
          clear hA hB
          by_cases ga : 1073741824 < a
          · clear hsm hdv
            go_enter Try.func5, Try.ntmps5
            go_wp2_with (first
              | (go_at_call 8; have _h := g1; refine (k9 _).mono ?_; rintro e w2 ⟨rfl, g2⟩)
              | (go_at_call 8; refine (k8 _).mono ?_; rintro e w1 ⟨rfl, g1⟩)
              | (go_at_call 15; refine (div15 _).mono ?_; rintro e w5 ⟨rfl, g5⟩)
              | (go_at_call 10; have _h := m2; refine (kB _).mono ?_; rintro e w8 ⟨rfl, rfl⟩)
              | (go_at_call 10; have _h := m1; refine (kA _).mono ?_; rintro e w7 ⟨rfl, rfl⟩; have m2 : Hid True := trivial)
              | (go_at_call 10; refine (kX _).mono ?_; rintro e w6 ⟨rfl, rfl⟩; have m1 : Hid True := trivial))
            go_ret
            exact ⟨rfl, grown_trans (grown_trans g1 g2) g5⟩
          · by_cases gb : 1073741824 < b
            · clear hsm hdv
              go_enter Try.func5, Try.ntmps5
              go_wp2_with (first
                | (go_at_call 8; have _h := g1; refine (k9 _).mono ?_; rintro e w2 ⟨rfl, g2⟩)
                | (go_at_call 8; refine (k8 _).mono ?_; rintro e w1 ⟨rfl, g1⟩)
                | (go_at_call 15; refine (div15 _).mono ?_; rintro e w5 ⟨rfl, g5⟩)
                | (go_at_call 10; have _h := m2; refine (kB _).mono ?_; rintro e w8 ⟨rfl, rfl⟩)
                | (go_at_call 10; have _h := m1; refine (kA _).mono ?_; rintro e w7 ⟨rfl, rfl⟩; have m2 : Hid True := trivial)
                | (go_at_call 10; refine (kX _).mono ?_; rintro e w6 ⟨rfl, rfl⟩; have m1 : Hid True := trivial))
              go_ret
              exact ⟨rfl, grown_trans (grown_trans g1 g2) g5⟩
            · have hs := hsm (by omega) (by omega)
              clear hsm
              obtain ⟨P, hP⟩ : ∃ P, a * b = P := ⟨_, rfl⟩
              rw [hP] at hs hdv
              go_enter Try.func5, Try.ntmps5
              go_wp2_with (first
                | (go_at_call 8; have _h := g1; refine (k9 _).mono ?_; rintro e w2 ⟨rfl, g2⟩)
                | (go_at_call 8; refine (k8 _).mono ?_; rintro e w1 ⟨rfl, g1⟩)
                | (go_at_call 15; refine (div15 _).mono ?_; rintro e w5 ⟨rfl, g5⟩)
                | (go_at_call 10; have _h := m2; refine (kB _).mono ?_; rintro e w8 ⟨rfl, rfl⟩)
                | (go_at_call 10; have _h := m1; refine (kA _).mono ?_; rintro e w7 ⟨rfl, rfl⟩; have m2 : Hid True := trivial)
                | (go_at_call 10; refine (kX _).mono ?_; rintro e w6 ⟨rfl, rfl⟩; have m1 : Hid True := trivial))
              go_ret
              exact ⟨rfl, grown_trans (grown_trans g1 g2) g5⟩
        · have hB' : inB b = false := by simpa using hB
          rw [hB'] at kB
          clear hA hB hB' hsm hdv
          go_enter Try.func5, Try.ntmps5
          go_wp2_with (first
            | (go_at_call 8; have _h := g1; refine (k9 _).mono ?_; rintro e w2 ⟨rfl, g2⟩)
            | (go_at_call 8; refine (k8 _).mono ?_; rintro e w1 ⟨rfl, g1⟩)
            | (go_at_call 15; refine (div15 _).mono ?_; rintro e w5 ⟨rfl, g5⟩)
            | (go_at_call 10; have _h := m2; refine (kB _).mono ?_; rintro e w8 ⟨rfl, rfl⟩)
            | (go_at_call 10; have _h := m1; refine (kA _).mono ?_; rintro e w7 ⟨rfl, rfl⟩; have m2 : Hid True := trivial)
            | (go_at_call 10; refine (kX _).mono ?_; rintro e w6 ⟨rfl, rfl⟩; have m1 : Hid True := trivial))
          go_ret
          exact ⟨rfl, grown_trans (grown_trans g1 g2) g5⟩
      · have hA' : inB a = false := by simpa using hA
        rw [hA'] at kA
        clear hA hA' hsm hdv
        go_enter Try.func5, Try.ntmps5
        go_wp2_with (first
          | (go_at_call 8; have _h := g1; refine (k9 _).mono ?_; rintro e w2 ⟨rfl, g2⟩)
          | (go_at_call 8; refine (k8 _).mono ?_; rintro e w1 ⟨rfl, g1⟩)
          | (go_at_call 15; refine (div15 _).mono ?_; rintro e w5 ⟨rfl, g5⟩)
          | (go_at_call 10; have _h := m2; refine (kB _).mono ?_; rintro e w8 ⟨rfl, rfl⟩)
          | (go_at_call 10; have _h := m1; refine (kA _).mono ?_; rintro e w7 ⟨rfl, rfl⟩; have m2 : Hid True := trivial)
          | (go_at_call 10; refine (kX _).mono ?_; rintro e w6 ⟨rfl, rfl⟩; have m1 : Hid True := trivial))
        go_ret
        exact ⟨rfl, grown_trans (grown_trans g1 g2) g5⟩

end Go.Proofs.Ytpagfnfmiffgpab
