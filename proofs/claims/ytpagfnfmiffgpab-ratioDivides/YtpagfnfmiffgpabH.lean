/- The walks of the five laws. -/
import Derived.Test.YtpagfnfmiffgpabG
namespace Go.Proofs.Ytpagfnfmiffgpab
open Go.RowKit

theorem grown_trans {a b c : World} (h : Grown a b) (g : Grown b c) : Grown a c :=
  ⟨World.keptBut_trans h.1 g.1, fun x => (g.2.1 x).trans (h.2.1 x), Nat.le_trans h.2.2 g.2.2⟩

theorem md_comm (a b c : Int) : mdN b a c = mdN a b c ∧ mdE b a c = mdE a b c := by
  unfold mdN mdE
  rw [Int.mul_comm b a]
  by_cases h : a < 0 ∨ b < 0 ∨ c < 1
  · have h' : b < 0 ∨ a < 0 ∨ c < 1 := by omega
    simp only [if_pos h, if_pos h', and_self]
  · have h' : ¬ (b < 0 ∨ a < 0 ∨ c < 1) := by omega
    simp only [if_neg h, if_neg h', and_self]

/-- What MulDiv answers, in cases. -/
theorem md_cases (a b c : Int) : (mdN a b c = 0 ∧ mdE a b c = 2) ∨ (0 ≤ a ∧ 0 ≤ b ∧ 1 ≤ c ∧ a * b / c ≤ 1125899906842624 ∧ mdN a b c = a * b / c ∧ mdE a b c = 0) := by
  by_cases h : a < 0 ∨ b < 0 ∨ c < 1
  · exact .inl (md_bad h)
  · by_cases g : a * b / c ≤ 1125899906842624
    · exact .inr ⟨by omega, by omega, by omega, g, md_good (by omega) (by omega) (by omega) g⟩
    · exact .inl (md_over (by omega))

/-- No more than the one factor where the other is at most the divisor; no less where it is at least that. -/
theorem quot_le {a b c : Int} (b0 : 0 ≤ b) (c0 : 1 ≤ c) (h : a ≤ c) : a * b / c ≤ b := by
  have h1 := Int.mul_le_mul_of_nonneg_right h b0
  have h2 : a * b / c ≤ c * b / c := Int.ediv_le_ediv (by omega) h1
  rwa [Int.mul_ediv_cancel_left b (by omega)] at h2
theorem quot_ge {a b c : Int} (b0 : 0 ≤ b) (c0 : 1 ≤ c) (h : c ≤ a) : b ≤ a * b / c := by
  have h1 := Int.mul_le_mul_of_nonneg_right h b0
  have h2 : c * b / c ≤ a * b / c := Int.ediv_le_ediv (by omega) h1
  rwa [Int.mul_ediv_cancel_left b (by omega)] at h2

set_option maxHeartbeats 1000000 in
theorem divides_walk (a b c : Int) (a1 : a ≤ 9223372036854775807) (b1 : b ≤ 9223372036854775807) (c1 : c ≤ 9223372036854775807) (w : World) :
    Calls Try.prog 3 #[.int .i64 a, .int .i64 b, .int .i64 c] w fun e w' => e = .returned (.bool true) ∧ Grown w w' := by
  have k8 := muldiv a b c a1 b1 c1
  have k9 := refmd a b c a1 b1 c1
  have k10 := in10 a
  have k11 := in11 a
  generalize mdN a b c = X at *
  generalize mdE a b c = Y at *
  generalize inB a = B at *
  go_enter Try.func3, Try.ntmps3
  go_wp2_with (first
    | (go_at_call 8; refine (k8 _).mono ?_; rintro e w1 ⟨rfl, g1⟩)
    | (go_at_call 9; refine (k9 _).mono ?_; rintro e w2 ⟨rfl, g2⟩)
    | (go_at_call 10; refine (k10 _).mono ?_; rintro e w3 ⟨rfl, rfl⟩)
    | (go_at_call 11; refine (k11 _).mono ?_; rintro e w4 ⟨rfl, rfl⟩)
    | (go_at_call 12; refine (div12 _).mono ?_; rintro e w5 ⟨rfl, g5⟩))
  go_ret
  exact ⟨rfl, grown_trans (grown_trans g1 g2) g5⟩

set_option maxHeartbeats 1000000 in
theorem parts_walk (n f : Int) (w : World) :
    Calls Try.prog 4 #[.int .i64 n, .int .i64 f] w fun e w' => e = .returned (.bool true) ∧ Grown w w' := by
  have k8 := part13 n f
  have k9 := part14 n f
  generalize ptN n f = X at *
  generalize ptE n f = Y at *
  go_enter Try.func4, Try.ntmps4
  go_wp2_with (first
    | (go_at_call 13; refine (k8 _).mono ?_; rintro e w1 ⟨rfl, g1⟩)
    | (go_at_call 14; refine (k9 _).mono ?_; rintro e w2 ⟨rfl, g2⟩)
    | (go_at_call 12; refine (div12 _).mono ?_; rintro e w5 ⟨rfl, g5⟩))
  go_ret
  exact ⟨rfl, grown_trans (grown_trans g1 g2) g5⟩

set_option maxHeartbeats 1000000 in
theorem rises_walk (a b c d : Int) (a1 : a ≤ 9223372036854775807) (b1 : b ≤ 9223372036854775807) (c1 : c ≤ 9223372036854775807) (d1 : d ≤ 9223372036854775807) (w : World) :
    Calls Try.prog 6 #[.int .i64 a, .int .i64 b, .int .i64 c, .int .i64 d] w fun e w' => e = .returned (.bool true) ∧ Grown w w' := by
  have k8 := muldiv a b c a1 b1 c1
  have k9 := muldiv d b c d1 b1 c1
  have h8 := md_cases a b c
  have h9 := md_cases d b c
  have HM : Hid (a ≤ d → 0 ≤ b → 1 ≤ c → a * b / c ≤ d * b / c) := fun h b0 c0 => quot_mono h b0 (by omega)
  generalize mdN a b c = X at *
  generalize mdE a b c = Y at *
  generalize mdN d b c = X2 at *
  generalize mdE d b c = Y2 at *
  rcases h8 with ⟨rfl, rfl⟩ | ⟨a0, b0, c0, e1, e2, rfl⟩
  · clear h9 HM
    go_enter Try.func6, Try.ntmps6
    go_wp2_with (first
      | (go_at_call 8; have _h := g1; refine (k9 _).mono ?_; rintro e w2 ⟨rfl, g2⟩)
      | (go_at_call 8; refine (k8 _).mono ?_; rintro e w1 ⟨rfl, g1⟩)
      | (go_at_call 15; refine (div15 _).mono ?_; rintro e w5 ⟨rfl, g5⟩))
    go_ret
    exact ⟨rfl, grown_trans (grown_trans g1 g2) g5⟩
  · rcases h9 with ⟨rfl, rfl⟩ | ⟨d0, _, _, f1, f2, rfl⟩
    · clear HM e1 e2
      go_enter Try.func6, Try.ntmps6
      go_wp2_with (first
        | (go_at_call 8; have _h := g1; refine (k9 _).mono ?_; rintro e w2 ⟨rfl, g2⟩)
        | (go_at_call 8; refine (k8 _).mono ?_; rintro e w1 ⟨rfl, g1⟩)
        | (go_at_call 15; refine (div15 _).mono ?_; rintro e w5 ⟨rfl, g5⟩))
      go_ret
      exact ⟨rfl, grown_trans (grown_trans g1 g2) g5⟩
    · by_cases h : d < a
      · clear HM e1 e2 f1 f2
        go_enter Try.func6, Try.ntmps6
        go_wp2_with (first
          | (go_at_call 8; have _h := g1; refine (k9 _).mono ?_; rintro e w2 ⟨rfl, g2⟩)
          | (go_at_call 8; refine (k8 _).mono ?_; rintro e w1 ⟨rfl, g1⟩)
          | (go_at_call 15; refine (div15 _).mono ?_; rintro e w5 ⟨rfl, g5⟩))
        go_ret
        exact ⟨rfl, grown_trans (grown_trans g1 g2) g5⟩
      · have hx : X ≤ X2 := by have := HM.out (by omega) b0 c0; omega
        clear HM e1 e2 f1 f2
        go_enter Try.func6, Try.ntmps6
        go_wp2_with (first
          | (go_at_call 8; have _h := g1; refine (k9 _).mono ?_; rintro e w2 ⟨rfl, g2⟩)
          | (go_at_call 8; refine (k8 _).mono ?_; rintro e w1 ⟨rfl, g1⟩)
          | (go_at_call 15; refine (div15 _).mono ?_; rintro e w5 ⟨rfl, g5⟩))
        go_ret
        exact ⟨rfl, grown_trans (grown_trans g1 g2) g5⟩

set_option maxHeartbeats 2000000 in
theorem split_walk (n f : Int) (f1 : -9223372036854775808 ≤ f) (f2 : f ≤ 9223372036854775807) (w : World) :
    Calls Try.prog 7 #[.int .i64 n, .int .i64 f] w fun e w' => e = .returned (.bool true) ∧ Grown w w' := by
  have k8 := part13 n f
  by_cases h : inB n = true ∧ 0 ≤ f ∧ f ≤ 1000
  · obtain ⟨e1, e2⟩ := pt_good h
    have k9 := part13 n (1000 - f)
    obtain ⟨e3, e4⟩ := pt_good (n := n) (f := 1000 - f) ⟨h.1, by omega, by omega⟩
    rw [e1, e2] at k8
    rw [e3, e4] at k9
    obtain ⟨n0, n1⟩ := inB_iff.1 h.1
    obtain ⟨x0, x1⟩ := pt_le (n := n) (f := f) n0 h.2.1 h.2.2
    have hf0 : f = 0 → n * f / 1000 = 0 := fun h => by rw [h]; simp
    have hf1 : f = 1000 → n * f / 1000 = n := fun h => by rw [h]; omega
    have hr : n - n * f / 1000 - n * (1000 - f) / 1000 = 0 ∨ n - n * f / 1000 - n * (1000 - f) / 1000 = 1 := by
      rw [Int.mul_sub]
      generalize n * f = p
      omega
    obtain ⟨y0, y1⟩ := pt_le (n := n) (f := 1000 - f) n0 (by omega) (by omega)
    obtain ⟨_, f0, f3⟩ := h
    clear e1 e2 e3 e4
    generalize n * f / 1000 = X at *
    generalize n * (1000 - f) / 1000 = X2 at *
    obtain ⟨r, hr0⟩ : ∃ r, n - X - X2 = r := ⟨_, rfl⟩
    rw [hr0] at hr
    have hX0 : (f != 0) = true ∨ (f != 0) = false := by cases (f != 0) <;> simp
    have hX1 : (f != 1000) = true ∨ (f != 1000) = false := by cases (f != 1000) <;> simp
    have t0 : (f != 0) = false → (X == 0) = true := fun h => by simp at h; simp [hf0 h]
    have t1 : (f != 1000) = false → (X == n) = true := fun h => by simp at h; simp [hf1 h]
    clear hf0 hf1
    have s1 : 0 ≤ n - X := by omega
    have hq : ((r == 0) = true) ∨ ((r == 0) = false ∧ (r == 1) = true) := by
      rcases hr with h | h
      · left; simp [h]
      · right; simp [h]
    clear hr
    rcases hX0 with u0 | u0 <;> rcases hX1 with u1 | u1 <;> rcases hq with v0 | ⟨v0, v1⟩
    all_goals
      try have u2 := t0 u0
      try have u3 := t1 u1
      clear t0 t1
      go_enter Try.func7, Try.ntmps7
      go_wp2_with (first
        | (go_at_call 13; have _h := g1; refine (k9 _).mono ?_; rintro e w2 ⟨rfl, g2⟩)
        | (go_at_call 13; refine (k8 _).mono ?_; rintro e w1 ⟨rfl, g1⟩)
        | (go_at_call 15; refine (div15 _).mono ?_; rintro e w5 ⟨rfl, g5⟩))
      go_ret
      exact ⟨rfl, grown_trans (grown_trans g1 g2) g5⟩
  · obtain ⟨e1, e2⟩ := pt_bad h
    rw [e1, e2] at k8
    clear h e1 e2
    go_enter Try.func7, Try.ntmps7
    go_wp2_with (first
      | (go_at_call 13; refine (k8 _).mono ?_; rintro e w1 ⟨rfl, g1⟩)
      | (go_at_call 15; refine (div15 _).mono ?_; rintro e w5 ⟨rfl, g5⟩))
    go_ret
    exact ⟨rfl, grown_trans g1 g5⟩

end Go.Proofs.Ytpagfnfmiffgpab
