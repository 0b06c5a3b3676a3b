/- The sum of a bank. -/
import Derived.Test.YtfajfebpchfkoaeB
import Derived.WalkKit
import Derived.LoopN
import Derived.WalkSmall
set_option maxRecDepth 100000
namespace Go.Proofs.Ytfajfebpchfkoae
open Go.RowKit
theorem free1_at (b c : Nat) (d : Int) (w : World) (hc : w.cell? ⟨c, 0, none⟩ = some (.int .i64 d)) (h0 : 0 ≤ d) (h1 : d < 4) :
    Calls Try.prog 90 #[.pointer (some ⟨b, 0, none⟩), .pointer (some ⟨c, 0, none⟩)] w fun e w' => e = .returned (.pointer (some ⟨b, d.toNat, none⟩)) ∧ ∃ nq, w' = w.drewN nq := free1_any b c d w h0 h1 hc
set_option maxHeartbeats 1000000 in
theorem sum_walk (f0 f1 f2 f3 bo wa bu s1 s2 s3 s4 s5 s6 s7 : Int) (w : World) (e1 : wrap64 bo = s1) (e2 : wrap64 (s1 + wa) = s2) (e3 : wrap64 (s2 + bu) = s3) (e4 : wrap64 (s3 + f0) = s4) (e5 : wrap64 (s4 + f1) = s5) (e6 : wrap64 (s5 + f2) = s6) (e7 : wrap64 (s6 + f3) = s7) :
    Calls Try.prog 18 #[.agg #[.int .i64 f0, .int .i64 f1, .int .i64 f2, .int .i64 f3, .int .i64 bo, .int .i64 wa, .int .i64 bu]] w
    fun e w' => e = .returned (.int .i64 s7) ∧ Below w.heap.size w w' := by
  go_enter Try.func18, Try.ntmps18
  go_wp2_with fail
  refine (places_row _).mono ?_
  rintro e w1 ⟨g, cap, c0, c1, c2, c3, rfl, P, hb⟩
  obtain ⟨p0, p1, p2, p3, p4, p5, p6, q0, q1, q2, q3, t0, t1, t2, t3, t4⟩ := P
  clear t0 t1 t2 t3 t4
  have hbox : ∀ o, w1.cell? ⟨w.heap.size, o, none⟩ = (w.alloc (.cells #[.int .i64 f0, .int .i64 f1, .int .i64 f2, .int .i64 f3, .int .i64 bo, .int .i64 wa, .int .i64 bu] 35)).cell? ⟨w.heap.size, o, none⟩ := fun o => hb.cell (by simp)
  have x0 : w1.cell? ⟨w.heap.size, 0, none⟩ = some (.int .i64 f0) := by rw [hbox]; simp
  have x1 : w1.cell? ⟨w.heap.size, 1, none⟩ = some (.int .i64 f1) := by rw [hbox]; simp
  have x2 : w1.cell? ⟨w.heap.size, 2, none⟩ = some (.int .i64 f2) := by rw [hbox]; simp
  have x3 : w1.cell? ⟨w.heap.size, 3, none⟩ = some (.int .i64 f3) := by rw [hbox]; simp
  have x4 : w1.cell? ⟨w.heap.size, 4, none⟩ = some (.int .i64 bo) := by rw [hbox]; simp
  have x5 : w1.cell? ⟨w.heap.size, 5, none⟩ = some (.int .i64 wa) := by rw [hbox]; simp
  have x6 : w1.cell? ⟨w.heap.size, 6, none⟩ = some (.int .i64 bu) := by rw [hbox]; simp
  have HB : Hid (Below w.heap.size w w1) := ((Below.refl _ w).alloc (Nat.le_refl _) _).trans (hb.mono (by simp))
  clear hbox hb
  go_wp2
  refine wp_loop_rounds 8 ?_
  iterate 8 (try (rw [rounds_succ]; go_wp2_with (first
    | (go_at_call 87; refine (bonded1_any _ _).mono ?_; rintro e w2 ⟨rfl, rfl⟩)
    | (go_at_call 88; refine (waiting1_any _ _).mono ?_; rintro e w2 ⟨rfl, rfl⟩)
    | (go_at_call 89; refine (burnt1_any _ _).mono ?_; rintro e w2 ⟨rfl, rfl⟩)
    | (go_at_call 90; refine (free1_at _ _ _ _ (by first | exact q0 | exact q1 | exact q2 | exact q3) (by decide) (by decide)).mono ?_; rintro e w2 ⟨rfl, nq, rfl⟩))))
  go_ret
  subst e7
  exact ⟨rfl, below_drewN HB.out _⟩
theorem wrap_add (a b : Int) : wrap64 (wrap64 a + b) = wrap64 (a + b) := by
  unfold wrap64
  omega
theorem sum_any (f0 f1 f2 f3 bo wa bu : Int) (w : World) : Calls Try.prog 18 #[.agg #[.int .i64 f0, .int .i64 f1, .int .i64 f2, .int .i64 f3, .int .i64 bo, .int .i64 wa, .int .i64 bu]] w
    fun e w' => e = .returned (.int .i64 (wrap64 (f0 + f1 + f2 + f3 + bo + wa + bu))) ∧ Below w.heap.size w w' := by
  refine (sum_walk f0 f1 f2 f3 bo wa bu _ _ _ _ _ _ _ w rfl rfl rfl rfl rfl rfl rfl).mono ?_
  rintro e w' ⟨rfl, h⟩
  refine ⟨?_, h⟩
  simp only [wrap_add]
  rw [show bo + wa + bu + f0 + f1 + f2 + f3 = f0 + f1 + f2 + f3 + bo + wa + bu by omega]
end Go.Proofs.Ytfajfebpchfkoae
