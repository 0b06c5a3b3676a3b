/- The walk of BankRound. -/
import Derived.Test.YtjdjflkagopgoacK
import Derived.WalkKit
namespace Go.Proofs.Ytjdjflkagopgoac
open Go.RowKit
set_option maxHeartbeats 1000000 in
theorem round_no (b x : Bk) (d n er : Int) (w : World) (her : er ≠ 0)
    (hB : ∀ w, Calls Try.prog 6 #[.agg #[.int .i64 b.f0, .int .i64 b.f1, .int .i64 b.f2, .int .i64 b.f3, .int .i64 b.bo, .int .i64 b.wa, .int .i64 b.bu], .int .i64 d, .int .i64 n] w fun e w' => e = .returned (.tuple #[.agg #[.int .i64 x.f0, .int .i64 x.f1, .int .i64 x.f2, .int .i64 x.f3, .int .i64 x.bo, .int .i64 x.wa, .int .i64 x.bu], .int .i64 er]) ∧ Below w.heap.size w w') :
    Calls Try.prog 4 #[.agg #[.int .i64 b.f0, .int .i64 b.f1, .int .i64 b.f2, .int .i64 b.f3, .int .i64 b.bo, .int .i64 b.wa, .int .i64 b.bu], .int .i64 d, .int .i64 n] w fun e w' => e = .returned (.bool true) ∧ Below w.heap.size w w' := by
  have hb : (er != 0) = true := by simpa using her
  have h0 : Below w.heap.size w (w.alloc (.cells #[.int .i64 b.f0, .int .i64 b.f1, .int .i64 b.f2, .int .i64 b.f3, .int .i64 b.bo, .int .i64 b.wa, .int .i64 b.bu] 24)) := (Below.refl _ w).alloc (Nat.le_refl _) _
  go_enter Try.func4, Try.ntmps4
  go_wp2_with (first
    | (go_at_call 6; refine (hB _).mono ?_; rintro e w2 ⟨rfl, h2⟩)
    | (go_at_call 5; refine (banks_any _).mono ?_; rintro e w3 ⟨rfl, h3⟩))
  go_ret
  refine ⟨rfl, ?_⟩
  have h12 := h0.trans (h2.mono h0.size)
  exact (h12.alloc h12.size _).trans (h3.mono (Nat.le_trans h12.size (by simp)))
set_option maxHeartbeats 1000000 in
theorem round_yes (b x y : Bk) (d n : Int) (w : World)
    (hB : ∀ w, Calls Try.prog 6 #[.agg #[.int .i64 b.f0, .int .i64 b.f1, .int .i64 b.f2, .int .i64 b.f3, .int .i64 b.bo, .int .i64 b.wa, .int .i64 b.bu], .int .i64 d, .int .i64 n] w fun e w' => e = .returned (.tuple #[.agg #[.int .i64 x.f0, .int .i64 x.f1, .int .i64 x.f2, .int .i64 x.f3, .int .i64 x.bo, .int .i64 x.wa, .int .i64 x.bu], .int .i64 0]) ∧ Below w.heap.size w w')
    (hU : ∀ w, Calls Try.prog 7 #[.agg #[.int .i64 x.f0, .int .i64 x.f1, .int .i64 x.f2, .int .i64 x.f3, .int .i64 x.bo, .int .i64 x.wa, .int .i64 x.bu], .int .i64 n] w fun e w' => e = .returned (.tuple #[.agg #[.int .i64 y.f0, .int .i64 y.f1, .int .i64 y.f2, .int .i64 y.f3, .int .i64 y.bo, .int .i64 y.wa, .int .i64 y.bu], .int .i64 0]) ∧ Below w.heap.size w w')
    (hP : ∀ w, Calls Try.prog 8 #[.agg #[.int .i64 y.f0, .int .i64 y.f1, .int .i64 y.f2, .int .i64 y.f3, .int .i64 y.bo, .int .i64 y.wa, .int .i64 y.bu], .int .i64 d, .int .i64 n] w fun e w' => e = .returned (.tuple #[.agg #[.int .i64 b.f0, .int .i64 b.f1, .int .i64 b.f2, .int .i64 b.f3, .int .i64 b.bo, .int .i64 b.wa, .int .i64 b.bu], .int .i64 0]) ∧ Below w.heap.size w w')
    (hE : ∀ w, (binOp .eql 24 (.agg #[.int .i64 b.f0, .int .i64 b.f1, .int .i64 b.f2, .int .i64 b.f3, .int .i64 b.bo, .int .i64 b.wa, .int .i64 b.bu]) (.agg #[.int .i64 b.f0, .int .i64 b.f1, .int .i64 b.f2, .int .i64 b.f3, .int .i64 b.bo, .int .i64 b.wa, .int .i64 b.bu])).run Try.prog w = .ok (.bool true) w) :
    Calls Try.prog 4 #[.agg #[.int .i64 b.f0, .int .i64 b.f1, .int .i64 b.f2, .int .i64 b.f3, .int .i64 b.bo, .int .i64 b.wa, .int .i64 b.bu], .int .i64 d, .int .i64 n] w fun e w' => e = .returned (.bool true) ∧ Below w.heap.size w w' := by
  have h0 : Below w.heap.size w (w.alloc (.cells #[.int .i64 b.f0, .int .i64 b.f1, .int .i64 b.f2, .int .i64 b.f3, .int .i64 b.bo, .int .i64 b.wa, .int .i64 b.bu] 24)) := (Below.refl _ w).alloc (Nat.le_refl _) _
  have B0 := BAt.new w b.f0 b.f1 b.f2 b.f3 b.bo b.wa b.bu
  have hlt : w.heap.size < (w.alloc (.cells #[.int .i64 b.f0, .int .i64 b.f1, .int .i64 b.f2, .int .i64 b.f3, .int .i64 b.bo, .int .i64 b.wa, .int .i64 b.bu] 24)).heap.size := by simp
  go_enter Try.func4, Try.ntmps4
  go_wp2_with fail
  generalize w.alloc (.cells #[.int .i64 b.f0, .int .i64 b.f1, .int .i64 b.f2, .int .i64 b.f3, .int .i64 b.bo, .int .i64 b.wa, .int .i64 b.bu] 24) = w0 at *
  obtain ⟨x0, x1, x2, x3, x4, x5, x6⟩ := B0.cells
  refine (hB _).mono ?_
  rintro e w1 ⟨rfl, h1⟩
  have HB1 : Hid (Below w.heap.size w w1) := h0.trans (h1.mono h0.size)
  have B1 := B0.later h1 hlt
  have hz1 : w.heap.size < w1.heap.size := Nat.lt_of_lt_of_le hlt h1.size
  clear x0 x1 x2 x3 x4 x5 x6 B0 h0 h1 hlt hB
  go_wp2_with fail
  refine (banks_any _).mono ?_
  rintro e w2 ⟨rfl, h2⟩
  have B2 := (B1.alloc _).later h2 (by simp; omega)
  have X2 := (BAt.new w1 x.f0 x.f1 x.f2 x.f3 x.bo x.wa x.bu).later h2 (by simp)
  have HB2 : Hid (Below w.heap.size w w2) := (HB1.out.alloc (Nat.le_of_lt hz1) _).trans (h2.mono (by simp; omega))
  have hz2 : w.heap.size < w2.heap.size := B2.lt
  clear h2 HB1 B1
  obtain ⟨x0, x1, x2, x3, x4, x5, x6⟩ := X2.cells
  clear X2
  go_wp2_with fail
  refine (hU _).mono ?_
  rintro e w3 ⟨rfl, h3⟩
  have B3 := B2.later h3 hz2
  have HB3 : Hid (Below w.heap.size w w3) := HB2.out.trans (h3.mono HB2.out.size)
  have hz3 : w.heap.size < w3.heap.size := B3.lt
  clear h3 HB2 B2 x0 x1 x2 x3 x4 x5 x6 hU hz2
  go_wp2_with fail
  refine (hP _).mono ?_
  rintro e w4 ⟨rfl, h4⟩
  have B4 := (B3.alloc _).later h4 (by simp; omega)
  have HB4 : Hid (Below w.heap.size w w4) := (HB3.out.alloc (Nat.le_of_lt hz3) _).trans (h4.mono (by simp; omega))
  have hz4 : w.heap.size < w4.heap.size := B4.lt
  clear h4 HB3 B3 hP hz3
  obtain ⟨x0, x1, x2, x3, x4, x5, x6⟩ := B4.cells
  clear B4
  go_wp2
  go_ret
  exact ⟨rfl, HB4.out.alloc (Nat.le_of_lt hz4) _⟩
end Go.Proofs.Ytjdjflkagopgoac
