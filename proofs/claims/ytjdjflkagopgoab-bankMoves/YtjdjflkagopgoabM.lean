/- The walk of BankMoves. -/
import Derived.Test.YtjdjflkagopgoabK
import Derived.Test.YtjdjflkagopgoabQ
import Derived.Test.YtjdjflkagopgoabT7
import Derived.WalkKit
import Derived.Deep.RegionHeld3
namespace Go.Proofs.Ytjdjflkagopgoab
open Go.RowKit
theorem five_keep {f : Nat} {args : Array Value} {w0 w : World} {p a c q r : Nat} {v : Value} {b z u : Bk} (h : Calls Try.prog f args w fun e w' => e = .returned v ∧ Below w.heap.size w w')
    (hp : p < w0.heap.size) (ha : a < w0.heap.size) (hc : c < w0.heap.size) (hq : q < w0.heap.size) (hr : r < w0.heap.size) (hS : w.cell? ⟨p, 0, none⟩ = some (.int .i64 b.f0) ∧ w.cell? ⟨p, 1, none⟩ = some (.int .i64 b.f1) ∧ w.cell? ⟨p, 2, none⟩ = some (.int .i64 b.f2) ∧ w.cell? ⟨p, 3, none⟩ = some (.int .i64 b.f3) ∧ w.cell? ⟨p, 4, none⟩ = some (.int .i64 b.bo) ∧ w.cell? ⟨p, 5, none⟩ = some (.int .i64 b.wa) ∧ w.cell? ⟨p, 6, none⟩ = some (.int .i64 b.bu) ∧ w.cell? ⟨a, 0, none⟩ = some (.int .i64 z.f0) ∧ w.cell? ⟨a, 1, none⟩ = some (.int .i64 z.f1) ∧ w.cell? ⟨a, 2, none⟩ = some (.int .i64 z.f2) ∧ w.cell? ⟨a, 3, none⟩ = some (.int .i64 z.f3) ∧ w.cell? ⟨a, 4, none⟩ = some (.int .i64 z.bo) ∧ w.cell? ⟨a, 5, none⟩ = some (.int .i64 z.wa) ∧ w.cell? ⟨a, 6, none⟩ = some (.int .i64 z.bu) ∧ w.cell? ⟨c, 0, none⟩ = some (.int .i64 z.f0) ∧ w.cell? ⟨c, 1, none⟩ = some (.int .i64 z.f1) ∧ w.cell? ⟨c, 2, none⟩ = some (.int .i64 z.f2) ∧ w.cell? ⟨c, 3, none⟩ = some (.int .i64 z.f3) ∧ w.cell? ⟨c, 4, none⟩ = some (.int .i64 z.bo) ∧ w.cell? ⟨c, 5, none⟩ = some (.int .i64 z.wa) ∧ w.cell? ⟨c, 6, none⟩ = some (.int .i64 z.bu) ∧ w.cell? ⟨q, 0, none⟩ = some (.int .i64 u.f0) ∧ w.cell? ⟨q, 1, none⟩ = some (.int .i64 u.f1) ∧ w.cell? ⟨q, 2, none⟩ = some (.int .i64 u.f2) ∧ w.cell? ⟨q, 3, none⟩ = some (.int .i64 u.f3) ∧ w.cell? ⟨q, 4, none⟩ = some (.int .i64 u.bo) ∧ w.cell? ⟨q, 5, none⟩ = some (.int .i64 u.wa) ∧ w.cell? ⟨q, 6, none⟩ = some (.int .i64 u.bu) ∧ w.cell? ⟨r, 0, none⟩ = some (.int .i64 u.f0) ∧ w.cell? ⟨r, 1, none⟩ = some (.int .i64 u.f1) ∧ w.cell? ⟨r, 2, none⟩ = some (.int .i64 u.f2) ∧ w.cell? ⟨r, 3, none⟩ = some (.int .i64 u.f3) ∧ w.cell? ⟨r, 4, none⟩ = some (.int .i64 u.bo) ∧ w.cell? ⟨r, 5, none⟩ = some (.int .i64 u.wa) ∧ w.cell? ⟨r, 6, none⟩ = some (.int .i64 u.bu) ∧ Below w0.heap.size w0 w) :
    Calls Try.prog f args w fun e w' => e = .returned v ∧ w'.cell? ⟨p, 0, none⟩ = some (.int .i64 b.f0) ∧ w'.cell? ⟨p, 1, none⟩ = some (.int .i64 b.f1) ∧ w'.cell? ⟨p, 2, none⟩ = some (.int .i64 b.f2) ∧ w'.cell? ⟨p, 3, none⟩ = some (.int .i64 b.f3) ∧ w'.cell? ⟨p, 4, none⟩ = some (.int .i64 b.bo) ∧ w'.cell? ⟨p, 5, none⟩ = some (.int .i64 b.wa) ∧ w'.cell? ⟨p, 6, none⟩ = some (.int .i64 b.bu) ∧ w'.cell? ⟨a, 0, none⟩ = some (.int .i64 z.f0) ∧ w'.cell? ⟨a, 1, none⟩ = some (.int .i64 z.f1) ∧ w'.cell? ⟨a, 2, none⟩ = some (.int .i64 z.f2) ∧ w'.cell? ⟨a, 3, none⟩ = some (.int .i64 z.f3) ∧ w'.cell? ⟨a, 4, none⟩ = some (.int .i64 z.bo) ∧ w'.cell? ⟨a, 5, none⟩ = some (.int .i64 z.wa) ∧ w'.cell? ⟨a, 6, none⟩ = some (.int .i64 z.bu) ∧ w'.cell? ⟨c, 0, none⟩ = some (.int .i64 z.f0) ∧ w'.cell? ⟨c, 1, none⟩ = some (.int .i64 z.f1) ∧ w'.cell? ⟨c, 2, none⟩ = some (.int .i64 z.f2) ∧ w'.cell? ⟨c, 3, none⟩ = some (.int .i64 z.f3) ∧ w'.cell? ⟨c, 4, none⟩ = some (.int .i64 z.bo) ∧ w'.cell? ⟨c, 5, none⟩ = some (.int .i64 z.wa) ∧ w'.cell? ⟨c, 6, none⟩ = some (.int .i64 z.bu) ∧ w'.cell? ⟨q, 0, none⟩ = some (.int .i64 u.f0) ∧ w'.cell? ⟨q, 1, none⟩ = some (.int .i64 u.f1) ∧ w'.cell? ⟨q, 2, none⟩ = some (.int .i64 u.f2) ∧ w'.cell? ⟨q, 3, none⟩ = some (.int .i64 u.f3) ∧ w'.cell? ⟨q, 4, none⟩ = some (.int .i64 u.bo) ∧ w'.cell? ⟨q, 5, none⟩ = some (.int .i64 u.wa) ∧ w'.cell? ⟨q, 6, none⟩ = some (.int .i64 u.bu) ∧ w'.cell? ⟨r, 0, none⟩ = some (.int .i64 u.f0) ∧ w'.cell? ⟨r, 1, none⟩ = some (.int .i64 u.f1) ∧ w'.cell? ⟨r, 2, none⟩ = some (.int .i64 u.f2) ∧ w'.cell? ⟨r, 3, none⟩ = some (.int .i64 u.f3) ∧ w'.cell? ⟨r, 4, none⟩ = some (.int .i64 u.bo) ∧ w'.cell? ⟨r, 5, none⟩ = some (.int .i64 u.wa) ∧ w'.cell? ⟨r, 6, none⟩ = some (.int .i64 u.bu) ∧ Below w0.heap.size w0 w' := by
  refine h.mono ?_
  rintro e w' ⟨rfl, hb'⟩
  obtain ⟨h0_0, h0_1, h0_2, h0_3, h0_4, h0_5, h0_6, h1_0, h1_1, h1_2, h1_3, h1_4, h1_5, h1_6, h2_0, h2_1, h2_2, h2_3, h2_4, h2_5, h2_6, h3_0, h3_1, h3_2, h3_3, h3_4, h3_5, h3_6, h4_0, h4_1, h4_2, h4_3, h4_4, h4_5, h4_6, hB⟩ := hS
  have k : ∀ p, p < w0.heap.size → ∀ o, w'.cell? ⟨p, o, none⟩ = w.cell? ⟨p, o, none⟩ := fun p hp o => hb'.cell (Nat.lt_of_lt_of_le hp hB.size)
  exact ⟨rfl, (k _ hp 0).trans h0_0, (k _ hp 1).trans h0_1, (k _ hp 2).trans h0_2, (k _ hp 3).trans h0_3, (k _ hp 4).trans h0_4, (k _ hp 5).trans h0_5, (k _ hp 6).trans h0_6, (k _ ha 0).trans h1_0, (k _ ha 1).trans h1_1, (k _ ha 2).trans h1_2, (k _ ha 3).trans h1_3, (k _ ha 4).trans h1_4, (k _ ha 5).trans h1_5, (k _ ha 6).trans h1_6, (k _ hc 0).trans h2_0, (k _ hc 1).trans h2_1, (k _ hc 2).trans h2_2, (k _ hc 3).trans h2_3, (k _ hc 4).trans h2_4, (k _ hc 5).trans h2_5, (k _ hc 6).trans h2_6, (k _ hq 0).trans h3_0, (k _ hq 1).trans h3_1, (k _ hq 2).trans h3_2, (k _ hq 3).trans h3_3, (k _ hq 4).trans h3_4, (k _ hq 5).trans h3_5, (k _ hq 6).trans h3_6, (k _ hr 0).trans h4_0, (k _ hr 1).trans h4_1, (k _ hr 2).trans h4_2, (k _ hr 3).trans h4_3, (k _ hr 4).trans h4_4, (k _ hr 5).trans h4_5, (k _ hr 6).trans h4_6, hB.trans (hb'.mono hB.size)⟩
set_option maxHeartbeats 8000000 in
theorem moves_walk (b x y z u : Bk) (d n m ex ey ez eu : Int) (w : World)
    (hB : ∀ w, Calls Try.prog 17 #[.agg #[.int .i64 b.f0, .int .i64 b.f1, .int .i64 b.f2, .int .i64 b.f3, .int .i64 b.bo, .int .i64 b.wa, .int .i64 b.bu], .int .i64 d, .int .i64 n] w fun e w' => e = .returned (.tuple #[.agg #[.int .i64 x.f0, .int .i64 x.f1, .int .i64 x.f2, .int .i64 x.f3, .int .i64 x.bo, .int .i64 x.wa, .int .i64 x.bu], .int .i64 ex]) ∧ Below w.heap.size w w')
    (hB' : ∀ w, Calls Try.prog 18 #[.agg #[.int .i64 b.f0, .int .i64 b.f1, .int .i64 b.f2, .int .i64 b.f3, .int .i64 b.bo, .int .i64 b.wa, .int .i64 b.bu], .int .i64 d, .int .i64 n] w fun e w' => e = .returned (.tuple #[.agg #[.int .i64 x.f0, .int .i64 x.f1, .int .i64 x.f2, .int .i64 x.f3, .int .i64 x.bo, .int .i64 x.wa, .int .i64 x.bu], .int .i64 ex]) ∧ Below w.heap.size w w')
    (hU : ∀ w, Calls Try.prog 19 #[.agg #[.int .i64 b.f0, .int .i64 b.f1, .int .i64 b.f2, .int .i64 b.f3, .int .i64 b.bo, .int .i64 b.wa, .int .i64 b.bu], .int .i64 n] w fun e w' => e = .returned (.tuple #[.agg #[.int .i64 y.f0, .int .i64 y.f1, .int .i64 y.f2, .int .i64 y.f3, .int .i64 y.bo, .int .i64 y.wa, .int .i64 y.bu], .int .i64 ey]) ∧ Below w.heap.size w w')
    (hU' : ∀ w, Calls Try.prog 20 #[.agg #[.int .i64 b.f0, .int .i64 b.f1, .int .i64 b.f2, .int .i64 b.f3, .int .i64 b.bo, .int .i64 b.wa, .int .i64 b.bu], .int .i64 n] w fun e w' => e = .returned (.tuple #[.agg #[.int .i64 y.f0, .int .i64 y.f1, .int .i64 y.f2, .int .i64 y.f3, .int .i64 y.bo, .int .i64 y.wa, .int .i64 y.bu], .int .i64 ey]) ∧ Below w.heap.size w w')
    (hP : ∀ w, Calls Try.prog 21 #[.agg #[.int .i64 b.f0, .int .i64 b.f1, .int .i64 b.f2, .int .i64 b.f3, .int .i64 b.bo, .int .i64 b.wa, .int .i64 b.bu], .int .i64 d, .int .i64 n] w fun e w' => e = .returned (.tuple #[.agg #[.int .i64 z.f0, .int .i64 z.f1, .int .i64 z.f2, .int .i64 z.f3, .int .i64 z.bo, .int .i64 z.wa, .int .i64 z.bu], .int .i64 ez]) ∧ Below w.heap.size w w')
    (hP' : ∀ w, Calls Try.prog 22 #[.agg #[.int .i64 b.f0, .int .i64 b.f1, .int .i64 b.f2, .int .i64 b.f3, .int .i64 b.bo, .int .i64 b.wa, .int .i64 b.bu], .int .i64 d, .int .i64 n] w fun e w' => e = .returned (.tuple #[.agg #[.int .i64 z.f0, .int .i64 z.f1, .int .i64 z.f2, .int .i64 z.f3, .int .i64 z.bo, .int .i64 z.wa, .int .i64 z.bu], .int .i64 ez]) ∧ Below w.heap.size w w')
    (hR : ∀ w, Calls Try.prog 23 #[.agg #[.int .i64 b.f0, .int .i64 b.f1, .int .i64 b.f2, .int .i64 b.f3, .int .i64 b.bo, .int .i64 b.wa, .int .i64 b.bu], .int .i64 n, .int .i64 m] w fun e w' => e = .returned (.tuple #[.agg #[.int .i64 u.f0, .int .i64 u.f1, .int .i64 u.f2, .int .i64 u.f3, .int .i64 u.bo, .int .i64 u.wa, .int .i64 u.bu], .int .i64 eu]) ∧ Below w.heap.size w w')
    (hR' : ∀ w, Calls Try.prog 24 #[.agg #[.int .i64 b.f0, .int .i64 b.f1, .int .i64 b.f2, .int .i64 b.f3, .int .i64 b.bo, .int .i64 b.wa, .int .i64 b.bu], .int .i64 n, .int .i64 m] w fun e w' => e = .returned (.tuple #[.agg #[.int .i64 u.f0, .int .i64 u.f1, .int .i64 u.f2, .int .i64 u.f3, .int .i64 u.bo, .int .i64 u.wa, .int .i64 u.bu], .int .i64 eu]) ∧ Below w.heap.size w w') :
    Calls Try.prog 8 #[.agg #[.int .i64 b.f0, .int .i64 b.f1, .int .i64 b.f2, .int .i64 b.f3, .int .i64 b.bo, .int .i64 b.wa, .int .i64 b.bu], .int .i64 d, .int .i64 n, .int .i64 m] w fun e w' => e = .returned (.bool true) ∧ Below w.heap.size w w' := by
  have h0 : Below w.heap.size w (w.alloc (.cells #[.int .i64 b.f0, .int .i64 b.f1, .int .i64 b.f2, .int .i64 b.f3, .int .i64 b.bo, .int .i64 b.wa, .int .i64 b.bu] 33)) := (Below.refl _ w).alloc (Nat.le_refl _) _
  have B0 := BAt.new w b.f0 b.f1 b.f2 b.f3 b.bo b.wa b.bu
  go_enter Try.func8, Try.ntmps8
  go_wp2_with fail
  generalize w.alloc (.cells #[.int .i64 b.f0, .int .i64 b.f1, .int .i64 b.f2, .int .i64 b.f3, .int .i64 b.bo, .int .i64 b.wa, .int .i64 b.bu] 33) = w0 at *
  refine (hB _).mono ?_
  rintro e w1 ⟨rfl, h1⟩
  have B1 := B0.later h1 B0.lt
  have HB1 : Hid (Below w.heap.size w w1) := h0.trans (h1.mono h0.size)
  have hz1 : w.heap.size < w1.heap.size := B1.lt
  clear h0 B0 h1 hB
  obtain ⟨x0, x1, x2, x3, x4, x5, x6⟩ := B1.cells
  go_wp2_with fail
  refine (hB' _).mono ?_
  rintro e w2 ⟨rfl, h2⟩
  have B2 := (B1.alloc (.cells #[.int .i64 x.f0, .int .i64 x.f1, .int .i64 x.f2, .int .i64 x.f3, .int .i64 x.bo, .int .i64 x.wa, .int .i64 x.bu] 33)).later h2 (by simp; omega)
  have X2 := (BAt.new w1 x.f0 x.f1 x.f2 x.f3 x.bo x.wa x.bu).later h2 (by simp)
  have HB2 : Hid (Below w.heap.size w w2) := (HB1.out.alloc (Nat.le_of_lt hz1) _).trans (h2.mono (by simp; omega))
  have hz2 : w1.heap.size < w2.heap.size := X2.lt
  have hp2 : w.heap.size < w2.heap.size := B2.lt
  clear h2 B1 HB1 hB'
  clear x0 x1 x2 x3 x4 x5 x6
  obtain ⟨x0, x1, x2, x3, x4, x5, x6⟩ := B2.cells
  go_wp2_with fail
  refine (hU _).mono ?_
  rintro e w3 ⟨rfl, h3⟩
  have B3 := (B2.alloc (.cells #[.int .i64 x.f0, .int .i64 x.f1, .int .i64 x.f2, .int .i64 x.f3, .int .i64 x.bo, .int .i64 x.wa, .int .i64 x.bu] 33)).later h3 (by simp; omega)
  have X3 := (X2.alloc (.cells #[.int .i64 x.f0, .int .i64 x.f1, .int .i64 x.f2, .int .i64 x.f3, .int .i64 x.bo, .int .i64 x.wa, .int .i64 x.bu] 33)).later h3 (by simp; omega)
  have Y3 := (BAt.new w2 x.f0 x.f1 x.f2 x.f3 x.bo x.wa x.bu).later h3 (by simp)
  have HB3 : Hid (Below w.heap.size w w3) := (HB2.out.alloc HB2.out.size _).trans (h3.mono (by simp; omega))
  have hz3 : w2.heap.size < w3.heap.size := Y3.lt
  have hp3 : w.heap.size < w3.heap.size := B3.lt
  have ha3 : w1.heap.size < w3.heap.size := X3.lt
  clear h3 B2 X2 HB2 hU
  clear x0 x1 x2 x3 x4 x5 x6
  obtain ⟨x0, x1, x2, x3, x4, x5, x6⟩ := B3.cells
  go_wp2_with fail
  refine (hU' _).mono ?_
  rintro e w4 ⟨rfl, h4⟩
  have B4 := (B3.alloc (.cells #[.int .i64 y.f0, .int .i64 y.f1, .int .i64 y.f2, .int .i64 y.f3, .int .i64 y.bo, .int .i64 y.wa, .int .i64 y.bu] 33)).later h4 (by simp; omega)
  have X4 := (X3.alloc (.cells #[.int .i64 y.f0, .int .i64 y.f1, .int .i64 y.f2, .int .i64 y.f3, .int .i64 y.bo, .int .i64 y.wa, .int .i64 y.bu] 33)).later h4 (by simp; omega)
  have Y4 := (Y3.alloc (.cells #[.int .i64 y.f0, .int .i64 y.f1, .int .i64 y.f2, .int .i64 y.f3, .int .i64 y.bo, .int .i64 y.wa, .int .i64 y.bu] 33)).later h4 (by simp; omega)
  have Z4 := (BAt.new w3 y.f0 y.f1 y.f2 y.f3 y.bo y.wa y.bu).later h4 (by simp)
  have HB4 : Hid (Below w.heap.size w w4) := (HB3.out.alloc HB3.out.size _).trans (h4.mono (by simp; omega))
  have hz4 : w3.heap.size < w4.heap.size := Z4.lt
  have hp4 : w.heap.size < w4.heap.size := B4.lt
  have ha4 : w1.heap.size < w4.heap.size := X4.lt
  have hc4 : w2.heap.size < w4.heap.size := Y4.lt
  clear h4 B3 X3 Y3 HB3 hU'
  clear x0 x1 x2 x3 x4 x5 x6
  obtain ⟨x0, x1, x2, x3, x4, x5, x6⟩ := B4.cells
  obtain ⟨a0, a1, a2, a3, a4, a5, a6⟩ := X4.cells
  obtain ⟨c0, c1, c2, c3, c4, c5, c6⟩ := Y4.cells
  obtain ⟨q0, q1, q2, q3, q4, q5, q6⟩ := Z4.cells
  have hq1 : ∀ w, (binOp .neq 33 (.agg #[.int .i64 x.f0, .int .i64 x.f1, .int .i64 x.f2, .int .i64 x.f3, .int .i64 x.bo, .int .i64 x.wa, .int .i64 x.bu]) (.agg #[.int .i64 x.f0, .int .i64 x.f1, .int .i64 x.f2, .int .i64 x.f3, .int .i64 x.bo, .int .i64 x.wa, .int .i64 x.bu])).run Try.prog w = .ok (.bool false) w := fun w => by rw [neB]; simp
  have hq2 : ∀ w, (binOp .neq 33 (.agg #[.int .i64 y.f0, .int .i64 y.f1, .int .i64 y.f2, .int .i64 y.f3, .int .i64 y.bo, .int .i64 y.wa, .int .i64 y.bu]) (.agg #[.int .i64 y.f0, .int .i64 y.f1, .int .i64 y.f2, .int .i64 y.f3, .int .i64 y.bo, .int .i64 y.wa, .int .i64 y.bu])).run Try.prog w = .ok (.bool false) w := fun w => by rw [neB]; simp
  go_wp2_with fail
  refine (hP _).mono ?_
  rintro e w5 ⟨rfl, h5⟩
  have B5 := (B4.alloc (.cells #[.int .i64 y.f0, .int .i64 y.f1, .int .i64 y.f2, .int .i64 y.f3, .int .i64 y.bo, .int .i64 y.wa, .int .i64 y.bu] 33)).later h5 (by simp; omega)
  have X5 := (X4.alloc (.cells #[.int .i64 y.f0, .int .i64 y.f1, .int .i64 y.f2, .int .i64 y.f3, .int .i64 y.bo, .int .i64 y.wa, .int .i64 y.bu] 33)).later h5 (by simp; omega)
  have Y5 := (Y4.alloc (.cells #[.int .i64 y.f0, .int .i64 y.f1, .int .i64 y.f2, .int .i64 y.f3, .int .i64 y.bo, .int .i64 y.wa, .int .i64 y.bu] 33)).later h5 (by simp; omega)
  have Z5 := (Z4.alloc (.cells #[.int .i64 y.f0, .int .i64 y.f1, .int .i64 y.f2, .int .i64 y.f3, .int .i64 y.bo, .int .i64 y.wa, .int .i64 y.bu] 33)).later h5 (by simp; omega)
  have U5 := (BAt.new w4 y.f0 y.f1 y.f2 y.f3 y.bo y.wa y.bu).later h5 (by simp)
  have HB5 : Hid (Below w.heap.size w w5) := (HB4.out.alloc HB4.out.size _).trans (h5.mono (by simp; omega))
  clear h5 B4 X4 Y4 Z4 HB4 hP hq1 hq2
  clear x0 x1 x2 x3 x4 x5 x6 a0 a1 a2 a3 a4 a5 a6 c0 c1 c2 c3 c4 c5 c6 q0 q1 q2 q3 q4 q5 q6
  clear hp2 hp3 ha3 hp4 ha4 hc4
  generalize w1.heap.size = a at *
  generalize w2.heap.size = c at *
  generalize w3.heap.size = q at *
  generalize w4.heap.size = r at *
  have n1 : ¬ a = w.heap.size := by omega
  have n2 : ¬ w.heap.size = a := by omega
  have n3 : ¬ c = w.heap.size := by omega
  have n4 : ¬ w.heap.size = c := by omega
  have n5 : ¬ q = w.heap.size := by omega
  have n6 : ¬ w.heap.size = q := by omega
  have n7 : ¬ r = w.heap.size := by omega
  have n8 : ¬ w.heap.size = r := by omega
  obtain ⟨x0, x1, x2, x3, x4, x5, x6⟩ := B5.cells
  obtain ⟨u0, u1, u2, u3, u4, u5, u6⟩ := X5.frees
  obtain ⟨v0, v1, v2, v3, v4, v5, v6⟩ := X5.cells
  go_wp2_with fail
  refine (hP' _).mono ?_
  rintro e w6 ⟨rfl, h6⟩
  have B6 := (B5.other7 n2 z.f0 z.f1 z.f2 z.f3 z.bo z.wa z.bu).later h6 (Nat.lt_of_lt_of_le B5.lt (by simp))
  have X6 := (X5.set7 z.f0 z.f1 z.f2 z.f3 z.bo z.wa z.bu).later h6 (Nat.lt_of_lt_of_le X5.lt (by simp))
  have Y6 := (Y5.other7 (show c ≠ a by omega) z.f0 z.f1 z.f2 z.f3 z.bo z.wa z.bu).later h6 (Nat.lt_of_lt_of_le Y5.lt (by simp))
  have Z6 := (Z5.other7 (show q ≠ a by omega) z.f0 z.f1 z.f2 z.f3 z.bo z.wa z.bu).later h6 (Nat.lt_of_lt_of_le Z5.lt (by simp))
  have U6 := (U5.other7 (show r ≠ a by omega) z.f0 z.f1 z.f2 z.f3 z.bo z.wa z.bu).later h6 (Nat.lt_of_lt_of_le U5.lt (by simp))
  have HB6 : Hid (Below w.heap.size w w6) := (set7_below (b := a) HB5.out (by omega) z.f0 z.f1 z.f2 z.f3 z.bo z.wa z.bu).trans (h6.mono (Nat.le_trans HB5.out.size (by simp)))
  clear h6 B5 X5 Y5 Z5 U5 HB5 hP'
  clear x0 x1 x2 x3 x4 x5 x6 u0 u1 u2 u3 u4 u5 u6 v0 v1 v2 v3 v4 v5 v6
  obtain ⟨x0, x1, x2, x3, x4, x5, x6⟩ := B6.cells
  obtain ⟨u0, u1, u2, u3, u4, u5, u6⟩ := Y6.frees
  obtain ⟨v0, v1, v2, v3, v4, v5, v6⟩ := Y6.cells
  go_wp2_with fail
  refine (hR _).mono ?_
  rintro e w7 ⟨rfl, h7⟩
  have B7 := (B6.other7 n4 z.f0 z.f1 z.f2 z.f3 z.bo z.wa z.bu).later h7 (Nat.lt_of_lt_of_le B6.lt (by simp))
  have X7 := (X6.other7 (show a ≠ c by omega) z.f0 z.f1 z.f2 z.f3 z.bo z.wa z.bu).later h7 (Nat.lt_of_lt_of_le X6.lt (by simp))
  have Y7 := (Y6.set7 z.f0 z.f1 z.f2 z.f3 z.bo z.wa z.bu).later h7 (Nat.lt_of_lt_of_le Y6.lt (by simp))
  have Z7 := (Z6.other7 (show q ≠ c by omega) z.f0 z.f1 z.f2 z.f3 z.bo z.wa z.bu).later h7 (Nat.lt_of_lt_of_le Z6.lt (by simp))
  have U7 := (U6.other7 (show r ≠ c by omega) z.f0 z.f1 z.f2 z.f3 z.bo z.wa z.bu).later h7 (Nat.lt_of_lt_of_le U6.lt (by simp))
  have HB7 : Hid (Below w.heap.size w w7) := (set7_below (b := c) HB6.out (by omega) z.f0 z.f1 z.f2 z.f3 z.bo z.wa z.bu).trans (h7.mono (Nat.le_trans HB6.out.size (by simp)))
  clear h7 B6 X6 Y6 Z6 U6 HB6 hR
  clear x0 x1 x2 x3 x4 x5 x6 u0 u1 u2 u3 u4 u5 u6 v0 v1 v2 v3 v4 v5 v6
  obtain ⟨x0, x1, x2, x3, x4, x5, x6⟩ := B7.cells
  obtain ⟨u0, u1, u2, u3, u4, u5, u6⟩ := Z7.frees
  obtain ⟨v0, v1, v2, v3, v4, v5, v6⟩ := Z7.cells
  go_wp2_with fail
  refine (hR' _).mono ?_
  rintro e w8 ⟨rfl, h8⟩
  have B8 := (B7.other7 n6 u.f0 u.f1 u.f2 u.f3 u.bo u.wa u.bu).later h8 (Nat.lt_of_lt_of_le B7.lt (by simp))
  have X8 := (X7.other7 (show a ≠ q by omega) u.f0 u.f1 u.f2 u.f3 u.bo u.wa u.bu).later h8 (Nat.lt_of_lt_of_le X7.lt (by simp))
  have Y8 := (Y7.other7 (show c ≠ q by omega) u.f0 u.f1 u.f2 u.f3 u.bo u.wa u.bu).later h8 (Nat.lt_of_lt_of_le Y7.lt (by simp))
  have Z8 := (Z7.set7 u.f0 u.f1 u.f2 u.f3 u.bo u.wa u.bu).later h8 (Nat.lt_of_lt_of_le Z7.lt (by simp))
  have U8 := (U7.other7 (show r ≠ q by omega) u.f0 u.f1 u.f2 u.f3 u.bo u.wa u.bu).later h8 (Nat.lt_of_lt_of_le U7.lt (by simp))
  have HB8 : Hid (Below w.heap.size w w8) := (set7_below (b := q) HB7.out (by omega) u.f0 u.f1 u.f2 u.f3 u.bo u.wa u.bu).trans (h8.mono (Nat.le_trans HB7.out.size (by simp)))
  clear h8 B7 X7 Y7 Z7 U7 HB7 hR'
  clear x0 x1 x2 x3 x4 x5 x6 u0 u1 u2 u3 u4 u5 u6 v0 v1 v2 v3 v4 v5 v6
  obtain ⟨u0, u1, u2, u3, u4, u5, u6⟩ := U8.frees
  obtain ⟨v0, v1, v2, v3, v4, v5, v6⟩ := U8.cells
  go_wp2_with fail
  have B9 : BAt (((((((w8.setCell ⟨r, 0, none⟩ (.int .i64 u.f0)).setCell ⟨r, 1, none⟩ (.int .i64 u.f1)).setCell ⟨r, 2, none⟩ (.int .i64 u.f2)).setCell ⟨r, 3, none⟩ (.int .i64 u.f3)).setCell ⟨r, 4, none⟩ (.int .i64 u.bo)).setCell ⟨r, 5, none⟩ (.int .i64 u.wa)).setCell ⟨r, 6, none⟩ (.int .i64 u.bu)) w.heap.size b.f0 b.f1 b.f2 b.f3 b.bo b.wa b.bu := B8.other7 n8 u.f0 u.f1 u.f2 u.f3 u.bo u.wa u.bu
  have X9 : BAt (((((((w8.setCell ⟨r, 0, none⟩ (.int .i64 u.f0)).setCell ⟨r, 1, none⟩ (.int .i64 u.f1)).setCell ⟨r, 2, none⟩ (.int .i64 u.f2)).setCell ⟨r, 3, none⟩ (.int .i64 u.f3)).setCell ⟨r, 4, none⟩ (.int .i64 u.bo)).setCell ⟨r, 5, none⟩ (.int .i64 u.wa)).setCell ⟨r, 6, none⟩ (.int .i64 u.bu)) a z.f0 z.f1 z.f2 z.f3 z.bo z.wa z.bu := X8.other7 (show a ≠ r by omega) u.f0 u.f1 u.f2 u.f3 u.bo u.wa u.bu
  have Y9 : BAt (((((((w8.setCell ⟨r, 0, none⟩ (.int .i64 u.f0)).setCell ⟨r, 1, none⟩ (.int .i64 u.f1)).setCell ⟨r, 2, none⟩ (.int .i64 u.f2)).setCell ⟨r, 3, none⟩ (.int .i64 u.f3)).setCell ⟨r, 4, none⟩ (.int .i64 u.bo)).setCell ⟨r, 5, none⟩ (.int .i64 u.wa)).setCell ⟨r, 6, none⟩ (.int .i64 u.bu)) c z.f0 z.f1 z.f2 z.f3 z.bo z.wa z.bu := Y8.other7 (show c ≠ r by omega) u.f0 u.f1 u.f2 u.f3 u.bo u.wa u.bu
  have Z9 : BAt (((((((w8.setCell ⟨r, 0, none⟩ (.int .i64 u.f0)).setCell ⟨r, 1, none⟩ (.int .i64 u.f1)).setCell ⟨r, 2, none⟩ (.int .i64 u.f2)).setCell ⟨r, 3, none⟩ (.int .i64 u.f3)).setCell ⟨r, 4, none⟩ (.int .i64 u.bo)).setCell ⟨r, 5, none⟩ (.int .i64 u.wa)).setCell ⟨r, 6, none⟩ (.int .i64 u.bu)) q u.f0 u.f1 u.f2 u.f3 u.bo u.wa u.bu := Z8.other7 (show q ≠ r by omega) u.f0 u.f1 u.f2 u.f3 u.bo u.wa u.bu
  have U9 : BAt (((((((w8.setCell ⟨r, 0, none⟩ (.int .i64 u.f0)).setCell ⟨r, 1, none⟩ (.int .i64 u.f1)).setCell ⟨r, 2, none⟩ (.int .i64 u.f2)).setCell ⟨r, 3, none⟩ (.int .i64 u.f3)).setCell ⟨r, 4, none⟩ (.int .i64 u.bo)).setCell ⟨r, 5, none⟩ (.int .i64 u.wa)).setCell ⟨r, 6, none⟩ (.int .i64 u.bu)) r u.f0 u.f1 u.f2 u.f3 u.bo u.wa u.bu := U8.set7 u.f0 u.f1 u.f2 u.f3 u.bo u.wa u.bu
  have HB9 : Hid (Below w.heap.size w (((((((w8.setCell ⟨r, 0, none⟩ (.int .i64 u.f0)).setCell ⟨r, 1, none⟩ (.int .i64 u.f1)).setCell ⟨r, 2, none⟩ (.int .i64 u.f2)).setCell ⟨r, 3, none⟩ (.int .i64 u.f3)).setCell ⟨r, 4, none⟩ (.int .i64 u.bo)).setCell ⟨r, 5, none⟩ (.int .i64 u.wa)).setCell ⟨r, 6, none⟩ (.int .i64 u.bu))) := set7_below (b := r) HB8.out (by omega) u.f0 u.f1 u.f2 u.f3 u.bo u.wa u.bu
  clear B8 X8 Y8 Z8 U8 HB8
  clear u0 u1 u2 u3 u4 u5 u6 v0 v1 v2 v3 v4 v5 v6
  generalize (((((((w8.setCell ⟨r, 0, none⟩ (.int .i64 u.f0)).setCell ⟨r, 1, none⟩ (.int .i64 u.f1)).setCell ⟨r, 2, none⟩ (.int .i64 u.f2)).setCell ⟨r, 3, none⟩ (.int .i64 u.f3)).setCell ⟨r, 4, none⟩ (.int .i64 u.bo)).setCell ⟨r, 5, none⟩ (.int .i64 u.wa)).setCell ⟨r, 6, none⟩ (.int .i64 u.bu)) = w0 at *
  have l0 : w.heap.size < w0.heap.size := B9.lt
  have l1 : a < w0.heap.size := X9.lt
  have l2 : c < w0.heap.size := Y9.lt
  have l3 : q < w0.heap.size := Z9.lt
  have l4 : r < w0.heap.size := U9.lt
  obtain ⟨x0, x1, x2, x3, x4, x5, x6⟩ := B9.cells
  obtain ⟨y0, y1, y2, y3, y4, y5, y6⟩ := X9.cells
  obtain ⟨s0, s1, s2, s3, s4, s5, s6⟩ := Y9.cells
  obtain ⟨t0, t1, t2, t3, t4, t5, t6⟩ := Z9.cells
  obtain ⟨v0, v1, v2, v3, v4, v5, v6⟩ := U9.cells
  clear B9 X9 Y9 Z9 U9
  have hG := good_any b.f0 b.f1 b.f2 b.f3 b.bo b.wa b.bu
  have hG' := rgood_any b.f0 b.f1 b.f2 b.f3 b.bo b.wa b.bu
  have hS := sum_any b.f0 b.f1 b.f2 b.f3 b.bo b.wa b.bu
  have hS' := rsum_any b.f0 b.f1 b.f2 b.f3 b.bo b.wa b.bu
  generalize goodB b.f0 b.f1 b.f2 b.f3 b.bo b.wa b.bu = G at *
  generalize wrap64 (b.f0 + b.f1 + b.f2 + b.f3 + b.bo + b.wa + b.bu) = sm at *
  have hq1 : ∀ w, (binOp .eql 33 (.agg #[.int .i64 z.f0, .int .i64 z.f1, .int .i64 z.f2, .int .i64 z.f3, .int .i64 z.bo, .int .i64 z.wa, .int .i64 z.bu]) (.agg #[.int .i64 z.f0, .int .i64 z.f1, .int .i64 z.f2, .int .i64 z.f3, .int .i64 z.bo, .int .i64 z.wa, .int .i64 z.bu])).run Try.prog w = .ok (.bool true) w := fun w => by rw [eqB]; simp
  have hq2 : ∀ w, (binOp .eql 33 (.agg #[.int .i64 u.f0, .int .i64 u.f1, .int .i64 u.f2, .int .i64 u.f3, .int .i64 u.bo, .int .i64 u.wa, .int .i64 u.bu]) (.agg #[.int .i64 u.f0, .int .i64 u.f1, .int .i64 u.f2, .int .i64 u.f3, .int .i64 u.bo, .int .i64 u.wa, .int .i64 u.bu])).run Try.prog w = .ok (.bool true) w := fun w => by rw [eqB]; simp
  have hq3 : ∀ w, (binOp .eql 33 (.agg #[.int .i64 100000, .int .i64 100000, .int .i64 100000, .int .i64 100000, .int .i64 0, .int .i64 0, .int .i64 0]) (.agg #[.int .i64 100000, .int .i64 100000, .int .i64 100000, .int .i64 100000, .int .i64 0, .int .i64 0, .int .i64 0])).run Try.prog w = .ok (.bool true) w := fun w => by rw [eqB]; simp
  have hbb : Below w0.heap.size w0 w0.drew := (Below.refl _ _).drew
  clear n1 n2 n3 n4 n5 n6 n7 n8
  go_region_held3 (fun w' => w'.cell? ⟨w.heap.size, 0, none⟩ = some (.int .i64 b.f0) ∧ w'.cell? ⟨w.heap.size, 1, none⟩ = some (.int .i64 b.f1) ∧ w'.cell? ⟨w.heap.size, 2, none⟩ = some (.int .i64 b.f2) ∧ w'.cell? ⟨w.heap.size, 3, none⟩ = some (.int .i64 b.f3) ∧ w'.cell? ⟨w.heap.size, 4, none⟩ = some (.int .i64 b.bo) ∧ w'.cell? ⟨w.heap.size, 5, none⟩ = some (.int .i64 b.wa) ∧ w'.cell? ⟨w.heap.size, 6, none⟩ = some (.int .i64 b.bu) ∧ w'.cell? ⟨a, 0, none⟩ = some (.int .i64 z.f0) ∧ w'.cell? ⟨a, 1, none⟩ = some (.int .i64 z.f1) ∧ w'.cell? ⟨a, 2, none⟩ = some (.int .i64 z.f2) ∧ w'.cell? ⟨a, 3, none⟩ = some (.int .i64 z.f3) ∧ w'.cell? ⟨a, 4, none⟩ = some (.int .i64 z.bo) ∧ w'.cell? ⟨a, 5, none⟩ = some (.int .i64 z.wa) ∧ w'.cell? ⟨a, 6, none⟩ = some (.int .i64 z.bu) ∧ w'.cell? ⟨c, 0, none⟩ = some (.int .i64 z.f0) ∧ w'.cell? ⟨c, 1, none⟩ = some (.int .i64 z.f1) ∧ w'.cell? ⟨c, 2, none⟩ = some (.int .i64 z.f2) ∧ w'.cell? ⟨c, 3, none⟩ = some (.int .i64 z.f3) ∧ w'.cell? ⟨c, 4, none⟩ = some (.int .i64 z.bo) ∧ w'.cell? ⟨c, 5, none⟩ = some (.int .i64 z.wa) ∧ w'.cell? ⟨c, 6, none⟩ = some (.int .i64 z.bu) ∧ w'.cell? ⟨q, 0, none⟩ = some (.int .i64 u.f0) ∧ w'.cell? ⟨q, 1, none⟩ = some (.int .i64 u.f1) ∧ w'.cell? ⟨q, 2, none⟩ = some (.int .i64 u.f2) ∧ w'.cell? ⟨q, 3, none⟩ = some (.int .i64 u.f3) ∧ w'.cell? ⟨q, 4, none⟩ = some (.int .i64 u.bo) ∧ w'.cell? ⟨q, 5, none⟩ = some (.int .i64 u.wa) ∧ w'.cell? ⟨q, 6, none⟩ = some (.int .i64 u.bu) ∧ w'.cell? ⟨r, 0, none⟩ = some (.int .i64 u.f0) ∧ w'.cell? ⟨r, 1, none⟩ = some (.int .i64 u.f1) ∧ w'.cell? ⟨r, 2, none⟩ = some (.int .i64 u.f2) ∧ w'.cell? ⟨r, 3, none⟩ = some (.int .i64 u.f3) ∧ w'.cell? ⟨r, 4, none⟩ = some (.int .i64 u.bo) ∧ w'.cell? ⟨r, 5, none⟩ = some (.int .i64 u.wa) ∧ w'.cell? ⟨r, 6, none⟩ = some (.int .i64 u.bu) ∧ Below w0.heap.size w0 w') (go_keep)
    (first
      | (go_at_call 25; refine (five_keep (b := b) (z := z) (u := u) (hG _) l0 l1 l2 l3 l4 ?_).mono ?_; (simp [*]); rintro e wA ⟨rfl, hA⟩)
      | (go_at_call 26; refine (five_keep (b := b) (z := z) (u := u) (hG' _) l0 l1 l2 l3 l4 ?_).mono ?_; (simp [*]); rintro e wB ⟨rfl, hB⟩)
      | (go_at_call 27; refine (five_keep (b := b) (z := z) (u := u) (hS _) l0 l1 l2 l3 l4 ?_).mono ?_; (simp [*]); rintro e wC ⟨rfl, hC⟩)
      | (go_at_call 28; refine (five_keep (b := b) (z := z) (u := u) (hS' _) l0 l1 l2 l3 l4 ?_).mono ?_; (simp [*]); rintro e wD ⟨rfl, hD⟩)
      | (go_at_call 29; refine (five_keep (b := b) (z := z) (u := u) (new_any _) l0 l1 l2 l3 l4 ?_).mono ?_; (simp [*]); rintro e wE ⟨rfl, hE⟩)
      | (go_at_call 30; refine (five_keep (b := b) (z := z) (u := u) (rnew_any _) l0 l1 l2 l3 l4 ?_).mono ?_; (simp [*]); rintro e wF ⟨rfl, hF⟩)
      | (go_at_call 31; refine (five_keep (b := b) (z := z) (u := u) (banks_any _) l0 l1 l2 l3 l4 ?_).mono ?_; (simp [*]); rintro e wH ⟨rfl, hH⟩))
  have hl : Below w0.heap.size w0 wH := hH.2.2.2.2.2.2.2.2.2.2.2.2.2.2.2.2.2.2.2.2.2.2.2.2.2.2.2.2.2.2.2.2.2.2.2
  have HF : Hid (Below w.heap.size w wH) := HB9.out.trans (hl.mono (Nat.le_of_lt l0))
  clear hA hB hC hD hE hF hH hl HB9
  clear x0 x1 x2 x3 x4 x5 x6 y0 y1 y2 y3 y4 y5 y6 s0 s1 s2 s3 s4 s5 s6 t0 t1 t2 t3 t4 t5 t6 v0 v1 v2 v3 v4 v5 v6
  go_wp2
  go_ret
  exact ⟨rfl, HF.out⟩
end Go.Proofs.Ytjdjflkagopgoab
