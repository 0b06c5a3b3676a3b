/- The walk of BankKeeps. -/
import Derived.Test.YtjdjflkagopgoacK
import Derived.Test.YtjdjflkagopgoacP
import Derived.WalkKit
import Derived.Deep.RegionHeld3
namespace Go.Proofs.Ytjdjflkagopgoac
open Go.RowKit
/-- what is asked of one that moved -/
def Ask (b x : Bk) (e : Int) : Prop := (e ≠ 0 ∧ x = b) ∨ (e = 0 ∧ b.good = true ∧ x.good = true ∧ b.bu ≤ x.bu)
theorem ixB0 (w : World) (a0 a1 a2 a3 a4 a5 a6 b0 b1 b2 b3 b4 b5 b6 c0 c1 c2 c3 c4 c5 c6 d0 d1 d2 d3 d4 d5 d6 : Value) : (Instr.index 30 (.agg #[a0, a1, a2, a3, a4, a5, a6, b0, b1, b2, b3, b4, b5, b6, c0, c1, c2, c3, c4, c5, c6, d0, d1, d2, d3, d4, d5, d6]) (.int .i64 0)).run Try.prog w = .ok (.agg #[a0, a1, a2, a3, a4, a5, a6]) w := by kernel_rfl
theorem ixE0 (w : World) (a0 a1 a2 a3 : Value) : (Instr.index 31 (.agg #[a0, a1, a2, a3]) (.int .i64 0)).run Try.prog w = .ok a0 w := by kernel_rfl
theorem ixB1 (w : World) (a0 a1 a2 a3 a4 a5 a6 b0 b1 b2 b3 b4 b5 b6 c0 c1 c2 c3 c4 c5 c6 d0 d1 d2 d3 d4 d5 d6 : Value) : (Instr.index 30 (.agg #[a0, a1, a2, a3, a4, a5, a6, b0, b1, b2, b3, b4, b5, b6, c0, c1, c2, c3, c4, c5, c6, d0, d1, d2, d3, d4, d5, d6]) (.int .i64 1)).run Try.prog w = .ok (.agg #[b0, b1, b2, b3, b4, b5, b6]) w := by kernel_rfl
theorem ixE1 (w : World) (a0 a1 a2 a3 : Value) : (Instr.index 31 (.agg #[a0, a1, a2, a3]) (.int .i64 1)).run Try.prog w = .ok a1 w := by kernel_rfl
theorem ixB2 (w : World) (a0 a1 a2 a3 a4 a5 a6 b0 b1 b2 b3 b4 b5 b6 c0 c1 c2 c3 c4 c5 c6 d0 d1 d2 d3 d4 d5 d6 : Value) : (Instr.index 30 (.agg #[a0, a1, a2, a3, a4, a5, a6, b0, b1, b2, b3, b4, b5, b6, c0, c1, c2, c3, c4, c5, c6, d0, d1, d2, d3, d4, d5, d6]) (.int .i64 2)).run Try.prog w = .ok (.agg #[c0, c1, c2, c3, c4, c5, c6]) w := by kernel_rfl
theorem ixE2 (w : World) (a0 a1 a2 a3 : Value) : (Instr.index 31 (.agg #[a0, a1, a2, a3]) (.int .i64 2)).run Try.prog w = .ok a2 w := by kernel_rfl
theorem ixB3 (w : World) (a0 a1 a2 a3 a4 a5 a6 b0 b1 b2 b3 b4 b5 b6 c0 c1 c2 c3 c4 c5 c6 d0 d1 d2 d3 d4 d5 d6 : Value) : (Instr.index 30 (.agg #[a0, a1, a2, a3, a4, a5, a6, b0, b1, b2, b3, b4, b5, b6, c0, c1, c2, c3, c4, c5, c6, d0, d1, d2, d3, d4, d5, d6]) (.int .i64 3)).run Try.prog w = .ok (.agg #[d0, d1, d2, d3, d4, d5, d6]) w := by kernel_rfl
theorem ixE3 (w : World) (a0 a1 a2 a3 : Value) : (Instr.index 31 (.agg #[a0, a1, a2, a3]) (.int .i64 3)).run Try.prog w = .ok a3 w := by kernel_rfl
theorem good_sum {b : Bk} (h : b.good = true) : wrap64 (b.f0 + b.f1 + b.f2 + b.f3 + b.bo + b.wa + b.bu) = 400000 := by
  rw [good_iff] at h
  rw [h.2.2.2.2.2.2.2]
  exact wrap64_small (by decide) (by decide)
theorem two_keep {f : Nat} {args : Array Value} {w0 w : World} {p q : Nat} {v : Value} {b x : Bk} (h : Calls Try.prog f args w fun e w' => e = .returned v ∧ Below w.heap.size w w')
    (hp : p < w0.heap.size) (hq : q < w0.heap.size) (hS : w.cell? ⟨p, 0, none⟩ = some (.int .i64 b.f0) ∧ w.cell? ⟨p, 1, none⟩ = some (.int .i64 b.f1) ∧ w.cell? ⟨p, 2, none⟩ = some (.int .i64 b.f2) ∧ w.cell? ⟨p, 3, none⟩ = some (.int .i64 b.f3) ∧ w.cell? ⟨p, 4, none⟩ = some (.int .i64 b.bo) ∧ w.cell? ⟨p, 5, none⟩ = some (.int .i64 b.wa) ∧ w.cell? ⟨p, 6, none⟩ = some (.int .i64 b.bu) ∧ w.cell? ⟨q, 0, none⟩ = some (.int .i64 x.f0) ∧ w.cell? ⟨q, 1, none⟩ = some (.int .i64 x.f1) ∧ w.cell? ⟨q, 2, none⟩ = some (.int .i64 x.f2) ∧ w.cell? ⟨q, 3, none⟩ = some (.int .i64 x.f3) ∧ w.cell? ⟨q, 4, none⟩ = some (.int .i64 x.bo) ∧ w.cell? ⟨q, 5, none⟩ = some (.int .i64 x.wa) ∧ w.cell? ⟨q, 6, none⟩ = some (.int .i64 x.bu) ∧ Below w0.heap.size w0 w) :
    Calls Try.prog f args w fun e w' => e = .returned v ∧ w'.cell? ⟨p, 0, none⟩ = some (.int .i64 b.f0) ∧ w'.cell? ⟨p, 1, none⟩ = some (.int .i64 b.f1) ∧ w'.cell? ⟨p, 2, none⟩ = some (.int .i64 b.f2) ∧ w'.cell? ⟨p, 3, none⟩ = some (.int .i64 b.f3) ∧ w'.cell? ⟨p, 4, none⟩ = some (.int .i64 b.bo) ∧ w'.cell? ⟨p, 5, none⟩ = some (.int .i64 b.wa) ∧ w'.cell? ⟨p, 6, none⟩ = some (.int .i64 b.bu) ∧ w'.cell? ⟨q, 0, none⟩ = some (.int .i64 x.f0) ∧ w'.cell? ⟨q, 1, none⟩ = some (.int .i64 x.f1) ∧ w'.cell? ⟨q, 2, none⟩ = some (.int .i64 x.f2) ∧ w'.cell? ⟨q, 3, none⟩ = some (.int .i64 x.f3) ∧ w'.cell? ⟨q, 4, none⟩ = some (.int .i64 x.bo) ∧ w'.cell? ⟨q, 5, none⟩ = some (.int .i64 x.wa) ∧ w'.cell? ⟨q, 6, none⟩ = some (.int .i64 x.bu) ∧ Below w0.heap.size w0 w' := by
  refine h.mono ?_
  rintro e w' ⟨rfl, hb'⟩
  obtain ⟨h0, h1, h2, h3, h4, h5, h6, k0, k1, k2, k3, k4, k5, k6, hB⟩ := hS
  have kp : ∀ o, w'.cell? ⟨p, o, none⟩ = w.cell? ⟨p, o, none⟩ := fun o => hb'.cell (Nat.lt_of_lt_of_le hp hB.size)
  have kq : ∀ o, w'.cell? ⟨q, o, none⟩ = w.cell? ⟨q, o, none⟩ := fun o => hb'.cell (Nat.lt_of_lt_of_le hq hB.size)
  exact ⟨rfl, (kp 0).trans h0, (kp 1).trans h1, (kp 2).trans h2, (kp 3).trans h3, (kp 4).trans h4, (kp 5).trans h5, (kp 6).trans h6, (kq 0).trans k0, (kq 1).trans k1, (kq 2).trans k2, (kq 3).trans k3, (kq 4).trans k4, (kq 5).trans k5, (kq 6).trans k6, hB.trans (hb'.mono hB.size)⟩
set_option maxHeartbeats 4000000 in
theorem keeps_walk (b x y z u : Bk) (d n m ex ey ez eu : Int) (w : World) (hx : Ask b x ex) (hy : Ask b y ey) (hz : Ask b z ez) (hu : Ask b u eu)
    (hB : ∀ w, Calls Try.prog 6 #[.agg #[.int .i64 b.f0, .int .i64 b.f1, .int .i64 b.f2, .int .i64 b.f3, .int .i64 b.bo, .int .i64 b.wa, .int .i64 b.bu], .int .i64 d, .int .i64 n] w fun e w' => e = .returned (.tuple #[.agg #[.int .i64 x.f0, .int .i64 x.f1, .int .i64 x.f2, .int .i64 x.f3, .int .i64 x.bo, .int .i64 x.wa, .int .i64 x.bu], .int .i64 ex]) ∧ Below w.heap.size w w')
    (hU : ∀ w, Calls Try.prog 7 #[.agg #[.int .i64 b.f0, .int .i64 b.f1, .int .i64 b.f2, .int .i64 b.f3, .int .i64 b.bo, .int .i64 b.wa, .int .i64 b.bu], .int .i64 n] w fun e w' => e = .returned (.tuple #[.agg #[.int .i64 y.f0, .int .i64 y.f1, .int .i64 y.f2, .int .i64 y.f3, .int .i64 y.bo, .int .i64 y.wa, .int .i64 y.bu], .int .i64 ey]) ∧ Below w.heap.size w w')
    (hP : ∀ w, Calls Try.prog 8 #[.agg #[.int .i64 b.f0, .int .i64 b.f1, .int .i64 b.f2, .int .i64 b.f3, .int .i64 b.bo, .int .i64 b.wa, .int .i64 b.bu], .int .i64 d, .int .i64 n] w fun e w' => e = .returned (.tuple #[.agg #[.int .i64 z.f0, .int .i64 z.f1, .int .i64 z.f2, .int .i64 z.f3, .int .i64 z.bo, .int .i64 z.wa, .int .i64 z.bu], .int .i64 ez]) ∧ Below w.heap.size w w')
    (hR : ∀ w, Calls Try.prog 9 #[.agg #[.int .i64 b.f0, .int .i64 b.f1, .int .i64 b.f2, .int .i64 b.f3, .int .i64 b.bo, .int .i64 b.wa, .int .i64 b.bu], .int .i64 n, .int .i64 m] w fun e w' => e = .returned (.tuple #[.agg #[.int .i64 u.f0, .int .i64 u.f1, .int .i64 u.f2, .int .i64 u.f3, .int .i64 u.bo, .int .i64 u.wa, .int .i64 u.bu], .int .i64 eu]) ∧ Below w.heap.size w w') :
    Calls Try.prog 3 #[.agg #[.int .i64 b.f0, .int .i64 b.f1, .int .i64 b.f2, .int .i64 b.f3, .int .i64 b.bo, .int .i64 b.wa, .int .i64 b.bu], .int .i64 d, .int .i64 n, .int .i64 m] w fun e w' => e = .returned (.bool true) ∧ Below w.heap.size w w' := by
  have h0 : Below w.heap.size w (w.alloc (.cells #[.int .i64 b.f0, .int .i64 b.f1, .int .i64 b.f2, .int .i64 b.f3, .int .i64 b.bo, .int .i64 b.wa, .int .i64 b.bu] 24)) := (Below.refl _ w).alloc (Nat.le_refl _) _
  have B0 := BAt.new w b.f0 b.f1 b.f2 b.f3 b.bo b.wa b.bu
  go_enter Try.func3, Try.ntmps3
  go_wp2_with fail
  generalize w.alloc (.cells #[.int .i64 b.f0, .int .i64 b.f1, .int .i64 b.f2, .int .i64 b.f3, .int .i64 b.bo, .int .i64 b.wa, .int .i64 b.bu] 24) = w0 at *
  refine (banks_any _).mono ?_
  rintro e w1 ⟨rfl, h1⟩
  have B1 := B0.later h1 B0.lt
  have HB1 : Hid (Below w.heap.size w w1) := h0.trans (h1.mono h0.size)
  clear h0 B0 h1
  have hz1 : w.heap.size < w1.heap.size := B1.lt
  obtain ⟨x0, x1, x2, x3, x4, x5, x6⟩ := B1.cells
  go_wp2_with fail
  refine (hB _).mono ?_
  rintro e w2 ⟨rfl, h2⟩
  have B2 := B1.later h2 B1.lt
  have HB2 : Hid (Below w.heap.size w w2) := HB1.out.trans (h2.mono HB1.out.size)
  have hz2 : w.heap.size < w2.heap.size := B2.lt
  clear h2 B1 HB1 x0 x1 x2 x3 x4 x5 x6 hz1 hB
  obtain ⟨x0, x1, x2, x3, x4, x5, x6⟩ := B2.cells
  go_wp2_with fail
  refine (hU _).mono ?_
  rintro e w3 ⟨rfl, h3⟩
  have X3 := (BAt.new w2 x.f0 x.f1 x.f2 x.f3 x.bo x.wa x.bu).later h3 (by simp)
  have B3 := (B2.alloc _).later h3 (by simp; omega)
  have HB3 : Hid (Below w.heap.size w w3) := (HB2.out.alloc (Nat.le_of_lt hz2) _).trans (h3.mono (by simp; omega))
  have hz3 : w.heap.size < w3.heap.size := B3.lt
  clear h3 B2 HB2 x0 x1 x2 x3 x4 x5 x6 hz2 hU
  obtain ⟨x0, x1, x2, x3, x4, x5, x6⟩ := B3.cells
  go_wp2_with fail
  refine (hP _).mono ?_
  rintro e w4 ⟨rfl, h4⟩
  have X4 := (X3.alloc _).later h4 (Nat.lt_of_lt_of_le X3.lt (by simp))
  have Y4 := (BAt.new w3 y.f0 y.f1 y.f2 y.f3 y.bo y.wa y.bu).later h4 (by simp)
  have B4 := (B3.alloc _).later h4 (by simp; omega)
  have HB4 : Hid (Below w.heap.size w w4) := (HB3.out.alloc (Nat.le_of_lt hz3) _).trans (h4.mono (by simp; omega))
  have hz4 : w.heap.size < w4.heap.size := B4.lt
  clear h4 B3 HB3 x0 x1 x2 x3 x4 x5 x6 hz3 hP X3
  obtain ⟨x0, x1, x2, x3, x4, x5, x6⟩ := B4.cells
  go_wp2_with fail
  refine (hR _).mono ?_
  rintro e w5 ⟨rfl, h5⟩
  have X5 := (X4.alloc _).later h5 (Nat.lt_of_lt_of_le X4.lt (by simp))
  have Y5 := (Y4.alloc _).later h5 (Nat.lt_of_lt_of_le Y4.lt (by simp))
  have Z5 := (BAt.new w4 z.f0 z.f1 z.f2 z.f3 z.bo z.wa z.bu).later h5 (by simp)
  have B5 := (B4.alloc _).later h5 (by simp; omega)
  have HB5 : Hid (Below w.heap.size w w5) := (HB4.out.alloc (Nat.le_of_lt hz4) _).trans (h5.mono (by simp; omega))
  have hz5 : w.heap.size < w5.heap.size := B5.lt
  clear h5 B4 HB4 x0 x1 x2 x3 x4 x5 x6 hz4 hR X4 Y4
  obtain ⟨x0, x1, x2, x3, x4, x5, x6⟩ := X5.cells
  obtain ⟨y0, y1, y2, y3, y4, y5, y6⟩ := Y5.cells
  obtain ⟨z0, z1, z2, z3, z4, z5, z6⟩ := Z5.cells
  have hx5 := X5.lt
  have hy5 := Y5.lt
  have hz5' := Z5.lt
  clear X5 Y5 Z5
  go_wp2_with fail
  have B6 := B5.alloc (.cells #[.int .i64 u.f0, .int .i64 u.f1, .int .i64 u.f2, .int .i64 u.f3, .int .i64 u.bo, .int .i64 u.wa, .int .i64 u.bu] 24)
  have HB6 : Hid (Below w.heap.size w (w5.alloc (.cells #[.int .i64 u.f0, .int .i64 u.f1, .int .i64 u.f2, .int .i64 u.f3, .int .i64 u.bo, .int .i64 u.wa, .int .i64 u.bu] 24))) := HB5.out.alloc (Nat.le_of_lt hz5) _
  clear B5 HB5 x0 x1 x2 x3 x4 x5 x6 y0 y1 y2 y3 y4 y5 y6 z0 z1 z2 z3 z4 z5 z6 hx5 hy5 hz5' hz5
  generalize w5.alloc (.cells #[.int .i64 u.f0, .int .i64 u.f1, .int .i64 u.f2, .int .i64 u.f3, .int .i64 u.bo, .int .i64 u.wa, .int .i64 u.bu] 24) = w6 at *
  go_loopw [53] (fun i wl => ∃ (k : Nat), k ≤ 4 ∧ i = .int .i64 (k : Int) ∧ BAt wl w.heap.size b.f0 b.f1 b.f2 b.f3 b.bo b.wa b.bu ∧ Hid (Below w.heap.size w wl)) (fun i _ => (4 - intOf i).toNat)
  case atStart => exact ⟨0, by omega, rfl, B6, HB6⟩
  case round =>
    clear B6 HB6
    obtain ⟨k, hk, rfl, B, HB⟩ := hrel
    rcases (show k = 0 ∨ k = 1 ∨ k = 2 ∨ k = 3 ∨ k = 4 by omega) with rfl | rfl | rfl | rfl | rfl
    · have hi1 := ixB0
      have hi2 := ixE0
      rcases hx with ⟨he, hb⟩ | ⟨rfl, g1, g2, g3⟩
      · obtain rfl := hb.symm
        have hn : (ex != 0) = true := by simpa using he
        have hq : ∀ w, (binOp .neq 24 (.agg #[.int .i64 b.f0, .int .i64 b.f1, .int .i64 b.f2, .int .i64 b.f3, .int .i64 b.bo, .int .i64 b.wa, .int .i64 b.bu]) (.agg #[.int .i64 b.f0, .int .i64 b.f1, .int .i64 b.f2, .int .i64 b.f3, .int .i64 b.bo, .int .i64 b.wa, .int .i64 b.bu])).run Try.prog w = .ok (.bool false) w := fun w => by rw [neB]; simp
        have hlt : w.heap.size < wr.heap.size := B.lt
        obtain ⟨x0, x1, x2, x3, x4, x5, x6⟩ := id B.cells
        have HBk : Hid (BAt wr w.heap.size b.f0 b.f1 b.f2 b.f3 b.bo b.wa b.bu) := B
        clear B
        go_wp2
        go_roundw
        case rel => exact ⟨1, by omega, by go_num, HBk.out.alloc _, HB.out.alloc (Nat.le_of_lt hlt) _⟩
        case measure => simp [intOf]
      · have hG1 := good_any b.f0 b.f1 b.f2 b.f3 b.bo b.wa b.bu
        rw [show goodB b.f0 b.f1 b.f2 b.f3 b.bo b.wa b.bu = true from g1] at hG1
        have hG2 := good_any x.f0 x.f1 x.f2 x.f3 x.bo x.wa x.bu
        rw [show goodB x.f0 x.f1 x.f2 x.f3 x.bo x.wa x.bu = true from g2] at hG2
        have hS1 := sum_any b.f0 b.f1 b.f2 b.f3 b.bo b.wa b.bu
        have hS2 := sum_any x.f0 x.f1 x.f2 x.f3 x.bo x.wa x.bu
        rw [good_sum g1] at hS1
        rw [good_sum g2] at hS2
        clear g1 g2
        have hlt : w.heap.size < wr.heap.size := B.lt
        obtain ⟨x0, x1, x2, x3, x4, x5, x6⟩ := id B.cells
        have HBk : Hid (BAt wr w.heap.size b.f0 b.f1 b.f2 b.f3 b.bo b.wa b.bu) := B
        clear B
        go_wp2_with fail
        obtain ⟨y0, y1, y2, y3, y4, y5, y6⟩ := (BAt.new wr x.f0 x.f1 x.f2 x.f3 x.bo x.wa x.bu).cells
        obtain ⟨x0, x1, x2, x3, x4, x5, x6⟩ := (HBk.out.alloc (.cells #[.int .i64 x.f0, .int .i64 x.f1, .int .i64 x.f2, .int .i64 x.f3, .int .i64 x.bo, .int .i64 x.wa, .int .i64 x.bu] 24)).cells
        have HBa : Hid (Below w.heap.size w (wr.alloc (.cells #[.int .i64 x.f0, .int .i64 x.f1, .int .i64 x.f2, .int .i64 x.f3, .int .i64 x.bo, .int .i64 x.wa, .int .i64 x.bu] 24))) := HB.out.alloc (Nat.le_of_lt hlt) _
        have HBb : Hid (BAt (wr.alloc (.cells #[.int .i64 x.f0, .int .i64 x.f1, .int .i64 x.f2, .int .i64 x.f3, .int .i64 x.bo, .int .i64 x.wa, .int .i64 x.bu] 24)) w.heap.size b.f0 b.f1 b.f2 b.f3 b.bo b.wa b.bu) := HBk.out.alloc _
        have hla : w.heap.size < (wr.alloc (.cells #[.int .i64 x.f0, .int .i64 x.f1, .int .i64 x.f2, .int .i64 x.f3, .int .i64 x.bo, .int .i64 x.wa, .int .i64 x.bu] 24)).heap.size := by simp; omega
        have hlb : wr.heap.size < (wr.alloc (.cells #[.int .i64 x.f0, .int .i64 x.f1, .int .i64 x.f2, .int .i64 x.f3, .int .i64 x.bo, .int .i64 x.wa, .int .i64 x.bu] 24)).heap.size := by simp
        generalize wr.alloc (.cells #[.int .i64 x.f0, .int .i64 x.f1, .int .i64 x.f2, .int .i64 x.f3, .int .i64 x.bo, .int .i64 x.wa, .int .i64 x.bu] 24) = wa at *
        have hbb : Below wa.heap.size wa wa.drew := (Below.refl _ _).drew
        clear HB HBk
        go_region_held3 (fun w' => w'.cell? ⟨w.heap.size, 0, none⟩ = some (.int .i64 b.f0) ∧ w'.cell? ⟨w.heap.size, 1, none⟩ = some (.int .i64 b.f1) ∧ w'.cell? ⟨w.heap.size, 2, none⟩ = some (.int .i64 b.f2) ∧ w'.cell? ⟨w.heap.size, 3, none⟩ = some (.int .i64 b.f3) ∧ w'.cell? ⟨w.heap.size, 4, none⟩ = some (.int .i64 b.bo) ∧ w'.cell? ⟨w.heap.size, 5, none⟩ = some (.int .i64 b.wa) ∧ w'.cell? ⟨w.heap.size, 6, none⟩ = some (.int .i64 b.bu) ∧ w'.cell? ⟨wr.heap.size, 0, none⟩ = some (.int .i64 x.f0) ∧ w'.cell? ⟨wr.heap.size, 1, none⟩ = some (.int .i64 x.f1) ∧ w'.cell? ⟨wr.heap.size, 2, none⟩ = some (.int .i64 x.f2) ∧ w'.cell? ⟨wr.heap.size, 3, none⟩ = some (.int .i64 x.f3) ∧ w'.cell? ⟨wr.heap.size, 4, none⟩ = some (.int .i64 x.bo) ∧ w'.cell? ⟨wr.heap.size, 5, none⟩ = some (.int .i64 x.wa) ∧ w'.cell? ⟨wr.heap.size, 6, none⟩ = some (.int .i64 x.bu) ∧ Below wa.heap.size wa w') (go_keep)
          (first
            | (go_at_call 10; have _h := h1; refine (two_keep (b := b) (x := x) (hG2 _) hla hlb ?_).mono ?_; (simp [*]); rintro e wB ⟨rfl, hB⟩; have h2 := hB)
            | (go_at_call 10; refine (two_keep (b := b) (x := x) (hG1 _) hla hlb ?_).mono ?_; (simp [*]); rintro e wA ⟨rfl, hA⟩; have h1 := hA)
            | (go_at_call 11; have _h := h3; refine (two_keep (b := b) (x := x) (hS1 _) hla hlb ?_).mono ?_; (simp [*]); rintro e wD ⟨rfl, hD⟩)
            | (go_at_call 11; refine (two_keep (b := b) (x := x) (hS2 _) hla hlb ?_).mono ?_; (simp [*]); rintro e wC ⟨rfl, hC⟩; have h3 := hC))
        have hDl : Below wa.heap.size wa wD := hD.2.2.2.2.2.2.2.2.2.2.2.2.2.2
        have HF : Hid (Below w.heap.size w wD) := HBa.out.trans (hDl.mono (Nat.le_of_lt hla))
        have HBd : Hid (BAt wD w.heap.size b.f0 b.f1 b.f2 b.f3 b.bo b.wa b.bu) := HBb.out.later hDl hla
        clear hA hB hC hD h1 h2 h3 hDl HBa HBb
        go_wp2
        go_roundw
        case rel => exact ⟨1, by omega, by go_num, HBd.out, HF⟩
        case measure => simp [intOf]
    · have hi1 := ixB1
      have hi2 := ixE1
      rcases hy with ⟨he, hb⟩ | ⟨rfl, g1, g2, g3⟩
      · obtain rfl := hb.symm
        have hn : (ey != 0) = true := by simpa using he
        have hq : ∀ w, (binOp .neq 24 (.agg #[.int .i64 b.f0, .int .i64 b.f1, .int .i64 b.f2, .int .i64 b.f3, .int .i64 b.bo, .int .i64 b.wa, .int .i64 b.bu]) (.agg #[.int .i64 b.f0, .int .i64 b.f1, .int .i64 b.f2, .int .i64 b.f3, .int .i64 b.bo, .int .i64 b.wa, .int .i64 b.bu])).run Try.prog w = .ok (.bool false) w := fun w => by rw [neB]; simp
        have hlt : w.heap.size < wr.heap.size := B.lt
        obtain ⟨x0, x1, x2, x3, x4, x5, x6⟩ := id B.cells
        have HBk : Hid (BAt wr w.heap.size b.f0 b.f1 b.f2 b.f3 b.bo b.wa b.bu) := B
        clear B
        go_wp2
        go_roundw
        case rel => exact ⟨2, by omega, by go_num, HBk.out.alloc _, HB.out.alloc (Nat.le_of_lt hlt) _⟩
        case measure => simp [intOf]
      · have hG1 := good_any b.f0 b.f1 b.f2 b.f3 b.bo b.wa b.bu
        rw [show goodB b.f0 b.f1 b.f2 b.f3 b.bo b.wa b.bu = true from g1] at hG1
        have hG2 := good_any y.f0 y.f1 y.f2 y.f3 y.bo y.wa y.bu
        rw [show goodB y.f0 y.f1 y.f2 y.f3 y.bo y.wa y.bu = true from g2] at hG2
        have hS1 := sum_any b.f0 b.f1 b.f2 b.f3 b.bo b.wa b.bu
        have hS2 := sum_any y.f0 y.f1 y.f2 y.f3 y.bo y.wa y.bu
        rw [good_sum g1] at hS1
        rw [good_sum g2] at hS2
        clear g1 g2
        have hlt : w.heap.size < wr.heap.size := B.lt
        obtain ⟨x0, x1, x2, x3, x4, x5, x6⟩ := id B.cells
        have HBk : Hid (BAt wr w.heap.size b.f0 b.f1 b.f2 b.f3 b.bo b.wa b.bu) := B
        clear B
        go_wp2_with fail
        obtain ⟨y0, y1, y2, y3, y4, y5, y6⟩ := (BAt.new wr y.f0 y.f1 y.f2 y.f3 y.bo y.wa y.bu).cells
        obtain ⟨x0, x1, x2, x3, x4, x5, x6⟩ := (HBk.out.alloc (.cells #[.int .i64 y.f0, .int .i64 y.f1, .int .i64 y.f2, .int .i64 y.f3, .int .i64 y.bo, .int .i64 y.wa, .int .i64 y.bu] 24)).cells
        have HBa : Hid (Below w.heap.size w (wr.alloc (.cells #[.int .i64 y.f0, .int .i64 y.f1, .int .i64 y.f2, .int .i64 y.f3, .int .i64 y.bo, .int .i64 y.wa, .int .i64 y.bu] 24))) := HB.out.alloc (Nat.le_of_lt hlt) _
        have HBb : Hid (BAt (wr.alloc (.cells #[.int .i64 y.f0, .int .i64 y.f1, .int .i64 y.f2, .int .i64 y.f3, .int .i64 y.bo, .int .i64 y.wa, .int .i64 y.bu] 24)) w.heap.size b.f0 b.f1 b.f2 b.f3 b.bo b.wa b.bu) := HBk.out.alloc _
        have hla : w.heap.size < (wr.alloc (.cells #[.int .i64 y.f0, .int .i64 y.f1, .int .i64 y.f2, .int .i64 y.f3, .int .i64 y.bo, .int .i64 y.wa, .int .i64 y.bu] 24)).heap.size := by simp; omega
        have hlb : wr.heap.size < (wr.alloc (.cells #[.int .i64 y.f0, .int .i64 y.f1, .int .i64 y.f2, .int .i64 y.f3, .int .i64 y.bo, .int .i64 y.wa, .int .i64 y.bu] 24)).heap.size := by simp
        generalize wr.alloc (.cells #[.int .i64 y.f0, .int .i64 y.f1, .int .i64 y.f2, .int .i64 y.f3, .int .i64 y.bo, .int .i64 y.wa, .int .i64 y.bu] 24) = wa at *
        have hbb : Below wa.heap.size wa wa.drew := (Below.refl _ _).drew
        clear HB HBk
        go_region_held3 (fun w' => w'.cell? ⟨w.heap.size, 0, none⟩ = some (.int .i64 b.f0) ∧ w'.cell? ⟨w.heap.size, 1, none⟩ = some (.int .i64 b.f1) ∧ w'.cell? ⟨w.heap.size, 2, none⟩ = some (.int .i64 b.f2) ∧ w'.cell? ⟨w.heap.size, 3, none⟩ = some (.int .i64 b.f3) ∧ w'.cell? ⟨w.heap.size, 4, none⟩ = some (.int .i64 b.bo) ∧ w'.cell? ⟨w.heap.size, 5, none⟩ = some (.int .i64 b.wa) ∧ w'.cell? ⟨w.heap.size, 6, none⟩ = some (.int .i64 b.bu) ∧ w'.cell? ⟨wr.heap.size, 0, none⟩ = some (.int .i64 y.f0) ∧ w'.cell? ⟨wr.heap.size, 1, none⟩ = some (.int .i64 y.f1) ∧ w'.cell? ⟨wr.heap.size, 2, none⟩ = some (.int .i64 y.f2) ∧ w'.cell? ⟨wr.heap.size, 3, none⟩ = some (.int .i64 y.f3) ∧ w'.cell? ⟨wr.heap.size, 4, none⟩ = some (.int .i64 y.bo) ∧ w'.cell? ⟨wr.heap.size, 5, none⟩ = some (.int .i64 y.wa) ∧ w'.cell? ⟨wr.heap.size, 6, none⟩ = some (.int .i64 y.bu) ∧ Below wa.heap.size wa w') (go_keep)
          (first
            | (go_at_call 10; have _h := h1; refine (two_keep (b := b) (x := y) (hG2 _) hla hlb ?_).mono ?_; (simp [*]); rintro e wB ⟨rfl, hB⟩; have h2 := hB)
            | (go_at_call 10; refine (two_keep (b := b) (x := y) (hG1 _) hla hlb ?_).mono ?_; (simp [*]); rintro e wA ⟨rfl, hA⟩; have h1 := hA)
            | (go_at_call 11; have _h := h3; refine (two_keep (b := b) (x := y) (hS1 _) hla hlb ?_).mono ?_; (simp [*]); rintro e wD ⟨rfl, hD⟩)
            | (go_at_call 11; refine (two_keep (b := b) (x := y) (hS2 _) hla hlb ?_).mono ?_; (simp [*]); rintro e wC ⟨rfl, hC⟩; have h3 := hC))
        have hDl : Below wa.heap.size wa wD := hD.2.2.2.2.2.2.2.2.2.2.2.2.2.2
        have HF : Hid (Below w.heap.size w wD) := HBa.out.trans (hDl.mono (Nat.le_of_lt hla))
        have HBd : Hid (BAt wD w.heap.size b.f0 b.f1 b.f2 b.f3 b.bo b.wa b.bu) := HBb.out.later hDl hla
        clear hA hB hC hD h1 h2 h3 hDl HBa HBb
        go_wp2
        go_roundw
        case rel => exact ⟨2, by omega, by go_num, HBd.out, HF⟩
        case measure => simp [intOf]
    · have hi1 := ixB2
      have hi2 := ixE2
      rcases hz with ⟨he, hb⟩ | ⟨rfl, g1, g2, g3⟩
      · obtain rfl := hb.symm
        have hn : (ez != 0) = true := by simpa using he
        have hq : ∀ w, (binOp .neq 24 (.agg #[.int .i64 b.f0, .int .i64 b.f1, .int .i64 b.f2, .int .i64 b.f3, .int .i64 b.bo, .int .i64 b.wa, .int .i64 b.bu]) (.agg #[.int .i64 b.f0, .int .i64 b.f1, .int .i64 b.f2, .int .i64 b.f3, .int .i64 b.bo, .int .i64 b.wa, .int .i64 b.bu])).run Try.prog w = .ok (.bool false) w := fun w => by rw [neB]; simp
        have hlt : w.heap.size < wr.heap.size := B.lt
        obtain ⟨x0, x1, x2, x3, x4, x5, x6⟩ := id B.cells
        have HBk : Hid (BAt wr w.heap.size b.f0 b.f1 b.f2 b.f3 b.bo b.wa b.bu) := B
        clear B
        go_wp2
        go_roundw
        case rel => exact ⟨3, by omega, by go_num, HBk.out.alloc _, HB.out.alloc (Nat.le_of_lt hlt) _⟩
        case measure => simp [intOf]
      · have hG1 := good_any b.f0 b.f1 b.f2 b.f3 b.bo b.wa b.bu
        rw [show goodB b.f0 b.f1 b.f2 b.f3 b.bo b.wa b.bu = true from g1] at hG1
        have hG2 := good_any z.f0 z.f1 z.f2 z.f3 z.bo z.wa z.bu
        rw [show goodB z.f0 z.f1 z.f2 z.f3 z.bo z.wa z.bu = true from g2] at hG2
        have hS1 := sum_any b.f0 b.f1 b.f2 b.f3 b.bo b.wa b.bu
        have hS2 := sum_any z.f0 z.f1 z.f2 z.f3 z.bo z.wa z.bu
        rw [good_sum g1] at hS1
        rw [good_sum g2] at hS2
        clear g1 g2
        have hlt : w.heap.size < wr.heap.size := B.lt
        obtain ⟨x0, x1, x2, x3, x4, x5, x6⟩ := id B.cells
        have HBk : Hid (BAt wr w.heap.size b.f0 b.f1 b.f2 b.f3 b.bo b.wa b.bu) := B
        clear B
        go_wp2_with fail
        obtain ⟨y0, y1, y2, y3, y4, y5, y6⟩ := (BAt.new wr z.f0 z.f1 z.f2 z.f3 z.bo z.wa z.bu).cells
        obtain ⟨x0, x1, x2, x3, x4, x5, x6⟩ := (HBk.out.alloc (.cells #[.int .i64 z.f0, .int .i64 z.f1, .int .i64 z.f2, .int .i64 z.f3, .int .i64 z.bo, .int .i64 z.wa, .int .i64 z.bu] 24)).cells
        have HBa : Hid (Below w.heap.size w (wr.alloc (.cells #[.int .i64 z.f0, .int .i64 z.f1, .int .i64 z.f2, .int .i64 z.f3, .int .i64 z.bo, .int .i64 z.wa, .int .i64 z.bu] 24))) := HB.out.alloc (Nat.le_of_lt hlt) _
        have HBb : Hid (BAt (wr.alloc (.cells #[.int .i64 z.f0, .int .i64 z.f1, .int .i64 z.f2, .int .i64 z.f3, .int .i64 z.bo, .int .i64 z.wa, .int .i64 z.bu] 24)) w.heap.size b.f0 b.f1 b.f2 b.f3 b.bo b.wa b.bu) := HBk.out.alloc _
        have hla : w.heap.size < (wr.alloc (.cells #[.int .i64 z.f0, .int .i64 z.f1, .int .i64 z.f2, .int .i64 z.f3, .int .i64 z.bo, .int .i64 z.wa, .int .i64 z.bu] 24)).heap.size := by simp; omega
        have hlb : wr.heap.size < (wr.alloc (.cells #[.int .i64 z.f0, .int .i64 z.f1, .int .i64 z.f2, .int .i64 z.f3, .int .i64 z.bo, .int .i64 z.wa, .int .i64 z.bu] 24)).heap.size := by simp
        generalize wr.alloc (.cells #[.int .i64 z.f0, .int .i64 z.f1, .int .i64 z.f2, .int .i64 z.f3, .int .i64 z.bo, .int .i64 z.wa, .int .i64 z.bu] 24) = wa at *
        have hbb : Below wa.heap.size wa wa.drew := (Below.refl _ _).drew
        clear HB HBk
        go_region_held3 (fun w' => w'.cell? ⟨w.heap.size, 0, none⟩ = some (.int .i64 b.f0) ∧ w'.cell? ⟨w.heap.size, 1, none⟩ = some (.int .i64 b.f1) ∧ w'.cell? ⟨w.heap.size, 2, none⟩ = some (.int .i64 b.f2) ∧ w'.cell? ⟨w.heap.size, 3, none⟩ = some (.int .i64 b.f3) ∧ w'.cell? ⟨w.heap.size, 4, none⟩ = some (.int .i64 b.bo) ∧ w'.cell? ⟨w.heap.size, 5, none⟩ = some (.int .i64 b.wa) ∧ w'.cell? ⟨w.heap.size, 6, none⟩ = some (.int .i64 b.bu) ∧ w'.cell? ⟨wr.heap.size, 0, none⟩ = some (.int .i64 z.f0) ∧ w'.cell? ⟨wr.heap.size, 1, none⟩ = some (.int .i64 z.f1) ∧ w'.cell? ⟨wr.heap.size, 2, none⟩ = some (.int .i64 z.f2) ∧ w'.cell? ⟨wr.heap.size, 3, none⟩ = some (.int .i64 z.f3) ∧ w'.cell? ⟨wr.heap.size, 4, none⟩ = some (.int .i64 z.bo) ∧ w'.cell? ⟨wr.heap.size, 5, none⟩ = some (.int .i64 z.wa) ∧ w'.cell? ⟨wr.heap.size, 6, none⟩ = some (.int .i64 z.bu) ∧ Below wa.heap.size wa w') (go_keep)
          (first
            | (go_at_call 10; have _h := h1; refine (two_keep (b := b) (x := z) (hG2 _) hla hlb ?_).mono ?_; (simp [*]); rintro e wB ⟨rfl, hB⟩; have h2 := hB)
            | (go_at_call 10; refine (two_keep (b := b) (x := z) (hG1 _) hla hlb ?_).mono ?_; (simp [*]); rintro e wA ⟨rfl, hA⟩; have h1 := hA)
            | (go_at_call 11; have _h := h3; refine (two_keep (b := b) (x := z) (hS1 _) hla hlb ?_).mono ?_; (simp [*]); rintro e wD ⟨rfl, hD⟩)
            | (go_at_call 11; refine (two_keep (b := b) (x := z) (hS2 _) hla hlb ?_).mono ?_; (simp [*]); rintro e wC ⟨rfl, hC⟩; have h3 := hC))
        have hDl : Below wa.heap.size wa wD := hD.2.2.2.2.2.2.2.2.2.2.2.2.2.2
        have HF : Hid (Below w.heap.size w wD) := HBa.out.trans (hDl.mono (Nat.le_of_lt hla))
        have HBd : Hid (BAt wD w.heap.size b.f0 b.f1 b.f2 b.f3 b.bo b.wa b.bu) := HBb.out.later hDl hla
        clear hA hB hC hD h1 h2 h3 hDl HBa HBb
        go_wp2
        go_roundw
        case rel => exact ⟨3, by omega, by go_num, HBd.out, HF⟩
        case measure => simp [intOf]
    · have hi1 := ixB3
      have hi2 := ixE3
      rcases hu with ⟨he, hb⟩ | ⟨rfl, g1, g2, g3⟩
      · obtain rfl := hb.symm
        have hn : (eu != 0) = true := by simpa using he
        have hq : ∀ w, (binOp .neq 24 (.agg #[.int .i64 b.f0, .int .i64 b.f1, .int .i64 b.f2, .int .i64 b.f3, .int .i64 b.bo, .int .i64 b.wa, .int .i64 b.bu]) (.agg #[.int .i64 b.f0, .int .i64 b.f1, .int .i64 b.f2, .int .i64 b.f3, .int .i64 b.bo, .int .i64 b.wa, .int .i64 b.bu])).run Try.prog w = .ok (.bool false) w := fun w => by rw [neB]; simp
        have hlt : w.heap.size < wr.heap.size := B.lt
        obtain ⟨x0, x1, x2, x3, x4, x5, x6⟩ := id B.cells
        have HBk : Hid (BAt wr w.heap.size b.f0 b.f1 b.f2 b.f3 b.bo b.wa b.bu) := B
        clear B
        go_wp2
        go_roundw
        case rel => exact ⟨4, by omega, by go_num, HBk.out.alloc _, HB.out.alloc (Nat.le_of_lt hlt) _⟩
        case measure => simp [intOf]
      · have hG1 := good_any b.f0 b.f1 b.f2 b.f3 b.bo b.wa b.bu
        rw [show goodB b.f0 b.f1 b.f2 b.f3 b.bo b.wa b.bu = true from g1] at hG1
        have hG2 := good_any u.f0 u.f1 u.f2 u.f3 u.bo u.wa u.bu
        rw [show goodB u.f0 u.f1 u.f2 u.f3 u.bo u.wa u.bu = true from g2] at hG2
        have hS1 := sum_any b.f0 b.f1 b.f2 b.f3 b.bo b.wa b.bu
        have hS2 := sum_any u.f0 u.f1 u.f2 u.f3 u.bo u.wa u.bu
        rw [good_sum g1] at hS1
        rw [good_sum g2] at hS2
        clear g1 g2
        have hlt : w.heap.size < wr.heap.size := B.lt
        obtain ⟨x0, x1, x2, x3, x4, x5, x6⟩ := id B.cells
        have HBk : Hid (BAt wr w.heap.size b.f0 b.f1 b.f2 b.f3 b.bo b.wa b.bu) := B
        clear B
        go_wp2_with fail
        obtain ⟨y0, y1, y2, y3, y4, y5, y6⟩ := (BAt.new wr u.f0 u.f1 u.f2 u.f3 u.bo u.wa u.bu).cells
        obtain ⟨x0, x1, x2, x3, x4, x5, x6⟩ := (HBk.out.alloc (.cells #[.int .i64 u.f0, .int .i64 u.f1, .int .i64 u.f2, .int .i64 u.f3, .int .i64 u.bo, .int .i64 u.wa, .int .i64 u.bu] 24)).cells
        have HBa : Hid (Below w.heap.size w (wr.alloc (.cells #[.int .i64 u.f0, .int .i64 u.f1, .int .i64 u.f2, .int .i64 u.f3, .int .i64 u.bo, .int .i64 u.wa, .int .i64 u.bu] 24))) := HB.out.alloc (Nat.le_of_lt hlt) _
        have HBb : Hid (BAt (wr.alloc (.cells #[.int .i64 u.f0, .int .i64 u.f1, .int .i64 u.f2, .int .i64 u.f3, .int .i64 u.bo, .int .i64 u.wa, .int .i64 u.bu] 24)) w.heap.size b.f0 b.f1 b.f2 b.f3 b.bo b.wa b.bu) := HBk.out.alloc _
        have hla : w.heap.size < (wr.alloc (.cells #[.int .i64 u.f0, .int .i64 u.f1, .int .i64 u.f2, .int .i64 u.f3, .int .i64 u.bo, .int .i64 u.wa, .int .i64 u.bu] 24)).heap.size := by simp; omega
        have hlb : wr.heap.size < (wr.alloc (.cells #[.int .i64 u.f0, .int .i64 u.f1, .int .i64 u.f2, .int .i64 u.f3, .int .i64 u.bo, .int .i64 u.wa, .int .i64 u.bu] 24)).heap.size := by simp
        generalize wr.alloc (.cells #[.int .i64 u.f0, .int .i64 u.f1, .int .i64 u.f2, .int .i64 u.f3, .int .i64 u.bo, .int .i64 u.wa, .int .i64 u.bu] 24) = wa at *
        have hbb : Below wa.heap.size wa wa.drew := (Below.refl _ _).drew
        clear HB HBk
        go_region_held3 (fun w' => w'.cell? ⟨w.heap.size, 0, none⟩ = some (.int .i64 b.f0) ∧ w'.cell? ⟨w.heap.size, 1, none⟩ = some (.int .i64 b.f1) ∧ w'.cell? ⟨w.heap.size, 2, none⟩ = some (.int .i64 b.f2) ∧ w'.cell? ⟨w.heap.size, 3, none⟩ = some (.int .i64 b.f3) ∧ w'.cell? ⟨w.heap.size, 4, none⟩ = some (.int .i64 b.bo) ∧ w'.cell? ⟨w.heap.size, 5, none⟩ = some (.int .i64 b.wa) ∧ w'.cell? ⟨w.heap.size, 6, none⟩ = some (.int .i64 b.bu) ∧ w'.cell? ⟨wr.heap.size, 0, none⟩ = some (.int .i64 u.f0) ∧ w'.cell? ⟨wr.heap.size, 1, none⟩ = some (.int .i64 u.f1) ∧ w'.cell? ⟨wr.heap.size, 2, none⟩ = some (.int .i64 u.f2) ∧ w'.cell? ⟨wr.heap.size, 3, none⟩ = some (.int .i64 u.f3) ∧ w'.cell? ⟨wr.heap.size, 4, none⟩ = some (.int .i64 u.bo) ∧ w'.cell? ⟨wr.heap.size, 5, none⟩ = some (.int .i64 u.wa) ∧ w'.cell? ⟨wr.heap.size, 6, none⟩ = some (.int .i64 u.bu) ∧ Below wa.heap.size wa w') (go_keep)
          (first
            | (go_at_call 10; have _h := h1; refine (two_keep (b := b) (x := u) (hG2 _) hla hlb ?_).mono ?_; (simp [*]); rintro e wB ⟨rfl, hB⟩; have h2 := hB)
            | (go_at_call 10; refine (two_keep (b := b) (x := u) (hG1 _) hla hlb ?_).mono ?_; (simp [*]); rintro e wA ⟨rfl, hA⟩; have h1 := hA)
            | (go_at_call 11; have _h := h3; refine (two_keep (b := b) (x := u) (hS1 _) hla hlb ?_).mono ?_; (simp [*]); rintro e wD ⟨rfl, hD⟩)
            | (go_at_call 11; refine (two_keep (b := b) (x := u) (hS2 _) hla hlb ?_).mono ?_; (simp [*]); rintro e wC ⟨rfl, hC⟩; have h3 := hC))
        have hDl : Below wa.heap.size wa wD := hD.2.2.2.2.2.2.2.2.2.2.2.2.2.2
        have HF : Hid (Below w.heap.size w wD) := HBa.out.trans (hDl.mono (Nat.le_of_lt hla))
        have HBd : Hid (BAt wD w.heap.size b.f0 b.f1 b.f2 b.f3 b.bo b.wa b.bu) := HBb.out.later hDl hla
        clear hA hB hC hD h1 h2 h3 hDl HBa HBb
        go_wp2
        go_roundw
        case rel => exact ⟨4, by omega, by go_num, HBd.out, HF⟩
        case measure => simp [intOf]
    · go_wp2
      go_ret
      exact ⟨rfl, HB.out⟩
end Go.Proofs.Ytjdjflkagopgoac
