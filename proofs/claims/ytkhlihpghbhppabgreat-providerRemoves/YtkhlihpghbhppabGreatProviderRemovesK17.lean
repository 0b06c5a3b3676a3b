/- Parts of the proof: D E. -/
import Derived.Test.YtkhlihpghbhppabGreatRows
import Derived.Test.YtkhlihpghbhppabGreatProviderRemovesK14
import Derived.Test.YtkhlihpghbhppabGreatProviderRemovesK16
import Derived.Test.YtkhlihpghbhppabGreatProviderRemovesK52
import Derived.WalkKit
import Derived.LoopN
import Derived.WalkSmall
import Derived.BigQuiet
import Derived.Deep.QuietTactic
import Derived.Deep.RegionHeld3
set_option maxRecDepth 100000
namespace Go.Proofs.YtkhlihpghbhppabGreat
open Go.RowKit
def cl (n : Int) : Int := min (max n 0) 400000
theorem cl_cases (n : Int) : (n < 0 ∧ cl n = 0) ∨ (0 ≤ n ∧ 400000 < n ∧ cl n = 400000) ∨ (0 ≤ n ∧ n ≤ 400000 ∧ cl n = n) := by
  unfold cl
  omega
/-- how far the numbers are brought to their bounds, behind k rounds -/
def Mid (w : World) (b k : Nat) (f0 f1 f2 f3 bo wa bu : Int) : Prop :=
  BAt w b (if 3 < k then cl f0 else f0) (if 4 < k then cl f1 else f1) (if 5 < k then cl f2 else f2) (if 6 < k then cl f3 else f3) (if 0 < k then cl bo else bo) (if 1 < k then cl wa else wa) (if 2 < k then cl bu else bu)
set_option maxHeartbeats 2000000 in
theorem clamped_any (f0 f1 f2 f3 bo wa bu : Int) (w : World) :
    Calls Tryz.prog 62 #[.agg #[.int .i64 f0, .int .i64 f1, .int .i64 f2, .int .i64 f3, .int .i64 bo, .int .i64 wa, .int .i64 bu]] w
    fun e w' => e = .returned (.agg #[.int .i64 (cl f0), .int .i64 (cl f1), .int .i64 (cl f2), .int .i64 (cl f3), .int .i64 (cl bo), .int .i64 (cl wa), .int .i64 (cl bu)]) ∧ Below w.heap.size w w' := by
  go_enter Tryz.func62, Tryz.ntmps62
  go_wp2_with fail
  refine (places_row _).mono ?_
  rintro e w1 ⟨g, cap, c0, c1, c2, c3, rfl, P, hb⟩
  have B1 := ((BAt.new w f0 f1 f2 f3 bo wa bu).alloc (.cells #[.int .i64 0, .int .i64 0, .int .i64 0, .int .i64 0, .int .i64 0, .int .i64 0, .int .i64 0] 24)).later hb (by simp; omega)
  have R1 : BAt w1 (w.heap.size + 1) 0 0 0 0 0 0 0 := by
    have := (BAt.new (w.alloc (.cells #[.int .i64 f0, .int .i64 f1, .int .i64 f2, .int .i64 f3, .int .i64 bo, .int .i64 wa, .int .i64 bu] 24)) 0 0 0 0 0 0 0).later hb (by simp)
    simpa using this
  have HB : Hid (Below w.heap.size w w1) := (((Below.refl _ w).alloc (Nat.le_refl _) _).alloc (by simp) _).trans (hb.mono (by simp; omega))
  have P' : PL w1 (w.heap.size + 2) g c0 c1 c2 c3 := by simpa using P
  clear P hb
  go_wp2
  go_loopw [8] (fun i wl => ∃ (k : Nat), k ≤ 7 ∧ i = .int .i64 (k : Int) ∧ Mid wl w.heap.size k f0 f1 f2 f3 bo wa bu ∧ PL wl (w.heap.size + 2) g c0 c1 c2 c3 ∧ BAt wl (w.heap.size + 1) 0 0 0 0 0 0 0 ∧ Hid (Below w.heap.size w wl)) (fun i _ => (7 - intOf i).toNat)
  case atStart => exact ⟨0, by omega, rfl, B1, P', R1, HB⟩
  case round =>
    clear B1 R1 HB P'
    obtain ⟨k, hk, rfl, M, P, R, HB⟩ := hrel
    rcases (show k = 0 ∨ k = 1 ∨ k = 2 ∨ k = 3 ∨ k = 4 ∨ k = 5 ∨ k = 6 ∨ k = 7 by omega) with rfl | rfl | rfl | rfl | rfl | rfl | rfl | rfl
    · have M0 : BAt wr w.heap.size f0 f1 f2 f3 bo wa bu := M
      have x := M0.cells.2.2.2.2.1
      have y := M0.frees.2.2.2.2.1
      have p := P.p0
      have HM : Hid (Mid (wr.setCell ⟨w.heap.size, 4, none⟩ (.int .i64 (cl bo))) w.heap.size 1 f0 f1 f2 f3 bo wa bu ∧ PL (wr.setCell ⟨w.heap.size, 4, none⟩ (.int .i64 (cl bo))) (w.heap.size + 2) g c0 c1 c2 c3 ∧ BAt (wr.setCell ⟨w.heap.size, 4, none⟩ (.int .i64 (cl bo))) (w.heap.size + 1) 0 0 0 0 0 0 0 ∧ Below w.heap.size w (wr.setCell ⟨w.heap.size, 4, none⟩ (.int .i64 (cl bo)))) :=
        ⟨M0.set_4 _, P.later (fun k hk => Below.heap_setCell _ _ _ _ (by simp; omega)), R.other (by omega) _, HB.out.setCell (by simp) _⟩
      clear M M0 P R
      rcases cl_cases bo with ⟨h1, e1⟩ | ⟨h1, h2, e1⟩ | ⟨h1, h2, e1⟩
      all_goals
        rw [e1] at HM
        clear e1
        go_wp2_with (go_at_call 114; refine (bonded1_any _ _).mono ?_; rintro e w2 ⟨rfl, rfl⟩)
        go_roundw
        case rel => exact ⟨1, by omega, by go_num, HM.out.1, HM.out.2.1.later (fun _ _ => rfl), HM.out.2.2.1, HM.out.2.2.2.trans ⟨rfl, rfl, rfl, Nat.le_refl _, fun _ _ => rfl⟩⟩
        case measure => simp [intOf]
    · have M0 : BAt wr w.heap.size f0 f1 f2 f3 (cl bo) wa bu := M
      have x := M0.cells.2.2.2.2.2.1
      have y := M0.frees.2.2.2.2.2.1
      have p := P.p1
      have HM : Hid (Mid (wr.setCell ⟨w.heap.size, 5, none⟩ (.int .i64 (cl wa))) w.heap.size 2 f0 f1 f2 f3 bo wa bu ∧ PL (wr.setCell ⟨w.heap.size, 5, none⟩ (.int .i64 (cl wa))) (w.heap.size + 2) g c0 c1 c2 c3 ∧ BAt (wr.setCell ⟨w.heap.size, 5, none⟩ (.int .i64 (cl wa))) (w.heap.size + 1) 0 0 0 0 0 0 0 ∧ Below w.heap.size w (wr.setCell ⟨w.heap.size, 5, none⟩ (.int .i64 (cl wa)))) :=
        ⟨M0.set_5 _, P.later (fun k hk => Below.heap_setCell _ _ _ _ (by simp; omega)), R.other (by omega) _, HB.out.setCell (by simp) _⟩
      clear M M0 P R
      rcases cl_cases wa with ⟨h1, e1⟩ | ⟨h1, h2, e1⟩ | ⟨h1, h2, e1⟩
      all_goals
        rw [e1] at HM
        clear e1
        go_wp2_with (go_at_call 97; refine (waiting1_any _ _).mono ?_; rintro e w2 ⟨rfl, rfl⟩)
        go_roundw
        case rel => exact ⟨2, by omega, by go_num, HM.out.1, HM.out.2.1.later (fun _ _ => rfl), HM.out.2.2.1, HM.out.2.2.2.trans ⟨rfl, rfl, rfl, Nat.le_refl _, fun _ _ => rfl⟩⟩
        case measure => simp [intOf]
    · have M0 : BAt wr w.heap.size f0 f1 f2 f3 (cl bo) (cl wa) bu := M
      have x := M0.cells.2.2.2.2.2.2
      have y := M0.frees.2.2.2.2.2.2
      have p := P.p2
      have HM : Hid (Mid (wr.setCell ⟨w.heap.size, 6, none⟩ (.int .i64 (cl bu))) w.heap.size 3 f0 f1 f2 f3 bo wa bu ∧ PL (wr.setCell ⟨w.heap.size, 6, none⟩ (.int .i64 (cl bu))) (w.heap.size + 2) g c0 c1 c2 c3 ∧ BAt (wr.setCell ⟨w.heap.size, 6, none⟩ (.int .i64 (cl bu))) (w.heap.size + 1) 0 0 0 0 0 0 0 ∧ Below w.heap.size w (wr.setCell ⟨w.heap.size, 6, none⟩ (.int .i64 (cl bu)))) :=
        ⟨M0.set_6 _, P.later (fun k hk => Below.heap_setCell _ _ _ _ (by simp; omega)), R.other (by omega) _, HB.out.setCell (by simp) _⟩
      clear M M0 P R
      rcases cl_cases bu with ⟨h1, e1⟩ | ⟨h1, h2, e1⟩ | ⟨h1, h2, e1⟩
      all_goals
        rw [e1] at HM
        clear e1
        go_wp2_with (go_at_call 126; refine (burnt1_any _ _).mono ?_; rintro e w2 ⟨rfl, rfl⟩)
        go_roundw
        case rel => exact ⟨3, by omega, by go_num, HM.out.1, HM.out.2.1.later (fun _ _ => rfl), HM.out.2.2.1, HM.out.2.2.2.trans ⟨rfl, rfl, rfl, Nat.le_refl _, fun _ _ => rfl⟩⟩
        case measure => simp [intOf]
    · have M0 : BAt wr w.heap.size f0 f1 f2 f3 (cl bo) (cl wa) (cl bu) := M
      have x := M0.cells.1
      have y := M0.frees.1
      have p := P.p3
      have q := P.q0
      have HM : Hid (Mid (wr.setCell ⟨w.heap.size, 0, none⟩ (.int .i64 (cl f0))) w.heap.size 4 f0 f1 f2 f3 bo wa bu ∧ PL (wr.setCell ⟨w.heap.size, 0, none⟩ (.int .i64 (cl f0))) (w.heap.size + 2) g c0 c1 c2 c3 ∧ BAt (wr.setCell ⟨w.heap.size, 0, none⟩ (.int .i64 (cl f0))) (w.heap.size + 1) 0 0 0 0 0 0 0 ∧ Below w.heap.size w (wr.setCell ⟨w.heap.size, 0, none⟩ (.int .i64 (cl f0)))) :=
        ⟨M0.set_0 _, P.later (fun k hk => Below.heap_setCell _ _ _ _ (by simp; omega)), R.other (by omega) _, HB.out.setCell (by simp) _⟩
      clear M M0 P R
      rcases cl_cases f0 with ⟨h1, e1⟩ | ⟨h1, h2, e1⟩ | ⟨h1, h2, e1⟩
      all_goals
        rw [e1] at HM
        clear e1
        go_wp2_with (go_at_call 98; refine (free1_at _ _ _ _ q (by decide) (by decide)).mono ?_; rintro e w2 ⟨rfl, nq, rfl⟩)
        go_roundw
        case rel => exact ⟨4, by omega, by go_num, HM.out.1, HM.out.2.1.later (fun _ _ => rfl), HM.out.2.2.1, HM.out.2.2.2.trans ⟨rfl, rfl, rfl, Nat.le_refl _, fun _ _ => rfl⟩⟩
        case measure => simp [intOf]
    · have M0 : BAt wr w.heap.size (cl f0) f1 f2 f3 (cl bo) (cl wa) (cl bu) := M
      have x := M0.cells.2.1
      have y := M0.frees.2.1
      have p := P.p4
      have q := P.q1
      have HM : Hid (Mid (wr.setCell ⟨w.heap.size, 1, none⟩ (.int .i64 (cl f1))) w.heap.size 5 f0 f1 f2 f3 bo wa bu ∧ PL (wr.setCell ⟨w.heap.size, 1, none⟩ (.int .i64 (cl f1))) (w.heap.size + 2) g c0 c1 c2 c3 ∧ BAt (wr.setCell ⟨w.heap.size, 1, none⟩ (.int .i64 (cl f1))) (w.heap.size + 1) 0 0 0 0 0 0 0 ∧ Below w.heap.size w (wr.setCell ⟨w.heap.size, 1, none⟩ (.int .i64 (cl f1)))) :=
        ⟨M0.set_1 _, P.later (fun k hk => Below.heap_setCell _ _ _ _ (by simp; omega)), R.other (by omega) _, HB.out.setCell (by simp) _⟩
      clear M M0 P R
      rcases cl_cases f1 with ⟨h1, e1⟩ | ⟨h1, h2, e1⟩ | ⟨h1, h2, e1⟩
      all_goals
        rw [e1] at HM
        clear e1
        go_wp2_with (go_at_call 98; refine (free1_at _ _ _ _ q (by decide) (by decide)).mono ?_; rintro e w2 ⟨rfl, nq, rfl⟩)
        go_roundw
        case rel => exact ⟨5, by omega, by go_num, HM.out.1, HM.out.2.1.later (fun _ _ => rfl), HM.out.2.2.1, HM.out.2.2.2.trans ⟨rfl, rfl, rfl, Nat.le_refl _, fun _ _ => rfl⟩⟩
        case measure => simp [intOf]
    · have M0 : BAt wr w.heap.size (cl f0) (cl f1) f2 f3 (cl bo) (cl wa) (cl bu) := M
      have x := M0.cells.2.2.1
      have y := M0.frees.2.2.1
      have p := P.p5
      have q := P.q2
      have HM : Hid (Mid (wr.setCell ⟨w.heap.size, 2, none⟩ (.int .i64 (cl f2))) w.heap.size 6 f0 f1 f2 f3 bo wa bu ∧ PL (wr.setCell ⟨w.heap.size, 2, none⟩ (.int .i64 (cl f2))) (w.heap.size + 2) g c0 c1 c2 c3 ∧ BAt (wr.setCell ⟨w.heap.size, 2, none⟩ (.int .i64 (cl f2))) (w.heap.size + 1) 0 0 0 0 0 0 0 ∧ Below w.heap.size w (wr.setCell ⟨w.heap.size, 2, none⟩ (.int .i64 (cl f2)))) :=
        ⟨M0.set_2 _, P.later (fun k hk => Below.heap_setCell _ _ _ _ (by simp; omega)), R.other (by omega) _, HB.out.setCell (by simp) _⟩
      clear M M0 P R
      rcases cl_cases f2 with ⟨h1, e1⟩ | ⟨h1, h2, e1⟩ | ⟨h1, h2, e1⟩
      all_goals
        rw [e1] at HM
        clear e1
        go_wp2_with (go_at_call 98; refine (free1_at _ _ _ _ q (by decide) (by decide)).mono ?_; rintro e w2 ⟨rfl, nq, rfl⟩)
        go_roundw
        case rel => exact ⟨6, by omega, by go_num, HM.out.1, HM.out.2.1.later (fun _ _ => rfl), HM.out.2.2.1, HM.out.2.2.2.trans ⟨rfl, rfl, rfl, Nat.le_refl _, fun _ _ => rfl⟩⟩
        case measure => simp [intOf]
    · have M0 : BAt wr w.heap.size (cl f0) (cl f1) (cl f2) f3 (cl bo) (cl wa) (cl bu) := M
      have x := M0.cells.2.2.2.1
      have y := M0.frees.2.2.2.1
      have p := P.p6
      have q := P.q3
      have HM : Hid (Mid (wr.setCell ⟨w.heap.size, 3, none⟩ (.int .i64 (cl f3))) w.heap.size 7 f0 f1 f2 f3 bo wa bu ∧ PL (wr.setCell ⟨w.heap.size, 3, none⟩ (.int .i64 (cl f3))) (w.heap.size + 2) g c0 c1 c2 c3 ∧ BAt (wr.setCell ⟨w.heap.size, 3, none⟩ (.int .i64 (cl f3))) (w.heap.size + 1) 0 0 0 0 0 0 0 ∧ Below w.heap.size w (wr.setCell ⟨w.heap.size, 3, none⟩ (.int .i64 (cl f3)))) :=
        ⟨M0.set_3 _, P.later (fun k hk => Below.heap_setCell _ _ _ _ (by simp; omega)), R.other (by omega) _, HB.out.setCell (by simp) _⟩
      clear M M0 P R
      rcases cl_cases f3 with ⟨h1, e1⟩ | ⟨h1, h2, e1⟩ | ⟨h1, h2, e1⟩
      all_goals
        rw [e1] at HM
        clear e1
        go_wp2_with (go_at_call 98; refine (free1_at _ _ _ _ q (by decide) (by decide)).mono ?_; rintro e w2 ⟨rfl, nq, rfl⟩)
        go_roundw
        case rel => exact ⟨7, by omega, by go_num, HM.out.1, HM.out.2.1.later (fun _ _ => rfl), HM.out.2.2.1, HM.out.2.2.2.trans ⟨rfl, rfl, rfl, Nat.le_refl _, fun _ _ => rfl⟩⟩
        case measure => simp [intOf]
    · have M0 : BAt wr w.heap.size (cl f0) (cl f1) (cl f2) (cl f3) (cl bo) (cl wa) (cl bu) := M
      obtain ⟨x0, x1, x2, x3, x4, x5, x6⟩ := M0.cells
      obtain ⟨y0, y1, y2, y3, y4, y5, y6⟩ := R.frees
      obtain ⟨z0, z1, z2, z3, z4, z5, z6⟩ := R.cells
      have HR : Hid (BAt (set7 wr (w.heap.size + 1) (cl f0) (cl f1) (cl f2) (cl f3) (cl bo) (cl wa) (cl bu)) (w.heap.size + 1) (cl f0) (cl f1) (cl f2) (cl f3) (cl bo) (cl wa) (cl bu)) := R.set7 _ _ _ _ _ _ _
      have HW : Hid (Below w.heap.size w (set7 wr (w.heap.size + 1) (cl f0) (cl f1) (cl f2) (cl f3) (cl bo) (cl wa) (cl bu))) := set7_below HB.out (by omega) _ _ _ _ _ _ _
      clear M M0 R P
      go_wp2
      show bodyPost Tryz.prog Tryz.f62 _ Exit.ret _ (set7 wr (w.heap.size + 1) (cl f0) (cl f1) (cl f2) (cl f3) (cl bo) (cl wa) (cl bu))
      obtain ⟨u0, u1, u2, u3, u4, u5, u6⟩ := HR.out.cells
      generalize set7 wr (w.heap.size + 1) (cl f0) (cl f1) (cl f2) (cl f3) (cl bo) (cl wa) (cl bu) = w9 at *
      exact bodyPost_ret (v := .agg #[.int .i64 (cl f0), .int .i64 (cl f1), .int .i64 (cl f2), .int .i64 (cl f3), .int .i64 (cl bo), .int .i64 (cl wa), .int .i64 (cl bu)]) (by simp [results, Tryz.results62, go_sem, u0, u1, u2, u3, u4, u5, u6]) rfl ⟨rfl, HW.out⟩
end Go.Proofs.YtkhlihpghbhppabGreat

set_option maxRecDepth 100000
namespace Go.Proofs.YtkhlihpghbhppabGreat
open Go.RowKit
theorem cells_keep {f : Nat} {args : Array Value} {w0 w : World} {b : Nat} {v : Value} {f0 f1 f2 f3 bo wa bu : Int} (h : Calls Tryz.prog f args w fun e w' => e = .returned v ∧ Below w.heap.size w w')
    (hb : b < w0.heap.size) (hS : w.cell? ⟨b, 0, none⟩ = some (.int .i64 f0) ∧ w.cell? ⟨b, 1, none⟩ = some (.int .i64 f1) ∧ w.cell? ⟨b, 2, none⟩ = some (.int .i64 f2) ∧ w.cell? ⟨b, 3, none⟩ = some (.int .i64 f3) ∧ w.cell? ⟨b, 4, none⟩ = some (.int .i64 bo) ∧ w.cell? ⟨b, 5, none⟩ = some (.int .i64 wa) ∧ w.cell? ⟨b, 6, none⟩ = some (.int .i64 bu) ∧ Below w0.heap.size w0 w) :
    Calls Tryz.prog f args w fun e w' => e = .returned v ∧ w'.cell? ⟨b, 0, none⟩ = some (.int .i64 f0) ∧ w'.cell? ⟨b, 1, none⟩ = some (.int .i64 f1) ∧ w'.cell? ⟨b, 2, none⟩ = some (.int .i64 f2) ∧ w'.cell? ⟨b, 3, none⟩ = some (.int .i64 f3) ∧ w'.cell? ⟨b, 4, none⟩ = some (.int .i64 bo) ∧ w'.cell? ⟨b, 5, none⟩ = some (.int .i64 wa) ∧ w'.cell? ⟨b, 6, none⟩ = some (.int .i64 bu) ∧ Below w0.heap.size w0 w' := by
  refine h.mono ?_
  rintro e w' ⟨rfl, hb'⟩
  obtain ⟨h0, h1, h2, h3, h4, h5, h6, hB⟩ := hS
  have k : ∀ o, w'.cell? ⟨b, o, none⟩ = w.cell? ⟨b, o, none⟩ := fun o => hb'.cell (Nat.lt_of_lt_of_le hb hB.size)
  exact ⟨rfl, (k 0).trans h0, (k 1).trans h1, (k 2).trans h2, (k 3).trans h3, (k 4).trans h4, (k 5).trans h5, (k 6).trans h6, hB.trans (hb'.mono hB.size)⟩
theorem wrap64_small {n : Int} (h0 : -9223372036854775808 ≤ n) (h1 : n < 9223372036854775808) : wrap64 n = n := by
  unfold wrap64
  omega
set_option maxHeartbeats 1000000 in
theorem good_no (f0 f1 f2 f3 bo wa bu : Int) (w : World) (y0 y1 y2 y3 y4 y5 y6 : Int) (hne : ∀ w, (binOp .eql 24 (.agg #[.int .i64 y0, .int .i64 y1, .int .i64 y2, .int .i64 y3, .int .i64 y4, .int .i64 y5, .int .i64 y6]) (.agg #[.int .i64 f0, .int .i64 f1, .int .i64 f2, .int .i64 f3, .int .i64 bo, .int .i64 wa, .int .i64 bu])).run Tryz.prog w = .ok (.bool false) w)
    (hcl : ∀ w, Calls Tryz.prog 62 #[.agg #[.int .i64 f0, .int .i64 f1, .int .i64 f2, .int .i64 f3, .int .i64 bo, .int .i64 wa, .int .i64 bu]] w fun e w' => e = .returned (.agg #[.int .i64 y0, .int .i64 y1, .int .i64 y2, .int .i64 y3, .int .i64 y4, .int .i64 y5, .int .i64 y6]) ∧ Below w.heap.size w w') :
    Calls Tryz.prog 35 #[.agg #[.int .i64 f0, .int .i64 f1, .int .i64 f2, .int .i64 f3, .int .i64 bo, .int .i64 wa, .int .i64 bu]] w fun e w' => e = .returned (.bool false) ∧ Below w.heap.size w w' := by
  go_enter Tryz.func35, Tryz.ntmps35
  go_wp2_with fail
  have HB0 : Hid (Below w.heap.size w (w.alloc (.cells #[.int .i64 f0, .int .i64 f1, .int .i64 f2, .int .i64 f3, .int .i64 bo, .int .i64 wa, .int .i64 bu] 24))) := (Below.refl _ w).alloc (Nat.le_refl _) _
  have B0 := BAt.new w f0 f1 f2 f3 bo wa bu
  have hlt : w.heap.size < (w.alloc (.cells #[.int .i64 f0, .int .i64 f1, .int .i64 f2, .int .i64 f3, .int .i64 bo, .int .i64 wa, .int .i64 bu] 24)).heap.size := by simp
  generalize w.alloc (.cells #[.int .i64 f0, .int .i64 f1, .int .i64 f2, .int .i64 f3, .int .i64 bo, .int .i64 wa, .int .i64 bu] 24) = w0 at *
  obtain ⟨x0, x1, x2, x3, x4, x5, x6⟩ := id B0.cells
  clear B0
  have hbb : Below w0.heap.size w0 w0.drew := (Below.refl _ _).drew
  go_region_with (go_at_call 62; refine (cells_keep (f0 := f0) (f1 := f1) (f2 := f2) (f3 := f3) (bo := bo) (wa := wa) (bu := bu) (hcl _) hlt ?_).mono ?_; (simp [*]); rintro e wA ⟨rfl, z0, z1, z2, z3, z4, z5, z6, hA⟩)
  all_goals
    have HF : Hid (Below w.heap.size w wA) := HB0.out.trans (hA.mono (Nat.le_of_lt hlt))
    clear hA
    go_wp2
    go_ret
    exact ⟨rfl, HF.out⟩
set_option maxHeartbeats 1000000 in
theorem good_yes (f0 f1 f2 f3 bo wa bu s : Int) (r : Bool) (w : World) (heq : ∀ w, (binOp .eql 24 (.agg #[.int .i64 f0, .int .i64 f1, .int .i64 f2, .int .i64 f3, .int .i64 bo, .int .i64 wa, .int .i64 bu]) (.agg #[.int .i64 f0, .int .i64 f1, .int .i64 f2, .int .i64 f3, .int .i64 bo, .int .i64 wa, .int .i64 bu])).run Tryz.prog w = .ok (.bool true) w)
    (hcl : ∀ w, Calls Tryz.prog 62 #[.agg #[.int .i64 f0, .int .i64 f1, .int .i64 f2, .int .i64 f3, .int .i64 bo, .int .i64 wa, .int .i64 bu]] w fun e w' => e = .returned (.agg #[.int .i64 f0, .int .i64 f1, .int .i64 f2, .int .i64 f3, .int .i64 bo, .int .i64 wa, .int .i64 bu]) ∧ Below w.heap.size w w')
    (hsum : ∀ w, Calls Tryz.prog 63 #[.agg #[.int .i64 f0, .int .i64 f1, .int .i64 f2, .int .i64 f3, .int .i64 bo, .int .i64 wa, .int .i64 bu]] w fun e w' => e = .returned (.int .i64 s) ∧ Below w.heap.size w w') (hr : (s == 400000) = r) :
    Calls Tryz.prog 35 #[.agg #[.int .i64 f0, .int .i64 f1, .int .i64 f2, .int .i64 f3, .int .i64 bo, .int .i64 wa, .int .i64 bu]] w fun e w' => e = .returned (.bool r) ∧ Below w.heap.size w w' := by
  go_enter Tryz.func35, Tryz.ntmps35
  go_wp2_with fail
  have HB0 : Hid (Below w.heap.size w (w.alloc (.cells #[.int .i64 f0, .int .i64 f1, .int .i64 f2, .int .i64 f3, .int .i64 bo, .int .i64 wa, .int .i64 bu] 24))) := (Below.refl _ w).alloc (Nat.le_refl _) _
  have B0 := BAt.new w f0 f1 f2 f3 bo wa bu
  have hlt : w.heap.size < (w.alloc (.cells #[.int .i64 f0, .int .i64 f1, .int .i64 f2, .int .i64 f3, .int .i64 bo, .int .i64 wa, .int .i64 bu] 24)).heap.size := by simp
  generalize w.alloc (.cells #[.int .i64 f0, .int .i64 f1, .int .i64 f2, .int .i64 f3, .int .i64 bo, .int .i64 wa, .int .i64 bu] 24) = w0 at *
  obtain ⟨x0, x1, x2, x3, x4, x5, x6⟩ := id B0.cells
  clear B0
  have hbb : Below w0.heap.size w0 w0.drew := (Below.refl _ _).drew
  go_region_held3 (fun w' => w'.cell? ⟨w.heap.size, 0, none⟩ = some (.int .i64 f0) ∧ w'.cell? ⟨w.heap.size, 1, none⟩ = some (.int .i64 f1) ∧ w'.cell? ⟨w.heap.size, 2, none⟩ = some (.int .i64 f2) ∧ w'.cell? ⟨w.heap.size, 3, none⟩ = some (.int .i64 f3) ∧ w'.cell? ⟨w.heap.size, 4, none⟩ = some (.int .i64 bo) ∧ w'.cell? ⟨w.heap.size, 5, none⟩ = some (.int .i64 wa) ∧ w'.cell? ⟨w.heap.size, 6, none⟩ = some (.int .i64 bu) ∧ Below w0.heap.size w0 w') (go_keep)
    (first
      | (go_at_call 62; refine (cells_keep (f0 := f0) (f1 := f1) (f2 := f2) (f3 := f3) (bo := bo) (wa := wa) (bu := bu) (hcl _) hlt ?_).mono ?_; (simp [*]); rintro e wA ⟨rfl, hA⟩)
      | (go_at_call 63; refine (cells_keep (f0 := f0) (f1 := f1) (f2 := f2) (f3 := f3) (bo := bo) (wa := wa) (bu := bu) (hsum _) hlt ?_).mono ?_; (simp [*]); rintro e wB ⟨rfl, hB⟩))
  have HF : Hid (Below w.heap.size w wB) := HB0.out.trans (hB.2.2.2.2.2.2.2.mono (Nat.le_of_lt hlt))
  clear hA hB
  go_wp2
  go_ret
  exact ⟨rfl, HF.out⟩
theorem cl_iff (n : Int) : cl n = n ↔ 0 ≤ n ∧ n ≤ 400000 := by
  unfold cl
  omega
theorem good_any (f0 f1 f2 f3 bo wa bu : Int) (w : World) : Calls Tryz.prog 35 #[.agg #[.int .i64 f0, .int .i64 f1, .int .i64 f2, .int .i64 f3, .int .i64 bo, .int .i64 wa, .int .i64 bu]] w fun e w' => e = .returned (.bool (goodB f0 f1 f2 f3 bo wa bu)) ∧ Below w.heap.size w w' := by
  have hc := clamped_any f0 f1 f2 f3 bo wa bu
  have he := fun w => eqB w (cl f0) (cl f1) (cl f2) (cl f3) (cl bo) (cl wa) (cl bu) f0 f1 f2 f3 bo wa bu
  by_cases h : cl f0 = f0 ∧ cl f1 = f1 ∧ cl f2 = f2 ∧ cl f3 = f3 ∧ cl bo = bo ∧ cl wa = wa ∧ cl bu = bu
  · rw [decide_eq_true h] at he
    obtain ⟨h0, h1, h2, h3, h4, h5, h6⟩ := h
    rw [h0, h1, h2, h3, h4, h5, h6] at hc he
    rw [cl_iff] at h0 h1 h2 h3 h4 h5 h6
    refine good_yes f0 f1 f2 f3 bo wa bu _ _ w he hc (sum_any f0 f1 f2 f3 bo wa bu) ?_
    rw [wrap64_small (by omega) (by omega)]
    unfold goodB
    simp [h0, h1, h2, h3, h4, h5, h6]
    rfl
  · rw [decide_eq_false h] at he
    have hn : goodB f0 f1 f2 f3 bo wa bu = false := by
      unfold goodB
      refine decide_eq_false fun g => h ?_
      simp only [cl_iff]
      exact ⟨g.1, g.2.1, g.2.2.1, g.2.2.2.1, g.2.2.2.2.1, g.2.2.2.2.2.1, g.2.2.2.2.2.2.1⟩
    rw [hn]
    exact good_no f0 f1 f2 f3 bo wa bu w _ _ _ _ _ _ _ he hc
end Go.Proofs.YtkhlihpghbhppabGreat

