/- Parts of the proof: SE E RA F. -/
import Derived.Test.YtjghbciepinofaaGreatRows
import Derived.Test.YtjghbciepinofaaGreatPEK22
import Derived.Test.YtjghbciepinofaaGreatPEK28
import Derived.Test.YtjghbciepinofaaGreatPEK29
import Derived.Test.YtjghbciepinofaaGreatPEK34
import Derived.WalkKit
import Derived.WalkSmall
import Derived.BigQuiet
import Derived.Deep.QuietTactic
import Derived.Deep.RegionHeld3
import Derived.Below
import Derived.Test.YtjghbciepinofaaGreatProg
import Derived.ProofKit
import Derived.Laws.MathBits
set_option maxRecDepth 100000
namespace Go.Proofs.YtjghbciepinofaaGreat
open Go.RowKit
theorem ptok_bound {V : Nat → Vd} : ∀ k, (∀ i, i < k → inA (V i).tok = true) → 0 ≤ ptok V k ∧ ptok V k ≤ 1125899906842624 * (k : Int)
  | 0, _ => by simp [ptok]
  | k + 1, h => by
    have h1 := ptok_bound k (fun i hi => h i (by omega))
    have h2 := inA_iff.1 (h k (by omega))
    simp only [ptok] at *
    omega
theorem plost_bound {V : Nat → Vd} : ∀ k, (∀ i, i < k → inA (V i).lost = true) → 0 ≤ plost V k ∧ plost V k ≤ 1125899906842624 * (k : Int)
  | 0, _ => by simp [plost]
  | k + 1, h => by
    have h1 := plost_bound k (fun i hi => h i (by omega))
    have h2 := inA_iff.1 (h k (by omega))
    simp only [plost] at *
    omega
theorem amts_take {W : List Wt} {k : Nat} {x : Wt} (h : W[k]? = some x) : amts (W.take (k + 1)) = amts (W.take k) + x.amt := by
  have hk := (List.getElem?_eq_some_iff.1 h).1
  rw [List.take_succ_eq_append_getElem hk]
  have e : W[k] = x := by simpa [List.getElem?_eq_getElem hk] using h
  rw [e]
  generalize W.take k = l
  induction l with
  | nil => simp [amts]
  | cons y r ih => simp only [List.cons_append, amts, ih]; omega
theorem amts_bound : ∀ {l : List Wt}, (∀ x ∈ l, inA x.amt = true) → 0 ≤ amts l ∧ amts l ≤ 1125899906842624 * (l.length : Int)
  | [], _ => by simp [amts]
  | x :: r, h => by
    have h1 := amts_bound (l := r) (fun y hy => h y (List.mem_cons_of_mem _ hy))
    have h2 := inA_iff.1 (h x List.mem_cons_self)
    simp only [amts, List.length_cons]
    omega
set_option maxHeartbeats 2000000 in
theorem isBalanced_any (s : St) (ao : Option Addr) (sb so c b : Nat) (w : World) (h : SAt w b (stC s (.slice ao s.W.length c))) (hW : WsAt w ao sb so s.W) (hl : s.W.length ≤ 60)
    (hv : ∀ i, i < 6 → inA (s.V i).tok = true ∧ inA (s.V i).lost = true) (ha : ∀ x ∈ s.W, inA x.amt = true) :
    Calls Tryz.prog 78 #[.pointer (some ⟨b, 0, none⟩)] w fun e w' => e = .returned (.bool (bal s)) ∧ Below w.heap.size w w' := by
  have HS : Hid (SAt w b (stC s (.slice ao s.W.length c))) := h
  have HV : Hid (∀ i, i < 6 → inA (s.V i).tok = true ∧ inA (s.V i).lost = true) := hv
  have HA : Hid (∀ x ∈ s.W, inA x.amt = true) := ha
  have HW : Hid (WsAt w ao sb so s.W) := hW
  have hrg := st_vals h
  have hblt : b < w.heap.size := h.lt
  clear hv ha h hW
  go_enter Tryz.func78, Tryz.ntmps78
  go_upto_region 2 with fail
  apply wp_region_lit
  iterate 9 go_step
  refine wpList_load_mid rfl 27 _ rfl b 7 rfl _ _ hrg Tryz.underlying27 rfl (by rw [infoVs]; rfl) ?_
  clear hrg
  go_wp2_with fail
  go_loopw [3, 4, 14] (fun s3 s4 i wl => ∃ k : Nat, k ≤ 6 ∧ i = .int .i64 (k : Int) ∧ s3 = .int .i64 (ptok s.V k) ∧ s4 = .int .i64 (plost s.V k) ∧ Hid (Below w.heap.size w wl)) (fun _ _ i _ => (6 - intOf i).toNat)
  case atStart => exact ⟨0, by omega, rfl, rfl, rfl, Below.refl _ _⟩
  case round =>
    obtain ⟨k, hk, rfl, rfl, rfl, HB⟩ := hrel
    have hsz : w.heap.size ≤ wr.heap.size := HB.out.size
    by_cases hk6 : k < 6
    · have hix := fun w => ixV w s.V k hk6
      have b1 := ptok_bound (V := s.V) k (fun i hi => (HV.out i (by omega)).1)
      have b2 := plost_bound (V := s.V) k (fun i hi => (HV.out i (by omega)).2)
      have b3 := inA_iff.1 (HV.out k hk6).1
      have b4 := inA_iff.1 (HV.out k hk6).2
      have P1 : Hid (ptok s.V (k + 1) = ptok s.V k + (s.V k).tok) := rfl
      have P2 : Hid (plost s.V (k + 1) = plost s.V k + (s.V k).lost) := rfl
      go_wp2_with fail
      go_roundw
      case rel => exact ⟨k + 1, by omega, by go_num, by rw [P1.out], by rw [P2.out], HB.out.alloc hsz _⟩
      case measure => simp [intOf]; omega
    · obtain rfl : k = 6 := by omega
      rename World => w1
      have S1 := HS.out.later HB.out hblt
      obtain ⟨x0, x1, x2, x3, x4, x5, x6, x7, x8⟩ := st_cells S1
      have HS1 : Hid (SAt w1 b (stC s (.slice ao s.W.length c))) := S1
      have HW1 : Hid (WsAt w1 ao sb so s.W) := HW.out.over HB.out
      have hadr := HW.out.adr
      clear x0 x1 x2 x3 x4 x5 x6 x8 S1 HS HW
      go_wp2_with fail
      clear x7
      go_loopw [5, 31] (fun s5 i wl => ∃ k : Nat, k ≤ s.W.length ∧ i = .int .i64 (k : Int) ∧ s5 = .int .i64 (amts (s.W.take k)) ∧ Hid (Below w1.heap.size w1 wl)) (fun _ i _ => s.W.length - (intOf i).toNat)
      case atStart => exact ⟨0, by omega, rfl, rfl, Below.refl _ _⟩
      case round =>
        obtain ⟨k, hk, rfl, rfl, HB1⟩ := hrel
        have hsz1 : w1.heap.size ≤ wr.heap.size := HB1.out.size
        by_cases hlt : k < s.W.length
        · obtain ⟨x, hx, _⟩ := drop_at hlt
          obtain ⟨c0, c1, c2, c3, c4, c5, c6, c7⟩ := (HW1.out.over HB1.out).cell k x hx
          have P1 : Hid (amts (s.W.take (k + 1)) = amts (s.W.take k) + x.amt) := amts_take hx
          have b1 := amts_bound (l := s.W.take k) (fun y hy => HA.out y (List.mem_of_mem_take hy))
          rw [List.length_take, Nat.min_eq_left hk] at b1
          have b2 := inA_iff.1 (HA.out x (List.mem_of_getElem? hx))
          obtain rfl := hadr (by omega)
          clear hadr hx
          go_wp2_with fail
          go_roundw
          case rel => exact ⟨k + 1, by omega, by go_num, by rw [P1.out], HB1.out.alloc hsz1 _⟩
          case measure => simp [intOf]; omega
        · have S1 := HS1.out.later HB1.out (by omega)
          obtain ⟨x0, x1, x2, x3, x4, x5, x6, x7, x8⟩ := st_cells S1
          have HF : Hid (bal s = (decide (ptok s.V 6 = s.b.bo) && decide (amts (s.W.take k) = s.b.wa) && decide (plost s.V 6 = s.b.bu))) := by rw [List.take_of_length_le (by omega)]; exact rfl
          clear x0 x1 x2 x3 x7 x8 S1
          generalize ptok s.V 6 = pt at *
          generalize plost s.V 6 = pl at *
          generalize amts (s.W.take k) = pa at *
          go_wp2_with fail
          all_goals (go_ret; refine ⟨?_, HB.out.trans (HB1.out.mono hsz)⟩; rw [HF.out]; congr 1; congr 1; first | (simp_all; done) | (simp_all; rfl))
end Go.Proofs.YtjghbciepinofaaGreat

set_option maxRecDepth 100000
namespace Go.Proofs.YtjghbciepinofaaGreat
open Go.RowKit
theorem cells_keep {f : Nat} {args : Array Value} {w0 w : World} {b : Nat} {v : Value} {f0 f1 f2 f3 bo wa bu : Int} (h : Calls Tryz.prog f args w fun e w' => e = .returned v ∧ Below w.heap.size w w')
    (hb : b < w0.heap.size) (hS : w.cell? ⟨b, 0, none⟩ = some (.int .i64 f0) ∧ w.cell? ⟨b, 1, none⟩ = some (.int .i64 f1) ∧ w.cell? ⟨b, 2, none⟩ = some (.int .i64 f2) ∧ w.cell? ⟨b, 3, none⟩ = some (.int .i64 f3) ∧ w.cell? ⟨b, 4, none⟩ = some (.int .i64 bo) ∧ w.cell? ⟨b, 5, none⟩ = some (.int .i64 wa) ∧ w.cell? ⟨b, 6, none⟩ = some (.int .i64 bu) ∧ Below w0.heap.size w0 w) :
    Calls Tryz.prog f args w fun e w' => e = .returned v ∧ w'.cell? ⟨b, 0, none⟩ = some (.int .i64 f0) ∧ w'.cell? ⟨b, 1, none⟩ = some (.int .i64 f1) ∧ w'.cell? ⟨b, 2, none⟩ = some (.int .i64 f2) ∧ w'.cell? ⟨b, 3, none⟩ = some (.int .i64 f3) ∧ w'.cell? ⟨b, 4, none⟩ = some (.int .i64 bo) ∧ w'.cell? ⟨b, 5, none⟩ = some (.int .i64 wa) ∧ w'.cell? ⟨b, 6, none⟩ = some (.int .i64 bu) ∧ Below w0.heap.size w0 w' := by
  refine h.mono ?_
  rintro e w' ⟨rfl, hb'⟩
  obtain ⟨h0, h1, h2, h3, h4, h5, h6, hB⟩ := hS
  have k : ∀ o, w'.cell? ⟨b, o, none⟩ = w.cell? ⟨b, o, none⟩ := fun o => hb'.cell (Nat.lt_of_lt_of_le hb hB.size)
  exact ⟨rfl, (k 0).trans h0, (k 1).trans h1, (k 2).trans h2, (k 3).trans h3, (k 4).trans h4, (k 5).trans h5, (k 6).trans h6, hB.trans (hb'.mono hB.size)⟩
theorem wrap64_small {n : Int} (h0 : -9223372036854775808 ≤ n) (h1 : n < 9223372036854775808) : wrap64 n = n := by
  unfold wrap64
  omega
set_option maxHeartbeats 1000000 in
theorem good_no (f0 f1 f2 f3 bo wa bu : Int) (w : World) (y0 y1 y2 y3 y4 y5 y6 : Int) (hne : ∀ w, (binOp .eql 24 (.agg #[.int .i64 y0, .int .i64 y1, .int .i64 y2, .int .i64 y3, .int .i64 y4, .int .i64 y5, .int .i64 y6]) (.agg #[.int .i64 f0, .int .i64 f1, .int .i64 f2, .int .i64 f3, .int .i64 bo, .int .i64 wa, .int .i64 bu])).run Tryz.prog w = .ok (.bool false) w)
    (hcl : ∀ w, Calls Tryz.prog 119 #[.agg #[.int .i64 f0, .int .i64 f1, .int .i64 f2, .int .i64 f3, .int .i64 bo, .int .i64 wa, .int .i64 bu]] w fun e w' => e = .returned (.agg #[.int .i64 y0, .int .i64 y1, .int .i64 y2, .int .i64 y3, .int .i64 y4, .int .i64 y5, .int .i64 y6]) ∧ Below w.heap.size w w') :
    Calls Tryz.prog 74 #[.agg #[.int .i64 f0, .int .i64 f1, .int .i64 f2, .int .i64 f3, .int .i64 bo, .int .i64 wa, .int .i64 bu]] w fun e w' => e = .returned (.bool false) ∧ Below w.heap.size w w' := by
  go_enter Tryz.func74, Tryz.ntmps74
  go_wp2_with fail
  have HB0 : Hid (Below w.heap.size w (w.alloc (.cells #[.int .i64 f0, .int .i64 f1, .int .i64 f2, .int .i64 f3, .int .i64 bo, .int .i64 wa, .int .i64 bu] 24))) := (Below.refl _ w).alloc (Nat.le_refl _) _
  have B0 := BAt.new w f0 f1 f2 f3 bo wa bu
  have hlt : w.heap.size < (w.alloc (.cells #[.int .i64 f0, .int .i64 f1, .int .i64 f2, .int .i64 f3, .int .i64 bo, .int .i64 wa, .int .i64 bu] 24)).heap.size := by simp
  generalize w.alloc (.cells #[.int .i64 f0, .int .i64 f1, .int .i64 f2, .int .i64 f3, .int .i64 bo, .int .i64 wa, .int .i64 bu] 24) = w0 at *
  obtain ⟨x0, x1, x2, x3, x4, x5, x6⟩ := id B0.cells
  clear B0
  have hbb : Below w0.heap.size w0 w0.drew := (Below.refl _ _).drew
  go_region_with (go_at_call 119; refine (cells_keep (f0 := f0) (f1 := f1) (f2 := f2) (f3 := f3) (bo := bo) (wa := wa) (bu := bu) (hcl _) hlt ?_).mono ?_; (simp [*]); rintro e wA ⟨rfl, z0, z1, z2, z3, z4, z5, z6, hA⟩)
  all_goals
    have HF : Hid (Below w.heap.size w wA) := HB0.out.trans (hA.mono (Nat.le_of_lt hlt))
    clear hA
    go_wp2
    go_ret
    exact ⟨rfl, HF.out⟩
set_option maxHeartbeats 1000000 in
theorem good_yes (f0 f1 f2 f3 bo wa bu s : Int) (r : Bool) (w : World) (heq : ∀ w, (binOp .eql 24 (.agg #[.int .i64 f0, .int .i64 f1, .int .i64 f2, .int .i64 f3, .int .i64 bo, .int .i64 wa, .int .i64 bu]) (.agg #[.int .i64 f0, .int .i64 f1, .int .i64 f2, .int .i64 f3, .int .i64 bo, .int .i64 wa, .int .i64 bu])).run Tryz.prog w = .ok (.bool true) w)
    (hcl : ∀ w, Calls Tryz.prog 119 #[.agg #[.int .i64 f0, .int .i64 f1, .int .i64 f2, .int .i64 f3, .int .i64 bo, .int .i64 wa, .int .i64 bu]] w fun e w' => e = .returned (.agg #[.int .i64 f0, .int .i64 f1, .int .i64 f2, .int .i64 f3, .int .i64 bo, .int .i64 wa, .int .i64 bu]) ∧ Below w.heap.size w w')
    (hsum : ∀ w, Calls Tryz.prog 11 #[.agg #[.int .i64 f0, .int .i64 f1, .int .i64 f2, .int .i64 f3, .int .i64 bo, .int .i64 wa, .int .i64 bu]] w fun e w' => e = .returned (.int .i64 s) ∧ Below w.heap.size w w') (hr : (s == 400000) = r) :
    Calls Tryz.prog 74 #[.agg #[.int .i64 f0, .int .i64 f1, .int .i64 f2, .int .i64 f3, .int .i64 bo, .int .i64 wa, .int .i64 bu]] w fun e w' => e = .returned (.bool r) ∧ Below w.heap.size w w' := by
  go_enter Tryz.func74, Tryz.ntmps74
  go_wp2_with fail
  have HB0 : Hid (Below w.heap.size w (w.alloc (.cells #[.int .i64 f0, .int .i64 f1, .int .i64 f2, .int .i64 f3, .int .i64 bo, .int .i64 wa, .int .i64 bu] 24))) := (Below.refl _ w).alloc (Nat.le_refl _) _
  have B0 := BAt.new w f0 f1 f2 f3 bo wa bu
  have hlt : w.heap.size < (w.alloc (.cells #[.int .i64 f0, .int .i64 f1, .int .i64 f2, .int .i64 f3, .int .i64 bo, .int .i64 wa, .int .i64 bu] 24)).heap.size := by simp
  generalize w.alloc (.cells #[.int .i64 f0, .int .i64 f1, .int .i64 f2, .int .i64 f3, .int .i64 bo, .int .i64 wa, .int .i64 bu] 24) = w0 at *
  obtain ⟨x0, x1, x2, x3, x4, x5, x6⟩ := id B0.cells
  clear B0
  have hbb : Below w0.heap.size w0 w0.drew := (Below.refl _ _).drew
  go_region_held3 (fun w' => w'.cell? ⟨w.heap.size, 0, none⟩ = some (.int .i64 f0) ∧ w'.cell? ⟨w.heap.size, 1, none⟩ = some (.int .i64 f1) ∧ w'.cell? ⟨w.heap.size, 2, none⟩ = some (.int .i64 f2) ∧ w'.cell? ⟨w.heap.size, 3, none⟩ = some (.int .i64 f3) ∧ w'.cell? ⟨w.heap.size, 4, none⟩ = some (.int .i64 bo) ∧ w'.cell? ⟨w.heap.size, 5, none⟩ = some (.int .i64 wa) ∧ w'.cell? ⟨w.heap.size, 6, none⟩ = some (.int .i64 bu) ∧ Below w0.heap.size w0 w') (go_keep)
    (first
      | (go_at_call 119; refine (cells_keep (f0 := f0) (f1 := f1) (f2 := f2) (f3 := f3) (bo := bo) (wa := wa) (bu := bu) (hcl _) hlt ?_).mono ?_; (simp [*]); rintro e wA ⟨rfl, hA⟩)
      | (go_at_call 11; refine (cells_keep (f0 := f0) (f1 := f1) (f2 := f2) (f3 := f3) (bo := bo) (wa := wa) (bu := bu) (hsum _) hlt ?_).mono ?_; (simp [*]); rintro e wB ⟨rfl, hB⟩))
  have HF : Hid (Below w.heap.size w wB) := HB0.out.trans (hB.2.2.2.2.2.2.2.mono (Nat.le_of_lt hlt))
  clear hA hB
  go_wp2
  go_ret
  exact ⟨rfl, HF.out⟩
theorem cl_iff (n : Int) : cl n = n ↔ 0 ≤ n ∧ n ≤ 400000 := by
  unfold cl
  omega
theorem good_any (f0 f1 f2 f3 bo wa bu : Int) (w : World) : Calls Tryz.prog 74 #[.agg #[.int .i64 f0, .int .i64 f1, .int .i64 f2, .int .i64 f3, .int .i64 bo, .int .i64 wa, .int .i64 bu]] w fun e w' => e = .returned (.bool (goodB f0 f1 f2 f3 bo wa bu)) ∧ Below w.heap.size w w' := by
  have hc := clamped_any f0 f1 f2 f3 bo wa bu
  have he := fun w => eqB w (cl f0) (cl f1) (cl f2) (cl f3) (cl bo) (cl wa) (cl bu) f0 f1 f2 f3 bo wa bu
  by_cases h : cl f0 = f0 ∧ cl f1 = f1 ∧ cl f2 = f2 ∧ cl f3 = f3 ∧ cl bo = bo ∧ cl wa = wa ∧ cl bu = bu
  · rw [decide_eq_true h] at he
    obtain ⟨h0, h1, h2, h3, h4, h5, h6⟩ := h
    rw [h0, h1, h2, h3, h4, h5, h6] at hc he
    rw [cl_iff] at h0 h1 h2 h3 h4 h5 h6
    refine good_yes f0 f1 f2 f3 bo wa bu _ _ w he hc (sum_any f0 f1 f2 f3 bo wa bu) ?_
    rw [wrap64_small (by omega) (by omega)]
    unfold goodB
    simp [h0, h1, h2, h3, h4, h5, h6]
    rfl
  · rw [decide_eq_false h] at he
    have hn : goodB f0 f1 f2 f3 bo wa bu = false := by
      unfold goodB
      refine decide_eq_false fun g => h ?_
      simp only [cl_iff]
      exact ⟨g.1, g.2.1, g.2.2.1, g.2.2.2.1, g.2.2.2.2.1, g.2.2.2.2.2.1, g.2.2.2.2.2.2.1⟩
    rw [hn]
    exact good_no f0 f1 f2 f3 bo wa bu w _ _ _ _ _ _ _ he hc
end Go.Proofs.YtjghbciepinofaaGreat

set_option maxRecDepth 100000
namespace Go.Proofs.YtjghbciepinofaaGreat.Ra
open Go.RowKit

/-- math/bits.Mul64: the product of 128 bits, in two words. -/
theorem mul64 (x y : Int) (hx0 : 0 ≤ x) (hx : x < 18446744073709551616) (hy0 : 0 ≤ y) (hy : y < 18446744073709551616) (w : World) :
    Calls Tryz.prog 159 #[.int .u64 x, .int .u64 y] w fun e w' => e = .returned (.tuple #[.int .u64 (x * y / 18446744073709551616), .int .u64 (x * y % 18446744073709551616)]) ∧ w' = w := by
  have A := mul64_arith x y hx0 hx hy0 hy
  go_enter Tryz.func159, Tryz.ntmps159
  go_wp2
  simp only [IntKind.wrap_u64, and_low32 x hx0 hx, and_low32 y hy0 hy, and_low32 (_ % 18446744073709551616) (Int.emod_nonneg _ (by decide)) (Int.emod_lt_of_pos _ (by decide)), A]
  go_ret2
  exact ⟨rfl, rfl⟩

theorem shift_len (x b : Nat) (h : 2 ^ b ≤ x) : bitLen x = b + bitLen (x / 2 ^ b) :=
  bitLen_shift x b (by have := (Nat.le_div_iff_mul_le (Nat.two_pow_pos b)).2 (show 1 * 2 ^ b ≤ x by omega); omega)

/-- A shift, under a name. -/
theorem shifted (x b p : Nat) (hp : 2 ^ b = p) (h : p ≤ x) : ∃ z : Nat, (x : Int) / p = z ∧ bitLen x = b + bitLen z ∧ z = x / p := by
  subst hp
  exact ⟨x / 2 ^ b, by rw [Int.natCast_ediv], shift_len x b h, rfl⟩

theorem wrap_small (a : Nat) (h : a ≤ 8) : wrap64 (a : Int) = (a : Int) := by unfold wrap64; omega
theorem wrap_sum (k a b : Nat) (hk : k ≤ 56) (h : a ≤ 8) (e : b = k + a) : wrap64 ((k : Int) + (a : Int)) = (b : Int) := by unfold wrap64; omega

set_option maxRecDepth 1000000 in
set_option maxHeartbeats 2000000 in
/-- math/bits.Len64: how many bits a word has. -/
theorem len64 (x : Nat) (hx : x < 18446744073709551616) (w : World) :
    Calls Tryz.prog 135 #[.int .u64 x] w fun e w' => e = .returned (.int .i64 (bitLen x)) ∧ w' = w := by
  by_cases h0 : 4294967296 ≤ x
  · have i0 : (4294967296 : Int) ≤ (x : Int) := by omega
    obtain ⟨z, q0, e0, f0⟩ := shifted x 32 4294967296 (by decide) h0
    simp only [Int.cast_ofNat_Int] at q0
    by_cases h1 : 65536 ≤ z
    · have i1 : (65536 : Int) ≤ (z : Int) := by omega
      obtain ⟨y, q1, e1, f1⟩ := shifted z 16 65536 (by decide) h1
      simp only [Int.cast_ofNat_Int] at q1
      by_cases h2 : 256 ≤ y
      · have i2 : (256 : Int) ≤ (y : Int) := by omega
        obtain ⟨v, q2, e2, f2⟩ := shifted y 8 256 (by decide) h2
        simp only [Int.cast_ofNat_Int] at q2
        have hb := bitLen_le8 v (by omega)
        have j : (v : Int) < 256 := by omega
        have e : bitLen x = 56 + bitLen v := by clear h0 h1 h2 hx hb j; omega
        have g1 : wrap64 ((bitLen v : Nat) : Int) = (bitLen v : Nat) := wrap_small _ hb
        have g2 : wrap64 (56 + ((bitLen v : Nat) : Int)) = (bitLen x : Nat) := wrap_sum 56 _ _ (by decide) hb e
        clear e
        clear hb h0 h1 h2 hx e0 f0 e1 f1 e2 f2
        go_enter Tryz.func135, Tryz.ntmps135
        go_wp2
        simp only [len8tab_get, g1, g2]
        go_ret
        exact ⟨rfl, rfl⟩
      · have i2 : ¬ (256 : Int) ≤ (y : Int) := by omega
        have hb := bitLen_le8 y (by omega)
        have j : (y : Int) < 256 := by omega
        have e : bitLen x = 48 + bitLen y := by clear h0 h1 h2 hx hb j; omega
        have g1 : wrap64 ((bitLen y : Nat) : Int) = (bitLen y : Nat) := wrap_small _ hb
        have g2 : wrap64 (48 + ((bitLen y : Nat) : Int)) = (bitLen x : Nat) := wrap_sum 48 _ _ (by decide) hb e
        clear e
        clear hb h0 h1 h2 hx e0 f0 e1 f1
        go_enter Tryz.func135, Tryz.ntmps135
        go_wp2
        simp only [len8tab_get, g1, g2]
        go_ret
        exact ⟨rfl, rfl⟩
    · have i1 : ¬ (65536 : Int) ≤ (z : Int) := by omega
      by_cases h2 : 256 ≤ z
      · have i2 : (256 : Int) ≤ (z : Int) := by omega
        obtain ⟨v, q2, e2, f2⟩ := shifted z 8 256 (by decide) h2
        simp only [Int.cast_ofNat_Int] at q2
        have hb := bitLen_le8 v (by omega)
        have j : (v : Int) < 256 := by omega
        have e : bitLen x = 40 + bitLen v := by clear h0 h1 h2 hx hb j; omega
        have g1 : wrap64 ((bitLen v : Nat) : Int) = (bitLen v : Nat) := wrap_small _ hb
        have g2 : wrap64 (40 + ((bitLen v : Nat) : Int)) = (bitLen x : Nat) := wrap_sum 40 _ _ (by decide) hb e
        clear e
        clear hb h0 h1 h2 hx e0 f0 e2 f2
        go_enter Tryz.func135, Tryz.ntmps135
        go_wp2
        simp only [len8tab_get, g1, g2]
        go_ret
        exact ⟨rfl, rfl⟩
      · have i2 : ¬ (256 : Int) ≤ (z : Int) := by omega
        have hb := bitLen_le8 z (by omega)
        have j : (z : Int) < 256 := by omega
        have e : bitLen x = 32 + bitLen z := by clear h0 h1 h2 hx hb j; omega
        have g1 : wrap64 ((bitLen z : Nat) : Int) = (bitLen z : Nat) := wrap_small _ hb
        have g2 : wrap64 (32 + ((bitLen z : Nat) : Int)) = (bitLen x : Nat) := wrap_sum 32 _ _ (by decide) hb e
        clear e
        clear hb h0 h1 h2 hx e0 f0
        go_enter Tryz.func135, Tryz.ntmps135
        go_wp2
        simp only [len8tab_get, g1, g2]
        go_ret
        exact ⟨rfl, rfl⟩
  · have i0 : ¬ (4294967296 : Int) ≤ (x : Int) := by omega
    by_cases h1 : 65536 ≤ x
    · have i1 : (65536 : Int) ≤ (x : Int) := by omega
      obtain ⟨y, q1, e1, f1⟩ := shifted x 16 65536 (by decide) h1
      simp only [Int.cast_ofNat_Int] at q1
      by_cases h2 : 256 ≤ y
      · have i2 : (256 : Int) ≤ (y : Int) := by omega
        obtain ⟨v, q2, e2, f2⟩ := shifted y 8 256 (by decide) h2
        simp only [Int.cast_ofNat_Int] at q2
        have hb := bitLen_le8 v (by omega)
        have j : (v : Int) < 256 := by omega
        have e : bitLen x = 24 + bitLen v := by clear h0 h1 h2 hx hb j; omega
        have g1 : wrap64 ((bitLen v : Nat) : Int) = (bitLen v : Nat) := wrap_small _ hb
        have g2 : wrap64 (24 + ((bitLen v : Nat) : Int)) = (bitLen x : Nat) := wrap_sum 24 _ _ (by decide) hb e
        clear e
        clear hb h0 h1 h2 hx e1 f1 e2 f2
        go_enter Tryz.func135, Tryz.ntmps135
        go_wp2
        simp only [len8tab_get, g1, g2]
        go_ret
        exact ⟨rfl, rfl⟩
      · have i2 : ¬ (256 : Int) ≤ (y : Int) := by omega
        have hb := bitLen_le8 y (by omega)
        have j : (y : Int) < 256 := by omega
        have e : bitLen x = 16 + bitLen y := by clear h0 h1 h2 hx hb j; omega
        have g1 : wrap64 ((bitLen y : Nat) : Int) = (bitLen y : Nat) := wrap_small _ hb
        have g2 : wrap64 (16 + ((bitLen y : Nat) : Int)) = (bitLen x : Nat) := wrap_sum 16 _ _ (by decide) hb e
        clear e
        clear hb h0 h1 h2 hx e1 f1
        go_enter Tryz.func135, Tryz.ntmps135
        go_wp2
        simp only [len8tab_get, g1, g2]
        go_ret
        exact ⟨rfl, rfl⟩
    · have i1 : ¬ (65536 : Int) ≤ (x : Int) := by omega
      by_cases h2 : 256 ≤ x
      · have i2 : (256 : Int) ≤ (x : Int) := by omega
        obtain ⟨v, q2, e2, f2⟩ := shifted x 8 256 (by decide) h2
        simp only [Int.cast_ofNat_Int] at q2
        have hb := bitLen_le8 v (by omega)
        have j : (v : Int) < 256 := by omega
        have e : bitLen x = 8 + bitLen v := by clear h0 h1 h2 hx hb j; omega
        have g1 : wrap64 ((bitLen v : Nat) : Int) = (bitLen v : Nat) := wrap_small _ hb
        have g2 : wrap64 (8 + ((bitLen v : Nat) : Int)) = (bitLen x : Nat) := wrap_sum 8 _ _ (by decide) hb e
        clear e
        clear hb h0 h1 h2 hx e2 f2
        go_enter Tryz.func135, Tryz.ntmps135
        go_wp2
        simp only [len8tab_get, g1, g2]
        go_ret
        exact ⟨rfl, rfl⟩
      · have i2 : ¬ (256 : Int) ≤ (x : Int) := by omega
        have hb := bitLen_le8 x (by omega)
        have j : (x : Int) < 256 := by omega
        have g1 : wrap64 ((bitLen x : Nat) : Int) = (bitLen x : Nat) := wrap_small _ hb
        clear hb h0 h1 h2 hx 
        go_enter Tryz.func135, Tryz.ntmps135
        go_wp2
        simp only [len8tab_get, g1]
        go_ret
        exact ⟨rfl, rfl⟩

/-- math/bits.LeadingZeros64. -/
theorem leading64 (x : Nat) (hx : x < 18446744073709551616) (hl : bitLen x ≤ 64) (w : World) :
    Calls Tryz.prog 168 #[.int .u64 x] w fun e w' => e = .returned (.int .i64 (64 - bitLen x)) ∧ w' = w := by
  have c := len64 x hx w
  generalize bitLen x = n at *
  go_enter Tryz.func168, Tryz.ntmps168
  go_wp2_with (go_at_call 135; refine c.mono ?_; rintro e w' ⟨rfl, rfl⟩)
  go_ret
  exact ⟨rfl, rfl⟩

end Go.Proofs.YtjghbciepinofaaGreat.Ra

set_option maxRecDepth 100000
namespace Go.Proofs.YtjghbciepinofaaGreat
open Go.RowKit
theorem move_end {w wq : World} (R : BAt wq (w.heap.size + 1) 0 0 0 0 0 0 0) (H : Below w.heap.size w wq) (r0 r1 r2 r3 r4 r5 r6 er : Int) (act : Act)
    (h8 : act.tmps.getD 8 undef = .pointer (some ⟨w.heap.size + 1, 0, none⟩)) (h9 : act.tmps.getD 9 undef = .int .i64 er) (hd : act.defers = []) :
    bodyPost Tryz.prog Tryz.f114 (fun e w' => e = .returned (.tuple #[.agg #[.int .i64 r0, .int .i64 r1, .int .i64 r2, .int .i64 r3, .int .i64 r4, .int .i64 r5, .int .i64 r6], .int .i64 er]) ∧ Below w.heap.size w w') Exit.ret act
      (set7 wq (w.heap.size + 1) r0 r1 r2 r3 r4 r5 r6) := by
  have HR := R.set7 r0 r1 r2 r3 r4 r5 r6
  have HW := set7_below (b := w.heap.size + 1) H (by omega) r0 r1 r2 r3 r4 r5 r6
  generalize set7 wq (w.heap.size + 1) r0 r1 r2 r3 r4 r5 r6 = w9 at *
  obtain ⟨u0, u1, u2, u3, u4, u5, u6⟩ := HR.cells
  have h8' : act.tmps[8]?.getD undef = .pointer (some ⟨w.heap.size + 1, 0, none⟩) := by simpa using h8
  have h9' : act.tmps[9]?.getD undef = .int .i64 er := by simpa using h9
  exact bodyPost_ret (v := .tuple #[.agg #[.int .i64 r0, .int .i64 r1, .int .i64 r2, .int .i64 r3, .int .i64 r4, .int .i64 r5, .int .i64 r6], .int .i64 er]) (by simp [results, Tryz.results114, go_sem, h8', h9', u0, u1, u2, u3, u4, u5, u6]) hd ⟨rfl, HW⟩
end Go.Proofs.YtjghbciepinofaaGreat

