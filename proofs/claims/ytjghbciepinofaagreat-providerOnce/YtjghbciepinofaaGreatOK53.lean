/- Parts of the proof: SE E SF SG. -/
import Derived.Test.YtjghbciepinofaaGreatRows
import Derived.Test.YtjghbciepinofaaGreatOK48
import Derived.Test.YtjghbciepinofaaGreatOK49
import Derived.Test.YtjghbciepinofaaGreatOK52
import Derived.WalkKit
import Derived.WalkSmall
import Derived.BigQuiet
import Derived.Deep.QuietTactic
import Derived.Deep.RegionHeld3
set_option maxRecDepth 100000
namespace Go.Proofs.YtjghbciepinofaaGreat
open Go.RowKit
theorem ptok_bound {V : Nat → Vd} : ∀ k, (∀ i, i < k → inA (V i).tok = true) → 0 ≤ ptok V k ∧ ptok V k ≤ 1125899906842624 * (k : Int)
  | 0, _ => by simp [ptok]
  | k + 1, h => by
    have h1 := ptok_bound k (fun i hi => h i (by omega))
    have h2 := inA_iff.1 (h k (by omega))
    simp only [ptok] at *
    omega
theorem plost_bound {V : Nat → Vd} : ∀ k, (∀ i, i < k → inA (V i).lost = true) → 0 ≤ plost V k ∧ plost V k ≤ 1125899906842624 * (k : Int)
  | 0, _ => by simp [plost]
  | k + 1, h => by
    have h1 := plost_bound k (fun i hi => h i (by omega))
    have h2 := inA_iff.1 (h k (by omega))
    simp only [plost] at *
    omega
theorem amts_take {W : List Wt} {k : Nat} {x : Wt} (h : W[k]? = some x) : amts (W.take (k + 1)) = amts (W.take k) + x.amt := by
  have hk := (List.getElem?_eq_some_iff.1 h).1
  rw [List.take_succ_eq_append_getElem hk]
  have e : W[k] = x := by simpa [List.getElem?_eq_getElem hk] using h
  rw [e]
  generalize W.take k = l
  induction l with
  | nil => simp [amts]
  | cons y r ih => simp only [List.cons_append, amts, ih]; omega
theorem amts_bound : ∀ {l : List Wt}, (∀ x ∈ l, inA x.amt = true) → 0 ≤ amts l ∧ amts l ≤ 1125899906842624 * (l.length : Int)
  | [], _ => by simp [amts]
  | x :: r, h => by
    have h1 := amts_bound (l := r) (fun y hy => h y (List.mem_cons_of_mem _ hy))
    have h2 := inA_iff.1 (h x List.mem_cons_self)
    simp only [amts, List.length_cons]
    omega
set_option maxHeartbeats 2000000 in
theorem isBalanced_any (s : St) (ao : Option Addr) (sb so c b : Nat) (w : World) (h : SAt w b (stC s (.slice ao s.W.length c))) (hW : WsAt w ao sb so s.W) (hl : s.W.length ≤ 60)
    (hv : ∀ i, i < 6 → inA (s.V i).tok = true ∧ inA (s.V i).lost = true) (ha : ∀ x ∈ s.W, inA x.amt = true) :
    Calls Tryz.prog 78 #[.pointer (some ⟨b, 0, none⟩)] w fun e w' => e = .returned (.bool (bal s)) ∧ Below w.heap.size w w' := by
  have HS : Hid (SAt w b (stC s (.slice ao s.W.length c))) := h
  have HV : Hid (∀ i, i < 6 → inA (s.V i).tok = true ∧ inA (s.V i).lost = true) := hv
  have HA : Hid (∀ x ∈ s.W, inA x.amt = true) := ha
  have HW : Hid (WsAt w ao sb so s.W) := hW
  have hrg := st_vals h
  have hblt : b < w.heap.size := h.lt
  clear hv ha h hW
  go_enter Tryz.func78, Tryz.ntmps78
  go_upto_region 2 with fail
  apply wp_region_lit
  iterate 9 go_step
  refine wpList_load_mid rfl 27 _ rfl b 7 rfl _ _ hrg Tryz.underlying27 rfl (by rw [infoVs]; rfl) ?_
  clear hrg
  go_wp2_with fail
  go_loopw [3, 4, 14] (fun s3 s4 i wl => ∃ k : Nat, k ≤ 6 ∧ i = .int .i64 (k : Int) ∧ s3 = .int .i64 (ptok s.V k) ∧ s4 = .int .i64 (plost s.V k) ∧ Hid (Below w.heap.size w wl)) (fun _ _ i _ => (6 - intOf i).toNat)
  case atStart => exact ⟨0, by omega, rfl, rfl, rfl, Below.refl _ _⟩
  case round =>
    obtain ⟨k, hk, rfl, rfl, rfl, HB⟩ := hrel
    have hsz : w.heap.size ≤ wr.heap.size := HB.out.size
    by_cases hk6 : k < 6
    · have hix := fun w => ixV w s.V k hk6
      have b1 := ptok_bound (V := s.V) k (fun i hi => (HV.out i (by omega)).1)
      have b2 := plost_bound (V := s.V) k (fun i hi => (HV.out i (by omega)).2)
      have b3 := inA_iff.1 (HV.out k hk6).1
      have b4 := inA_iff.1 (HV.out k hk6).2
      have P1 : Hid (ptok s.V (k + 1) = ptok s.V k + (s.V k).tok) := rfl
      have P2 : Hid (plost s.V (k + 1) = plost s.V k + (s.V k).lost) := rfl
      go_wp2_with fail
      go_roundw
      case rel => exact ⟨k + 1, by omega, by go_num, by rw [P1.out], by rw [P2.out], HB.out.alloc hsz _⟩
      case measure => simp [intOf]; omega
    · obtain rfl : k = 6 := by omega
      rename World => w1
      have S1 := HS.out.later HB.out hblt
      obtain ⟨x0, x1, x2, x3, x4, x5, x6, x7, x8⟩ := st_cells S1
      have HS1 : Hid (SAt w1 b (stC s (.slice ao s.W.length c))) := S1
      have HW1 : Hid (WsAt w1 ao sb so s.W) := HW.out.over HB.out
      have hadr := HW.out.adr
      clear x0 x1 x2 x3 x4 x5 x6 x8 S1 HS HW
      go_wp2_with fail
      clear x7
      go_loopw [5, 31] (fun s5 i wl => ∃ k : Nat, k ≤ s.W.length ∧ i = .int .i64 (k : Int) ∧ s5 = .int .i64 (amts (s.W.take k)) ∧ Hid (Below w1.heap.size w1 wl)) (fun _ i _ => s.W.length - (intOf i).toNat)
      case atStart => exact ⟨0, by omega, rfl, rfl, Below.refl _ _⟩
      case round =>
        obtain ⟨k, hk, rfl, rfl, HB1⟩ := hrel
        have hsz1 : w1.heap.size ≤ wr.heap.size := HB1.out.size
        by_cases hlt : k < s.W.length
        · obtain ⟨x, hx, _⟩ := drop_at hlt
          obtain ⟨c0, c1, c2, c3, c4, c5, c6, c7⟩ := (HW1.out.over HB1.out).cell k x hx
          have P1 : Hid (amts (s.W.take (k + 1)) = amts (s.W.take k) + x.amt) := amts_take hx
          have b1 := amts_bound (l := s.W.take k) (fun y hy => HA.out y (List.mem_of_mem_take hy))
          rw [List.length_take, Nat.min_eq_left hk] at b1
          have b2 := inA_iff.1 (HA.out x (List.mem_of_getElem? hx))
          obtain rfl := hadr (by omega)
          clear hadr hx
          go_wp2_with fail
          go_roundw
          case rel => exact ⟨k + 1, by omega, by go_num, by rw [P1.out], HB1.out.alloc hsz1 _⟩
          case measure => simp [intOf]; omega
        · have S1 := HS1.out.later HB1.out (by omega)
          obtain ⟨x0, x1, x2, x3, x4, x5, x6, x7, x8⟩ := st_cells S1
          have HF : Hid (bal s = (decide (ptok s.V 6 = s.b.bo) && decide (amts (s.W.take k) = s.b.wa) && decide (plost s.V 6 = s.b.bu))) := by rw [List.take_of_length_le (by omega)]; exact rfl
          clear x0 x1 x2 x3 x7 x8 S1
          generalize ptok s.V 6 = pt at *
          generalize plost s.V 6 = pl at *
          generalize amts (s.W.take k) = pa at *
          go_wp2_with fail
          all_goals (go_ret; refine ⟨?_, HB.out.trans (HB1.out.mono hsz)⟩; rw [HF.out]; congr 1; congr 1; first | (simp_all; done) | (simp_all; rfl))
end Go.Proofs.YtjghbciepinofaaGreat

set_option maxRecDepth 100000
namespace Go.Proofs.YtjghbciepinofaaGreat
open Go.RowKit
theorem cells_keep {f : Nat} {args : Array Value} {w0 w : World} {b : Nat} {v : Value} {f0 f1 f2 f3 bo wa bu : Int} (h : Calls Tryz.prog f args w fun e w' => e = .returned v ∧ Below w.heap.size w w')
    (hb : b < w0.heap.size) (hS : w.cell? ⟨b, 0, none⟩ = some (.int .i64 f0) ∧ w.cell? ⟨b, 1, none⟩ = some (.int .i64 f1) ∧ w.cell? ⟨b, 2, none⟩ = some (.int .i64 f2) ∧ w.cell? ⟨b, 3, none⟩ = some (.int .i64 f3) ∧ w.cell? ⟨b, 4, none⟩ = some (.int .i64 bo) ∧ w.cell? ⟨b, 5, none⟩ = some (.int .i64 wa) ∧ w.cell? ⟨b, 6, none⟩ = some (.int .i64 bu) ∧ Below w0.heap.size w0 w) :
    Calls Tryz.prog f args w fun e w' => e = .returned v ∧ w'.cell? ⟨b, 0, none⟩ = some (.int .i64 f0) ∧ w'.cell? ⟨b, 1, none⟩ = some (.int .i64 f1) ∧ w'.cell? ⟨b, 2, none⟩ = some (.int .i64 f2) ∧ w'.cell? ⟨b, 3, none⟩ = some (.int .i64 f3) ∧ w'.cell? ⟨b, 4, none⟩ = some (.int .i64 bo) ∧ w'.cell? ⟨b, 5, none⟩ = some (.int .i64 wa) ∧ w'.cell? ⟨b, 6, none⟩ = some (.int .i64 bu) ∧ Below w0.heap.size w0 w' := by
  refine h.mono ?_
  rintro e w' ⟨rfl, hb'⟩
  obtain ⟨h0, h1, h2, h3, h4, h5, h6, hB⟩ := hS
  have k : ∀ o, w'.cell? ⟨b, o, none⟩ = w.cell? ⟨b, o, none⟩ := fun o => hb'.cell (Nat.lt_of_lt_of_le hb hB.size)
  exact ⟨rfl, (k 0).trans h0, (k 1).trans h1, (k 2).trans h2, (k 3).trans h3, (k 4).trans h4, (k 5).trans h5, (k 6).trans h6, hB.trans (hb'.mono hB.size)⟩
theorem wrap64_small {n : Int} (h0 : -9223372036854775808 ≤ n) (h1 : n < 9223372036854775808) : wrap64 n = n := by
  unfold wrap64
  omega
set_option maxHeartbeats 1000000 in
theorem good_no (f0 f1 f2 f3 bo wa bu : Int) (w : World) (y0 y1 y2 y3 y4 y5 y6 : Int) (hne : ∀ w, (binOp .eql 24 (.agg #[.int .i64 y0, .int .i64 y1, .int .i64 y2, .int .i64 y3, .int .i64 y4, .int .i64 y5, .int .i64 y6]) (.agg #[.int .i64 f0, .int .i64 f1, .int .i64 f2, .int .i64 f3, .int .i64 bo, .int .i64 wa, .int .i64 bu])).run Tryz.prog w = .ok (.bool false) w)
    (hcl : ∀ w, Calls Tryz.prog 119 #[.agg #[.int .i64 f0, .int .i64 f1, .int .i64 f2, .int .i64 f3, .int .i64 bo, .int .i64 wa, .int .i64 bu]] w fun e w' => e = .returned (.agg #[.int .i64 y0, .int .i64 y1, .int .i64 y2, .int .i64 y3, .int .i64 y4, .int .i64 y5, .int .i64 y6]) ∧ Below w.heap.size w w') :
    Calls Tryz.prog 74 #[.agg #[.int .i64 f0, .int .i64 f1, .int .i64 f2, .int .i64 f3, .int .i64 bo, .int .i64 wa, .int .i64 bu]] w fun e w' => e = .returned (.bool false) ∧ Below w.heap.size w w' := by
  go_enter Tryz.func74, Tryz.ntmps74
  go_wp2_with fail
  have HB0 : Hid (Below w.heap.size w (w.alloc (.cells #[.int .i64 f0, .int .i64 f1, .int .i64 f2, .int .i64 f3, .int .i64 bo, .int .i64 wa, .int .i64 bu] 24))) := (Below.refl _ w).alloc (Nat.le_refl _) _
  have B0 := BAt.new w f0 f1 f2 f3 bo wa bu
  have hlt : w.heap.size < (w.alloc (.cells #[.int .i64 f0, .int .i64 f1, .int .i64 f2, .int .i64 f3, .int .i64 bo, .int .i64 wa, .int .i64 bu] 24)).heap.size := by simp
  generalize w.alloc (.cells #[.int .i64 f0, .int .i64 f1, .int .i64 f2, .int .i64 f3, .int .i64 bo, .int .i64 wa, .int .i64 bu] 24) = w0 at *
  obtain ⟨x0, x1, x2, x3, x4, x5, x6⟩ := id B0.cells
  clear B0
  have hbb : Below w0.heap.size w0 w0.drew := (Below.refl _ _).drew
  go_region_with (go_at_call 119; refine (cells_keep (f0 := f0) (f1 := f1) (f2 := f2) (f3 := f3) (bo := bo) (wa := wa) (bu := bu) (hcl _) hlt ?_).mono ?_; (simp [*]); rintro e wA ⟨rfl, z0, z1, z2, z3, z4, z5, z6, hA⟩)
  all_goals
    have HF : Hid (Below w.heap.size w wA) := HB0.out.trans (hA.mono (Nat.le_of_lt hlt))
    clear hA
    go_wp2
    go_ret
    exact ⟨rfl, HF.out⟩
set_option maxHeartbeats 1000000 in
theorem good_yes (f0 f1 f2 f3 bo wa bu s : Int) (r : Bool) (w : World) (heq : ∀ w, (binOp .eql 24 (.agg #[.int .i64 f0, .int .i64 f1, .int .i64 f2, .int .i64 f3, .int .i64 bo, .int .i64 wa, .int .i64 bu]) (.agg #[.int .i64 f0, .int .i64 f1, .int .i64 f2, .int .i64 f3, .int .i64 bo, .int .i64 wa, .int .i64 bu])).run Tryz.prog w = .ok (.bool true) w)
    (hcl : ∀ w, Calls Tryz.prog 119 #[.agg #[.int .i64 f0, .int .i64 f1, .int .i64 f2, .int .i64 f3, .int .i64 bo, .int .i64 wa, .int .i64 bu]] w fun e w' => e = .returned (.agg #[.int .i64 f0, .int .i64 f1, .int .i64 f2, .int .i64 f3, .int .i64 bo, .int .i64 wa, .int .i64 bu]) ∧ Below w.heap.size w w')
    (hsum : ∀ w, Calls Tryz.prog 11 #[.agg #[.int .i64 f0, .int .i64 f1, .int .i64 f2, .int .i64 f3, .int .i64 bo, .int .i64 wa, .int .i64 bu]] w fun e w' => e = .returned (.int .i64 s) ∧ Below w.heap.size w w') (hr : (s == 400000) = r) :
    Calls Tryz.prog 74 #[.agg #[.int .i64 f0, .int .i64 f1, .int .i64 f2, .int .i64 f3, .int .i64 bo, .int .i64 wa, .int .i64 bu]] w fun e w' => e = .returned (.bool r) ∧ Below w.heap.size w w' := by
  go_enter Tryz.func74, Tryz.ntmps74
  go_wp2_with fail
  have HB0 : Hid (Below w.heap.size w (w.alloc (.cells #[.int .i64 f0, .int .i64 f1, .int .i64 f2, .int .i64 f3, .int .i64 bo, .int .i64 wa, .int .i64 bu] 24))) := (Below.refl _ w).alloc (Nat.le_refl _) _
  have B0 := BAt.new w f0 f1 f2 f3 bo wa bu
  have hlt : w.heap.size < (w.alloc (.cells #[.int .i64 f0, .int .i64 f1, .int .i64 f2, .int .i64 f3, .int .i64 bo, .int .i64 wa, .int .i64 bu] 24)).heap.size := by simp
  generalize w.alloc (.cells #[.int .i64 f0, .int .i64 f1, .int .i64 f2, .int .i64 f3, .int .i64 bo, .int .i64 wa, .int .i64 bu] 24) = w0 at *
  obtain ⟨x0, x1, x2, x3, x4, x5, x6⟩ := id B0.cells
  clear B0
  have hbb : Below w0.heap.size w0 w0.drew := (Below.refl _ _).drew
  go_region_held3 (fun w' => w'.cell? ⟨w.heap.size, 0, none⟩ = some (.int .i64 f0) ∧ w'.cell? ⟨w.heap.size, 1, none⟩ = some (.int .i64 f1) ∧ w'.cell? ⟨w.heap.size, 2, none⟩ = some (.int .i64 f2) ∧ w'.cell? ⟨w.heap.size, 3, none⟩ = some (.int .i64 f3) ∧ w'.cell? ⟨w.heap.size, 4, none⟩ = some (.int .i64 bo) ∧ w'.cell? ⟨w.heap.size, 5, none⟩ = some (.int .i64 wa) ∧ w'.cell? ⟨w.heap.size, 6, none⟩ = some (.int .i64 bu) ∧ Below w0.heap.size w0 w') (go_keep)
    (first
      | (go_at_call 119; refine (cells_keep (f0 := f0) (f1 := f1) (f2 := f2) (f3 := f3) (bo := bo) (wa := wa) (bu := bu) (hcl _) hlt ?_).mono ?_; (simp [*]); rintro e wA ⟨rfl, hA⟩)
      | (go_at_call 11; refine (cells_keep (f0 := f0) (f1 := f1) (f2 := f2) (f3 := f3) (bo := bo) (wa := wa) (bu := bu) (hsum _) hlt ?_).mono ?_; (simp [*]); rintro e wB ⟨rfl, hB⟩))
  have HF : Hid (Below w.heap.size w wB) := HB0.out.trans (hB.2.2.2.2.2.2.2.mono (Nat.le_of_lt hlt))
  clear hA hB
  go_wp2
  go_ret
  exact ⟨rfl, HF.out⟩
theorem cl_iff (n : Int) : cl n = n ↔ 0 ≤ n ∧ n ≤ 400000 := by
  unfold cl
  omega
theorem good_any (f0 f1 f2 f3 bo wa bu : Int) (w : World) : Calls Tryz.prog 74 #[.agg #[.int .i64 f0, .int .i64 f1, .int .i64 f2, .int .i64 f3, .int .i64 bo, .int .i64 wa, .int .i64 bu]] w fun e w' => e = .returned (.bool (goodB f0 f1 f2 f3 bo wa bu)) ∧ Below w.heap.size w w' := by
  have hc := clamped_any f0 f1 f2 f3 bo wa bu
  have he := fun w => eqB w (cl f0) (cl f1) (cl f2) (cl f3) (cl bo) (cl wa) (cl bu) f0 f1 f2 f3 bo wa bu
  by_cases h : cl f0 = f0 ∧ cl f1 = f1 ∧ cl f2 = f2 ∧ cl f3 = f3 ∧ cl bo = bo ∧ cl wa = wa ∧ cl bu = bu
  · rw [decide_eq_true h] at he
    obtain ⟨h0, h1, h2, h3, h4, h5, h6⟩ := h
    rw [h0, h1, h2, h3, h4, h5, h6] at hc he
    rw [cl_iff] at h0 h1 h2 h3 h4 h5 h6
    refine good_yes f0 f1 f2 f3 bo wa bu _ _ w he hc (sum_any f0 f1 f2 f3 bo wa bu) ?_
    rw [wrap64_small (by omega) (by omega)]
    unfold goodB
    simp [h0, h1, h2, h3, h4, h5, h6]
    rfl
  · rw [decide_eq_false h] at he
    have hn : goodB f0 f1 f2 f3 bo wa bu = false := by
      unfold goodB
      refine decide_eq_false fun g => h ?_
      simp only [cl_iff]
      exact ⟨g.1, g.2.1, g.2.2.1, g.2.2.2.1, g.2.2.2.2.1, g.2.2.2.2.2.1, g.2.2.2.2.2.2.1⟩
    rw [hn]
    exact good_no f0 f1 f2 f3 bo wa bu w _ _ _ _ _ _ _ he hc
end Go.Proofs.YtjghbciepinofaaGreat

set_option maxRecDepth 100000
namespace Go.Proofs.YtjghbciepinofaaGreat
open Go.RowKit
theorem pvs_no {s : St} : ∀ {n k : Nat}, k < n → vsOk s k = false → pvs s n = false
  | 0, _, h, _ => by omega
  | n + 1, k, h, hk => by
    rw [pvs]
    rcases (show k < n ∨ k = n by omega) with h' | rfl
    · rw [pvs_no h' hk, Bool.false_and]
    · rw [hk, Bool.and_false]
theorem pvs_at {s : St} : ∀ {n k : Nat}, pvs s n = true → k < n → vsOk s k = true
  | 0, _, _, h => by omega
  | n + 1, k, h, hk => by
    rw [pvs, Bool.and_eq_true] at h
    rcases (show k < n ∨ k = n by omega) with h' | rfl
    · exact pvs_at h.1 h'
    · exact h.2
theorem vOk_amounts {x : Vd} (h : vOk x = true) : inA x.tok = true ∧ inA x.sh = true ∧ inA x.lost = true := by
  unfold vOk at h
  simp only [Bool.and_eq_true] at h
  exact ⟨h.1.1.1.1, h.1.1.1.2, h.1.1.2⟩
theorem wOk_amounts {next : Int} : ∀ {l : List Wt} {last : Int}, wOk next last l = true → ∀ x ∈ l, inA x.amt = true
  | [], _, _, x, hx => by cases hx
  | y :: r, last, h, x, hx => by
    rw [wOk, Bool.and_eq_true] at h
    rcases List.mem_cons.1 hx with rfl | hx
    · have := h.1; unfold wOk1 at this; simp only [Bool.and_eq_true] at this; exact this.1.1.2
    · exact wOk_amounts h.2 x hx
set_option maxHeartbeats 2000000 in
theorem sgood_any (s : St) (ao : Option Addr) (sb so c : Nat) (w : World) (hW : WsAt w ao sb so s.W) :
    Calls Tryz.prog 33 #[.agg (stC s (.slice ao s.W.length c))] w fun e w' => e = .returned (.bool (goodS s)) ∧ Below w.heap.size w w' := by
  have S0 := SAt.new w (stC s (.slice ao s.W.length c))
  have HB0 : Hid (Below w.heap.size w (w.alloc (.cells (stC s (.slice ao s.W.length c)) 32))) := (Below.refl _ w).alloc (Nat.le_refl _) _
  have HW : Hid (WsAt w ao sb so s.W) := hW
  have hlen := hW.len
  have hGB := good_any s.b.f0 s.b.f1 s.b.f2 s.b.f3 s.b.bo s.b.wa s.b.bu
  have hWG := fun w h => waitsGood_any s.W ao sb so c s.next w h
  have HG : Hid (goodS s = (goodB s.b.f0 s.b.f1 s.b.f2 s.b.f3 s.b.bo s.b.wa s.b.bu && decide (1 ≤ s.next) && decide (s.next ≤ 1125899906842624) && decide (s.W.length ≤ 60) && wOk s.next 0 s.W && pvs s 6 && bal s)) := rfl
  have HT2 : Hid (wOk s.next 0 s.W = true → ∀ x ∈ s.W, inA x.amt = true) := wOk_amounts
  generalize goodB s.b.f0 s.b.f1 s.b.f2 s.b.f3 s.b.bo s.b.wa s.b.bu = t1 at *
  generalize wOk s.next 0 s.W = t2 at *
  clear hW
  go_enter Tryz.func33, Tryz.ntmps33
  go_upto_region 1 with fail
  generalize w.alloc (.cells (stC s (.slice ao s.W.length c)) 32) = w0 at *
  obtain ⟨x0, x1, x2, x3, x4, x5, x6, x7, x8⟩ := st_cells S0
  go_wp2_with (first
    | (go_at_call 74; refine (hGB _).mono ?_; rintro e w1 ⟨rfl, h1⟩; have S1 := S0.later h1 S0.lt; have HB1 : Hid (Below w.heap.size w w1) := HB0.out.trans (h1.mono HB0.out.size); obtain ⟨y0, y1, y2, y3, y4, y5, y6, y7, y8⟩ := st_cells S1; clear x0 x1 x2 x3 x4 x5 x6 x7 x8 y0 y1 y2 y3 y4 y5 y6 h1 S0 HB0)
    | (go_at_call 75; refine (hWG _ (by exact HW.out.over HB1.out)).mono ?_; rintro e w2 ⟨rfl, h2⟩; have HB2 : Hid (Below w.heap.size w w2) := HB1.out.trans (h2.mono HB1.out.size); have S2 := S1.later h2 S1.lt; clear h2 S1 y7 y8))
  all_goals first
    | (go_ret; first | (refine ⟨?_, HB2.out⟩; rw [HG.out]; congr 1; congr 1; first | (simp_all; done) | (cases t2 <;> simp_all <;> omega) | (simp_all; omega) | (simp_all; intros; omega)) | (refine ⟨?_, HB1.out⟩; rw [HG.out]; congr 1; congr 1; first | (simp_all; done) | (simp_all; omega) | (simp_all; intros; omega)))
    | skip
  have hl60 : s.W.length ≤ 60 := by omega
  have hg2 : goodS s = (pvs s 6 && bal s) := by rw [HG.out]; simp_all
  have HG2 : Hid (goodS s = (pvs s 6 && bal s)) := hg2
  have HA : Hid (∀ x ∈ s.W, inA x.amt = true) := HT2.out (by simp_all)
  have hbl : w.heap.size < w2.heap.size := S2.lt
  clear HG HT2 hGB hWG HB1
  clear hg2
  obtain rfl : t2 = true := by simp_all
  simp only [Bool.not_true, Bool.or_false]
  go_loopw [30] (fun i wl => ∃ k : Nat, k ≤ 6 ∧ i = .int .i64 (k : Int) ∧ Hid (pvs s k = true ∧ Below w2.heap.size w2 wl)) (fun i _ => (6 - intOf i).toNat)
  case atStart => exact ⟨0, by omega, rfl, rfl, Below.refl _ _⟩
  case round =>
    obtain ⟨k, hk, rfl, HR⟩ := hrel
    have HB3 : Hid (Below w.heap.size w wr) := HB2.out.trans (HR.out.2.mono (Nat.le_of_lt hbl))
    have S3 := S2.later HR.out.2 hbl
    clear S2
    by_cases hk6 : k < 6
    · obtain ⟨c0, c1, c2, c3, c4⟩ := S3.val k hk6
      have hkk : (k : Int) < 6 := by omega
      have j1 := validatorGood_any w.heap.size (7 + k * 5) (s.V k) wr c0 c1 c2 c3 c4
      have j2 := sharesGood_any s (.slice ao s.W.length c) w.heap.size k hk6 wr S3
      have HV : Hid (vsOk s k = (vOk (s.V k) && shOk s.S k (s.V k).sh)) := rfl
      generalize vOk (s.V k) = t3 at *
      generalize shOk s.S k (s.V k).sh = t4 at *
      clear c0 c1 c2 c3 c4 S3
      go_wp2_with (first
        | (go_at_call 76; refine j1.mono ?_; rintro e w4 ⟨rfl, rfl⟩)
        | (go_at_call 77; refine j2.mono ?_; rintro e w4 ⟨rfl, rfl⟩))
      all_goals first
        | (go_ret; refine ⟨?_, HB3.out⟩; rw [HG2.out, pvs_no hk6 (by rw [HV.out]; simp_all)]; rfl)
        | (go_roundw
           case rel =>
             have hp : pvs s (k + 1) = true := by rw [pvs, HR.out.1, HV.out]; simp_all
             exact ⟨k + 1, by omega, by go_num, hp, HR.out.2⟩
           case measure => simp [intOf]; omega)
    · obtain rfl : k = 6 := by omega
      have hj := isBalanced_any s ao sb so c w.heap.size wr S3 (HW.out.over HB3.out) hl60 (fun i hi => by have h := pvs_at HR.out.1 hi; rw [vsOk, Bool.and_eq_true] at h; exact ⟨(vOk_amounts h.1).1, (vOk_amounts h.1).2.2⟩) HA.out
      have hg3 : goodS s = bal s := by rw [HG2.out, HR.out.1, Bool.true_and]
      have HG3 : Hid (goodS s = bal s) := hg3
      clear hg3
      generalize bal s = t5 at *
      clear S3
      go_wp2_with (go_at_call 78; refine hj.mono ?_; rintro e w5 ⟨rfl, h5⟩)
      go_ret
      refine ⟨?_, HB3.out.trans (h5.mono HB3.out.size)⟩
      rw [HG3.out]
      rfl
end Go.Proofs.YtjghbciepinofaaGreat

set_option maxRecDepth 100000
namespace Go.Proofs.YtjghbciepinofaaGreat
open Go.RowKit
set_option maxHeartbeats 1000000 in
theorem refused_any (s : St) (ao : Option Addr) (sb so c b : Nat) (v : Int) (w : World) (h : SAt w b (stC s (.slice ao s.W.length c))) (hW : WsAt w ao sb so s.W) :
    Calls Tryz.prog 144 #[.pointer (some ⟨b, 0, none⟩), .int .i64 v] w fun e w' => e = .returned (.int .i64 (refE s v)) ∧ Below w.heap.size w w' := by
  have hrg := h.range
  have hG := sgood_any s ao sb so c w hW
  have hV := isVal_any v
  unfold refE
  generalize goodS s = t1 at *
  generalize isV v = t2 at *
  clear h hW
  go_enter Tryz.func144, Tryz.ntmps144
  go_upto_region 1 with fail
  apply wp_region_lit
  iterate 6 go_step
  refine wpList_load_mid rfl 32 _ rfl b 0 rfl _ _ hrg Tryz.underlying32 rfl (by rw [infoS]; rfl) ?_
  clear hrg
  go_wp2_with (first
    | (go_at_call 33; refine hG.mono ?_; rintro e w1 ⟨rfl, hB⟩)
    | (go_at_call 90; refine (hV _).mono ?_; rintro e w2 ⟨rfl, rfl⟩))
  all_goals (go_ret; refine ⟨?_, hB⟩; first | (simp_all; done) | (congr 1; congr 1; simp_all))
set_option maxHeartbeats 1000000 in
theorem refusedOf_any (s : St) (ao : Option Addr) (sb so c b : Nat) (d v : Int) (w : World) (h : SAt w b (stC s (.slice ao s.W.length c))) (hW : WsAt w ao sb so s.W) :
    Calls Tryz.prog 103 #[.pointer (some ⟨b, 0, none⟩), .int .i64 d, .int .i64 v] w fun e w' => e = .returned (.int .i64 (refOfE s d v)) ∧ Below w.heap.size w w' := by
  have hG := refused_any s ao sb so c b v w h hW
  have hV := sisDel_any d
  unfold refOfE
  generalize refE s v = t1 at *
  generalize isD d = t2 at *
  clear h hW
  go_enter Tryz.func103, Tryz.ntmps103
  go_wp2_with (first
    | (go_at_call 144; refine hG.mono ?_; rintro e w1 ⟨rfl, hB⟩)
    | (go_at_call 120; refine (hV _).mono ?_; rintro e w2 ⟨rfl, rfl⟩))
  all_goals (go_ret; refine ⟨?_, hB⟩; first | (simp_all; done) | (congr 1; congr 1; simp_all))
end Go.Proofs.YtjghbciepinofaaGreat

