/- isBalanced. -/
import Derived.Test.YtfajfebpchfkoaeSD
set_option maxRecDepth 100000
namespace Go.Proofs.Ytfajfebpchfkoae
open Go.RowKit
theorem ptok_bound {V : Nat → Vd} : ∀ k, (∀ i, i < k → inA (V i).tok = true) → 0 ≤ ptok V k ∧ ptok V k ≤ 1125899906842624 * (k : Int)
  | 0, _ => by simp [ptok]
  | k + 1, h => by
    have h1 := ptok_bound k (fun i hi => h i (by omega))
    have h2 := inA_iff.1 (h k (by omega))
    simp only [ptok] at *
    omega
theorem plost_bound {V : Nat → Vd} : ∀ k, (∀ i, i < k → inA (V i).lost = true) → 0 ≤ plost V k ∧ plost V k ≤ 1125899906842624 * (k : Int)
  | 0, _ => by simp [plost]
  | k + 1, h => by
    have h1 := plost_bound k (fun i hi => h i (by omega))
    have h2 := inA_iff.1 (h k (by omega))
    simp only [plost] at *
    omega
theorem amts_take {W : List Wt} {k : Nat} {x : Wt} (h : W[k]? = some x) : amts (W.take (k + 1)) = amts (W.take k) + x.amt := by
  have hk := (List.getElem?_eq_some_iff.1 h).1
  rw [List.take_succ_eq_append_getElem hk]
  have e : W[k] = x := by simpa [List.getElem?_eq_getElem hk] using h
  rw [e]
  generalize W.take k = l
  induction l with
  | nil => simp [amts]
  | cons y r ih => simp only [List.cons_append, amts, ih]; omega
theorem amts_bound : ∀ {l : List Wt}, (∀ x ∈ l, inA x.amt = true) → 0 ≤ amts l ∧ amts l ≤ 1125899906842624 * (l.length : Int)
  | [], _ => by simp [amts]
  | x :: r, h => by
    have h1 := amts_bound (l := r) (fun y hy => h y (List.mem_cons_of_mem _ hy))
    have h2 := inA_iff.1 (h x List.mem_cons_self)
    simp only [amts, List.length_cons]
    omega
set_option maxHeartbeats 2000000 in
theorem isBalanced_any (s : St) (ao : Option Addr) (sb so c b : Nat) (w : World) (h : SAt w b (stC s (.slice ao s.W.length c))) (hW : WsAt w ao sb so s.W) (hl : s.W.length ≤ 60)
    (hv : ∀ i, i < 6 → inA (s.V i).tok = true ∧ inA (s.V i).lost = true) (ha : ∀ x ∈ s.W, inA x.amt = true) :
    Calls Try.prog 48 #[.pointer (some ⟨b, 0, none⟩)] w fun e w' => e = .returned (.bool (bal s)) ∧ Below w.heap.size w w' := by
  have HS : Hid (SAt w b (stC s (.slice ao s.W.length c))) := h
  have HV : Hid (∀ i, i < 6 → inA (s.V i).tok = true ∧ inA (s.V i).lost = true) := hv
  have HA : Hid (∀ x ∈ s.W, inA x.amt = true) := ha
  have HW : Hid (WsAt w ao sb so s.W) := hW
  have hrg := st_vals h
  have hblt : b < w.heap.size := h.lt
  clear hv ha h hW
  go_enter Try.func48, Try.ntmps48
  go_upto_region 2 with fail
  apply wp_region_lit
  iterate 9 go_step
  refine wpList_load_mid rfl 38 _ rfl b 7 rfl _ _ hrg Try.underlying38 rfl (by rw [infoVs]; rfl) ?_
  clear hrg
  go_wp2_with fail
  go_loopw [3, 4, 14] (fun s3 s4 i wl => ∃ k : Nat, k ≤ 6 ∧ i = .int .i64 (k : Int) ∧ s3 = .int .i64 (ptok s.V k) ∧ s4 = .int .i64 (plost s.V k) ∧ Hid (Below w.heap.size w wl)) (fun _ _ i _ => (6 - intOf i).toNat)
  case atStart => exact ⟨0, by omega, rfl, rfl, rfl, Below.refl _ _⟩
  case round =>
    obtain ⟨k, hk, rfl, rfl, rfl, HB⟩ := hrel
    have hsz : w.heap.size ≤ wr.heap.size := HB.out.size
    by_cases hk6 : k < 6
    · have hix := fun w => ixV w s.V k hk6
      have b1 := ptok_bound (V := s.V) k (fun i hi => (HV.out i (by omega)).1)
      have b2 := plost_bound (V := s.V) k (fun i hi => (HV.out i (by omega)).2)
      have b3 := inA_iff.1 (HV.out k hk6).1
      have b4 := inA_iff.1 (HV.out k hk6).2
      have P1 : Hid (ptok s.V (k + 1) = ptok s.V k + (s.V k).tok) := rfl
      have P2 : Hid (plost s.V (k + 1) = plost s.V k + (s.V k).lost) := rfl
      go_wp2_with fail
      go_roundw
      case rel => exact ⟨k + 1, by omega, by go_num, by rw [P1.out], by rw [P2.out], HB.out.alloc hsz _⟩
      case measure => simp [intOf]; omega
    · obtain rfl : k = 6 := by omega
      rename World => w1
      have S1 := HS.out.later HB.out hblt
      obtain ⟨x0, x1, x2, x3, x4, x5, x6, x7, x8⟩ := st_cells S1
      have HS1 : Hid (SAt w1 b (stC s (.slice ao s.W.length c))) := S1
      have HW1 : Hid (WsAt w1 ao sb so s.W) := HW.out.over HB.out
      have hadr := HW.out.adr
      clear x0 x1 x2 x3 x4 x5 x6 x8 S1 HS HW
      go_wp2_with fail
      clear x7
      go_loopw [5, 31] (fun s5 i wl => ∃ k : Nat, k ≤ s.W.length ∧ i = .int .i64 (k : Int) ∧ s5 = .int .i64 (amts (s.W.take k)) ∧ Hid (Below w1.heap.size w1 wl)) (fun _ i _ => s.W.length - (intOf i).toNat)
      case atStart => exact ⟨0, by omega, rfl, rfl, Below.refl _ _⟩
      case round =>
        obtain ⟨k, hk, rfl, rfl, HB1⟩ := hrel
        have hsz1 : w1.heap.size ≤ wr.heap.size := HB1.out.size
        by_cases hlt : k < s.W.length
        · obtain ⟨x, hx, _⟩ := drop_at hlt
          obtain ⟨c0, c1, c2, c3, c4, c5, c6, c7⟩ := (HW1.out.over HB1.out).cell k x hx
          have P1 : Hid (amts (s.W.take (k + 1)) = amts (s.W.take k) + x.amt) := amts_take hx
          have b1 := amts_bound (l := s.W.take k) (fun y hy => HA.out y (List.mem_of_mem_take hy))
          rw [List.length_take, Nat.min_eq_left hk] at b1
          have b2 := inA_iff.1 (HA.out x (List.mem_of_getElem? hx))
          obtain rfl := hadr (by omega)
          clear hadr hx
          go_wp2_with fail
          go_roundw
          case rel => exact ⟨k + 1, by omega, by go_num, by rw [P1.out], HB1.out.alloc hsz1 _⟩
          case measure => simp [intOf]; omega
        · have S1 := HS1.out.later HB1.out (by omega)
          obtain ⟨x0, x1, x2, x3, x4, x5, x6, x7, x8⟩ := st_cells S1
          have HF : Hid (bal s = (decide (ptok s.V 6 = s.b.bo) && decide (amts (s.W.take k) = s.b.wa) && decide (plost s.V 6 = s.b.bu))) := by rw [List.take_of_length_le (by omega)]; exact rfl
          clear x0 x1 x2 x3 x7 x8 S1
          generalize ptok s.V 6 = pt at *
          generalize plost s.V 6 = pl at *
          generalize amts (s.W.take k) = pa at *
          go_wp2_with fail
          all_goals (go_ret; refine ⟨?_, HB.out.trans (HB1.out.mono hsz)⟩; rw [HF.out]; congr 1; congr 1; first | (simp_all; done) | (simp_all; rfl))
end Go.Proofs.Ytfajfebpchfkoae
