/- Good. -/
import Derived.Test.YtfajfebpchfkoaeSE
import Derived.Test.YtfajfebpchfkoaeE
set_option maxRecDepth 100000
namespace Go.Proofs.Ytfajfebpchfkoae
open Go.RowKit
theorem pvs_no {s : St} : ∀ {n k : Nat}, k < n → vsOk s k = false → pvs s n = false
  | 0, _, h, _ => by omega
  | n + 1, k, h, hk => by
    rw [pvs]
    rcases (show k < n ∨ k = n by omega) with h' | rfl
    · rw [pvs_no h' hk, Bool.false_and]
    · rw [hk, Bool.and_false]
theorem pvs_at {s : St} : ∀ {n k : Nat}, pvs s n = true → k < n → vsOk s k = true
  | 0, _, _, h => by omega
  | n + 1, k, h, hk => by
    rw [pvs, Bool.and_eq_true] at h
    rcases (show k < n ∨ k = n by omega) with h' | rfl
    · exact pvs_at h.1 h'
    · exact h.2
theorem vOk_amounts {x : Vd} (h : vOk x = true) : inA x.tok = true ∧ inA x.sh = true ∧ inA x.lost = true := by
  unfold vOk at h
  simp only [Bool.and_eq_true] at h
  exact ⟨h.1.1.1.1, h.1.1.1.2, h.1.1.2⟩
theorem wOk_amounts {next : Int} : ∀ {l : List Wt} {last : Int}, wOk next last l = true → ∀ x ∈ l, inA x.amt = true
  | [], _, _, x, hx => by cases hx
  | y :: r, last, h, x, hx => by
    rw [wOk, Bool.and_eq_true] at h
    rcases List.mem_cons.1 hx with rfl | hx
    · have := h.1; unfold wOk1 at this; simp only [Bool.and_eq_true] at this; exact this.1.1.2
    · exact wOk_amounts h.2 x hx
set_option maxHeartbeats 2000000 in
theorem sgood_any (s : St) (ao : Option Addr) (sb so c : Nat) (w : World) (hW : WsAt w ao sb so s.W) :
    Calls Try.prog 17 #[.agg (stC s (.slice ao s.W.length c))] w fun e w' => e = .returned (.bool (goodS s)) ∧ Below w.heap.size w w' := by
  have S0 := SAt.new w (stC s (.slice ao s.W.length c))
  have HB0 : Hid (Below w.heap.size w (w.alloc (.cells (stC s (.slice ao s.W.length c)) 43))) := (Below.refl _ w).alloc (Nat.le_refl _) _
  have HW : Hid (WsAt w ao sb so s.W) := hW
  have hlen := hW.len
  have hGB := good_any s.b.f0 s.b.f1 s.b.f2 s.b.f3 s.b.bo s.b.wa s.b.bu
  have hWG := fun w h => waitsGood_any s.W ao sb so c s.next w h
  have HG : Hid (goodS s = (goodB s.b.f0 s.b.f1 s.b.f2 s.b.f3 s.b.bo s.b.wa s.b.bu && decide (1 ≤ s.next) && decide (s.next ≤ 1125899906842624) && decide (s.W.length ≤ 60) && wOk s.next 0 s.W && pvs s 6 && bal s)) := rfl
  have HT2 : Hid (wOk s.next 0 s.W = true → ∀ x ∈ s.W, inA x.amt = true) := wOk_amounts
  generalize goodB s.b.f0 s.b.f1 s.b.f2 s.b.f3 s.b.bo s.b.wa s.b.bu = t1 at *
  generalize wOk s.next 0 s.W = t2 at *
  clear hW
  go_enter Try.func17, Try.ntmps17
  go_upto_region 1 with fail
  generalize w.alloc (.cells (stC s (.slice ao s.W.length c)) 43) = w0 at *
  obtain ⟨x0, x1, x2, x3, x4, x5, x6, x7, x8⟩ := st_cells S0
  go_wp2_with (first
    | (go_at_call 44; refine (hGB _).mono ?_; rintro e w1 ⟨rfl, h1⟩; have S1 := S0.later h1 S0.lt; have HB1 : Hid (Below w.heap.size w w1) := HB0.out.trans (h1.mono HB0.out.size); obtain ⟨y0, y1, y2, y3, y4, y5, y6, y7, y8⟩ := st_cells S1; clear x0 x1 x2 x3 x4 x5 x6 x7 x8 y0 y1 y2 y3 y4 y5 y6 h1 S0 HB0)
    | (go_at_call 45; refine (hWG _ (by exact HW.out.over HB1.out)).mono ?_; rintro e w2 ⟨rfl, h2⟩; have HB2 : Hid (Below w.heap.size w w2) := HB1.out.trans (h2.mono HB1.out.size); have S2 := S1.later h2 S1.lt; clear h2 S1 y7 y8))
  all_goals first
    | (go_ret; first | (refine ⟨?_, HB2.out⟩; rw [HG.out]; congr 1; congr 1; first | (simp_all; done) | (cases t2 <;> simp_all <;> omega) | (simp_all; omega) | (simp_all; intros; omega)) | (refine ⟨?_, HB1.out⟩; rw [HG.out]; congr 1; congr 1; first | (simp_all; done) | (simp_all; omega) | (simp_all; intros; omega)))
    | skip
  have hl60 : s.W.length ≤ 60 := by omega
  have hg2 : goodS s = (pvs s 6 && bal s) := by rw [HG.out]; simp_all
  have HG2 : Hid (goodS s = (pvs s 6 && bal s)) := hg2
  have HA : Hid (∀ x ∈ s.W, inA x.amt = true) := HT2.out (by simp_all)
  have hbl : w.heap.size < w2.heap.size := S2.lt
  clear HG HT2 hGB hWG HB1
  clear hg2
  obtain rfl : t2 = true := by simp_all
  simp only [Bool.not_true, Bool.or_false]
  go_loopw [30] (fun i wl => ∃ k : Nat, k ≤ 6 ∧ i = .int .i64 (k : Int) ∧ Hid (pvs s k = true ∧ Below w2.heap.size w2 wl)) (fun i _ => (6 - intOf i).toNat)
  case atStart => exact ⟨0, by omega, rfl, rfl, Below.refl _ _⟩
  case round =>
    obtain ⟨k, hk, rfl, HR⟩ := hrel
    have HB3 : Hid (Below w.heap.size w wr) := HB2.out.trans (HR.out.2.mono (Nat.le_of_lt hbl))
    have S3 := S2.later HR.out.2 hbl
    clear S2
    by_cases hk6 : k < 6
    · obtain ⟨c0, c1, c2, c3, c4⟩ := S3.val k hk6
      have hkk : (k : Int) < 6 := by omega
      have j1 := validatorGood_any w.heap.size (7 + k * 5) (s.V k) wr c0 c1 c2 c3 c4
      have j2 := sharesGood_any s (.slice ao s.W.length c) w.heap.size k hk6 wr S3
      have HV : Hid (vsOk s k = (vOk (s.V k) && shOk s.S k (s.V k).sh)) := rfl
      generalize vOk (s.V k) = t3 at *
      generalize shOk s.S k (s.V k).sh = t4 at *
      clear c0 c1 c2 c3 c4 S3
      go_wp2_with (first
        | (go_at_call 46; refine j1.mono ?_; rintro e w4 ⟨rfl, rfl⟩)
        | (go_at_call 47; refine j2.mono ?_; rintro e w4 ⟨rfl, rfl⟩))
      all_goals first
        | (go_ret; refine ⟨?_, HB3.out⟩; rw [HG2.out, pvs_no hk6 (by rw [HV.out]; simp_all)]; rfl)
        | (go_roundw
           case rel =>
             have hp : pvs s (k + 1) = true := by rw [pvs, HR.out.1, HV.out]; simp_all
             exact ⟨k + 1, by omega, by go_num, hp, HR.out.2⟩
           case measure => simp [intOf]; omega)
    · obtain rfl : k = 6 := by omega
      have hj := isBalanced_any s ao sb so c w.heap.size wr S3 (HW.out.over HB3.out) hl60 (fun i hi => by have h := pvs_at HR.out.1 hi; rw [vsOk, Bool.and_eq_true] at h; exact ⟨(vOk_amounts h.1).1, (vOk_amounts h.1).2.2⟩) HA.out
      have hg3 : goodS s = bal s := by rw [HG2.out, HR.out.1, Bool.true_and]
      have HG3 : Hid (goodS s = bal s) := hg3
      clear hg3
      generalize bal s = t5 at *
      clear S3
      go_wp2_with (go_at_call 48; refine hj.mono ?_; rintro e w5 ⟨rfl, h5⟩)
      go_ret
      refine ⟨?_, HB3.out.trans (h5.mono HB3.out.size)⟩
      rw [HG3.out]
      rfl
end Go.Proofs.Ytfajfebpchfkoae
