/- Parts of the proof: LB. -/
import Derived.Test.YtnfigdecgkcgcabRows
import Derived.Test.YtnfigdecgkcgcabAK0
set_option maxRecDepth 100000
namespace Go.Proofs.Ytnfigdecgkcgcab.Ln
open Go.RowKit
theorem goodL_cases (x : Line) :
    (x.D.length ≠ x.S.length ∧ goodL x = false) ∨ (x.D.length = x.S.length ∧ 400 < x.S.length ∧ goodL x = false) ∨
    (x.D.length = x.S.length ∧ x.S.length ≤ 400 ∧ (nonneg x.D = false → goodL x = false) ∧ (nonneg x.D = true → goodL x = (decide (0 ≤ x.g) && decide (x.g ≤ x.S.length)))) := by
  by_cases h1 : x.D.length = x.S.length
  · right
    by_cases h2 : x.S.length ≤ 400
    · right
      exact ⟨h1, h2, fun h3 => by simp [goodL, h3], fun h3 => by simp [goodL, h1, h2, h3]⟩
    · left
      exact ⟨h1, by omega, by simp [goodL, h2]⟩
  · left
    exact ⟨h1, by simp [goodL, h1]⟩
set_option maxHeartbeats 1000000 in
theorem good_any (x : Line) (sa da : Option Addr) (cs cd sb so db dO : Nat) (w : World) (L : LAt w x sa da cs cd sb so db dO) :
    Calls Try.prog 29 #[.agg #[.slice sa x.S.length cs, .slice da x.D.length cd, .int .i64 x.g, .bool x.cl]] w fun e w' => e = .returned (.bool (goodL x)) ∧ Below w.heap.size w w' := by
  obtain ⟨S, D, g, cl⟩ := x
  have hcs := goodL_cases ⟨S, D, g, cl⟩
  obtain ⟨hls, hld, hsa, hda, -, -, PS, PD⟩ := L
  have HB0 : Hid (∀ o, Below w.heap.size w (w.alloc o)) := fun o => below_new w o
  have HDA : Hid (0 < D.length → da = some ⟨db, dO, none⟩) := hda
  have HPD : Hid (IntsAt w db dO D) := PD
  clear hsa hda PS PD
  dsimp only at *
  generalize goodL ⟨S, D, g, cl⟩ = G at *
  rcases hcs with ⟨h1, rfl⟩ | ⟨h1, h2, rfl⟩ | ⟨h1, h2, h3, h4⟩
  · have hne : ((D.length : Int) != (S.length : Int)) = true := by simp; omega
    clear h1
    go_enter Try.func29, Try.ntmps29
    go_wp2
    go_ret
    exact ⟨rfl, HB0.out _⟩
  · have hne : ((D.length : Int) != (S.length : Int)) = false := by simp; omega
    clear h1
    go_enter Try.func29, Try.ntmps29
    go_wp2
    go_ret
    exact ⟨rfl, HB0.out _⟩
  · have hne : ((D.length : Int) != (S.length : Int)) = false := by simp; omega
    have hd2 : D.length ≤ 400 := by omega
    have HG : Hid ((nonneg D = false → G = false) ∧ (nonneg D = true → G = (decide (0 ≤ g) && decide (g ≤ S.length)))) := ⟨h3, h4⟩
    clear h1 h3 h4
    go_enter Try.func29, Try.ntmps29
    go_wp2
    go_loop [21] (fun i => ∃ (k : Nat), k ≤ D.length ∧ i = .int .i64 (k : Int) ∧ Hid (nonneg (D.take k) = true)) (fun i => D.length - (intOf i).toNat)
    case atStart => exact ⟨0, Nat.zero_le _, rfl, by simp [Hid, nonneg]⟩
    case round =>
      obtain ⟨k, hk, rfl, HR⟩ := hrel
      by_cases hlt : k < D.length
      · have hcell := (HPD.out.later (HB0.out (.cells #[.slice sa S.length cs, .slice da D.length cd, .int .i64 g, .bool cl] 29))) k hlt
        obtain ⟨y, hy⟩ : ∃ y, D.getD k 0 = y := ⟨_, rfl⟩
        rw [hy] at hcell
        have HY : Hid (D.getD k 0 = y) := hy
        clear hy
        have e := HDA.out (by omega)
        subst e
        by_cases hy0 : y < 0
        · go_wp2
          go_ret
          exact ⟨by rw [HG.out.1 (nonneg_not hlt (by rw [HY.out]; exact hy0))]; rfl, HB0.out _⟩
        · go_wp2
          go_round
          case rel => exact ⟨k + 1, by omega, by go_num, nonneg_step HR.out hlt (by rw [HY.out]; omega)⟩
          case measure => simp [intOf]; omega
      · have hG := HG.out.2 (by have := HR.out; rwa [List.take_of_length_le (by omega)] at this)
        by_cases hg0 : 0 ≤ g
        · by_cases hg1 : g ≤ (S.length : Int)
          · have HF : Hid (G = true) := by show _ = _; rw [hG]; simp [hg0, hg1]
            clear hG
            go_wp2
            go_ret
            exact ⟨by rw [HF.out]; rfl, HB0.out _⟩
          · have HF : Hid (G = false) := by show _ = _; rw [hG]; simp [hg1]
            clear hG
            go_wp2
            go_ret
            exact ⟨by rw [HF.out]; rfl, HB0.out _⟩
        · have HF : Hid (G = false) := by show _ = _; rw [hG]; simp [hg0]
          clear hG
          go_wp2
          go_ret
          exact ⟨by rw [HF.out]; rfl, HB0.out _⟩
set_option maxHeartbeats 1000000 in
theorem ref_any (x : Line) (sa da : Option Addr) (cs cd sb so db dO : Nat) (w : World) (L : LAt w x sa da cs cd sb so db dO) :
    Calls Try.prog 37 #[.agg #[.slice sa x.S.length cs, .slice da x.D.length cd, .int .i64 x.g, .bool x.cl]] w fun e w' => e = .returned (.int .i64 (refN x)) ∧ Below w.heap.size w w' := by
  have hg := good_any x sa da cs cd sb so db dO _ (L.later (below_new w (.cells #[.slice sa x.S.length cs, .slice da x.D.length cd, .int .i64 x.g, .bool x.cl] 29)))
  clear L
  obtain ⟨S, D, g, cl⟩ := x
  unfold refN
  dsimp only at *
  generalize goodL ⟨S, D, g, cl⟩ = G at *
  cases G <;> cases cl
  all_goals go_enter Try.func37, Try.ntmps37
  all_goals go_wp2_with (go_at_call 29; refine hg.mono ?_; rintro e w1 ⟨rfl, hb⟩; obtain ⟨hc, hf⟩ := bcell hb; have HB1 : Hid (Below w.heap.size w w1) := below_step hb; clear hb)
  all_goals go_ret
  all_goals exact ⟨rfl, HB1.out⟩
end Go.Proofs.Ytnfigdecgkcgcab.Ln

