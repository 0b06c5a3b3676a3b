/- Parts of the proof: CP CQ. -/
import Derived.Test.YtdkalcnlncjgiaaRows
import Derived.Test.YtdkalcnlncjgiaaBK51
set_option maxRecDepth 100000
namespace Go.Proofs.Ytdkalcnlncjgiaa.Cd
open Go.RowKit

set_option maxHeartbeats 1000000 in
theorem gp_loops (k i v n : Int) (S : List (Int × Int)) (D : List Int) (sa da : Option Addr) (cs cd sb so db dO : Nat) (w : World) (L : Lies w S D sa da sb so db dO) (hi1 : 1 ≤ i) (hi2 : i ≤ 1099511627776)
    (hk : (k = 1 ∧ v = 0 ∧ n = 0) ∨ (k = 2 ∧ v = 0 ∧ n = 0 ∧ S.length ≤ 0 ∧ D.length ≤ 0) ∨ ((k = 3 ∨ k = 4) ∧ 0 ≤ v ∧ v ≤ 5 ∧ 1 ≤ n ∧ n ≤ 1125899906842624 ∧ S.length ≤ 0 ∧ D.length ≤ 0))
    (F : Int) (hF : F = if prisesFrom (-1) S = true ∧ risesFrom (-1) D = true then 0 else 2) :
    Calls Try.prog 37 #[.agg #[.int .i64 k, .int .i64 i, .int .i64 v, .int .i64 n, .slice sa S.length cs, .slice da D.length cd]] w fun e w' => e = .returned (.int .i64 F) ∧ Below w.heap.size w w' := by
  have HF : Hid _ := hF
  have hls := L.hls
  have hld := L.hld
  unfold maxLen at hls hld
  have PK := pkAt_new w k i v n (.slice sa S.length cs) (.slice da D.length cd)
  have L1 := L.later (below_new w (.cells #[.int .i64 k, .int .i64 i, .int .i64 v, .int .i64 n, .slice sa S.length cs, .slice da D.length cd] 46))
  have HSB : Hid ((0 < S.length → sb < w.heap.size + 1) ∧ (0 < D.length → db < w.heap.size + 1)) := ⟨fun h => Nat.lt_succ_of_lt (L.PS.lt h), fun h => Nat.lt_succ_of_lt (L.PD.lt h)⟩
  clear hF L
  rcases hk with ⟨rfl, rfl, rfl⟩ | ⟨rfl, rfl, rfl, h1, h2⟩ | ⟨rfl | rfl, h1, h2, h3, h4, h5, h6⟩
  all_goals go_enter Try.func37, Try.ntmps37
  all_goals go_wp2
  · go_loopw [4, 88] (fun last j wl => ∃ (m : Nat) (x : Int), m ≤ S.length ∧ j = .int .i64 m ∧ last = .int .i64 x ∧ -1 ≤ x ∧ Hid (prisesFrom (-1) S = prisesFrom x (S.drop m)) ∧ Hid (Below (w.heap.size + 1) (w.alloc (.cells #[.int .i64 1, .int .i64 i, .int .i64 0, .int .i64 0, .slice sa S.length cs, .slice da D.length cd] 46)) wl)) (fun _ j _ => S.length - (intOf j).toNat)
    case atStart => exact ⟨0, -1, Nat.zero_le _, rfl, rfl, by omega, by simp [Hid], Below.refl _ _⟩
    case round =>
      obtain ⟨m, x, hm, rfl, rfl, hx, HR, HB⟩ := hrel
      have hB0 : w.heap.size + 1 ≤ wr.heap.size := by have := HB.out.size; simpa using this
      by_cases hlt : m < S.length
      · have hcell := L1.PS.laterB HB.out HSB.out.1 m hlt
        have hd := prises_drop S m hlt x
        obtain ⟨y, hy⟩ : ∃ y, S.getD m (0, 0) = y := ⟨_, rfl⟩
        rw [hy] at hcell hd
        obtain ⟨y, z⟩ := y
        have e := L1.hsa (by omega)
        subst e
        dsimp only at hd
        obtain ⟨hc0, hc1⟩ := hcell
        dsimp only at hc0 hc1
        have HD : Hid _ := hd
        clear hd hy
        have hfin : ∀ w', Below (w.heap.size + 1) (w.alloc (.cells #[.int .i64 1, .int .i64 i, .int .i64 0, .int .i64 0, .slice (some ⟨sb, so, none⟩) S.length cs, .slice da D.length cd] 46)) w' → Below w.heap.size w w' := fun w' h => below_step (by simpa using h)
        have HFIN : Hid _ := hfin
        clear hfin
        by_cases hbad : y ≤ x ∨ 5 < y ∨ z < 0 ∨ 1125899906842624 < z
        · have E : Hid (F = 2) := by
            have : prisesFrom (-1) S = false := by
              rw [HR.out, HD.out]
              rcases hbad with h | h | h | h
              · rw [decide_eq_false (by omega)]; simp
              · rw [isV_neg (by omega)]; simp
              · rw [decide_eq_false (p := 0 ≤ z) (by omega)]; simp
              · rw [decide_eq_false (p := z ≤ 1125899906842624) (by omega)]; simp
            show _ = _
            rw [HF.out, if_neg (by rw [this]; simp)]
          clear HF HR HD
          by_cases h1 : y ≤ x
          · go_wp2
            go_ret
            exact ⟨by rw [E.out]; rfl, HFIN.out _ (HB.out.alloc hB0 _)⟩
          by_cases h2 : 5 < y
          · go_wp2
            go_ret
            exact ⟨by rw [E.out]; rfl, HFIN.out _ (HB.out.alloc hB0 _)⟩
          by_cases h3 : z < 0
          · go_wp2
            go_ret
            exact ⟨by rw [E.out]; rfl, HFIN.out _ (HB.out.alloc hB0 _)⟩
          have h4 : 1125899906842624 < z := by omega
          clear hbad
          go_wp2
          go_ret
          exact ⟨by rw [E.out]; rfl, HFIN.out _ (HB.out.alloc hB0 _)⟩
        · have h1 : x < y := by omega
          have h2 : y ≤ 5 := by omega
          have h3 : 0 ≤ z := by omega
          have h4 : z ≤ 1125899906842624 := by omega
          have E : Hid (prisesFrom (-1) S = prisesFrom y (S.drop (m + 1))) := by
            show _ = _
            rw [HR.out, HD.out, decide_eq_true h1, isV_pos (by omega) (by omega), decide_eq_true h3, decide_eq_true h4]; simp
          clear hbad HD HR
          go_wp2
          go_roundw
          case rel => exact ⟨m + 1, y, by omega, by go_num, rfl, by omega, E, HB.out.alloc hB0 _⟩
          case measure => simp [intOf]; omega
      · have PK2 := PK.later HB.out (Nat.lt_succ_self _)
        obtain ⟨c0, c1, c2, c3, c4, c5⟩ := PK2
        have HP : Hid (prisesFrom (-1) S = true) := by show _ = _; rw [HR.out, List.drop_of_length_le (by omega)]; rfl
        have L2 : Lies wr S D sa da sb so db dO := ⟨L1.hls, L1.hld, L1.hsa, L1.hda, L1.PS.laterB HB.out HSB.out.1, L1.PD.laterB HB.out HSB.out.2⟩
        have HB2 : Hid (Below w.heap.size w wr) := below_step (by simpa using HB.out)
        clear HR HB PK L1 HSB
        go_wp2
        clear c0 c1 c2 c3 c4 c5
        go_loop [4, 117] (fun last j => ∃ (m : Nat) (x : Int), m ≤ D.length ∧ j = .int .i64 m ∧ last = .int .i64 x ∧ -1 ≤ x ∧ Hid (risesFrom (-1) D = risesFrom x (D.drop m))) (fun _ j => D.length - (intOf j).toNat)
        case atStart => exact ⟨0, -1, Nat.zero_le _, rfl, rfl, by omega, by simp [Hid]⟩
        case round =>
          obtain ⟨m, x, hm, rfl, rfl, hx, HR⟩ := hrel
          by_cases hlt : m < D.length
          · have hcell := L2.PD m hlt
            have hd := rises_drop D m hlt x
            obtain ⟨y, hy⟩ : ∃ y, D.getD m 0 = y := ⟨_, rfl⟩
            rw [hy] at hcell hd
            have e := L2.hda (by omega)
            subst e
            have HD : Hid _ := hd
            clear hd hy
            by_cases hbad : y ≤ x ∨ 5 < y
            · have E : Hid (F = 2) := by
                have : risesFrom (-1) D = false := by
                  rw [HR.out, HD.out]
                  rcases hbad with h | h
                  · rw [decide_eq_false (by omega)]; simp
                  · rw [isV_neg (by omega)]; simp
                show _ = _
                rw [HF.out, if_neg (by rw [this]; simp)]
              clear HF HR HD
              by_cases h1 : y ≤ x
              · go_wp2
                go_ret
                exact ⟨by rw [E.out]; rfl, HB2.out⟩
              have h2 : 5 < y := by omega
              clear hbad
              go_wp2
              go_ret
              exact ⟨by rw [E.out]; rfl, HB2.out⟩
            · have h1 : x < y := by omega
              have h2 : y ≤ 5 := by omega
              have E : Hid (risesFrom (-1) D = risesFrom y (D.drop (m + 1))) := by
                show _ = _
                rw [HR.out, HD.out, decide_eq_true h1, isV_pos (by omega) (by omega)]; simp
              clear hbad HD HR
              go_wp2
              go_round
              case rel => exact ⟨m + 1, y, by omega, by go_num, rfl, by omega, E⟩
              case measure => simp [intOf]; omega
          · have E : Hid (F = 0) := by
              show _ = _
              rw [HF.out, if_pos ⟨HP.out, by rw [HR.out, List.drop_of_length_le (by omega)]; rfl⟩]
            go_wp2
            go_ret
            exact ⟨by rw [E.out]; rfl, HB2.out⟩
  all_goals
    have hS0 : S = [] := List.eq_nil_of_length_eq_zero (by omega)
    have hD0 : D = [] := List.eq_nil_of_length_eq_zero (by omega)
    have E : Hid (F = 0) := by
      show _ = _
      rw [HF.out, hS0, hD0]; rfl
    clear hS0 hD0 HF PK L1 HSB
    refine wp_loop_rounds 1 ?_
    rw [rounds_succ]
    go_wp2
    refine wp_loop_rounds 1 ?_
    rw [rounds_succ]
    go_wp2
    go_ret
    exact ⟨by rw [E.out]; rfl, below_new _ _⟩
end Go.Proofs.Ytdkalcnlncjgiaa.Cd

set_option maxRecDepth 100000
namespace Go.Proofs.Ytdkalcnlncjgiaa.Cd
open Go.RowKit
theorem accB_1 : accB 1 = false := rfl
theorem accB_2 : accB 2 = false := rfl
theorem forB_acc {k v n : Int} {a b : Nat} (h : accB k = true) (hk : k ≠ 1) : forB k v n a b = decide (0 < a ∨ 0 < b) := by
  rw [Bool.eq_iff_iff]
  simp [forB, h, hk]; omega
theorem forB_two {v n : Int} {a b : Nat} : forB 2 v n a b = decide (v ≠ 0 ∨ n ≠ 0 ∨ 0 < a ∨ 0 < b) := by
  rw [Bool.eq_iff_iff]
  simp [forB, accB_2]; omega
theorem forB_one {v n : Int} {a b : Nat} : forB 1 v n a b = decide (v ≠ 0 ∨ n ≠ 0) := by
  rw [Bool.eq_iff_iff]
  simp [forB, accB_1]
theorem goodN_tail {k i v n : Int} {S : List (Int × Int)} {D : List Int} (h1 : 1 ≤ k) (h2 : k ≤ 4) (h3 : 1 ≤ i) (h4 : i ≤ 1099511627776) (h5 : ¬ (accB k = true ∧ (isV v = false ∨ n < 1 ∨ 1125899906842624 < n))) (h6 : forB k v n S.length D.length = false) :
    goodN k i v n S D = if prisesFrom (-1) S = true ∧ risesFrom (-1) D = true then 0 else 2 := by
  rw [goodN, if_neg (by omega), if_neg (by omega), if_neg h5, if_neg (by rw [h6]; simp)]
  cases prisesFrom (-1) S <;> cases risesFrom (-1) D <;> rfl
theorem goodN_form {k i v n : Int} {S : List (Int × Int)} {D : List Int} (h1 : 1 ≤ k) (h2 : k ≤ 4) (h3 : 1 ≤ i) (h4 : i ≤ 1099511627776) (h5 : ¬ (accB k = true ∧ (isV v = false ∨ n < 1 ∨ 1125899906842624 < n))) (h6 : forB k v n S.length D.length = true) :
    goodN k i v n S D = 1 := by
  rw [goodN, if_neg (by omega), if_neg (by omega), if_neg h5, if_pos h6]
theorem goodN_range {k i v n : Int} {S : List (Int × Int)} {D : List Int} (h1 : 1 ≤ k) (h2 : k ≤ 4) (h3 : 1 ≤ i) (h4 : i ≤ 1099511627776) (h5 : accB k = true ∧ (isV v = false ∨ n < 1 ∨ 1125899906842624 < n)) :
    goodN k i v n S D = 2 := by
  rw [goodN, if_neg (by omega), if_neg (by omega), if_pos h5]

theorem gp_cases (k i v n : Int) (S : List (Int × Int)) (D : List Int) :
    (k < 1 ∧ goodN k i v n S D = 3) ∨ (1 ≤ k ∧ 4 < k ∧ goodN k i v n S D = 3) ∨ (1 ≤ k ∧ k ≤ 4 ∧ i < 1 ∧ goodN k i v n S D = 2) ∨ (1 ≤ k ∧ k ≤ 4 ∧ 1 ≤ i ∧ 1099511627776 < i ∧ goodN k i v n S D = 2) ∨
    (1 ≤ i ∧ i ≤ 1099511627776 ∧
     (((k = 3 ∨ k = 4) ∧ (v < 0 ∧ goodN k i v n S D = 2 ∨ 0 ≤ v ∧ 5 < v ∧ goodN k i v n S D = 2 ∨ 0 ≤ v ∧ v ≤ 5 ∧ n < 1 ∧ goodN k i v n S D = 2 ∨ 0 ≤ v ∧ v ≤ 5 ∧ 1 ≤ n ∧ 1125899906842624 < n ∧ goodN k i v n S D = 2 ∨
        0 ≤ v ∧ v ≤ 5 ∧ 1 ≤ n ∧ n ≤ 1125899906842624 ∧ (0 < S.length ∧ goodN k i v n S D = 1 ∨ S.length ≤ 0 ∧ 0 < D.length ∧ goodN k i v n S D = 1))) ∨
      (k = 2 ∧ ((v != 0) = true ∧ goodN k i v n S D = 1 ∨ v = 0 ∧ (n != 0) = true ∧ goodN k i v n S D = 1 ∨ v = 0 ∧ n = 0 ∧ (0 < S.length ∧ goodN k i v n S D = 1 ∨ S.length ≤ 0 ∧ 0 < D.length ∧ goodN k i v n S D = 1))) ∨
      (k = 1 ∧ ((v != 0) = true ∧ goodN k i v n S D = 1 ∨ v = 0 ∧ (n != 0) = true ∧ goodN k i v n S D = 1)) ∨
      (((k = 1 ∧ v = 0 ∧ n = 0) ∨ (k = 2 ∧ v = 0 ∧ n = 0 ∧ S.length ≤ 0 ∧ D.length ≤ 0) ∨ ((k = 3 ∨ k = 4) ∧ 0 ≤ v ∧ v ≤ 5 ∧ 1 ≤ n ∧ n ≤ 1125899906842624 ∧ S.length ≤ 0 ∧ D.length ≤ 0)) ∧
        goodN k i v n S D = if prisesFrom (-1) S = true ∧ risesFrom (-1) D = true then 0 else 2))) := by
  rcases Int.lt_or_le k 1 with h | h1
  · left; exact ⟨h, by rw [goodN, if_pos (Or.inl h)]⟩
  right
  rcases Int.lt_or_le 4 k with h | h2
  · left; exact ⟨h1, h, by rw [goodN, if_pos (Or.inr h)]⟩
  right
  rcases Int.lt_or_le i 1 with h | h3
  · left; exact ⟨h1, h2, h, by rw [goodN, if_neg (by omega), if_pos (Or.inl h)]⟩
  right
  rcases Int.lt_or_le 1099511627776 i with h | h4
  · left; exact ⟨h1, h2, h3, h, by rw [goodN, if_neg (by omega), if_pos (Or.inr h)]⟩
  right
  refine ⟨h3, h4, ?_⟩
  by_cases hk : k = 3 ∨ k = 4
  · have ha := accB_pos hk
    have hk1 : k ≠ 1 := by omega
    rcases Int.lt_or_le v 0 with h | hv
    · left; exact ⟨hk, .inl ⟨h, goodN_range h1 h2 h3 h4 ⟨ha, .inl (isV_neg (by omega))⟩⟩⟩
    rcases Int.lt_or_le 5 v with h | hv5
    · left; exact ⟨hk, .inr (.inl ⟨hv, h, goodN_range h1 h2 h3 h4 ⟨ha, .inl (isV_neg (by omega))⟩⟩)⟩
    rcases Int.lt_or_le n 1 with h | hn
    · left; exact ⟨hk, .inr (.inr (.inl ⟨hv, hv5, h, goodN_range h1 h2 h3 h4 ⟨ha, .inr (.inl h)⟩⟩))⟩
    rcases Int.lt_or_le 1125899906842624 n with h | hn2
    · left; exact ⟨hk, .inr (.inr (.inr (.inl ⟨hv, hv5, hn, h, goodN_range h1 h2 h3 h4 ⟨ha, .inr (.inr h)⟩⟩)))⟩
    have h5 : ¬ (accB k = true ∧ (isV v = false ∨ n < 1 ∨ 1125899906842624 < n)) := by rw [isV_pos hv (by omega)]; simp; omega
    rcases Nat.lt_or_ge 0 S.length with h | hs
    · left; exact ⟨hk, .inr (.inr (.inr (.inr ⟨hv, hv5, hn, hn2, .inl ⟨h, goodN_form h1 h2 h3 h4 h5 (by rw [forB_acc ha hk1]; simp; omega)⟩⟩)))⟩
    rcases Nat.lt_or_ge 0 D.length with h | hd
    · left; exact ⟨hk, .inr (.inr (.inr (.inr ⟨hv, hv5, hn, hn2, .inr ⟨hs, h, goodN_form h1 h2 h3 h4 h5 (by rw [forB_acc ha hk1]; simp; omega)⟩⟩)))⟩
    · right; right; right; exact ⟨.inr (.inr ⟨hk, hv, hv5, hn, hn2, hs, hd⟩), goodN_tail h1 h2 h3 h4 h5 (by rw [forB_acc ha hk1]; exact decide_eq_false (by omega))⟩
  right
  have h5 : ¬ (accB k = true ∧ (isV v = false ∨ n < 1 ∨ 1125899906842624 < n)) := by rw [accB_neg (by omega) (by omega)]; simp
  by_cases hk2 : k = 2
  · subst hk2
    by_cases hv : v = 0
    · by_cases hn : n = 0
      · rcases Nat.lt_or_ge 0 S.length with h | hs
        · left; exact ⟨rfl, .inr (.inr ⟨hv, hn, .inl ⟨h, goodN_form h1 h2 h3 h4 h5 (by rw [forB_two]; simp; omega)⟩⟩)⟩
        rcases Nat.lt_or_ge 0 D.length with h | hd
        · left; exact ⟨rfl, .inr (.inr ⟨hv, hn, .inr ⟨hs, h, goodN_form h1 h2 h3 h4 h5 (by rw [forB_two]; simp; omega)⟩⟩)⟩
        · right; right; exact ⟨.inr (.inl ⟨rfl, hv, hn, hs, hd⟩), goodN_tail h1 h2 h3 h4 h5 (by rw [forB_two]; exact decide_eq_false (by omega))⟩
      · left; exact ⟨rfl, .inr (.inl ⟨hv, by simpa using hn, goodN_form h1 h2 h3 h4 h5 (by rw [forB_two]; simp; omega)⟩)⟩
    · left; exact ⟨rfl, .inl ⟨by simpa using hv, goodN_form h1 h2 h3 h4 h5 (by rw [forB_two]; simp; omega)⟩⟩
  right
  have hk1 : k = 1 := by omega
  subst hk1
  by_cases hv : v = 0
  · by_cases hn : n = 0
    · right; exact ⟨.inl ⟨rfl, hv, hn⟩, goodN_tail h1 h2 h3 h4 h5 (by rw [forB_one]; simp; omega)⟩
    · left; exact ⟨rfl, .inr ⟨hv, by simpa using hn, goodN_form h1 h2 h3 h4 h5 (by rw [forB_one]; simp; omega)⟩⟩
  · left; exact ⟨rfl, .inl ⟨by simpa using hv, goodN_form h1 h2 h3 h4 h5 (by rw [forB_one]; simp; omega)⟩⟩

set_option maxHeartbeats 2000000 in
theorem gp_any (k i v n : Int) (S : List (Int × Int)) (D : List Int) (sa da : Option Addr) (cs cd sb so db dO : Nat) (w : World) (L : Lies w S D sa da sb so db dO) :
    Calls Try.prog 37 #[.agg #[.int .i64 k, .int .i64 i, .int .i64 v, .int .i64 n, .slice sa S.length cs, .slice da D.length cd]] w fun e w' => e = .returned (.int .i64 (goodN k i v n S D)) ∧ Below w.heap.size w w' := by
  have hls := L.hls
  have hld := L.hld
  unfold maxLen at hls hld
  have hcs := gp_cases k i v n S D
  generalize goodN k i v n S D = G at *
  rcases hcs with ⟨h1, rfl⟩ | ⟨h1, h2, rfl⟩ | ⟨h1, h2, h3, rfl⟩ | ⟨h1, h2, h3, h4, rfl⟩ | ⟨h1, h2, ⟨rfl | rfl, ⟨h3, rfl⟩ | ⟨h3, h4, rfl⟩ | ⟨h3, h4, h5, rfl⟩ | ⟨h3, h4, h5, h6, rfl⟩ | ⟨h3, h4, h5, h6, ⟨h7, rfl⟩ | ⟨h7, h8, rfl⟩⟩⟩ | ⟨rfl, ⟨h3, rfl⟩ | ⟨rfl, h4, rfl⟩ | ⟨rfl, rfl, ⟨h3, rfl⟩ | ⟨h3, h4, rfl⟩⟩⟩ | ⟨rfl, ⟨h3, rfl⟩ | ⟨rfl, h4, rfl⟩⟩ | ⟨hk, hG⟩⟩
  case inr.inr.inr.inr.inr.inr.inr => exact gp_loops k i v n S D sa da cs cd sb so db dO w L h1 h2 hk G hG
  all_goals clear L
  all_goals go_enter Try.func37, Try.ntmps37
  all_goals go_wp2
  all_goals go_ret
  all_goals exact ⟨rfl, below_new _ _⟩
end Go.Proofs.Ytdkalcnlncjgiaa.Cd

