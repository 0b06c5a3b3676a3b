/- Parts of the proof: CP CQ PVGR CE. -/
import Derived.Test.YtjghbciepinofaaGreatRows
import Derived.Test.YtjghbciepinofaaGreatPEK23
import Derived.Test.YtjghbciepinofaaGreatPEK25
import Derived.Deep.QuietTactic
import Derived.BigQuiet
import Derived.WalkSmall
set_option maxRecDepth 100000
namespace Go.Proofs.YtjghbciepinofaaGreat.Cd
open Go.RowKit

set_option maxHeartbeats 1000000 in
theorem gp_loops (k i v n : Int) (S : List (Int × Int)) (D : List Int) (sa da : Option Addr) (cs cd sb so db dO : Nat) (w : World) (L : Lies w S D sa da sb so db dO) (hi1 : 1 ≤ i) (hi2 : i ≤ 1099511627776)
    (hk : (k = 1 ∧ v = 0 ∧ n = 0) ∨ (k = 2 ∧ v = 0 ∧ n = 0 ∧ S.length ≤ 0 ∧ D.length ≤ 0) ∨ ((k = 3 ∨ k = 4) ∧ 0 ≤ v ∧ v ≤ 5 ∧ 1 ≤ n ∧ n ≤ 1125899906842624 ∧ S.length ≤ 0 ∧ D.length ≤ 0))
    (F : Int) (hF : F = if prisesFrom (-1) S = true ∧ risesFrom (-1) D = true then 0 else 2) :
    Calls Tryz.prog 94 #[.agg #[.int .i64 k, .int .i64 i, .int .i64 v, .int .i64 n, .slice sa S.length cs, .slice da D.length cd]] w fun e w' => e = .returned (.int .i64 F) ∧ Below w.heap.size w w' := by
  have HF : Hid _ := hF
  have hls := L.hls
  have hld := L.hld
  unfold maxLen at hls hld
  have PK := pkAt_new w k i v n (.slice sa S.length cs) (.slice da D.length cd)
  have L1 := L.later (below_new w (.cells #[.int .i64 k, .int .i64 i, .int .i64 v, .int .i64 n, .slice sa S.length cs, .slice da D.length cd] 49))
  have HSB : Hid ((0 < S.length → sb < w.heap.size + 1) ∧ (0 < D.length → db < w.heap.size + 1)) := ⟨fun h => Nat.lt_succ_of_lt (L.PS.lt h), fun h => Nat.lt_succ_of_lt (L.PD.lt h)⟩
  clear hF L
  rcases hk with ⟨rfl, rfl, rfl⟩ | ⟨rfl, rfl, rfl, h1, h2⟩ | ⟨rfl | rfl, h1, h2, h3, h4, h5, h6⟩
  all_goals go_enter Tryz.func94, Tryz.ntmps94
  all_goals go_wp2
  · go_loopw [4, 88] (fun last j wl => ∃ (m : Nat) (x : Int), m ≤ S.length ∧ j = .int .i64 m ∧ last = .int .i64 x ∧ -1 ≤ x ∧ Hid (prisesFrom (-1) S = prisesFrom x (S.drop m)) ∧ Hid (Below (w.heap.size + 1) (w.alloc (.cells #[.int .i64 1, .int .i64 i, .int .i64 0, .int .i64 0, .slice sa S.length cs, .slice da D.length cd] 49)) wl)) (fun _ j _ => S.length - (intOf j).toNat)
    case atStart => exact ⟨0, -1, Nat.zero_le _, rfl, rfl, by omega, by simp [Hid], Below.refl _ _⟩
    case round =>
      obtain ⟨m, x, hm, rfl, rfl, hx, HR, HB⟩ := hrel
      have hB0 : w.heap.size + 1 ≤ wr.heap.size := by have := HB.out.size; simpa using this
      by_cases hlt : m < S.length
      · have hcell := L1.PS.laterB HB.out HSB.out.1 m hlt
        have hd := prises_drop S m hlt x
        obtain ⟨y, hy⟩ : ∃ y, S.getD m (0, 0) = y := ⟨_, rfl⟩
        rw [hy] at hcell hd
        obtain ⟨y, z⟩ := y
        have e := L1.hsa (by omega)
        subst e
        dsimp only at hd
        obtain ⟨hc0, hc1⟩ := hcell
        dsimp only at hc0 hc1
        have HD : Hid _ := hd
        clear hd hy
        have hfin : ∀ w', Below (w.heap.size + 1) (w.alloc (.cells #[.int .i64 1, .int .i64 i, .int .i64 0, .int .i64 0, .slice (some ⟨sb, so, none⟩) S.length cs, .slice da D.length cd] 49)) w' → Below w.heap.size w w' := fun w' h => below_step (by simpa using h)
        have HFIN : Hid _ := hfin
        clear hfin
        by_cases hbad : y ≤ x ∨ 5 < y ∨ z < 0 ∨ 1125899906842624 < z
        · have E : Hid (F = 2) := by
            have : prisesFrom (-1) S = false := by
              rw [HR.out, HD.out]
              rcases hbad with h | h | h | h
              · rw [decide_eq_false (by omega)]; simp
              · rw [isV_neg (by omega)]; simp
              · rw [decide_eq_false (p := 0 ≤ z) (by omega)]; simp
              · rw [decide_eq_false (p := z ≤ 1125899906842624) (by omega)]; simp
            show _ = _
            rw [HF.out, if_neg (by rw [this]; simp)]
          clear HF HR HD
          by_cases h1 : y ≤ x
          · go_wp2
            go_ret
            exact ⟨by rw [E.out]; rfl, HFIN.out _ (HB.out.alloc hB0 _)⟩
          by_cases h2 : 5 < y
          · go_wp2
            go_ret
            exact ⟨by rw [E.out]; rfl, HFIN.out _ (HB.out.alloc hB0 _)⟩
          by_cases h3 : z < 0
          · go_wp2
            go_ret
            exact ⟨by rw [E.out]; rfl, HFIN.out _ (HB.out.alloc hB0 _)⟩
          have h4 : 1125899906842624 < z := by omega
          clear hbad
          go_wp2
          go_ret
          exact ⟨by rw [E.out]; rfl, HFIN.out _ (HB.out.alloc hB0 _)⟩
        · have h1 : x < y := by omega
          have h2 : y ≤ 5 := by omega
          have h3 : 0 ≤ z := by omega
          have h4 : z ≤ 1125899906842624 := by omega
          have E : Hid (prisesFrom (-1) S = prisesFrom y (S.drop (m + 1))) := by
            show _ = _
            rw [HR.out, HD.out, decide_eq_true h1, isV_pos (by omega) (by omega), decide_eq_true h3, decide_eq_true h4]; simp
          clear hbad HD HR
          go_wp2
          go_roundw
          case rel => exact ⟨m + 1, y, by omega, by go_num, rfl, by omega, E, HB.out.alloc hB0 _⟩
          case measure => simp [intOf]; omega
      · have PK2 := PK.later HB.out (Nat.lt_succ_self _)
        obtain ⟨c0, c1, c2, c3, c4, c5⟩ := PK2
        have HP : Hid (prisesFrom (-1) S = true) := by show _ = _; rw [HR.out, List.drop_of_length_le (by omega)]; rfl
        have L2 : Lies wr S D sa da sb so db dO := ⟨L1.hls, L1.hld, L1.hsa, L1.hda, L1.PS.laterB HB.out HSB.out.1, L1.PD.laterB HB.out HSB.out.2⟩
        have HB2 : Hid (Below w.heap.size w wr) := below_step (by simpa using HB.out)
        clear HR HB PK L1 HSB
        go_wp2
        clear c0 c1 c2 c3 c4 c5
        go_loop [4, 117] (fun last j => ∃ (m : Nat) (x : Int), m ≤ D.length ∧ j = .int .i64 m ∧ last = .int .i64 x ∧ -1 ≤ x ∧ Hid (risesFrom (-1) D = risesFrom x (D.drop m))) (fun _ j => D.length - (intOf j).toNat)
        case atStart => exact ⟨0, -1, Nat.zero_le _, rfl, rfl, by omega, by simp [Hid]⟩
        case round =>
          obtain ⟨m, x, hm, rfl, rfl, hx, HR⟩ := hrel
          by_cases hlt : m < D.length
          · have hcell := L2.PD m hlt
            have hd := rises_drop D m hlt x
            obtain ⟨y, hy⟩ : ∃ y, D.getD m 0 = y := ⟨_, rfl⟩
            rw [hy] at hcell hd
            have e := L2.hda (by omega)
            subst e
            have HD : Hid _ := hd
            clear hd hy
            by_cases hbad : y ≤ x ∨ 5 < y
            · have E : Hid (F = 2) := by
                have : risesFrom (-1) D = false := by
                  rw [HR.out, HD.out]
                  rcases hbad with h | h
                  · rw [decide_eq_false (by omega)]; simp
                  · rw [isV_neg (by omega)]; simp
                show _ = _
                rw [HF.out, if_neg (by rw [this]; simp)]
              clear HF HR HD
              by_cases h1 : y ≤ x
              · go_wp2
                go_ret
                exact ⟨by rw [E.out]; rfl, HB2.out⟩
              have h2 : 5 < y := by omega
              clear hbad
              go_wp2
              go_ret
              exact ⟨by rw [E.out]; rfl, HB2.out⟩
            · have h1 : x < y := by omega
              have h2 : y ≤ 5 := by omega
              have E : Hid (risesFrom (-1) D = risesFrom y (D.drop (m + 1))) := by
                show _ = _
                rw [HR.out, HD.out, decide_eq_true h1, isV_pos (by omega) (by omega)]; simp
              clear hbad HD HR
              go_wp2
              go_round
              case rel => exact ⟨m + 1, y, by omega, by go_num, rfl, by omega, E⟩
              case measure => simp [intOf]; omega
          · have E : Hid (F = 0) := by
              show _ = _
              rw [HF.out, if_pos ⟨HP.out, by rw [HR.out, List.drop_of_length_le (by omega)]; rfl⟩]
            go_wp2
            go_ret
            exact ⟨by rw [E.out]; rfl, HB2.out⟩
  all_goals
    have hS0 : S = [] := List.eq_nil_of_length_eq_zero (by omega)
    have hD0 : D = [] := List.eq_nil_of_length_eq_zero (by omega)
    have E : Hid (F = 0) := by
      show _ = _
      rw [HF.out, hS0, hD0]; rfl
    clear hS0 hD0 HF PK L1 HSB
    refine wp_loop_rounds 1 ?_
    rw [rounds_succ]
    go_wp2
    refine wp_loop_rounds 1 ?_
    rw [rounds_succ]
    go_wp2
    go_ret
    exact ⟨by rw [E.out]; rfl, below_new _ _⟩
end Go.Proofs.YtjghbciepinofaaGreat.Cd

set_option maxRecDepth 100000
namespace Go.Proofs.YtjghbciepinofaaGreat.Cd
open Go.RowKit
theorem accB_1 : accB 1 = false := rfl
theorem accB_2 : accB 2 = false := rfl
theorem forB_acc {k v n : Int} {a b : Nat} (h : accB k = true) (hk : k ≠ 1) : forB k v n a b = decide (0 < a ∨ 0 < b) := by
  rw [Bool.eq_iff_iff]
  simp [forB, h, hk]; omega
theorem forB_two {v n : Int} {a b : Nat} : forB 2 v n a b = decide (v ≠ 0 ∨ n ≠ 0 ∨ 0 < a ∨ 0 < b) := by
  rw [Bool.eq_iff_iff]
  simp [forB, accB_2]; omega
theorem forB_one {v n : Int} {a b : Nat} : forB 1 v n a b = decide (v ≠ 0 ∨ n ≠ 0) := by
  rw [Bool.eq_iff_iff]
  simp [forB, accB_1]
theorem goodN_tail {k i v n : Int} {S : List (Int × Int)} {D : List Int} (h1 : 1 ≤ k) (h2 : k ≤ 4) (h3 : 1 ≤ i) (h4 : i ≤ 1099511627776) (h5 : ¬ (accB k = true ∧ (isV v = false ∨ n < 1 ∨ 1125899906842624 < n))) (h6 : forB k v n S.length D.length = false) :
    goodN k i v n S D = if prisesFrom (-1) S = true ∧ risesFrom (-1) D = true then 0 else 2 := by
  rw [goodN, if_neg (by omega), if_neg (by omega), if_neg h5, if_neg (by rw [h6]; simp)]
  cases prisesFrom (-1) S <;> cases risesFrom (-1) D <;> rfl
theorem goodN_form {k i v n : Int} {S : List (Int × Int)} {D : List Int} (h1 : 1 ≤ k) (h2 : k ≤ 4) (h3 : 1 ≤ i) (h4 : i ≤ 1099511627776) (h5 : ¬ (accB k = true ∧ (isV v = false ∨ n < 1 ∨ 1125899906842624 < n))) (h6 : forB k v n S.length D.length = true) :
    goodN k i v n S D = 1 := by
  rw [goodN, if_neg (by omega), if_neg (by omega), if_neg h5, if_pos h6]
theorem goodN_range {k i v n : Int} {S : List (Int × Int)} {D : List Int} (h1 : 1 ≤ k) (h2 : k ≤ 4) (h3 : 1 ≤ i) (h4 : i ≤ 1099511627776) (h5 : accB k = true ∧ (isV v = false ∨ n < 1 ∨ 1125899906842624 < n)) :
    goodN k i v n S D = 2 := by
  rw [goodN, if_neg (by omega), if_neg (by omega), if_pos h5]

theorem gp_cases (k i v n : Int) (S : List (Int × Int)) (D : List Int) :
    (k < 1 ∧ goodN k i v n S D = 3) ∨ (1 ≤ k ∧ 4 < k ∧ goodN k i v n S D = 3) ∨ (1 ≤ k ∧ k ≤ 4 ∧ i < 1 ∧ goodN k i v n S D = 2) ∨ (1 ≤ k ∧ k ≤ 4 ∧ 1 ≤ i ∧ 1099511627776 < i ∧ goodN k i v n S D = 2) ∨
    (1 ≤ i ∧ i ≤ 1099511627776 ∧
     (((k = 3 ∨ k = 4) ∧ (v < 0 ∧ goodN k i v n S D = 2 ∨ 0 ≤ v ∧ 5 < v ∧ goodN k i v n S D = 2 ∨ 0 ≤ v ∧ v ≤ 5 ∧ n < 1 ∧ goodN k i v n S D = 2 ∨ 0 ≤ v ∧ v ≤ 5 ∧ 1 ≤ n ∧ 1125899906842624 < n ∧ goodN k i v n S D = 2 ∨
        0 ≤ v ∧ v ≤ 5 ∧ 1 ≤ n ∧ n ≤ 1125899906842624 ∧ (0 < S.length ∧ goodN k i v n S D = 1 ∨ S.length ≤ 0 ∧ 0 < D.length ∧ goodN k i v n S D = 1))) ∨
      (k = 2 ∧ ((v != 0) = true ∧ goodN k i v n S D = 1 ∨ v = 0 ∧ (n != 0) = true ∧ goodN k i v n S D = 1 ∨ v = 0 ∧ n = 0 ∧ (0 < S.length ∧ goodN k i v n S D = 1 ∨ S.length ≤ 0 ∧ 0 < D.length ∧ goodN k i v n S D = 1))) ∨
      (k = 1 ∧ ((v != 0) = true ∧ goodN k i v n S D = 1 ∨ v = 0 ∧ (n != 0) = true ∧ goodN k i v n S D = 1)) ∨
      (((k = 1 ∧ v = 0 ∧ n = 0) ∨ (k = 2 ∧ v = 0 ∧ n = 0 ∧ S.length ≤ 0 ∧ D.length ≤ 0) ∨ ((k = 3 ∨ k = 4) ∧ 0 ≤ v ∧ v ≤ 5 ∧ 1 ≤ n ∧ n ≤ 1125899906842624 ∧ S.length ≤ 0 ∧ D.length ≤ 0)) ∧
        goodN k i v n S D = if prisesFrom (-1) S = true ∧ risesFrom (-1) D = true then 0 else 2))) := by
  rcases Int.lt_or_le k 1 with h | h1
  · left; exact ⟨h, by rw [goodN, if_pos (Or.inl h)]⟩
  right
  rcases Int.lt_or_le 4 k with h | h2
  · left; exact ⟨h1, h, by rw [goodN, if_pos (Or.inr h)]⟩
  right
  rcases Int.lt_or_le i 1 with h | h3
  · left; exact ⟨h1, h2, h, by rw [goodN, if_neg (by omega), if_pos (Or.inl h)]⟩
  right
  rcases Int.lt_or_le 1099511627776 i with h | h4
  · left; exact ⟨h1, h2, h3, h, by rw [goodN, if_neg (by omega), if_pos (Or.inr h)]⟩
  right
  refine ⟨h3, h4, ?_⟩
  by_cases hk : k = 3 ∨ k = 4
  · have ha := accB_pos hk
    have hk1 : k ≠ 1 := by omega
    rcases Int.lt_or_le v 0 with h | hv
    · left; exact ⟨hk, .inl ⟨h, goodN_range h1 h2 h3 h4 ⟨ha, .inl (isV_neg (by omega))⟩⟩⟩
    rcases Int.lt_or_le 5 v with h | hv5
    · left; exact ⟨hk, .inr (.inl ⟨hv, h, goodN_range h1 h2 h3 h4 ⟨ha, .inl (isV_neg (by omega))⟩⟩)⟩
    rcases Int.lt_or_le n 1 with h | hn
    · left; exact ⟨hk, .inr (.inr (.inl ⟨hv, hv5, h, goodN_range h1 h2 h3 h4 ⟨ha, .inr (.inl h)⟩⟩))⟩
    rcases Int.lt_or_le 1125899906842624 n with h | hn2
    · left; exact ⟨hk, .inr (.inr (.inr (.inl ⟨hv, hv5, hn, h, goodN_range h1 h2 h3 h4 ⟨ha, .inr (.inr h)⟩⟩)))⟩
    have h5 : ¬ (accB k = true ∧ (isV v = false ∨ n < 1 ∨ 1125899906842624 < n)) := by rw [isV_pos hv (by omega)]; simp; omega
    rcases Nat.lt_or_ge 0 S.length with h | hs
    · left; exact ⟨hk, .inr (.inr (.inr (.inr ⟨hv, hv5, hn, hn2, .inl ⟨h, goodN_form h1 h2 h3 h4 h5 (by rw [forB_acc ha hk1]; simp; omega)⟩⟩)))⟩
    rcases Nat.lt_or_ge 0 D.length with h | hd
    · left; exact ⟨hk, .inr (.inr (.inr (.inr ⟨hv, hv5, hn, hn2, .inr ⟨hs, h, goodN_form h1 h2 h3 h4 h5 (by rw [forB_acc ha hk1]; simp; omega)⟩⟩)))⟩
    · right; right; right; exact ⟨.inr (.inr ⟨hk, hv, hv5, hn, hn2, hs, hd⟩), goodN_tail h1 h2 h3 h4 h5 (by rw [forB_acc ha hk1]; exact decide_eq_false (by omega))⟩
  right
  have h5 : ¬ (accB k = true ∧ (isV v = false ∨ n < 1 ∨ 1125899906842624 < n)) := by rw [accB_neg (by omega) (by omega)]; simp
  by_cases hk2 : k = 2
  · subst hk2
    by_cases hv : v = 0
    · by_cases hn : n = 0
      · rcases Nat.lt_or_ge 0 S.length with h | hs
        · left; exact ⟨rfl, .inr (.inr ⟨hv, hn, .inl ⟨h, goodN_form h1 h2 h3 h4 h5 (by rw [forB_two]; simp; omega)⟩⟩)⟩
        rcases Nat.lt_or_ge 0 D.length with h | hd
        · left; exact ⟨rfl, .inr (.inr ⟨hv, hn, .inr ⟨hs, h, goodN_form h1 h2 h3 h4 h5 (by rw [forB_two]; simp; omega)⟩⟩)⟩
        · right; right; exact ⟨.inr (.inl ⟨rfl, hv, hn, hs, hd⟩), goodN_tail h1 h2 h3 h4 h5 (by rw [forB_two]; exact decide_eq_false (by omega))⟩
      · left; exact ⟨rfl, .inr (.inl ⟨hv, by simpa using hn, goodN_form h1 h2 h3 h4 h5 (by rw [forB_two]; simp; omega)⟩)⟩
    · left; exact ⟨rfl, .inl ⟨by simpa using hv, goodN_form h1 h2 h3 h4 h5 (by rw [forB_two]; simp; omega)⟩⟩
  right
  have hk1 : k = 1 := by omega
  subst hk1
  by_cases hv : v = 0
  · by_cases hn : n = 0
    · right; exact ⟨.inl ⟨rfl, hv, hn⟩, goodN_tail h1 h2 h3 h4 h5 (by rw [forB_one]; simp; omega)⟩
    · left; exact ⟨rfl, .inr ⟨hv, by simpa using hn, goodN_form h1 h2 h3 h4 h5 (by rw [forB_one]; simp; omega)⟩⟩
  · left; exact ⟨rfl, .inl ⟨by simpa using hv, goodN_form h1 h2 h3 h4 h5 (by rw [forB_one]; simp; omega)⟩⟩

set_option maxHeartbeats 2000000 in
theorem gp_any (k i v n : Int) (S : List (Int × Int)) (D : List Int) (sa da : Option Addr) (cs cd sb so db dO : Nat) (w : World) (L : Lies w S D sa da sb so db dO) :
    Calls Tryz.prog 94 #[.agg #[.int .i64 k, .int .i64 i, .int .i64 v, .int .i64 n, .slice sa S.length cs, .slice da D.length cd]] w fun e w' => e = .returned (.int .i64 (goodN k i v n S D)) ∧ Below w.heap.size w w' := by
  have hls := L.hls
  have hld := L.hld
  unfold maxLen at hls hld
  have hcs := gp_cases k i v n S D
  generalize goodN k i v n S D = G at *
  rcases hcs with ⟨h1, rfl⟩ | ⟨h1, h2, rfl⟩ | ⟨h1, h2, h3, rfl⟩ | ⟨h1, h2, h3, h4, rfl⟩ | ⟨h1, h2, ⟨rfl | rfl, ⟨h3, rfl⟩ | ⟨h3, h4, rfl⟩ | ⟨h3, h4, h5, rfl⟩ | ⟨h3, h4, h5, h6, rfl⟩ | ⟨h3, h4, h5, h6, ⟨h7, rfl⟩ | ⟨h7, h8, rfl⟩⟩⟩ | ⟨rfl, ⟨h3, rfl⟩ | ⟨rfl, h4, rfl⟩ | ⟨rfl, rfl, ⟨h3, rfl⟩ | ⟨h3, h4, rfl⟩⟩⟩ | ⟨rfl, ⟨h3, rfl⟩ | ⟨rfl, h4, rfl⟩⟩ | ⟨hk, hG⟩⟩
  case inr.inr.inr.inr.inr.inr.inr => exact gp_loops k i v n S D sa da cs cd sb so db dO w L h1 h2 hk G hG
  all_goals clear L
  all_goals go_enter Tryz.func94, Tryz.ntmps94
  all_goals go_wp2
  all_goals go_ret
  all_goals exact ⟨rfl, below_new _ _⟩
end Go.Proofs.YtjghbciepinofaaGreat.Cd

set_option maxRecDepth 100000
namespace Go.Proofs.YtjghbciepinofaaGreat.Pv
open Go.RowKit
def setB1 (last : Int) (x : Int × Int) : Bool := decide (last < x.1) && decide (x.1 ≤ 5) && decide (1 ≤ x.2) && decide (x.2 ≤ 1125899906842624)
/-- a set: validators that rise, with powers -/
def setB (last : Int) : List (Int × Int) → Bool
  | [] => true
  | x :: l => setB1 last x && setB x.1 l
/-- validators that rise -/
def riseB (last : Int) : List Int → Bool
  | [] => true
  | x :: l => (decide (last < x) && decide (x ≤ 5)) && riseB x l
theorem drop_at' {α : Type} {l : List α} {k : Nat} (h : k < l.length) : ∃ x, l[k]? = some x ∧ l.drop k = x :: l.drop (k + 1) := ⟨l[k], List.getElem?_eq_getElem h, List.drop_eq_getElem_cons h⟩
set_option maxHeartbeats 2000000 in
theorem isset_rep (l : List (Int × Int)) (v : Value) (P : Nat → Prop) (w : World) (h : Rep P w v 2 16 (pwC l)) : Calls Tryz.prog 92 #[v] w fun e w' => e = .returned (.bool (setB (-1) l)) ∧ Below w.heap.size w w' := by
  obtain ⟨A, C, rfl, hs, -, hc, -⟩ := h.open (pwC_length _) (by decide)
  have HC := hide hc
  have hlen : l.length ≤ 8796093022202 := by omega
  obtain ⟨G, hG⟩ : ∃ G, setB (-1) l = G := ⟨_, rfl⟩
  have HG := hide hG
  rw [hG]
  clear hc h hs hG
  go_enter Tryz.func92, Tryz.ntmps92
  go_upto_region 3 with fail
  go_loopw [3, 8] (fun s3 i wl => ∃ (k : Nat) (last : Int), k ≤ l.length ∧ i = .int .i64 (k : Int) ∧ s3 = .int .i64 last ∧ Hid (G = setB last (l.drop k) ∧ Below w.heap.size w wl)) (fun _ i _ => l.length - (intOf i).toNat)
  case atStart => exact ⟨0, -1, Nat.zero_le _, rfl, rfl, HG.out.symm, Below.refl _ _⟩
  case round =>
    obtain ⟨k, last, hk, rfl, rfl, HR⟩ := hrel
    by_cases hlt : k < l.length
    · have hkI : (k : Int) < (l.length : Int) := by omega
      obtain ⟨x, hx, hd⟩ := drop_at' hlt
      obtain ⟨b, off, rfl, -, hbl, hcell⟩ := HC.out (by omega)
      have gx : l.getD k (0, 0) = x := by simp [List.getD, hx]
      obtain ⟨p0, p1⟩ := pwC_get l k hlt
      rw [gx] at p0 p1
      have c0 : wr.cell? ⟨b, off + k * 2, none⟩ = some (.int .i64 x.1) := (HR.out.2.cell (p := ⟨b, off + k * 2, none⟩) hbl).trans (hcell _ _ p0)
      have c1 : wr.cell? ⟨b, off + k * 2 + 1, none⟩ = some (.int .i64 x.2) := (HR.out.2.cell (p := ⟨b, off + k * 2 + 1, none⟩) hbl).trans (hcell _ _ p1)
      have HE : Hid (G = (setB1 last x && setB x.1 (l.drop (k + 1)))) := by have := HR.out.1; rw [hd] at this; exact this
      have HB := hide (HR.out.2.alloc HR.out.2.size (.cells #[.int .i64 x.1, .int .i64 x.2] 74))
      have HO : Hid (∀ last, setB1 last x = (decide (last < x.1) && decide (x.1 ≤ 5) && decide (1 ≤ x.2) && decide (x.2 ≤ 1125899906842624))) := fun _ => rfl
      clear HR hd hx gx p0 p1 hcell
      obtain ⟨x1, x2⟩ := x
      dsimp only at c0 c1
      by_cases h1 : last < x1 ∧ x1 ≤ 5 ∧ 1 ≤ x2 ∧ x2 ≤ 1125899906842624
      · obtain ⟨h1, h2, h3, h4⟩ := h1
        have e : G = setB x1 (l.drop (k + 1)) := by rw [HE.out, HO.out]; simp [h1, h2, h3, h4]
        have HE2 := hide e
        clear e HE
        go_wp2
        first | exact ⟨⟨k + 1, x1, by omega, by go_num, rfl, HE2.out, HB.out⟩, by simp [intOf]; omega⟩ | ((repeat apply Exists.intro); exact ⟨⟨k + 1, x1, by omega, by go_num, rfl, HE2.out, HB.out⟩, rfl⟩)
      · have e : G = false := by
          rw [HE.out, HO.out]
          simp only [Bool.and_eq_false_iff, decide_eq_false_iff_not]
          by_cases q1 : last < x1
          · by_cases q2 : x1 ≤ 5
            · by_cases q3 : 1 ≤ x2
              · exact .inl (.inr fun q4 => h1 ⟨q1, q2, q3, q4⟩)
              · exact .inl (.inl (.inr q3))
            · exact .inl (.inl (.inl (.inr q2)))
          · exact .inl (.inl (.inl (.inl q1)))
        subst e
        clear HE HG
        have hcs : ¬ last < x1 ∨ (last < x1 ∧ ¬ x1 ≤ 5) ∨ (last < x1 ∧ x1 ≤ 5 ∧ ¬ 1 ≤ x2) ∨ (last < x1 ∧ x1 ≤ 5 ∧ 1 ≤ x2 ∧ ¬ x2 ≤ 1125899906842624) := by omega
        clear h1
        rcases hcs with h1 | ⟨h1, h2⟩ | ⟨h1, h2, h3⟩ | ⟨h1, h2, h3, h4⟩
        all_goals
          go_wp2
          go_ret
          exact ⟨rfl, HB.out⟩
    · obtain rfl : k = l.length := by omega
      have e : G = true := by have := HR.out.1; rw [List.drop_length] at this; exact this
      subst e
      go_wp2
      go_ret
      exact ⟨rfl, HR.out.2⟩
end Go.Proofs.YtjghbciepinofaaGreat.Pv

set_option maxRecDepth 100000
namespace Go.Proofs.YtjghbciepinofaaGreat.Cd
open Go.RowKit
theorem take_step {α : Type} {l m : List α} {k : Nat} (d : α) (h : l.take k = m.take k) (hl : k < l.length) (hm : k < m.length) (he : l.getD k d = m.getD k d) : l.take (k + 1) = m.take (k + 1) := by
  rw [List.take_succ_eq_append_getElem hl, List.take_succ_eq_append_getElem hm, h]
  simp [List.getD, hl, hm] at he
  rw [he]
set_option maxHeartbeats 400000 in
theorem pws30 (l m : List (Int × Int)) (a a' : Option Addr) (c c' b off b' off' : Nat) (w : World) (hlen : l.length ≤ maxLen) (hlen' : m.length ≤ maxLen) (ha : 0 < l.length → a = some ⟨b, off, none⟩) (ha' : 0 < m.length → a' = some ⟨b', off', none⟩)
    (hc : PwsAt w b off l) (hc' : PwsAt w b' off' m) :
    Calls Tryz.prog 55 #[.slice a l.length c, .slice a' m.length c'] w fun e w' => e = .returned (.bool (decide (l = m))) ∧ Below w.heap.size w w' := by
  unfold maxLen at hlen hlen'
  have HA : Hid (0 < l.length → a = some ⟨b, off, none⟩) := ha
  have HA' : Hid (0 < m.length → a' = some ⟨b', off', none⟩) := ha'
  clear ha ha'
  by_cases hne : l.length = m.length
  · have h0 : ((l.length : Int) != (m.length : Int)) = false := by simp [hne]
    have HN : Hid (l.length = m.length) := hne
    have hle : l.length ≤ m.length := by omega
    have hle' : m.length ≤ l.length := by omega
    clear hne
    go_enter Tryz.func55, Tryz.ntmps55
    go_wp2
    go_loopw [13] (fun i wl => ∃ k : Nat, k ≤ l.length ∧ i = .int .i64 k ∧ Hid (l.take k = m.take k) ∧ Hid (Below w.heap.size w wl)) (fun i _ => l.length - (intOf i).toNat)
    case atStart => exact ⟨0, Nat.zero_le _, rfl, rfl, Below.refl _ _⟩
    case round =>
      obtain ⟨k, hk, rfl, HR, HB⟩ := hrel
      by_cases hlt : k < l.length
      · have hcell := hc.later HB.out k hlt
        have hlt' : k < m.length := by omega
        have hcell' := hc'.later HB.out k hlt'
        obtain ⟨y, hy⟩ : ∃ y, l.getD k (0, 0) = y := ⟨_, rfl⟩
        obtain ⟨z, hz⟩ : ∃ z, m.getD k (0, 0) = z := ⟨_, rfl⟩
        rw [hy] at hcell
        rw [hz] at hcell'
        obtain ⟨hc0, hc1⟩ := hcell
        obtain ⟨hd0, hd1⟩ := hcell'
        have e := HA.out (by omega)
        subst e
        have e := HA'.out (by omega)
        subst e
        have HY : Hid (l.getD k (0, 0) = y ∧ m.getD k (0, 0) = z) := ⟨hy, hz⟩
        clear hy hz
        obtain ⟨y0, y1⟩ := y
        obtain ⟨z0, z1⟩ := z
        dsimp only at hc0 hc1 hd0 hd1
        by_cases hyz : (y0, y1) = (z0, z1)
        · cases hyz
          go_wp2_with fail
          go_quiet (fail)
          go_wp2
          go_roundw
          case rel => exact ⟨k + 1, by omega, by go_num, take_step (0, 0) HR.out hlt hlt' (HY.out.1.trans HY.out.2.symm), below_drewN HB.out _⟩
          case measure => simp [intOf]; omega
        · have HF : Hid (decide (l = m) = false) := by
            show _ = _
            rw [decide_eq_false_iff_not]
            intro e; subst e; exact hyz (HY.out.1.symm.trans HY.out.2)
          by_cases h1 : y0 = z0
          · subst h1
            have hb : (y1 == z1) = false := by simp; intro h2; exact hyz (by rw [h2])
            clear hyz
            go_wp2_with fail
            go_quiet (fail)
            go_wp2
            go_ret
            exact ⟨by rw [HF.out]; rfl, below_drewN HB.out _⟩
          · have hb : (y0 == z0) = false := by simpa using h1
            clear hyz h1
            go_wp2_with fail
            go_quiet (fail)
            go_wp2
            go_ret
            exact ⟨by rw [HF.out]; rfl, below_drewN HB.out _⟩
      · have HF : Hid (decide (l = m) = true) := by
          show _ = _
          rw [decide_eq_true_eq]
          have h := HR.out
          rwa [List.take_of_length_le (by omega), List.take_of_length_le (by omega)] at h
        go_wp2
        go_ret
        exact ⟨by rw [HF.out]; rfl, HB.out⟩
  · have HF : Hid (decide (l = m) = false) := by
      show _ = _
      rw [decide_eq_false_iff_not]
      intro e; subst e; exact hne rfl
    have h0 : ((l.length : Int) != (m.length : Int)) = true := by simp; omega
    clear hne
    go_enter Tryz.func55, Tryz.ntmps55
    go_wp2
    go_ret
    exact ⟨by rw [HF.out]; rfl, Below.refl _ _⟩
set_option maxHeartbeats 400000 in
theorem nums31 (l m : List Int) (a a' : Option Addr) (c c' b off b' off' : Nat) (w : World) (hlen : l.length ≤ maxLen) (hlen' : m.length ≤ maxLen) (ha : 0 < l.length → a = some ⟨b, off, none⟩) (ha' : 0 < m.length → a' = some ⟨b', off', none⟩)
    (hc : IntsAt w b off l) (hc' : IntsAt w b' off' m) :
    Calls Tryz.prog 18 #[.slice a l.length c, .slice a' m.length c'] w fun e w' => e = .returned (.bool (decide (l = m))) ∧ Below w.heap.size w w' := by
  unfold maxLen at hlen hlen'
  have HA : Hid (0 < l.length → a = some ⟨b, off, none⟩) := ha
  have HA' : Hid (0 < m.length → a' = some ⟨b', off', none⟩) := ha'
  clear ha ha'
  by_cases hne : l.length = m.length
  · have h0 : ((l.length : Int) != (m.length : Int)) = false := by simp [hne]
    have HN : Hid (l.length = m.length) := hne
    have hle : l.length ≤ m.length := by omega
    have hle' : m.length ≤ l.length := by omega
    clear hne
    go_enter Tryz.func18, Tryz.ntmps18
    go_wp2
    go_loopw [13] (fun i wl => ∃ k : Nat, k ≤ l.length ∧ i = .int .i64 k ∧ Hid (l.take k = m.take k) ∧ Hid (Below w.heap.size w wl)) (fun i _ => l.length - (intOf i).toNat)
    case atStart => exact ⟨0, Nat.zero_le _, rfl, rfl, Below.refl _ _⟩
    case round =>
      obtain ⟨k, hk, rfl, HR, HB⟩ := hrel
      by_cases hlt : k < l.length
      · have hcell := hc.later HB.out k hlt
        have hlt' : k < m.length := by omega
        have hcell' := hc'.later HB.out k hlt'
        obtain ⟨y, hy⟩ : ∃ y, l.getD k 0 = y := ⟨_, rfl⟩
        obtain ⟨z, hz⟩ : ∃ z, m.getD k 0 = z := ⟨_, rfl⟩
        rw [hy] at hcell
        rw [hz] at hcell'
        have e := HA.out (by omega)
        subst e
        have e := HA'.out (by omega)
        subst e
        have HY : Hid (l.getD k 0 = y ∧ m.getD k 0 = z) := ⟨hy, hz⟩
        clear hy hz
        by_cases hyz : y = z
        · subst hyz
          go_wp2_with fail
          go_quiet (fail)
          go_wp2
          go_roundw
          case rel => exact ⟨k + 1, by omega, by go_num, take_step 0 HR.out hlt hlt' (HY.out.1.trans HY.out.2.symm), below_drewN HB.out _⟩
          case measure => simp [intOf]; omega
        · have HF : Hid (decide (l = m) = false) := by
            show _ = _
            rw [decide_eq_false_iff_not]
            intro e; subst e; exact hyz (HY.out.1.symm.trans HY.out.2)
          have hb : (y != z) = true := by simpa using hyz
          clear hyz
          go_wp2_with fail
          go_quiet (fail)
          go_wp2
          go_ret
          exact ⟨by rw [HF.out]; rfl, below_drewN HB.out _⟩
      · have HF : Hid (decide (l = m) = true) := by
          show _ = _
          rw [decide_eq_true_eq]
          have h := HR.out
          rwa [List.take_of_length_le (by omega), List.take_of_length_le (by omega)] at h
        go_wp2
        go_ret
        exact ⟨by rw [HF.out]; rfl, HB.out⟩
  · have HF : Hid (decide (l = m) = false) := by
      show _ = _
      rw [decide_eq_false_iff_not]
      intro e; subst e; exact hne rfl
    have h0 : ((l.length : Int) != (m.length : Int)) = true := by simp; omega
    clear hne
    go_enter Tryz.func18, Tryz.ntmps18
    go_wp2
    go_ret
    exact ⟨by rw [HF.out]; rfl, Below.refl _ _⟩
theorem same_cases (k i v n k' i' v' n' : Int) (S S' : List (Int × Int)) (D D' : List Int) :
    ((k == k') = false ∧ decide (k = k' ∧ i = i' ∧ v = v' ∧ n = n' ∧ S = S' ∧ D = D') = false) ∨
    (k = k' ∧ (i == i') = false ∧ decide (k = k' ∧ i = i' ∧ v = v' ∧ n = n' ∧ S = S' ∧ D = D') = false) ∨
    (k = k' ∧ i = i' ∧ (v == v') = false ∧ decide (k = k' ∧ i = i' ∧ v = v' ∧ n = n' ∧ S = S' ∧ D = D') = false) ∨
    (k = k' ∧ i = i' ∧ v = v' ∧ (n == n') = false ∧ decide (k = k' ∧ i = i' ∧ v = v' ∧ n = n' ∧ S = S' ∧ D = D') = false) ∨
    (k = k' ∧ i = i' ∧ v = v' ∧ n = n' ∧ decide (S = S') = false ∧ decide (k = k' ∧ i = i' ∧ v = v' ∧ n = n' ∧ S = S' ∧ D = D') = false) ∨
    (k = k' ∧ i = i' ∧ v = v' ∧ n = n' ∧ decide (S = S') = true ∧ decide (k = k' ∧ i = i' ∧ v = v' ∧ n = n' ∧ S = S' ∧ D = D') = decide (D = D')) := by
  by_cases h1 : k = k' <;> by_cases h2 : i = i' <;> by_cases h3 : v = v' <;> by_cases h4 : n = n' <;> by_cases h5 : S = S' <;> simp [h1, h2, h3, h4, h5]
set_option maxHeartbeats 1000000 in
theorem same17 (k i v n k' i' v' n' : Int) (S S' : List (Int × Int)) (D D' : List Int) (sa da sa' da' : Option Addr) (cs cd sb so db dO cs' cd' sb' so' db' dO' : Nat) (w : World)
    (hls : S.length ≤ maxLen) (hld : D.length ≤ maxLen) (hsa : 0 < S.length → sa = some ⟨sb, so, none⟩) (hda : 0 < D.length → da = some ⟨db, dO, none⟩) (PS : PwsAt w sb so S) (PD : IntsAt w db dO D)
    (hls' : S'.length ≤ maxLen) (hld' : D'.length ≤ maxLen) (hsa' : 0 < S'.length → sa' = some ⟨sb', so', none⟩) (hda' : 0 < D'.length → da' = some ⟨db', dO', none⟩) (PS' : PwsAt w sb' so' S') (PD' : IntsAt w db' dO' D') :
    Calls Tryz.prog 57 #[.agg #[.int .i64 k, .int .i64 i, .int .i64 v, .int .i64 n, .slice sa S.length cs, .slice da D.length cd], .agg #[.int .i64 k', .int .i64 i', .int .i64 v', .int .i64 n', .slice sa' S'.length cs', .slice da' D'.length cd']] w
      fun e w' => e = .returned (.bool (decide (k = k' ∧ i = i' ∧ v = v' ∧ n = n' ∧ S = S' ∧ D = D'))) ∧ Below w.heap.size w w' := by
  have hcs := same_cases k i v n k' i' v' n' S S' D D'
  generalize decide (k = k' ∧ i = i' ∧ v = v' ∧ n = n' ∧ S = S' ∧ D = D') = F at *
  have X : Hid (S.length ≤ maxLen ∧ D.length ≤ maxLen ∧ (0 < S.length → sa = some ⟨sb, so, none⟩) ∧ (0 < D.length → da = some ⟨db, dO, none⟩)) := ⟨hls, hld, hsa, hda⟩
  have X' : Hid (S'.length ≤ maxLen ∧ D'.length ≤ maxLen ∧ (0 < S'.length → sa' = some ⟨sb', so', none⟩) ∧ (0 < D'.length → da' = some ⟨db', dO', none⟩)) := ⟨hls', hld', hsa', hda'⟩
  have hb2 : ∀ o o', Below w.heap.size w ((w.alloc o).alloc o') := fun o o' => (below_new w o).alloc (by simp) o'
  have HB0 : Hid (∀ o o', Below w.heap.size w ((w.alloc o).alloc o')) := hb2
  clear hls hld hsa hda hls' hld' hsa' hda' hb2
  rcases hcs with ⟨h1, rfl⟩ | ⟨rfl, h1, rfl⟩ | ⟨rfl, rfl, h1, rfl⟩ | ⟨rfl, rfl, rfl, h1, rfl⟩ | ⟨rfl, rfl, rfl, rfl, h1, rfl⟩ | ⟨rfl, rfl, rfl, rfl, h1, rfl⟩
  all_goals go_enter Tryz.func57, Tryz.ntmps57
  all_goals go_wp2_with (first
    | (go_at_call 55; refine (pws30 S S' sa sa' cs cs' sb so sb' so' _ X.out.1 X'.out.1 X.out.2.2.1 X'.out.2.2.1 (PS.later (HB0.out _ _)) (PS'.later (HB0.out _ _))).mono ?_; rintro e w1 ⟨rfl, hb⟩
       have PD1 := (PD.later (HB0.out _ _)).later hb
       have PD1' := (PD'.later (HB0.out _ _)).later hb
       obtain ⟨hc, hf⟩ := bcell hb
       have HB1 : Hid (Below w.heap.size w w1) := below_then (HB0.out _ _) hb
       clear hb PS PD PS' PD')
    | (go_at_call 18; refine (nums31 D D' da da' cd cd' db dO db' dO' _ X.out.2.1 X'.out.2.1 X.out.2.2.2 X'.out.2.2.2 PD1 PD1').mono ?_; rintro e w2 ⟨rfl, hb⟩
       have HB2 : Hid (Below w.heap.size w w2) := below_then HB1.out hb
       clear hb))
  all_goals go_ret
  all_goals refine ⟨rfl, ?_⟩
  all_goals first | exact HB2.out | exact HB1.out | exact HB0.out _ _
end Go.Proofs.YtjghbciepinofaaGreat.Cd

