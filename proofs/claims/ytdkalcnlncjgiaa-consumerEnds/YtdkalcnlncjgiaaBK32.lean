/- Parts of the proof: CE. -/
import Derived.Test.YtdkalcnlncjgiaaRows
import Derived.Test.YtdkalcnlncjgiaaBK45
import Derived.Deep.QuietTactic
import Derived.BigQuiet
import Derived.WalkSmall
set_option maxRecDepth 100000
namespace Go.Proofs.Ytdkalcnlncjgiaa.Cd
open Go.RowKit
theorem take_step {α : Type} {l m : List α} {k : Nat} (d : α) (h : l.take k = m.take k) (hl : k < l.length) (hm : k < m.length) (he : l.getD k d = m.getD k d) : l.take (k + 1) = m.take (k + 1) := by
  rw [List.take_succ_eq_append_getElem hl, List.take_succ_eq_append_getElem hm, h]
  simp [List.getD, hl, hm] at he
  rw [he]
set_option maxHeartbeats 400000 in
theorem pws30 (l m : List (Int × Int)) (a a' : Option Addr) (c c' b off b' off' : Nat) (w : World) (hlen : l.length ≤ maxLen) (hlen' : m.length ≤ maxLen) (ha : 0 < l.length → a = some ⟨b, off, none⟩) (ha' : 0 < m.length → a' = some ⟨b', off', none⟩)
    (hc : PwsAt w b off l) (hc' : PwsAt w b' off' m) :
    Calls Try.prog 26 #[.slice a l.length c, .slice a' m.length c'] w fun e w' => e = .returned (.bool (decide (l = m))) ∧ Below w.heap.size w w' := by
  unfold maxLen at hlen hlen'
  have HA : Hid (0 < l.length → a = some ⟨b, off, none⟩) := ha
  have HA' : Hid (0 < m.length → a' = some ⟨b', off', none⟩) := ha'
  clear ha ha'
  by_cases hne : l.length = m.length
  · have h0 : ((l.length : Int) != (m.length : Int)) = false := by simp [hne]
    have HN : Hid (l.length = m.length) := hne
    have hle : l.length ≤ m.length := by omega
    have hle' : m.length ≤ l.length := by omega
    clear hne
    go_enter Try.func26, Try.ntmps26
    go_wp2
    go_loopw [13] (fun i wl => ∃ k : Nat, k ≤ l.length ∧ i = .int .i64 k ∧ Hid (l.take k = m.take k) ∧ Hid (Below w.heap.size w wl)) (fun i _ => l.length - (intOf i).toNat)
    case atStart => exact ⟨0, Nat.zero_le _, rfl, rfl, Below.refl _ _⟩
    case round =>
      obtain ⟨k, hk, rfl, HR, HB⟩ := hrel
      by_cases hlt : k < l.length
      · have hcell := hc.later HB.out k hlt
        have hlt' : k < m.length := by omega
        have hcell' := hc'.later HB.out k hlt'
        obtain ⟨y, hy⟩ : ∃ y, l.getD k (0, 0) = y := ⟨_, rfl⟩
        obtain ⟨z, hz⟩ : ∃ z, m.getD k (0, 0) = z := ⟨_, rfl⟩
        rw [hy] at hcell
        rw [hz] at hcell'
        obtain ⟨hc0, hc1⟩ := hcell
        obtain ⟨hd0, hd1⟩ := hcell'
        have e := HA.out (by omega)
        subst e
        have e := HA'.out (by omega)
        subst e
        have HY : Hid (l.getD k (0, 0) = y ∧ m.getD k (0, 0) = z) := ⟨hy, hz⟩
        clear hy hz
        obtain ⟨y0, y1⟩ := y
        obtain ⟨z0, z1⟩ := z
        dsimp only at hc0 hc1 hd0 hd1
        by_cases hyz : (y0, y1) = (z0, z1)
        · cases hyz
          go_wp2_with fail
          go_quiet (fail)
          go_wp2
          go_roundw
          case rel => exact ⟨k + 1, by omega, by go_num, take_step (0, 0) HR.out hlt hlt' (HY.out.1.trans HY.out.2.symm), below_drewN HB.out _⟩
          case measure => simp [intOf]; omega
        · have HF : Hid (decide (l = m) = false) := by
            show _ = _
            rw [decide_eq_false_iff_not]
            intro e; subst e; exact hyz (HY.out.1.symm.trans HY.out.2)
          by_cases h1 : y0 = z0
          · subst h1
            have hb : (y1 == z1) = false := by simp; intro h2; exact hyz (by rw [h2])
            clear hyz
            go_wp2_with fail
            go_quiet (fail)
            go_wp2
            go_ret
            exact ⟨by rw [HF.out]; rfl, below_drewN HB.out _⟩
          · have hb : (y0 == z0) = false := by simpa using h1
            clear hyz h1
            go_wp2_with fail
            go_quiet (fail)
            go_wp2
            go_ret
            exact ⟨by rw [HF.out]; rfl, below_drewN HB.out _⟩
      · have HF : Hid (decide (l = m) = true) := by
          show _ = _
          rw [decide_eq_true_eq]
          have h := HR.out
          rwa [List.take_of_length_le (by omega), List.take_of_length_le (by omega)] at h
        go_wp2
        go_ret
        exact ⟨by rw [HF.out]; rfl, HB.out⟩
  · have HF : Hid (decide (l = m) = false) := by
      show _ = _
      rw [decide_eq_false_iff_not]
      intro e; subst e; exact hne rfl
    have h0 : ((l.length : Int) != (m.length : Int)) = true := by simp; omega
    clear hne
    go_enter Try.func26, Try.ntmps26
    go_wp2
    go_ret
    exact ⟨by rw [HF.out]; rfl, Below.refl _ _⟩
set_option maxHeartbeats 400000 in
theorem nums31 (l m : List Int) (a a' : Option Addr) (c c' b off b' off' : Nat) (w : World) (hlen : l.length ≤ maxLen) (hlen' : m.length ≤ maxLen) (ha : 0 < l.length → a = some ⟨b, off, none⟩) (ha' : 0 < m.length → a' = some ⟨b', off', none⟩)
    (hc : IntsAt w b off l) (hc' : IntsAt w b' off' m) :
    Calls Try.prog 42 #[.slice a l.length c, .slice a' m.length c'] w fun e w' => e = .returned (.bool (decide (l = m))) ∧ Below w.heap.size w w' := by
  unfold maxLen at hlen hlen'
  have HA : Hid (0 < l.length → a = some ⟨b, off, none⟩) := ha
  have HA' : Hid (0 < m.length → a' = some ⟨b', off', none⟩) := ha'
  clear ha ha'
  by_cases hne : l.length = m.length
  · have h0 : ((l.length : Int) != (m.length : Int)) = false := by simp [hne]
    have HN : Hid (l.length = m.length) := hne
    have hle : l.length ≤ m.length := by omega
    have hle' : m.length ≤ l.length := by omega
    clear hne
    go_enter Try.func42, Try.ntmps42
    go_wp2
    go_loopw [13] (fun i wl => ∃ k : Nat, k ≤ l.length ∧ i = .int .i64 k ∧ Hid (l.take k = m.take k) ∧ Hid (Below w.heap.size w wl)) (fun i _ => l.length - (intOf i).toNat)
    case atStart => exact ⟨0, Nat.zero_le _, rfl, rfl, Below.refl _ _⟩
    case round =>
      obtain ⟨k, hk, rfl, HR, HB⟩ := hrel
      by_cases hlt : k < l.length
      · have hcell := hc.later HB.out k hlt
        have hlt' : k < m.length := by omega
        have hcell' := hc'.later HB.out k hlt'
        obtain ⟨y, hy⟩ : ∃ y, l.getD k 0 = y := ⟨_, rfl⟩
        obtain ⟨z, hz⟩ : ∃ z, m.getD k 0 = z := ⟨_, rfl⟩
        rw [hy] at hcell
        rw [hz] at hcell'
        have e := HA.out (by omega)
        subst e
        have e := HA'.out (by omega)
        subst e
        have HY : Hid (l.getD k 0 = y ∧ m.getD k 0 = z) := ⟨hy, hz⟩
        clear hy hz
        by_cases hyz : y = z
        · subst hyz
          go_wp2_with fail
          go_quiet (fail)
          go_wp2
          go_roundw
          case rel => exact ⟨k + 1, by omega, by go_num, take_step 0 HR.out hlt hlt' (HY.out.1.trans HY.out.2.symm), below_drewN HB.out _⟩
          case measure => simp [intOf]; omega
        · have HF : Hid (decide (l = m) = false) := by
            show _ = _
            rw [decide_eq_false_iff_not]
            intro e; subst e; exact hyz (HY.out.1.symm.trans HY.out.2)
          have hb : (y != z) = true := by simpa using hyz
          clear hyz
          go_wp2_with fail
          go_quiet (fail)
          go_wp2
          go_ret
          exact ⟨by rw [HF.out]; rfl, below_drewN HB.out _⟩
      · have HF : Hid (decide (l = m) = true) := by
          show _ = _
          rw [decide_eq_true_eq]
          have h := HR.out
          rwa [List.take_of_length_le (by omega), List.take_of_length_le (by omega)] at h
        go_wp2
        go_ret
        exact ⟨by rw [HF.out]; rfl, HB.out⟩
  · have HF : Hid (decide (l = m) = false) := by
      show _ = _
      rw [decide_eq_false_iff_not]
      intro e; subst e; exact hne rfl
    have h0 : ((l.length : Int) != (m.length : Int)) = true := by simp; omega
    clear hne
    go_enter Try.func42, Try.ntmps42
    go_wp2
    go_ret
    exact ⟨by rw [HF.out]; rfl, Below.refl _ _⟩
theorem same_cases (k i v n k' i' v' n' : Int) (S S' : List (Int × Int)) (D D' : List Int) :
    ((k == k') = false ∧ decide (k = k' ∧ i = i' ∧ v = v' ∧ n = n' ∧ S = S' ∧ D = D') = false) ∨
    (k = k' ∧ (i == i') = false ∧ decide (k = k' ∧ i = i' ∧ v = v' ∧ n = n' ∧ S = S' ∧ D = D') = false) ∨
    (k = k' ∧ i = i' ∧ (v == v') = false ∧ decide (k = k' ∧ i = i' ∧ v = v' ∧ n = n' ∧ S = S' ∧ D = D') = false) ∨
    (k = k' ∧ i = i' ∧ v = v' ∧ (n == n') = false ∧ decide (k = k' ∧ i = i' ∧ v = v' ∧ n = n' ∧ S = S' ∧ D = D') = false) ∨
    (k = k' ∧ i = i' ∧ v = v' ∧ n = n' ∧ decide (S = S') = false ∧ decide (k = k' ∧ i = i' ∧ v = v' ∧ n = n' ∧ S = S' ∧ D = D') = false) ∨
    (k = k' ∧ i = i' ∧ v = v' ∧ n = n' ∧ decide (S = S') = true ∧ decide (k = k' ∧ i = i' ∧ v = v' ∧ n = n' ∧ S = S' ∧ D = D') = decide (D = D')) := by
  by_cases h1 : k = k' <;> by_cases h2 : i = i' <;> by_cases h3 : v = v' <;> by_cases h4 : n = n' <;> by_cases h5 : S = S' <;> simp [h1, h2, h3, h4, h5]
set_option maxHeartbeats 1000000 in
theorem same17 (k i v n k' i' v' n' : Int) (S S' : List (Int × Int)) (D D' : List Int) (sa da sa' da' : Option Addr) (cs cd sb so db dO cs' cd' sb' so' db' dO' : Nat) (w : World)
    (hls : S.length ≤ maxLen) (hld : D.length ≤ maxLen) (hsa : 0 < S.length → sa = some ⟨sb, so, none⟩) (hda : 0 < D.length → da = some ⟨db, dO, none⟩) (PS : PwsAt w sb so S) (PD : IntsAt w db dO D)
    (hls' : S'.length ≤ maxLen) (hld' : D'.length ≤ maxLen) (hsa' : 0 < S'.length → sa' = some ⟨sb', so', none⟩) (hda' : 0 < D'.length → da' = some ⟨db', dO', none⟩) (PS' : PwsAt w sb' so' S') (PD' : IntsAt w db' dO' D') :
    Calls Try.prog 28 #[.agg #[.int .i64 k, .int .i64 i, .int .i64 v, .int .i64 n, .slice sa S.length cs, .slice da D.length cd], .agg #[.int .i64 k', .int .i64 i', .int .i64 v', .int .i64 n', .slice sa' S'.length cs', .slice da' D'.length cd']] w
      fun e w' => e = .returned (.bool (decide (k = k' ∧ i = i' ∧ v = v' ∧ n = n' ∧ S = S' ∧ D = D'))) ∧ Below w.heap.size w w' := by
  have hcs := same_cases k i v n k' i' v' n' S S' D D'
  generalize decide (k = k' ∧ i = i' ∧ v = v' ∧ n = n' ∧ S = S' ∧ D = D') = F at *
  have X : Hid (S.length ≤ maxLen ∧ D.length ≤ maxLen ∧ (0 < S.length → sa = some ⟨sb, so, none⟩) ∧ (0 < D.length → da = some ⟨db, dO, none⟩)) := ⟨hls, hld, hsa, hda⟩
  have X' : Hid (S'.length ≤ maxLen ∧ D'.length ≤ maxLen ∧ (0 < S'.length → sa' = some ⟨sb', so', none⟩) ∧ (0 < D'.length → da' = some ⟨db', dO', none⟩)) := ⟨hls', hld', hsa', hda'⟩
  have hb2 : ∀ o o', Below w.heap.size w ((w.alloc o).alloc o') := fun o o' => (below_new w o).alloc (by simp) o'
  have HB0 : Hid (∀ o o', Below w.heap.size w ((w.alloc o).alloc o')) := hb2
  clear hls hld hsa hda hls' hld' hsa' hda' hb2
  rcases hcs with ⟨h1, rfl⟩ | ⟨rfl, h1, rfl⟩ | ⟨rfl, rfl, h1, rfl⟩ | ⟨rfl, rfl, rfl, h1, rfl⟩ | ⟨rfl, rfl, rfl, rfl, h1, rfl⟩ | ⟨rfl, rfl, rfl, rfl, h1, rfl⟩
  all_goals go_enter Try.func28, Try.ntmps28
  all_goals go_wp2_with (first
    | (go_at_call 26; refine (pws30 S S' sa sa' cs cs' sb so sb' so' _ X.out.1 X'.out.1 X.out.2.2.1 X'.out.2.2.1 (PS.later (HB0.out _ _)) (PS'.later (HB0.out _ _))).mono ?_; rintro e w1 ⟨rfl, hb⟩
       have PD1 := (PD.later (HB0.out _ _)).later hb
       have PD1' := (PD'.later (HB0.out _ _)).later hb
       obtain ⟨hc, hf⟩ := bcell hb
       have HB1 : Hid (Below w.heap.size w w1) := below_then (HB0.out _ _) hb
       clear hb PS PD PS' PD')
    | (go_at_call 42; refine (nums31 D D' da da' cd cd' db dO db' dO' _ X.out.2.1 X'.out.2.1 X.out.2.2.2 X'.out.2.2.2 PD1 PD1').mono ?_; rintro e w2 ⟨rfl, hb⟩
       have HB2 : Hid (Below w.heap.size w w2) := below_then HB1.out hb
       clear hb))
  all_goals go_ret
  all_goals refine ⟨rfl, ?_⟩
  all_goals first | exact HB2.out | exact HB1.out | exact HB0.out _ _
end Go.Proofs.Ytdkalcnlncjgiaa.Cd

