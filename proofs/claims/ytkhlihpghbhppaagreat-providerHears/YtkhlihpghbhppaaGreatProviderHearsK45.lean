/- Parts of the proof: Q RA1 CE SD. -/
import Derived.Test.YtkhlihpghbhppaaGreatRows
import Derived.Test.YtkhlihpghbhppaaGreatProviderHearsK41
import Derived.Test.YtkhlihpghbhppaaGreatProviderHearsK43
import Derived.Test.YtkhlihpghbhppaaGreatProviderHearsK44
import Derived.WalkKit
import Derived.ChangeKeysEq
import Derived.Deep.QuietTactic
import Derived.BigQuiet
import Derived.WalkSmall
set_option maxRecDepth 100000
namespace Go.Proofs.YtkhlihpghbhppaaGreat
open Go.RowKit
theorem eqA (w : World) (a0 a1 a2 a3 b0 b1 b2 b3 : Int) : (Op.equalIn 9999 22 (.agg #[.int .i64 a0, .int .i64 a1, .int .i64 a2, .int .i64 a3]) (.agg #[.int .i64 b0, .int .i64 b1, .int .i64 b2, .int .i64 b3])).run Tryz.prog w = .ok (decide (a0 = b0 ∧ a1 = b1 ∧ a2 = b2 ∧ a3 = b3)) w := by
  have hi : (Tryz.prog.info? 3).isSome = true := by kernel_rfl
  obtain ⟨i, hi⟩ := Option.isSome_iff_exists.1 hi
  have hc : Tryz.prog.cellsOf 3 = 1 := by kernel_rfl
  rw [run_equalIn_array w 9998 _ _ Tryz.underlying22 hi, hc, show List.range 4 = [0, 1, 2, 3] from rfl]
  simp only [Op.eqItems]
  go_simp
  by_cases h0 : a0 = b0 <;> by_cases h1 : a1 = b1 <;> by_cases h2 : a2 = b2 <;> by_cases h3 : a3 = b3 <;> simp [h0, h1, h2, h3]
theorem eqB (w : World) (a0 a1 a2 a3 a4 a5 a6 b0 b1 b2 b3 b4 b5 b6 : Int) : (binOp .eql 24 (.agg #[.int .i64 a0, .int .i64 a1, .int .i64 a2, .int .i64 a3, .int .i64 a4, .int .i64 a5, .int .i64 a6]) (.agg #[.int .i64 b0, .int .i64 b1, .int .i64 b2, .int .i64 b3, .int .i64 b4, .int .i64 b5, .int .i64 b6])).run Tryz.prog w = .ok (.bool (decide (a0 = b0 ∧ a1 = b1 ∧ a2 = b2 ∧ a3 = b3 ∧ a4 = b4 ∧ a5 = b5 ∧ a6 = b6))) w := by
  have h := fun w => eqA w a0 a1 a2 a3 b0 b1 b2 b3
  rw [run_eql_struct]
  by_cases hh : a0 = b0 ∧ a1 = b1 ∧ a2 = b2 ∧ a3 = b3
  · rw [decide_eq_true hh] at h
    obtain ⟨h0, h1, h2, h3⟩ := hh
    go_simp
    subst h0 h1 h2 h3
    by_cases h4 : a4 = b4 <;> by_cases h5 : a5 = b5 <;> by_cases h6 : a6 = b6 <;> simp [h4, h5, h6, h]
  · rw [decide_eq_false hh] at h
    have e : decide (a0 = b0 ∧ a1 = b1 ∧ a2 = b2 ∧ a3 = b3 ∧ a4 = b4 ∧ a5 = b5 ∧ a6 = b6) = false := decide_eq_false (fun g => hh ⟨g.1, g.2.1, g.2.2.1, g.2.2.2.1⟩)
    rw [e]
    go_simp
theorem neB (w : World) (a0 a1 a2 a3 a4 a5 a6 b0 b1 b2 b3 b4 b5 b6 : Int) : (binOp .neq 24 (.agg #[.int .i64 a0, .int .i64 a1, .int .i64 a2, .int .i64 a3, .int .i64 a4, .int .i64 a5, .int .i64 a6]) (.agg #[.int .i64 b0, .int .i64 b1, .int .i64 b2, .int .i64 b3, .int .i64 b4, .int .i64 b5, .int .i64 b6])).run Tryz.prog w = .ok (.bool (!decide (a0 = b0 ∧ a1 = b1 ∧ a2 = b2 ∧ a3 = b3 ∧ a4 = b4 ∧ a5 = b5 ∧ a6 = b6))) w := by
  have h := eqB w a0 a1 a2 a3 a4 a5 a6 b0 b1 b2 b3 b4 b5 b6
  rw [run_eql_struct] at h
  rw [run_neq_struct]
  revert h
  generalize (Op.equalIn 10000 24 _ _).run Tryz.prog w = r
  intro h
  cases r with
  | ok a w1 => 
    simp only [Result.andThen_ok] at h ⊢
    cases h
    rfl
  | _ => cases h
end Go.Proofs.YtkhlihpghbhppaaGreat

set_option maxRecDepth 100000
namespace Go.Proofs.YtkhlihpghbhppaaGreat
open Go.RowKit
theorem eqVd (w : World) (t s l : Int) (j d : Bool) : (Op.equalIn 9999 26 (.agg #[.int .i64 t, .int .i64 s, .int .i64 l, .bool j, .bool d]) (.agg #[.int .i64 t, .int .i64 s, .int .i64 l, .bool j, .bool d])).run Tryz.prog w = .ok true w := by
  go_simp
theorem eqVs (w : World) (V : Nat → Vd) : (Op.equalIn 10000 27 (.agg (vsC V)) (.agg (vsC V))).run Tryz.prog w = .ok true w := by
  have hi : (Tryz.prog.info? 26).isSome = true := by kernel_rfl
  obtain ⟨i, hi⟩ := Option.isSome_iff_exists.1 hi
  have hc : Tryz.prog.cellsOf 26 = 5 := by kernel_rfl
  rw [run_equalIn_array w 9999 _ _ Tryz.underlying27 hi, hc, show List.range 6 = [0, 1, 2, 3, 4, 5] from rfl]
  have h := eqVd
  simp only [Op.eqItems, vsC]
  go_simp
theorem eqRow (w : World) (a b c d e f : Int) : (Op.equalIn 9999 28 (.agg #[.int .i64 a, .int .i64 b, .int .i64 c, .int .i64 d, .int .i64 e, .int .i64 f]) (.agg #[.int .i64 a, .int .i64 b, .int .i64 c, .int .i64 d, .int .i64 e, .int .i64 f])).run Tryz.prog w = .ok true w := by
  have hi : (Tryz.prog.info? 3).isSome = true := by kernel_rfl
  obtain ⟨i, hi⟩ := Option.isSome_iff_exists.1 hi
  have hc : Tryz.prog.cellsOf 3 = 1 := by kernel_rfl
  rw [run_equalIn_array w 9998 _ _ Tryz.underlying28 hi, hc, show List.range 6 = [0, 1, 2, 3, 4, 5] from rfl]
  simp only [Op.eqItems]
  go_simp
theorem eqSh (w : World) (S : Nat → Nat → Int) : (Op.equalIn 10000 29 (.agg (shC S)) (.agg (shC S))).run Tryz.prog w = .ok true w := by
  have hi : (Tryz.prog.info? 28).isSome = true := by kernel_rfl
  obtain ⟨i, hi⟩ := Option.isSome_iff_exists.1 hi
  have hc : Tryz.prog.cellsOf 28 = 6 := by kernel_rfl
  rw [run_equalIn_array w 9999 _ _ Tryz.underlying29 hi, hc, show List.range 4 = [0, 1, 2, 3] from rfl]
  have h := eqRow
  simp only [Op.eqItems, shC]
  go_simp
theorem neVs (w : World) (V : Nat → Vd) : (binOp .neq 27 (.agg (vsC V)) (.agg (vsC V))).run Tryz.prog w = .ok (.bool false) w := by
  rw [run_neq_struct, eqVs]
  rfl
theorem neSh (w : World) (S : Nat → Nat → Int) : (binOp .neq 29 (.agg (shC S)) (.agg (shC S))).run Tryz.prog w = .ok (.bool false) w := by
  rw [run_neq_struct, eqSh]
  rfl
theorem eqH (w : World) (a b : Int) : (Op.equalIn 9999 96 (.agg #[.int .i64 a, .int .i64 b]) (.agg #[.int .i64 a, .int .i64 b])).run Tryz.prog w = .ok true w := by
  have hi : (Tryz.prog.info? 3).isSome = true := by kernel_rfl
  obtain ⟨i, hi⟩ := Option.isSome_iff_exists.1 hi
  have hc : Tryz.prog.cellsOf 3 = 1 := by kernel_rfl
  rw [run_equalIn_array w 9998 _ _ Tryz.underlying96 hi, hc, show List.range 2 = [0, 1] from rfl]
  simp only [Op.eqItems]
  go_simp
theorem neWt (w : World) (x : Wt) : (binOp .neq 98 (.agg (wtC x)) (.agg (wtC x))).run Tryz.prog w = .ok (.bool false) w := by
  have h := fun w => eqH w x.h0 x.h1
  rw [run_neq_struct]
  unfold wtC
  go_simp
theorem neBk (w : World) (b : Bk) : (binOp .neq 24 (.agg #[.int .i64 b.f0, .int .i64 b.f1, .int .i64 b.f2, .int .i64 b.f3, .int .i64 b.bo, .int .i64 b.wa, .int .i64 b.bu]) (.agg #[.int .i64 b.f0, .int .i64 b.f1, .int .i64 b.f2, .int .i64 b.f3, .int .i64 b.bo, .int .i64 b.wa, .int .i64 b.bu])).run Tryz.prog w = .ok (.bool false) w := by
  rw [neB]
  simp
end Go.Proofs.YtkhlihpghbhppaaGreat

set_option maxRecDepth 100000
namespace Go.Proofs.YtkhlihpghbhppaaGreat.Cd
open Go.RowKit
theorem take_step {α : Type} {l m : List α} {k : Nat} (d : α) (h : l.take k = m.take k) (hl : k < l.length) (hm : k < m.length) (he : l.getD k d = m.getD k d) : l.take (k + 1) = m.take (k + 1) := by
  rw [List.take_succ_eq_append_getElem hl, List.take_succ_eq_append_getElem hm, h]
  simp [List.getD, hl, hm] at he
  rw [he]
set_option maxHeartbeats 400000 in
theorem pws30 (l m : List (Int × Int)) (a a' : Option Addr) (c c' b off b' off' : Nat) (w : World) (hlen : l.length ≤ maxLen) (hlen' : m.length ≤ maxLen) (ha : 0 < l.length → a = some ⟨b, off, none⟩) (ha' : 0 < m.length → a' = some ⟨b', off', none⟩)
    (hc : PwsAt w b off l) (hc' : PwsAt w b' off' m) :
    Calls Tryz.prog 43 #[.slice a l.length c, .slice a' m.length c'] w fun e w' => e = .returned (.bool (decide (l = m))) ∧ Below w.heap.size w w' := by
  unfold maxLen at hlen hlen'
  have HA : Hid (0 < l.length → a = some ⟨b, off, none⟩) := ha
  have HA' : Hid (0 < m.length → a' = some ⟨b', off', none⟩) := ha'
  clear ha ha'
  by_cases hne : l.length = m.length
  · have h0 : ((l.length : Int) != (m.length : Int)) = false := by simp [hne]
    have HN : Hid (l.length = m.length) := hne
    have hle : l.length ≤ m.length := by omega
    have hle' : m.length ≤ l.length := by omega
    clear hne
    go_enter Tryz.func43, Tryz.ntmps43
    go_wp2
    go_loopw [13] (fun i wl => ∃ k : Nat, k ≤ l.length ∧ i = .int .i64 k ∧ Hid (l.take k = m.take k) ∧ Hid (Below w.heap.size w wl)) (fun i _ => l.length - (intOf i).toNat)
    case atStart => exact ⟨0, Nat.zero_le _, rfl, rfl, Below.refl _ _⟩
    case round =>
      obtain ⟨k, hk, rfl, HR, HB⟩ := hrel
      by_cases hlt : k < l.length
      · have hcell := hc.later HB.out k hlt
        have hlt' : k < m.length := by omega
        have hcell' := hc'.later HB.out k hlt'
        obtain ⟨y, hy⟩ : ∃ y, l.getD k (0, 0) = y := ⟨_, rfl⟩
        obtain ⟨z, hz⟩ : ∃ z, m.getD k (0, 0) = z := ⟨_, rfl⟩
        rw [hy] at hcell
        rw [hz] at hcell'
        obtain ⟨hc0, hc1⟩ := hcell
        obtain ⟨hd0, hd1⟩ := hcell'
        have e := HA.out (by omega)
        subst e
        have e := HA'.out (by omega)
        subst e
        have HY : Hid (l.getD k (0, 0) = y ∧ m.getD k (0, 0) = z) := ⟨hy, hz⟩
        clear hy hz
        obtain ⟨y0, y1⟩ := y
        obtain ⟨z0, z1⟩ := z
        dsimp only at hc0 hc1 hd0 hd1
        by_cases hyz : (y0, y1) = (z0, z1)
        · cases hyz
          go_wp2_with fail
          go_quiet (fail)
          go_wp2
          go_roundw
          case rel => exact ⟨k + 1, by omega, by go_num, take_step (0, 0) HR.out hlt hlt' (HY.out.1.trans HY.out.2.symm), below_drewN HB.out _⟩
          case measure => simp [intOf]; omega
        · have HF : Hid (decide (l = m) = false) := by
            show _ = _
            rw [decide_eq_false_iff_not]
            intro e; subst e; exact hyz (HY.out.1.symm.trans HY.out.2)
          by_cases h1 : y0 = z0
          · subst h1
            have hb : (y1 == z1) = false := by simp; intro h2; exact hyz (by rw [h2])
            clear hyz
            go_wp2_with fail
            go_quiet (fail)
            go_wp2
            go_ret
            exact ⟨by rw [HF.out]; rfl, below_drewN HB.out _⟩
          · have hb : (y0 == z0) = false := by simpa using h1
            clear hyz h1
            go_wp2_with fail
            go_quiet (fail)
            go_wp2
            go_ret
            exact ⟨by rw [HF.out]; rfl, below_drewN HB.out _⟩
      · have HF : Hid (decide (l = m) = true) := by
          show _ = _
          rw [decide_eq_true_eq]
          have h := HR.out
          rwa [List.take_of_length_le (by omega), List.take_of_length_le (by omega)] at h
        go_wp2
        go_ret
        exact ⟨by rw [HF.out]; rfl, HB.out⟩
  · have HF : Hid (decide (l = m) = false) := by
      show _ = _
      rw [decide_eq_false_iff_not]
      intro e; subst e; exact hne rfl
    have h0 : ((l.length : Int) != (m.length : Int)) = true := by simp; omega
    clear hne
    go_enter Tryz.func43, Tryz.ntmps43
    go_wp2
    go_ret
    exact ⟨by rw [HF.out]; rfl, Below.refl _ _⟩
set_option maxHeartbeats 400000 in
theorem nums31 (l m : List Int) (a a' : Option Addr) (c c' b off b' off' : Nat) (w : World) (hlen : l.length ≤ maxLen) (hlen' : m.length ≤ maxLen) (ha : 0 < l.length → a = some ⟨b, off, none⟩) (ha' : 0 < m.length → a' = some ⟨b', off', none⟩)
    (hc : IntsAt w b off l) (hc' : IntsAt w b' off' m) :
    Calls Tryz.prog 30 #[.slice a l.length c, .slice a' m.length c'] w fun e w' => e = .returned (.bool (decide (l = m))) ∧ Below w.heap.size w w' := by
  unfold maxLen at hlen hlen'
  have HA : Hid (0 < l.length → a = some ⟨b, off, none⟩) := ha
  have HA' : Hid (0 < m.length → a' = some ⟨b', off', none⟩) := ha'
  clear ha ha'
  by_cases hne : l.length = m.length
  · have h0 : ((l.length : Int) != (m.length : Int)) = false := by simp [hne]
    have HN : Hid (l.length = m.length) := hne
    have hle : l.length ≤ m.length := by omega
    have hle' : m.length ≤ l.length := by omega
    clear hne
    go_enter Tryz.func30, Tryz.ntmps30
    go_wp2
    go_loopw [13] (fun i wl => ∃ k : Nat, k ≤ l.length ∧ i = .int .i64 k ∧ Hid (l.take k = m.take k) ∧ Hid (Below w.heap.size w wl)) (fun i _ => l.length - (intOf i).toNat)
    case atStart => exact ⟨0, Nat.zero_le _, rfl, rfl, Below.refl _ _⟩
    case round =>
      obtain ⟨k, hk, rfl, HR, HB⟩ := hrel
      by_cases hlt : k < l.length
      · have hcell := hc.later HB.out k hlt
        have hlt' : k < m.length := by omega
        have hcell' := hc'.later HB.out k hlt'
        obtain ⟨y, hy⟩ : ∃ y, l.getD k 0 = y := ⟨_, rfl⟩
        obtain ⟨z, hz⟩ : ∃ z, m.getD k 0 = z := ⟨_, rfl⟩
        rw [hy] at hcell
        rw [hz] at hcell'
        have e := HA.out (by omega)
        subst e
        have e := HA'.out (by omega)
        subst e
        have HY : Hid (l.getD k 0 = y ∧ m.getD k 0 = z) := ⟨hy, hz⟩
        clear hy hz
        by_cases hyz : y = z
        · subst hyz
          go_wp2_with fail
          go_quiet (fail)
          go_wp2
          go_roundw
          case rel => exact ⟨k + 1, by omega, by go_num, take_step 0 HR.out hlt hlt' (HY.out.1.trans HY.out.2.symm), below_drewN HB.out _⟩
          case measure => simp [intOf]; omega
        · have HF : Hid (decide (l = m) = false) := by
            show _ = _
            rw [decide_eq_false_iff_not]
            intro e; subst e; exact hyz (HY.out.1.symm.trans HY.out.2)
          have hb : (y != z) = true := by simpa using hyz
          clear hyz
          go_wp2_with fail
          go_quiet (fail)
          go_wp2
          go_ret
          exact ⟨by rw [HF.out]; rfl, below_drewN HB.out _⟩
      · have HF : Hid (decide (l = m) = true) := by
          show _ = _
          rw [decide_eq_true_eq]
          have h := HR.out
          rwa [List.take_of_length_le (by omega), List.take_of_length_le (by omega)] at h
        go_wp2
        go_ret
        exact ⟨by rw [HF.out]; rfl, HB.out⟩
  · have HF : Hid (decide (l = m) = false) := by
      show _ = _
      rw [decide_eq_false_iff_not]
      intro e; subst e; exact hne rfl
    have h0 : ((l.length : Int) != (m.length : Int)) = true := by simp; omega
    clear hne
    go_enter Tryz.func30, Tryz.ntmps30
    go_wp2
    go_ret
    exact ⟨by rw [HF.out]; rfl, Below.refl _ _⟩
theorem same_cases (k i v n k' i' v' n' : Int) (S S' : List (Int × Int)) (D D' : List Int) :
    ((k == k') = false ∧ decide (k = k' ∧ i = i' ∧ v = v' ∧ n = n' ∧ S = S' ∧ D = D') = false) ∨
    (k = k' ∧ (i == i') = false ∧ decide (k = k' ∧ i = i' ∧ v = v' ∧ n = n' ∧ S = S' ∧ D = D') = false) ∨
    (k = k' ∧ i = i' ∧ (v == v') = false ∧ decide (k = k' ∧ i = i' ∧ v = v' ∧ n = n' ∧ S = S' ∧ D = D') = false) ∨
    (k = k' ∧ i = i' ∧ v = v' ∧ (n == n') = false ∧ decide (k = k' ∧ i = i' ∧ v = v' ∧ n = n' ∧ S = S' ∧ D = D') = false) ∨
    (k = k' ∧ i = i' ∧ v = v' ∧ n = n' ∧ decide (S = S') = false ∧ decide (k = k' ∧ i = i' ∧ v = v' ∧ n = n' ∧ S = S' ∧ D = D') = false) ∨
    (k = k' ∧ i = i' ∧ v = v' ∧ n = n' ∧ decide (S = S') = true ∧ decide (k = k' ∧ i = i' ∧ v = v' ∧ n = n' ∧ S = S' ∧ D = D') = decide (D = D')) := by
  by_cases h1 : k = k' <;> by_cases h2 : i = i' <;> by_cases h3 : v = v' <;> by_cases h4 : n = n' <;> by_cases h5 : S = S' <;> simp [h1, h2, h3, h4, h5]
set_option maxHeartbeats 1000000 in
theorem same17 (k i v n k' i' v' n' : Int) (S S' : List (Int × Int)) (D D' : List Int) (sa da sa' da' : Option Addr) (cs cd sb so db dO cs' cd' sb' so' db' dO' : Nat) (w : World)
    (hls : S.length ≤ maxLen) (hld : D.length ≤ maxLen) (hsa : 0 < S.length → sa = some ⟨sb, so, none⟩) (hda : 0 < D.length → da = some ⟨db, dO, none⟩) (PS : PwsAt w sb so S) (PD : IntsAt w db dO D)
    (hls' : S'.length ≤ maxLen) (hld' : D'.length ≤ maxLen) (hsa' : 0 < S'.length → sa' = some ⟨sb', so', none⟩) (hda' : 0 < D'.length → da' = some ⟨db', dO', none⟩) (PS' : PwsAt w sb' so' S') (PD' : IntsAt w db' dO' D') :
    Calls Tryz.prog 45 #[.agg #[.int .i64 k, .int .i64 i, .int .i64 v, .int .i64 n, .slice sa S.length cs, .slice da D.length cd], .agg #[.int .i64 k', .int .i64 i', .int .i64 v', .int .i64 n', .slice sa' S'.length cs', .slice da' D'.length cd']] w
      fun e w' => e = .returned (.bool (decide (k = k' ∧ i = i' ∧ v = v' ∧ n = n' ∧ S = S' ∧ D = D'))) ∧ Below w.heap.size w w' := by
  have hcs := same_cases k i v n k' i' v' n' S S' D D'
  generalize decide (k = k' ∧ i = i' ∧ v = v' ∧ n = n' ∧ S = S' ∧ D = D') = F at *
  have X : Hid (S.length ≤ maxLen ∧ D.length ≤ maxLen ∧ (0 < S.length → sa = some ⟨sb, so, none⟩) ∧ (0 < D.length → da = some ⟨db, dO, none⟩)) := ⟨hls, hld, hsa, hda⟩
  have X' : Hid (S'.length ≤ maxLen ∧ D'.length ≤ maxLen ∧ (0 < S'.length → sa' = some ⟨sb', so', none⟩) ∧ (0 < D'.length → da' = some ⟨db', dO', none⟩)) := ⟨hls', hld', hsa', hda'⟩
  have hb2 : ∀ o o', Below w.heap.size w ((w.alloc o).alloc o') := fun o o' => (below_new w o).alloc (by simp) o'
  have HB0 : Hid (∀ o o', Below w.heap.size w ((w.alloc o).alloc o')) := hb2
  clear hls hld hsa hda hls' hld' hsa' hda' hb2
  rcases hcs with ⟨h1, rfl⟩ | ⟨rfl, h1, rfl⟩ | ⟨rfl, rfl, h1, rfl⟩ | ⟨rfl, rfl, rfl, h1, rfl⟩ | ⟨rfl, rfl, rfl, rfl, h1, rfl⟩ | ⟨rfl, rfl, rfl, rfl, h1, rfl⟩
  all_goals go_enter Tryz.func45, Tryz.ntmps45
  all_goals go_wp2_with (first
    | (go_at_call 43; refine (pws30 S S' sa sa' cs cs' sb so sb' so' _ X.out.1 X'.out.1 X.out.2.2.1 X'.out.2.2.1 (PS.later (HB0.out _ _)) (PS'.later (HB0.out _ _))).mono ?_; rintro e w1 ⟨rfl, hb⟩
       have PD1 := (PD.later (HB0.out _ _)).later hb
       have PD1' := (PD'.later (HB0.out _ _)).later hb
       obtain ⟨hc, hf⟩ := bcell hb
       have HB1 : Hid (Below w.heap.size w w1) := below_then (HB0.out _ _) hb
       clear hb PS PD PS' PD')
    | (go_at_call 30; refine (nums31 D D' da da' cd cd' db dO db' dO' _ X.out.2.1 X'.out.2.1 X.out.2.2.2 X'.out.2.2.2 PD1 PD1').mono ?_; rintro e w2 ⟨rfl, hb⟩
       have HB2 : Hid (Below w.heap.size w w2) := below_then HB1.out hb
       clear hb))
  all_goals go_ret
  all_goals refine ⟨rfl, ?_⟩
  all_goals first | exact HB2.out | exact HB1.out | exact HB0.out _ _
end Go.Proofs.YtkhlihpghbhppaaGreat.Cd

set_option maxRecDepth 100000
namespace Go.Proofs.YtkhlihpghbhppaaGreat
open Go.RowKit
theorem psh_bound {S : Nat → Nat → Int} {v : Nat} : ∀ j, pshOk S v j = true → 0 ≤ psh S v j ∧ psh S v j ≤ 1125899906842624 * (j : Int)
  | 0, _ => by simp [psh]
  | j + 1, h => by
    simp only [pshOk, Bool.and_eq_true, inA_iff] at h
    have h1 := psh_bound j h.1
    have h2 := h.2
    simp only [psh]
    omega
theorem shOk_false {S : Nat → Nat → Int} {v j : Nat} {x : Int} (hj : j < 4) (hin : inA (S j v) = false) : shOk S v x = false := by
  unfold shOk
  rcases (show j = 0 ∨ j = 1 ∨ j = 2 ∨ j = 3 by omega) with rfl | rfl | rfl | rfl <;> simp [pshOk, hin]
theorem shOk_dec {S : Nat → Nat → Int} {v : Nat} {x : Int} (h : pshOk S v 4 = true) : shOk S v x = decide (psh S v 4 = x) := by
  unfold shOk
  rw [h, Bool.true_and]
set_option maxHeartbeats 1000000 in
theorem sharesGood_any (s : St) (sl : Value) (b v : Nat) (hv : v < 6) (w : World) (h : SAt w b (stC s sl)) :
    Calls Tryz.prog 105 #[.pointer (some ⟨b, 0, none⟩), .int .i64 (v : Int)] w fun e w' => e = .returned (.bool (shOk s.S v (s.V v).sh)) ∧ w = w' := by
  have HS : Hid (SAt w b (stC s sl)) := h
  have hv' : (v : Int) < 6 := by omega
  obtain ⟨_, hsh, _⟩ := h.val v hv
  clear h
  go_enter Tryz.func105, Tryz.ntmps105
  go_wp2
  go_loop [5, 8] (fun s5 i => ∃ (j : Nat), j ≤ 4 ∧ i = .int .i64 (j : Int) ∧ s5 = .int .i64 (psh s.S v j) ∧ Hid (pshOk s.S v j = true)) (fun _ i => (4 - intOf i).toNat)
  case atStart => exact ⟨0, by omega, rfl, rfl, rfl⟩
  case round =>
    obtain ⟨j, hj, rfl, rfl, HR⟩ := hrel
    by_cases hlt : j < 4
    · have hlt' : (j : Int) < 4 := by omega
      have hc := HS.out.shr j v hlt hv
      have i1 := inA_any (s.S j v)
      have hpb := psh_bound j HR.out
      by_cases hin : inA (s.S j v) = true
      · rw [hin] at i1
        have HR2 : Hid (pshOk s.S v (j + 1) = true) := by show (pshOk s.S v j && inA (s.S j v)) = true; rw [HR.out, hin]; rfl
        rw [inA_iff] at hin
        have hps : psh s.S v (j + 1) = psh s.S v j + s.S j v := rfl
        have HP : Hid (psh s.S v (j + 1) = psh s.S v j + s.S j v) := hps
        clear hps
        go_wp2_with (go_at_call 152; refine (i1 _).mono ?_; rintro e w5 ⟨rfl, rfl⟩)
        go_round
        case rel => exact ⟨j + 1, by omega, by go_num, by rw [HP.out], HR2.out⟩
        case measure => simp [intOf]; omega
      · simp only [Bool.not_eq_true] at hin
        rw [hin] at i1
        have HF : Hid (shOk s.S v (s.V v).sh = false) := shOk_false hlt hin
        clear hin
        go_wp2_with (go_at_call 152; refine (i1 _).mono ?_; rintro e w5 ⟨rfl, rfl⟩)
        go_ret
        exact ⟨by rw [HF.out]; rfl, rfl⟩
    · obtain rfl : j = 4 := by omega
      have HF : Hid (shOk s.S v (s.V v).sh = decide (psh s.S v 4 = (s.V v).sh)) := shOk_dec HR.out
      go_wp2
      go_ret
      exact ⟨by rw [HF.out]; congr 1, rfl⟩
end Go.Proofs.YtkhlihpghbhppaaGreat

