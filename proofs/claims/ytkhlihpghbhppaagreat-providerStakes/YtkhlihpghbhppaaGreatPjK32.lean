/- Parts of the proof: LG CE SD SE. -/
import Derived.Test.YtkhlihpghbhppaaGreatRows
import Derived.Test.YtkhlihpghbhppaaGreatPjK25
import Derived.Test.YtkhlihpghbhppaaGreatPjK26
import Derived.Test.YtkhlihpghbhppaaGreatPjK27
import Derived.Deep.QuietTactic
import Derived.BigQuiet
import Derived.WalkSmall
set_option maxRecDepth 100000
namespace Go.Proofs.YtkhlihpghbhppaaGreat.Ln
open Go.RowKit
theorem goodL_ref (x : Line) : (nonneg x.D = false → goodL x = false) ∧ (nonneg x.D = true → goodL x = (decide (x.S.length = x.D.length) && (decide (x.S.length ≤ 400) && (decide (0 ≤ x.g) && decide (x.g ≤ x.S.length))))) := by
  refine ⟨fun h => by simp [goodL, h], fun h => ?_⟩
  unfold goodL
  rw [h]
  by_cases h1 : x.D.length = x.S.length
  · simp [h1, Bool.and_assoc]
  · have h2 : ¬ x.S.length = x.D.length := fun e => h1 e.symm
    simp [h1, h2]
set_option maxHeartbeats 1000000 in
theorem rgood_any (x : Line) (sa da : Option Addr) (cs cd sb so db dO : Nat) (w : World) (L : LAt w x sa da cs cd sb so db dO) :
    Calls Tryz.prog 54 #[.agg #[.slice sa x.S.length cs, .slice da x.D.length cd, .int .i64 x.g, .bool x.cl]] w fun e w' => e = .returned (.bool (goodL x)) ∧ Below w.heap.size w w' := by
  obtain ⟨S, D, g, cl⟩ := x
  have HG := hide (goodL_ref ⟨S, D, g, cl⟩)
  obtain ⟨hls, hld, hsa, hda, -, -, PS, PD⟩ := L
  have HB0 : Hid (∀ o, Below w.heap.size w (w.alloc o)) := fun o => below_new w o
  have HDA : Hid (0 < D.length → da = some ⟨db, dO, none⟩) := hda
  have HPD : Hid (IntsAt w db dO D) := PD
  clear hsa hda PS PD
  dsimp only at *
  generalize goodL ⟨S, D, g, cl⟩ = G at *
  go_enter Tryz.func54, Tryz.ntmps54
  go_wp2
  go_loop [8] (fun i => ∃ (k : Nat), k ≤ D.length ∧ i = .int .i64 (k : Int) ∧ Hid (nonneg (D.take k) = true)) (fun i => D.length - (intOf i).toNat)
  case atStart => exact ⟨0, Nat.zero_le _, rfl, by simp [Hid, nonneg]⟩
  case round =>
    obtain ⟨k, hk, rfl, HR⟩ := hrel
    by_cases hlt : k < D.length
    · have hcell := (HPD.out.later (HB0.out (.cells #[.slice sa S.length cs, .slice da D.length cd, .int .i64 g, .bool cl] 37))) k hlt
      obtain ⟨y, hy⟩ : ∃ y, D.getD k 0 = y := ⟨_, rfl⟩
      rw [hy] at hcell
      have HY : Hid (D.getD k 0 = y) := hy
      clear hy
      have e := HDA.out (by omega)
      subst e
      by_cases hy0 : y < 0
      · have HF : Hid (G = false) := HG.out.1 (nonneg_not hlt (by rw [HY.out]; exact hy0))
        go_wp2
        go_ret
        exact ⟨by rw [HF.out]; rfl, HB0.out _⟩
      · go_wp2
        go_round
        case rel => exact ⟨k + 1, by omega, by go_num, nonneg_step HR.out hlt (by rw [HY.out]; omega)⟩
        case measure => simp [intOf]; omega
    · have hG := HG.out.2 (by have := HR.out; rwa [List.take_of_length_le (by omega)] at this)
      by_cases h1 : S.length = D.length
      · have h1' : ((S.length : Int) == (D.length : Int)) = true := by simp [h1]
        by_cases h2 : S.length ≤ 400
        · by_cases h3 : 0 ≤ g
          · by_cases h4 : g ≤ (S.length : Int)
            · have HF : Hid (G = true) := by show _ = _; rw [hG]; simp [h1, h3]; omega
              clear hG h1 HG HR
              go_wp2
              go_ret
              exact ⟨by rw [HF.out]; rfl, HB0.out _⟩
            · have HF : Hid (G = false) := by show _ = _; rw [hG]; simp; omega
              clear hG h1 HG HR
              go_wp2
              go_ret
              exact ⟨by rw [HF.out]; rfl, HB0.out _⟩
          · have HF : Hid (G = false) := by show _ = _; rw [hG]; simp; omega
            clear hG h1 HG HR
            go_wp2
            go_ret
            exact ⟨by rw [HF.out]; rfl, HB0.out _⟩
        · have HF : Hid (G = false) := by show _ = _; rw [hG]; simp; omega
          clear hG h1 HG HR
          go_wp2
          go_ret
          exact ⟨by rw [HF.out]; rfl, HB0.out _⟩
      · have h1' : ((S.length : Int) == (D.length : Int)) = false := by simp; omega
        have HF : Hid (G = false) := by show _ = _; rw [hG]; simp; omega
        clear hG h1 HG HR
        go_wp2
        go_ret
        exact ⟨by rw [HF.out]; rfl, HB0.out _⟩
set_option maxHeartbeats 1000000 in
/-- numbers that are alike -/
theorem nums_same (l : List Int) (a a' : Option Addr) (c c' b off b' off' : Nat) (w : World) (hlen : l.length * 8 ≤ 140737488351232) (ha : 0 < l.length → a = some ⟨b, off, none⟩) (ha' : 0 < l.length → a' = some ⟨b', off', none⟩)
    (hc : IntsAt w b off l) (hc' : IntsAt w b' off' l) :
    Calls Tryz.prog 30 #[.slice a l.length c, .slice a' l.length c'] w fun e w' => e = .returned (.bool true) ∧ Below w.heap.size w w' := by
  have HA := hide ha
  have HA' := hide ha'
  have HC := hide hc
  have HC' := hide hc'
  clear ha ha' hc hc'
  go_enter Tryz.func30, Tryz.ntmps30
  go_upto_region 4 with fail
  go_loopw [13] (fun i wl => ∃ (k : Nat), k ≤ l.length ∧ i = .int .i64 (k : Int) ∧ Hid (Below w.heap.size w wl)) (fun i _ => l.length - (intOf i).toNat)
  case atStart => exact ⟨0, Nat.zero_le _, rfl, Below.refl _ _⟩
  case round =>
    obtain ⟨k, hk, rfl, HR⟩ := hrel
    by_cases hlt : k < l.length
    · have c1 := HC.out.later HR.out k hlt
      have c2 := HC'.out.later HR.out k hlt
      have e := HA.out (by omega)
      subst e
      have e := HA'.out (by omega)
      subst e
      generalize l.getD k 0 = n at *
      have hkI : (k : Int) < (l.length : Int) := by omega
      go_upto_region 6 with fail
      go_quiet (fail)
      go_wp2
      exact ⟨⟨k + 1, by omega, by go_num, ⟨HR.out.os, HR.out.tape, HR.out.output, HR.out.size, HR.out.block⟩⟩, by simp [intOf]; omega⟩
    · obtain rfl : k = l.length := by omega
      go_wp2
      go_ret
      exact ⟨rfl, HR.out⟩
set_option maxHeartbeats 1000000 in
/-- lines that are alike -/
theorem same_any (x : Line) (sa da sa' da' : Option Addr) (cs cd sb so db dO cs' cd' sb' so' db' dO' : Nat) (w : World) (L : LAt w x sa da cs cd sb so db dO) (L' : LAt w x sa' da' cs' cd' sb' so' db' dO') :
    Calls Tryz.prog 44 #[.agg #[.slice sa x.S.length cs, .slice da x.D.length cd, .int .i64 x.g, .bool x.cl], .agg #[.slice sa' x.S.length cs', .slice da' x.D.length cd', .int .i64 x.g, .bool x.cl]] w fun e w' => e = .returned (.bool true) ∧ Below w.heap.size w w' := by
  obtain ⟨S, D, g, cl⟩ := x
  dsimp only
  have hlS : S.length * 16 ≤ 140737488351232 := L.hls
  have hlD : D.length * 8 ≤ 140737488351232 := L.hld
  have HL := hide L
  have HL' := hide L'
  have F1 := (FAt.new w (.slice sa S.length cs) (.slice da D.length cd) (.int .i64 g) (.bool cl)).alloc (.cells #[.slice sa' S.length cs', .slice da' D.length cd', .int .i64 g, .bool cl] 37)
  have F2 := FAt.new2 w (.cells #[.slice sa S.length cs, .slice da D.length cd, .int .i64 g, .bool cl] 37) (.slice sa' S.length cs') (.slice da' D.length cd') (.int .i64 g) (.bool cl)
  have BW : Below w.heap.size w ((w.alloc (.cells #[.slice sa S.length cs, .slice da D.length cd, .int .i64 g, .bool cl] 37)).alloc (.cells #[.slice sa' S.length cs', .slice da' D.length cd', .int .i64 g, .bool cl] 37)) := (below_new w _).alloc (by simp) _
  have HX := hide (show _ ∧ _ ∧ _ from ⟨F1, F2, BW⟩)
  clear L L' F1 F2 BW
  go_enter Tryz.func44, Tryz.ntmps44
  go_upto_region 1 with fail
  generalize ((w.alloc (.cells #[.slice sa S.length cs, .slice da D.length cd, .int .i64 g, .bool cl] 37)).alloc (.cells #[.slice sa' S.length cs', .slice da' D.length cd', .int .i64 g, .bool cl] 37)) = w0 at *
  obtain ⟨⟨c0, c1, c2, c3⟩, -⟩ := HX.out.1.facts
  obtain ⟨⟨d0, d1, d2, d3⟩, -⟩ := HX.out.2.1.facts
  go_upto_region 4 with fail
  go_loopw [30] (fun i wl => ∃ (k : Nat), k ≤ S.length ∧ i = .int .i64 (k : Int) ∧ Hid (Below w0.heap.size w0 wl)) (fun i _ => S.length - (intOf i).toNat)
  case atStart => exact ⟨0, Nat.zero_le _, rfl, Below.refl _ _⟩
  case round =>
    obtain ⟨k, hk, rfl, HR⟩ := hrel
    have HBR := hide (below_then HX.out.2.2 HR.out)
    obtain ⟨⟨c0, c1, c2, c3⟩, -⟩ := (HX.out.1.later HR.out HX.out.1.lt).facts
    obtain ⟨⟨d0, d1, d2, d3⟩, -⟩ := (HX.out.2.1.later HR.out HX.out.2.1.lt).facts
    by_cases hlt : k < S.length
    · have s1 := HL.out.PS.later HBR.out k hlt
      have s2 := HL'.out.PS.later HBR.out k hlt
      have e := HL.out.hsa (by show 0 < S.length; omega)
      subst e
      have e := HL'.out.hsa (by show 0 < S.length; omega)
      subst e
      dsimp only at s1 s2
      generalize S.getD k ByteArray.empty = n at *
      have hkI : (k : Int) < (S.length : Int) := by omega
      go_upto_region 6 with fail
      go_quiet (fail)
      go_wp2
      exact ⟨⟨k + 1, by omega, by go_num, ⟨HR.out.os, HR.out.tape, HR.out.output, HR.out.size, HR.out.block⟩⟩, by simp [intOf]; omega⟩
    · have H5 := hide (nums_same D da da' cd cd' db dO db' dO' wr hlD HL.out.hda HL'.out.hda (HL.out.PD.later HBR.out) (HL'.out.PD.later HBR.out))
      go_wp2_with (go_at_call 30; refine H5.out.mono ?_; rintro e w5 ⟨rfl, hb⟩)
      go_ret
      exact ⟨rfl, below_then HBR.out hb⟩
end Go.Proofs.YtkhlihpghbhppaaGreat.Ln

set_option maxRecDepth 100000
namespace Go.Proofs.YtkhlihpghbhppaaGreat.Cd
open Go.RowKit
theorem take_step {α : Type} {l m : List α} {k : Nat} (d : α) (h : l.take k = m.take k) (hl : k < l.length) (hm : k < m.length) (he : l.getD k d = m.getD k d) : l.take (k + 1) = m.take (k + 1) := by
  rw [List.take_succ_eq_append_getElem hl, List.take_succ_eq_append_getElem hm, h]
  simp [List.getD, hl, hm] at he
  rw [he]
set_option maxHeartbeats 400000 in
theorem pws30 (l m : List (Int × Int)) (a a' : Option Addr) (c c' b off b' off' : Nat) (w : World) (hlen : l.length ≤ maxLen) (hlen' : m.length ≤ maxLen) (ha : 0 < l.length → a = some ⟨b, off, none⟩) (ha' : 0 < m.length → a' = some ⟨b', off', none⟩)
    (hc : PwsAt w b off l) (hc' : PwsAt w b' off' m) :
    Calls Tryz.prog 43 #[.slice a l.length c, .slice a' m.length c'] w fun e w' => e = .returned (.bool (decide (l = m))) ∧ Below w.heap.size w w' := by
  unfold maxLen at hlen hlen'
  have HA : Hid (0 < l.length → a = some ⟨b, off, none⟩) := ha
  have HA' : Hid (0 < m.length → a' = some ⟨b', off', none⟩) := ha'
  clear ha ha'
  by_cases hne : l.length = m.length
  · have h0 : ((l.length : Int) != (m.length : Int)) = false := by simp [hne]
    have HN : Hid (l.length = m.length) := hne
    have hle : l.length ≤ m.length := by omega
    have hle' : m.length ≤ l.length := by omega
    clear hne
    go_enter Tryz.func43, Tryz.ntmps43
    go_wp2
    go_loopw [13] (fun i wl => ∃ k : Nat, k ≤ l.length ∧ i = .int .i64 k ∧ Hid (l.take k = m.take k) ∧ Hid (Below w.heap.size w wl)) (fun i _ => l.length - (intOf i).toNat)
    case atStart => exact ⟨0, Nat.zero_le _, rfl, rfl, Below.refl _ _⟩
    case round =>
      obtain ⟨k, hk, rfl, HR, HB⟩ := hrel
      by_cases hlt : k < l.length
      · have hcell := hc.later HB.out k hlt
        have hlt' : k < m.length := by omega
        have hcell' := hc'.later HB.out k hlt'
        obtain ⟨y, hy⟩ : ∃ y, l.getD k (0, 0) = y := ⟨_, rfl⟩
        obtain ⟨z, hz⟩ : ∃ z, m.getD k (0, 0) = z := ⟨_, rfl⟩
        rw [hy] at hcell
        rw [hz] at hcell'
        obtain ⟨hc0, hc1⟩ := hcell
        obtain ⟨hd0, hd1⟩ := hcell'
        have e := HA.out (by omega)
        subst e
        have e := HA'.out (by omega)
        subst e
        have HY : Hid (l.getD k (0, 0) = y ∧ m.getD k (0, 0) = z) := ⟨hy, hz⟩
        clear hy hz
        obtain ⟨y0, y1⟩ := y
        obtain ⟨z0, z1⟩ := z
        dsimp only at hc0 hc1 hd0 hd1
        by_cases hyz : (y0, y1) = (z0, z1)
        · cases hyz
          go_wp2_with fail
          go_quiet (fail)
          go_wp2
          go_roundw
          case rel => exact ⟨k + 1, by omega, by go_num, take_step (0, 0) HR.out hlt hlt' (HY.out.1.trans HY.out.2.symm), below_drewN HB.out _⟩
          case measure => simp [intOf]; omega
        · have HF : Hid (decide (l = m) = false) := by
            show _ = _
            rw [decide_eq_false_iff_not]
            intro e; subst e; exact hyz (HY.out.1.symm.trans HY.out.2)
          by_cases h1 : y0 = z0
          · subst h1
            have hb : (y1 == z1) = false := by simp; intro h2; exact hyz (by rw [h2])
            clear hyz
            go_wp2_with fail
            go_quiet (fail)
            go_wp2
            go_ret
            exact ⟨by rw [HF.out]; rfl, below_drewN HB.out _⟩
          · have hb : (y0 == z0) = false := by simpa using h1
            clear hyz h1
            go_wp2_with fail
            go_quiet (fail)
            go_wp2
            go_ret
            exact ⟨by rw [HF.out]; rfl, below_drewN HB.out _⟩
      · have HF : Hid (decide (l = m) = true) := by
          show _ = _
          rw [decide_eq_true_eq]
          have h := HR.out
          rwa [List.take_of_length_le (by omega), List.take_of_length_le (by omega)] at h
        go_wp2
        go_ret
        exact ⟨by rw [HF.out]; rfl, HB.out⟩
  · have HF : Hid (decide (l = m) = false) := by
      show _ = _
      rw [decide_eq_false_iff_not]
      intro e; subst e; exact hne rfl
    have h0 : ((l.length : Int) != (m.length : Int)) = true := by simp; omega
    clear hne
    go_enter Tryz.func43, Tryz.ntmps43
    go_wp2
    go_ret
    exact ⟨by rw [HF.out]; rfl, Below.refl _ _⟩
set_option maxHeartbeats 400000 in
theorem nums31 (l m : List Int) (a a' : Option Addr) (c c' b off b' off' : Nat) (w : World) (hlen : l.length ≤ maxLen) (hlen' : m.length ≤ maxLen) (ha : 0 < l.length → a = some ⟨b, off, none⟩) (ha' : 0 < m.length → a' = some ⟨b', off', none⟩)
    (hc : IntsAt w b off l) (hc' : IntsAt w b' off' m) :
    Calls Tryz.prog 30 #[.slice a l.length c, .slice a' m.length c'] w fun e w' => e = .returned (.bool (decide (l = m))) ∧ Below w.heap.size w w' := by
  unfold maxLen at hlen hlen'
  have HA : Hid (0 < l.length → a = some ⟨b, off, none⟩) := ha
  have HA' : Hid (0 < m.length → a' = some ⟨b', off', none⟩) := ha'
  clear ha ha'
  by_cases hne : l.length = m.length
  · have h0 : ((l.length : Int) != (m.length : Int)) = false := by simp [hne]
    have HN : Hid (l.length = m.length) := hne
    have hle : l.length ≤ m.length := by omega
    have hle' : m.length ≤ l.length := by omega
    clear hne
    go_enter Tryz.func30, Tryz.ntmps30
    go_wp2
    go_loopw [13] (fun i wl => ∃ k : Nat, k ≤ l.length ∧ i = .int .i64 k ∧ Hid (l.take k = m.take k) ∧ Hid (Below w.heap.size w wl)) (fun i _ => l.length - (intOf i).toNat)
    case atStart => exact ⟨0, Nat.zero_le _, rfl, rfl, Below.refl _ _⟩
    case round =>
      obtain ⟨k, hk, rfl, HR, HB⟩ := hrel
      by_cases hlt : k < l.length
      · have hcell := hc.later HB.out k hlt
        have hlt' : k < m.length := by omega
        have hcell' := hc'.later HB.out k hlt'
        obtain ⟨y, hy⟩ : ∃ y, l.getD k 0 = y := ⟨_, rfl⟩
        obtain ⟨z, hz⟩ : ∃ z, m.getD k 0 = z := ⟨_, rfl⟩
        rw [hy] at hcell
        rw [hz] at hcell'
        have e := HA.out (by omega)
        subst e
        have e := HA'.out (by omega)
        subst e
        have HY : Hid (l.getD k 0 = y ∧ m.getD k 0 = z) := ⟨hy, hz⟩
        clear hy hz
        by_cases hyz : y = z
        · subst hyz
          go_wp2_with fail
          go_quiet (fail)
          go_wp2
          go_roundw
          case rel => exact ⟨k + 1, by omega, by go_num, take_step 0 HR.out hlt hlt' (HY.out.1.trans HY.out.2.symm), below_drewN HB.out _⟩
          case measure => simp [intOf]; omega
        · have HF : Hid (decide (l = m) = false) := by
            show _ = _
            rw [decide_eq_false_iff_not]
            intro e; subst e; exact hyz (HY.out.1.symm.trans HY.out.2)
          have hb : (y != z) = true := by simpa using hyz
          clear hyz
          go_wp2_with fail
          go_quiet (fail)
          go_wp2
          go_ret
          exact ⟨by rw [HF.out]; rfl, below_drewN HB.out _⟩
      · have HF : Hid (decide (l = m) = true) := by
          show _ = _
          rw [decide_eq_true_eq]
          have h := HR.out
          rwa [List.take_of_length_le (by omega), List.take_of_length_le (by omega)] at h
        go_wp2
        go_ret
        exact ⟨by rw [HF.out]; rfl, HB.out⟩
  · have HF : Hid (decide (l = m) = false) := by
      show _ = _
      rw [decide_eq_false_iff_not]
      intro e; subst e; exact hne rfl
    have h0 : ((l.length : Int) != (m.length : Int)) = true := by simp; omega
    clear hne
    go_enter Tryz.func30, Tryz.ntmps30
    go_wp2
    go_ret
    exact ⟨by rw [HF.out]; rfl, Below.refl _ _⟩
theorem same_cases (k i v n k' i' v' n' : Int) (S S' : List (Int × Int)) (D D' : List Int) :
    ((k == k') = false ∧ decide (k = k' ∧ i = i' ∧ v = v' ∧ n = n' ∧ S = S' ∧ D = D') = false) ∨
    (k = k' ∧ (i == i') = false ∧ decide (k = k' ∧ i = i' ∧ v = v' ∧ n = n' ∧ S = S' ∧ D = D') = false) ∨
    (k = k' ∧ i = i' ∧ (v == v') = false ∧ decide (k = k' ∧ i = i' ∧ v = v' ∧ n = n' ∧ S = S' ∧ D = D') = false) ∨
    (k = k' ∧ i = i' ∧ v = v' ∧ (n == n') = false ∧ decide (k = k' ∧ i = i' ∧ v = v' ∧ n = n' ∧ S = S' ∧ D = D') = false) ∨
    (k = k' ∧ i = i' ∧ v = v' ∧ n = n' ∧ decide (S = S') = false ∧ decide (k = k' ∧ i = i' ∧ v = v' ∧ n = n' ∧ S = S' ∧ D = D') = false) ∨
    (k = k' ∧ i = i' ∧ v = v' ∧ n = n' ∧ decide (S = S') = true ∧ decide (k = k' ∧ i = i' ∧ v = v' ∧ n = n' ∧ S = S' ∧ D = D') = decide (D = D')) := by
  by_cases h1 : k = k' <;> by_cases h2 : i = i' <;> by_cases h3 : v = v' <;> by_cases h4 : n = n' <;> by_cases h5 : S = S' <;> simp [h1, h2, h3, h4, h5]
set_option maxHeartbeats 1000000 in
theorem same17 (k i v n k' i' v' n' : Int) (S S' : List (Int × Int)) (D D' : List Int) (sa da sa' da' : Option Addr) (cs cd sb so db dO cs' cd' sb' so' db' dO' : Nat) (w : World)
    (hls : S.length ≤ maxLen) (hld : D.length ≤ maxLen) (hsa : 0 < S.length → sa = some ⟨sb, so, none⟩) (hda : 0 < D.length → da = some ⟨db, dO, none⟩) (PS : PwsAt w sb so S) (PD : IntsAt w db dO D)
    (hls' : S'.length ≤ maxLen) (hld' : D'.length ≤ maxLen) (hsa' : 0 < S'.length → sa' = some ⟨sb', so', none⟩) (hda' : 0 < D'.length → da' = some ⟨db', dO', none⟩) (PS' : PwsAt w sb' so' S') (PD' : IntsAt w db' dO' D') :
    Calls Tryz.prog 45 #[.agg #[.int .i64 k, .int .i64 i, .int .i64 v, .int .i64 n, .slice sa S.length cs, .slice da D.length cd], .agg #[.int .i64 k', .int .i64 i', .int .i64 v', .int .i64 n', .slice sa' S'.length cs', .slice da' D'.length cd']] w
      fun e w' => e = .returned (.bool (decide (k = k' ∧ i = i' ∧ v = v' ∧ n = n' ∧ S = S' ∧ D = D'))) ∧ Below w.heap.size w w' := by
  have hcs := same_cases k i v n k' i' v' n' S S' D D'
  generalize decide (k = k' ∧ i = i' ∧ v = v' ∧ n = n' ∧ S = S' ∧ D = D') = F at *
  have X : Hid (S.length ≤ maxLen ∧ D.length ≤ maxLen ∧ (0 < S.length → sa = some ⟨sb, so, none⟩) ∧ (0 < D.length → da = some ⟨db, dO, none⟩)) := ⟨hls, hld, hsa, hda⟩
  have X' : Hid (S'.length ≤ maxLen ∧ D'.length ≤ maxLen ∧ (0 < S'.length → sa' = some ⟨sb', so', none⟩) ∧ (0 < D'.length → da' = some ⟨db', dO', none⟩)) := ⟨hls', hld', hsa', hda'⟩
  have hb2 : ∀ o o', Below w.heap.size w ((w.alloc o).alloc o') := fun o o' => (below_new w o).alloc (by simp) o'
  have HB0 : Hid (∀ o o', Below w.heap.size w ((w.alloc o).alloc o')) := hb2
  clear hls hld hsa hda hls' hld' hsa' hda' hb2
  rcases hcs with ⟨h1, rfl⟩ | ⟨rfl, h1, rfl⟩ | ⟨rfl, rfl, h1, rfl⟩ | ⟨rfl, rfl, rfl, h1, rfl⟩ | ⟨rfl, rfl, rfl, rfl, h1, rfl⟩ | ⟨rfl, rfl, rfl, rfl, h1, rfl⟩
  all_goals go_enter Tryz.func45, Tryz.ntmps45
  all_goals go_wp2_with (first
    | (go_at_call 43; refine (pws30 S S' sa sa' cs cs' sb so sb' so' _ X.out.1 X'.out.1 X.out.2.2.1 X'.out.2.2.1 (PS.later (HB0.out _ _)) (PS'.later (HB0.out _ _))).mono ?_; rintro e w1 ⟨rfl, hb⟩
       have PD1 := (PD.later (HB0.out _ _)).later hb
       have PD1' := (PD'.later (HB0.out _ _)).later hb
       obtain ⟨hc, hf⟩ := bcell hb
       have HB1 : Hid (Below w.heap.size w w1) := below_then (HB0.out _ _) hb
       clear hb PS PD PS' PD')
    | (go_at_call 30; refine (nums31 D D' da da' cd cd' db dO db' dO' _ X.out.2.1 X'.out.2.1 X.out.2.2.2 X'.out.2.2.2 PD1 PD1').mono ?_; rintro e w2 ⟨rfl, hb⟩
       have HB2 : Hid (Below w.heap.size w w2) := below_then HB1.out hb
       clear hb))
  all_goals go_ret
  all_goals refine ⟨rfl, ?_⟩
  all_goals first | exact HB2.out | exact HB1.out | exact HB0.out _ _
end Go.Proofs.YtkhlihpghbhppaaGreat.Cd

set_option maxRecDepth 100000
namespace Go.Proofs.YtkhlihpghbhppaaGreat
open Go.RowKit
theorem psh_bound {S : Nat → Nat → Int} {v : Nat} : ∀ j, pshOk S v j = true → 0 ≤ psh S v j ∧ psh S v j ≤ 1125899906842624 * (j : Int)
  | 0, _ => by simp [psh]
  | j + 1, h => by
    simp only [pshOk, Bool.and_eq_true, inA_iff] at h
    have h1 := psh_bound j h.1
    have h2 := h.2
    simp only [psh]
    omega
theorem shOk_false {S : Nat → Nat → Int} {v j : Nat} {x : Int} (hj : j < 4) (hin : inA (S j v) = false) : shOk S v x = false := by
  unfold shOk
  rcases (show j = 0 ∨ j = 1 ∨ j = 2 ∨ j = 3 by omega) with rfl | rfl | rfl | rfl <;> simp [pshOk, hin]
theorem shOk_dec {S : Nat → Nat → Int} {v : Nat} {x : Int} (h : pshOk S v 4 = true) : shOk S v x = decide (psh S v 4 = x) := by
  unfold shOk
  rw [h, Bool.true_and]
set_option maxHeartbeats 1000000 in
theorem sharesGood_any (s : St) (sl : Value) (b v : Nat) (hv : v < 6) (w : World) (h : SAt w b (stC s sl)) :
    Calls Tryz.prog 105 #[.pointer (some ⟨b, 0, none⟩), .int .i64 (v : Int)] w fun e w' => e = .returned (.bool (shOk s.S v (s.V v).sh)) ∧ w = w' := by
  have HS : Hid (SAt w b (stC s sl)) := h
  have hv' : (v : Int) < 6 := by omega
  obtain ⟨_, hsh, _⟩ := h.val v hv
  clear h
  go_enter Tryz.func105, Tryz.ntmps105
  go_wp2
  go_loop [5, 8] (fun s5 i => ∃ (j : Nat), j ≤ 4 ∧ i = .int .i64 (j : Int) ∧ s5 = .int .i64 (psh s.S v j) ∧ Hid (pshOk s.S v j = true)) (fun _ i => (4 - intOf i).toNat)
  case atStart => exact ⟨0, by omega, rfl, rfl, rfl⟩
  case round =>
    obtain ⟨j, hj, rfl, rfl, HR⟩ := hrel
    by_cases hlt : j < 4
    · have hlt' : (j : Int) < 4 := by omega
      have hc := HS.out.shr j v hlt hv
      have i1 := inA_any (s.S j v)
      have hpb := psh_bound j HR.out
      by_cases hin : inA (s.S j v) = true
      · rw [hin] at i1
        have HR2 : Hid (pshOk s.S v (j + 1) = true) := by show (pshOk s.S v j && inA (s.S j v)) = true; rw [HR.out, hin]; rfl
        rw [inA_iff] at hin
        have hps : psh s.S v (j + 1) = psh s.S v j + s.S j v := rfl
        have HP : Hid (psh s.S v (j + 1) = psh s.S v j + s.S j v) := hps
        clear hps
        go_wp2_with (go_at_call 152; refine (i1 _).mono ?_; rintro e w5 ⟨rfl, rfl⟩)
        go_round
        case rel => exact ⟨j + 1, by omega, by go_num, by rw [HP.out], HR2.out⟩
        case measure => simp [intOf]; omega
      · simp only [Bool.not_eq_true] at hin
        rw [hin] at i1
        have HF : Hid (shOk s.S v (s.V v).sh = false) := shOk_false hlt hin
        clear hin
        go_wp2_with (go_at_call 152; refine (i1 _).mono ?_; rintro e w5 ⟨rfl, rfl⟩)
        go_ret
        exact ⟨by rw [HF.out]; rfl, rfl⟩
    · obtain rfl : j = 4 := by omega
      have HF : Hid (shOk s.S v (s.V v).sh = decide (psh s.S v 4 = (s.V v).sh)) := shOk_dec HR.out
      go_wp2
      go_ret
      exact ⟨by rw [HF.out]; congr 1, rfl⟩
end Go.Proofs.YtkhlihpghbhppaaGreat

set_option maxRecDepth 100000
namespace Go.Proofs.YtkhlihpghbhppaaGreat
open Go.RowKit
theorem ptok_bound {V : Nat → Vd} : ∀ k, (∀ i, i < k → inA (V i).tok = true) → 0 ≤ ptok V k ∧ ptok V k ≤ 1125899906842624 * (k : Int)
  | 0, _ => by simp [ptok]
  | k + 1, h => by
    have h1 := ptok_bound k (fun i hi => h i (by omega))
    have h2 := inA_iff.1 (h k (by omega))
    simp only [ptok] at *
    omega
theorem plost_bound {V : Nat → Vd} : ∀ k, (∀ i, i < k → inA (V i).lost = true) → 0 ≤ plost V k ∧ plost V k ≤ 1125899906842624 * (k : Int)
  | 0, _ => by simp [plost]
  | k + 1, h => by
    have h1 := plost_bound k (fun i hi => h i (by omega))
    have h2 := inA_iff.1 (h k (by omega))
    simp only [plost] at *
    omega
theorem amts_take {W : List Wt} {k : Nat} {x : Wt} (h : W[k]? = some x) : amts (W.take (k + 1)) = amts (W.take k) + x.amt := by
  have hk := (List.getElem?_eq_some_iff.1 h).1
  rw [List.take_succ_eq_append_getElem hk]
  have e : W[k] = x := by simpa [List.getElem?_eq_getElem hk] using h
  rw [e]
  generalize W.take k = l
  induction l with
  | nil => simp [amts]
  | cons y r ih => simp only [List.cons_append, amts, ih]; omega
theorem amts_bound : ∀ {l : List Wt}, (∀ x ∈ l, inA x.amt = true) → 0 ≤ amts l ∧ amts l ≤ 1125899906842624 * (l.length : Int)
  | [], _ => by simp [amts]
  | x :: r, h => by
    have h1 := amts_bound (l := r) (fun y hy => h y (List.mem_cons_of_mem _ hy))
    have h2 := inA_iff.1 (h x List.mem_cons_self)
    simp only [amts, List.length_cons]
    omega
set_option maxHeartbeats 2000000 in
theorem isBalanced_any (s : St) (ao : Option Addr) (sb so c b : Nat) (w : World) (h : SAt w b (stC s (.slice ao s.W.length c))) (hW : WsAt w ao sb so s.W) (hl : s.W.length ≤ 60)
    (hv : ∀ i, i < 6 → inA (s.V i).tok = true ∧ inA (s.V i).lost = true) (ha : ∀ x ∈ s.W, inA x.amt = true) :
    Calls Tryz.prog 106 #[.pointer (some ⟨b, 0, none⟩)] w fun e w' => e = .returned (.bool (bal s)) ∧ Below w.heap.size w w' := by
  have HS : Hid (SAt w b (stC s (.slice ao s.W.length c))) := h
  have HV : Hid (∀ i, i < 6 → inA (s.V i).tok = true ∧ inA (s.V i).lost = true) := hv
  have HA : Hid (∀ x ∈ s.W, inA x.amt = true) := ha
  have HW : Hid (WsAt w ao sb so s.W) := hW
  have hrg := st_vals h
  have hblt : b < w.heap.size := h.lt
  clear hv ha h hW
  go_enter Tryz.func106, Tryz.ntmps106
  go_upto_region 2 with fail
  apply wp_region_lit
  iterate 9 go_step
  refine wpList_load_mid rfl 27 _ rfl b 7 rfl _ _ hrg Tryz.underlying27 rfl (by rw [infoVs]; rfl) ?_
  clear hrg
  go_wp2_with fail
  go_loopw [3, 4, 14] (fun s3 s4 i wl => ∃ k : Nat, k ≤ 6 ∧ i = .int .i64 (k : Int) ∧ s3 = .int .i64 (ptok s.V k) ∧ s4 = .int .i64 (plost s.V k) ∧ Hid (Below w.heap.size w wl)) (fun _ _ i _ => (6 - intOf i).toNat)
  case atStart => exact ⟨0, by omega, rfl, rfl, rfl, Below.refl _ _⟩
  case round =>
    obtain ⟨k, hk, rfl, rfl, rfl, HB⟩ := hrel
    have hsz : w.heap.size ≤ wr.heap.size := HB.out.size
    by_cases hk6 : k < 6
    · have hix := fun w => ixV w s.V k hk6
      have b1 := ptok_bound (V := s.V) k (fun i hi => (HV.out i (by omega)).1)
      have b2 := plost_bound (V := s.V) k (fun i hi => (HV.out i (by omega)).2)
      have b3 := inA_iff.1 (HV.out k hk6).1
      have b4 := inA_iff.1 (HV.out k hk6).2
      have P1 : Hid (ptok s.V (k + 1) = ptok s.V k + (s.V k).tok) := rfl
      have P2 : Hid (plost s.V (k + 1) = plost s.V k + (s.V k).lost) := rfl
      go_wp2_with fail
      go_roundw
      case rel => exact ⟨k + 1, by omega, by go_num, by rw [P1.out], by rw [P2.out], HB.out.alloc hsz _⟩
      case measure => simp [intOf]; omega
    · obtain rfl : k = 6 := by omega
      rename World => w1
      have S1 := HS.out.later HB.out hblt
      obtain ⟨x0, x1, x2, x3, x4, x5, x6, x7, x8⟩ := st_cells S1
      have HS1 : Hid (SAt w1 b (stC s (.slice ao s.W.length c))) := S1
      have HW1 : Hid (WsAt w1 ao sb so s.W) := HW.out.over HB.out
      have hadr := HW.out.adr
      clear x0 x1 x2 x3 x4 x5 x6 x8 S1 HS HW
      go_wp2_with fail
      clear x7
      go_loopw [5, 31] (fun s5 i wl => ∃ k : Nat, k ≤ s.W.length ∧ i = .int .i64 (k : Int) ∧ s5 = .int .i64 (amts (s.W.take k)) ∧ Hid (Below w1.heap.size w1 wl)) (fun _ i _ => s.W.length - (intOf i).toNat)
      case atStart => exact ⟨0, by omega, rfl, rfl, Below.refl _ _⟩
      case round =>
        obtain ⟨k, hk, rfl, rfl, HB1⟩ := hrel
        have hsz1 : w1.heap.size ≤ wr.heap.size := HB1.out.size
        by_cases hlt : k < s.W.length
        · obtain ⟨x, hx, _⟩ := drop_at hlt
          obtain ⟨c0, c1, c2, c3, c4, c5, c6, c7⟩ := (HW1.out.over HB1.out).cell k x hx
          have P1 : Hid (amts (s.W.take (k + 1)) = amts (s.W.take k) + x.amt) := amts_take hx
          have b1 := amts_bound (l := s.W.take k) (fun y hy => HA.out y (List.mem_of_mem_take hy))
          rw [List.length_take, Nat.min_eq_left hk] at b1
          have b2 := inA_iff.1 (HA.out x (List.mem_of_getElem? hx))
          obtain rfl := hadr (by omega)
          clear hadr hx
          go_wp2_with fail
          go_roundw
          case rel => exact ⟨k + 1, by omega, by go_num, by rw [P1.out], HB1.out.alloc hsz1 _⟩
          case measure => simp [intOf]; omega
        · have S1 := HS1.out.later HB1.out (by omega)
          obtain ⟨x0, x1, x2, x3, x4, x5, x6, x7, x8⟩ := st_cells S1
          have HF : Hid (bal s = (decide (ptok s.V 6 = s.b.bo) && decide (amts (s.W.take k) = s.b.wa) && decide (plost s.V 6 = s.b.bu))) := by rw [List.take_of_length_le (by omega)]; exact rfl
          clear x0 x1 x2 x3 x7 x8 S1
          generalize ptok s.V 6 = pt at *
          generalize plost s.V 6 = pl at *
          generalize amts (s.W.take k) = pa at *
          go_wp2_with fail
          all_goals (go_ret; refine ⟨?_, HB.out.trans (HB1.out.mono hsz)⟩; rw [HF.out]; congr 1; congr 1; first | (simp_all; done) | (simp_all; rfl))
end Go.Proofs.YtkhlihpghbhppaaGreat

