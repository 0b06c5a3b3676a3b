/- Parts of the proof: KG1. -/
import Derived.Test.YtdkalcnlncjgiaaRows
import Derived.Test.YtdkalcnlncjgiaaBK2
import Derived.Test.YtdkalcnlncjgiaaBK41
import Derived.Test.YtdkalcnlncjgiaaBK44
set_option maxRecDepth 100000
namespace Go.Proofs.Ytdkalcnlncjgiaa.Kc
open Go.RowKit Pv
theorem ctime_any (n : Int) (w : World) : Calls Try.prog 19 #[.int .i64 n] w fun e w' => e = .returned (.bool (isT n)) ∧ w = w' := by
  have hT : isT n = (decide (0 ≤ n) && decide (n ≤ 1099511627776)) := rfl
  generalize isT n = t at *
  have HT := hide hT
  clear hT
  by_cases h : 0 ≤ n
  · by_cases h2 : n ≤ 1099511627776
    · have e : t = true := by rw [HT.out]; simp [h, h2]
      subst e
      go_enter Try.func19, Try.ntmps19
      go_wp2
      go_ret
      exact ⟨rfl, rfl⟩
    · have e : t = false := by rw [HT.out]; simp [h2]
      subst e
      go_enter Try.func19, Try.ntmps19
      go_wp2
      go_ret
      exact ⟨rfl, rfl⟩
  · have e : t = false := by rw [HT.out]; simp [h]
    subst e
    go_enter Try.func19, Try.ntmps19
    go_wp2
    go_ret
    exact ⟨rfl, rfl⟩
theorem cval_any (v : Int) (w : World) : Calls Try.prog 35 #[.int .i64 v] w fun e w' => e = .returned (.bool (isV v)) ∧ w = w' := by
  have hT : isV v = decide (0 ≤ v ∧ v < 6) := rfl
  generalize isV v = t at *
  have HT := hide hT
  clear hT
  by_cases h : 0 ≤ v
  · by_cases h2 : v < 6
    · have e : t = true := by rw [HT.out]; simp [h, h2]
      subst e
      go_enter Try.func35, Try.ntmps35
      go_wp2
      go_ret
      exact ⟨rfl, rfl⟩
    · have e : t = false := by rw [HT.out]; simp [h2]
      subst e
      go_enter Try.func35, Try.ntmps35
      go_wp2
      go_ret
      exact ⟨rfl, rfl⟩
  · have e : t = false := by rw [HT.out]; simp [h]
    subst e
    go_enter Try.func35, Try.ntmps35
    go_wp2
    go_ret
    exact ⟨rfl, rfl⟩
set_option maxHeartbeats 2000000 in
theorem cset_rep (l : List (Int × Int)) (v : Value) (P : Nat → Prop) (w : World) (h : Rep P w v 2 16 (pwC l)) : Calls Try.prog 44 #[v] w fun e w' => e = .returned (.bool (setB (-1) l)) ∧ Below w.heap.size w w' := by
  obtain ⟨A, C, rfl, hs, -, hc, -⟩ := h.open (pwC_length _) (by decide)
  have HC := hide hc
  have hlen : l.length ≤ 8796093022202 := by omega
  obtain ⟨G, hG⟩ : ∃ G, setB (-1) l = G := ⟨_, rfl⟩
  have HG := hide hG
  rw [hG]
  clear hc h hs hG
  go_enter Try.func44, Try.ntmps44
  go_upto_region 3 with fail
  go_loopw [3, 8] (fun s3 i wl => ∃ (k : Nat) (last : Int), k ≤ l.length ∧ i = .int .i64 (k : Int) ∧ s3 = .int .i64 last ∧ -1 ≤ last ∧ Hid (G = setB last (l.drop k) ∧ Below w.heap.size w wl)) (fun _ i _ => l.length - (intOf i).toNat)
  case atStart => exact ⟨0, -1, Nat.zero_le _, rfl, rfl, by omega, HG.out.symm, Below.refl _ _⟩
  case round =>
    obtain ⟨k, last, hk, rfl, rfl, hla, HR⟩ := hrel
    by_cases hlt : k < l.length
    · have hkI : (k : Int) < (l.length : Int) := by omega
      obtain ⟨x, hx, hd⟩ := drop_at' hlt
      obtain ⟨b, off, rfl, -, hbl, hcell⟩ := HC.out (by omega)
      have gx : l.getD k (0, 0) = x := by simp [List.getD, hx]
      obtain ⟨p0, p1⟩ := pwC_get l k hlt
      rw [gx] at p0 p1
      have c0 : wr.cell? ⟨b, off + k * 2, none⟩ = some (.int .i64 x.1) := (HR.out.2.cell (p := ⟨b, off + k * 2, none⟩) hbl).trans (hcell _ _ p0)
      have c1 : wr.cell? ⟨b, off + k * 2 + 1, none⟩ = some (.int .i64 x.2) := (HR.out.2.cell (p := ⟨b, off + k * 2 + 1, none⟩) hbl).trans (hcell _ _ p1)
      have HE : Hid (G = (setB1 last x && setB x.1 (l.drop (k + 1)))) := by have := HR.out.1; rw [hd] at this; exact this
      have HB := hide (HR.out.2.alloc HR.out.2.size (.cells #[.int .i64 x.1, .int .i64 x.2] 64))
      have HO : Hid (∀ last, setB1 last x = (decide (last < x.1) && decide (x.1 ≤ 5) && decide (1 ≤ x.2) && decide (x.2 ≤ 1125899906842624))) := fun _ => rfl
      have hvI : Hid (isV x.1 = decide (0 ≤ x.1 ∧ x.1 < 6)) := rfl
      clear HR hd hx gx p0 p1 hcell
      obtain ⟨x1, x2⟩ := x
      dsimp only at c0 c1 hvI
      by_cases h1 : last < x1 ∧ x1 ≤ 5 ∧ 1 ≤ x2 ∧ x2 ≤ 1125899906842624
      · obtain ⟨h1, h2, h3, h4⟩ := h1
        have e : G = setB x1 (l.drop (k + 1)) := by rw [HE.out, HO.out]; simp [h1, h2, h3, h4]
        have HE2 := hide e
        have hv : isV x1 = true := by rw [hvI.out]; simp; omega
        clear e HE
        go_wp2_with (go_at_call 35; refine (cval_any _ _).mono ?_; rintro e w' ⟨rfl, rfl⟩)
        first | exact ⟨⟨k + 1, x1, by omega, by go_num, rfl, by omega, HE2.out, HB.out⟩, by simp [intOf]; omega⟩ | ((repeat apply Exists.intro); exact ⟨⟨k + 1, x1, by omega, by go_num, rfl, by omega, HE2.out, HB.out⟩, rfl⟩)
      · have e : G = false := by
          rw [HE.out, HO.out]
          simp only [Bool.and_eq_false_iff, decide_eq_false_iff_not]
          by_cases q1 : last < x1
          · by_cases q2 : x1 ≤ 5
            · by_cases q3 : 1 ≤ x2
              · exact .inl (.inr fun q4 => h1 ⟨q1, q2, q3, q4⟩)
              · exact .inl (.inl (.inr q3))
            · exact .inl (.inl (.inl (.inr q2)))
          · exact .inl (.inl (.inl (.inl q1)))
        subst e
        clear HE HG
        have hcs : ¬ last < x1 ∨ (last < x1 ∧ isV x1 = false) ∨ (last < x1 ∧ isV x1 = true ∧ ¬ 1 ≤ x2) ∨ (last < x1 ∧ isV x1 = true ∧ 1 ≤ x2 ∧ ¬ x2 ≤ 1125899906842624) := by
          by_cases q1 : last < x1
          · by_cases q2 : x1 ≤ 5
            · have hv : isV x1 = true := by rw [hvI.out]; simp; omega
              by_cases q3 : 1 ≤ x2
              · exact .inr (.inr (.inr ⟨q1, hv, q3, fun q4 => h1 ⟨q1, q2, q3, q4⟩⟩))
              · exact .inr (.inr (.inl ⟨q1, hv, q3⟩))
            · have hv : isV x1 = false := by rw [hvI.out]; simp; omega
              exact .inr (.inl ⟨q1, hv⟩)
          · exact .inl q1
        clear h1
        rcases hcs with h1 | ⟨h1, h2⟩ | ⟨h1, h2, h3⟩ | ⟨h1, h2, h3, h4⟩
        all_goals
          go_wp2_with (go_at_call 35; refine (cval_any _ _).mono ?_; rintro e w' ⟨rfl, rfl⟩)
          go_ret
          exact ⟨rfl, HB.out⟩
    · obtain rfl : k = l.length := by omega
      have e : G = true := by have := HR.out.1; rw [List.drop_length] at this; exact this
      subst e
      go_wp2
      go_ret
      exact ⟨rfl, HR.out.2⟩
set_option maxHeartbeats 2000000 in
theorem cripes_rep (l : List (Int × Int)) (v : Value) (P : Nat → Prop) (w : World) (h : Rep P w v 2 8 (pwC l)) : Calls Try.prog 46 #[v] w fun e w' => e = .returned (.bool (l.all goodR)) ∧ Below w.heap.size w w' := by
  obtain ⟨A, C, rfl, hs, -, hc, -⟩ := h.open (pwC_length _) (by decide)
  have HC := hide hc
  have hlen : l.length ≤ 17592186044404 := by omega
  obtain ⟨G, hG⟩ : ∃ G, l.all goodR = G := ⟨_, rfl⟩
  have HG := hide hG
  rw [hG]
  clear hc h hs hG
  go_enter Try.func46, Try.ntmps46
  go_upto_region 2 with fail
  go_loopw [7] (fun i wl => ∃ (k : Nat), k ≤ l.length ∧ i = .int .i64 (k : Int) ∧ Hid (G = (l.drop k).all goodR ∧ Below w.heap.size w wl)) (fun i _ => l.length - (intOf i).toNat)
  case atStart => exact ⟨0, Nat.zero_le _, rfl, HG.out.symm, Below.refl _ _⟩
  case round =>
    obtain ⟨k, hk, rfl, HR⟩ := hrel
    by_cases hlt : k < l.length
    · have hkI : (k : Int) < (l.length : Int) := by omega
      obtain ⟨x, hx, hd⟩ := drop_at' hlt
      obtain ⟨b, off, rfl, -, hbl, hcell⟩ := HC.out (by omega)
      have gx : l.getD k (0, 0) = x := by simp [List.getD, hx]
      obtain ⟨p0, p1⟩ := pwC_get l k hlt
      rw [gx] at p0 p1
      have c0 : wr.cell? ⟨b, off + k * 2, none⟩ = some (.int .i64 x.1) := (HR.out.2.cell (p := ⟨b, off + k * 2, none⟩) hbl).trans (hcell _ _ p0)
      have c1 : wr.cell? ⟨b, off + k * 2 + 1, none⟩ = some (.int .i64 x.2) := (HR.out.2.cell (p := ⟨b, off + k * 2 + 1, none⟩) hbl).trans (hcell _ _ p1)
      have HE : Hid (G = (goodR x && (l.drop (k + 1)).all goodR)) := by have := HR.out.1; rw [hd, List.all_cons] at this; exact this
      have HB := hide (HR.out.2.alloc HR.out.2.size (.cells #[.int .i64 x.1, .int .i64 x.2] 53))
      have HO : Hid (goodR x = (decide (1 ≤ x.1) && decide (x.1 ≤ 1099511627776) && decide (0 ≤ x.2))) := rfl
      clear HR hd hx gx p0 p1 hcell
      obtain ⟨x1, x2⟩ := x
      dsimp only at c0 c1
      by_cases h1 : 1 ≤ x1 ∧ x1 ≤ 1099511627776 ∧ 0 ≤ x2
      · obtain ⟨h1, h2, h3⟩ := h1
        have e : G = (l.drop (k + 1)).all goodR := by rw [HE.out, HO.out]; simp [h1, h2, h3]
        have HE2 := hide e
        clear e HE
        go_wp2
        first | exact ⟨⟨k + 1, by omega, by go_num, HE2.out, HB.out⟩, by simp [intOf]; omega⟩ | ((repeat apply Exists.intro); exact ⟨⟨k + 1, by omega, by go_num, HE2.out, HB.out⟩, rfl⟩)
      · have e : G = false := by
          rw [HE.out, HO.out]
          have : (decide (1 ≤ x1) && decide (x1 ≤ 1099511627776) && decide (0 ≤ x2)) = false := by
            rw [Bool.eq_false_iff]; intro h; simp only [Bool.and_eq_true, decide_eq_true_eq] at h; exact h1 ⟨h.1.1, h.1.2, h.2⟩
          dsimp only
          rw [this, Bool.false_and]
        subst e
        clear HE HG
        have hcs : ¬ 1 ≤ x1 ∨ (1 ≤ x1 ∧ ¬ x1 ≤ 1099511627776) ∨ (1 ≤ x1 ∧ x1 ≤ 1099511627776 ∧ ¬ 0 ≤ x2) := by omega
        clear h1
        rcases hcs with h1 | ⟨h1, h2⟩ | ⟨h1, h2, h3⟩
        all_goals
          go_wp2
          go_ret
          exact ⟨rfl, HB.out⟩
    · obtain rfl : k = l.length := by omega
      have e : G = true := by have := HR.out.1; rw [List.drop_length] at this; exact this
      subst e
      go_wp2
      go_ret
      exact ⟨rfl, HR.out.2⟩
end Go.Proofs.Ytdkalcnlncjgiaa.Kc

