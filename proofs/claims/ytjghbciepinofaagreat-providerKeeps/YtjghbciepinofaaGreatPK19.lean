/- Parts of the proof: PGA PGB. -/
import Derived.Test.YtjghbciepinofaaGreatRows
import Derived.Test.YtjghbciepinofaaGreatPK12
set_option maxRecDepth 100000
namespace Go.Proofs.YtjghbciepinofaaGreat.Pv
open Go.RowKit
theorem ptime_any (n : Int) (w : World) : Calls Tryz.prog 27 #[.int .i64 n] w fun e w' => e = .returned (.bool (isT n)) ∧ w = w' := by
  have hT : isT n = (decide (0 ≤ n) && decide (n ≤ 1099511627776)) := rfl
  generalize isT n = t at *
  have HT := hide hT
  clear hT
  by_cases h : 0 ≤ n
  · by_cases h2 : n ≤ 1099511627776
    · have e : t = true := by rw [HT.out]; simp [h, h2]
      subst e
      go_enter Tryz.func27, Tryz.ntmps27
      go_wp2
      go_ret
      exact ⟨rfl, rfl⟩
    · have e : t = false := by rw [HT.out]; simp [h2]
      subst e
      go_enter Tryz.func27, Tryz.ntmps27
      go_wp2
      go_ret
      exact ⟨rfl, rfl⟩
  · have e : t = false := by rw [HT.out]; simp [h]
    subst e
    go_enter Tryz.func27, Tryz.ntmps27
    go_wp2
    go_ret
    exact ⟨rfl, rfl⟩
theorem pcons_any (n : Int) (w : World) : Calls Tryz.prog 63 #[.int .i64 n] w fun e w' => e = .returned (.bool (isC n)) ∧ w = w' := by
  have hT : isC n = (decide (0 ≤ n) && decide (n < 2)) := rfl
  generalize isC n = t at *
  have HT := hide hT
  clear hT
  by_cases h : 0 ≤ n
  · by_cases h2 : n < 2
    · have e : t = true := by rw [HT.out]; simp [h, h2]
      subst e
      go_enter Tryz.func63, Tryz.ntmps63
      go_wp2
      go_ret
      exact ⟨rfl, rfl⟩
    · have e : t = false := by rw [HT.out]; simp [h2]
      subst e
      go_enter Tryz.func63, Tryz.ntmps63
      go_wp2
      go_ret
      exact ⟨rfl, rfl⟩
  · have e : t = false := by rw [HT.out]; simp [h]
    subst e
    go_enter Tryz.func63, Tryz.ntmps63
    go_wp2
    go_ret
    exact ⟨rfl, rfl⟩
theorem pval_any (v : Int) (w : World) : Calls Tryz.prog 79 #[.int .i64 v] w fun e w' => e = .returned (.bool (isV v)) ∧ w = w' := by
  have hT : isV v = decide (0 ≤ v ∧ v < 6) := rfl
  generalize isV v = t at *
  have HT := hide hT
  clear hT
  by_cases h : 0 ≤ v
  · by_cases h2 : v < 6
    · have e : t = true := by rw [HT.out]; simp [h, h2]
      subst e
      go_enter Tryz.func79, Tryz.ntmps79
      go_wp2
      go_ret
      exact ⟨rfl, rfl⟩
    · have e : t = false := by rw [HT.out]; simp [h2]
      subst e
      go_enter Tryz.func79, Tryz.ntmps79
      go_wp2
      go_ret
      exact ⟨rfl, rfl⟩
  · have e : t = false := by rw [HT.out]; simp [h]
    subst e
    go_enter Tryz.func79, Tryz.ntmps79
    go_wp2
    go_ret
    exact ⟨rfl, rfl⟩
theorem isC_of {c : Int} (h : isC c = true) : ∃ k : Nat, c = (k : Int) ∧ k < 2 := by
  unfold isC at h
  simp only [Bool.and_eq_true, decide_eq_true_eq] at h
  exact ⟨c.toNat, by omega, by omega⟩
/-- whether a consumer is on -/
theorem pison_any (g : Nat) (p : Pr) (v : PrV) (c : Int) (w : World) (h : CAt 47 w g (prC p v)) : Calls Tryz.prog 23 #[.pointer (some ⟨g, 0, none⟩), .int .i64 c] w fun e w' => e = .returned (.bool (isOn p c)) ∧ w = w' := by
  have hO : isOn p c = (isC c && (p.L c.toNat).on) := rfl
  generalize isOn p c = o at *
  by_cases hc : isC c = true
  · obtain ⟨k, rfl, hk⟩ := isC_of hc
    rw [hc, Bool.true_and, Int.toNat_natCast] at hO
    have c0 : w.cell? ⟨g, 66 + k * 14, none⟩ = some (.bool (p.L k).on) := by
      have := pr_link (p := p) (v := v) k hk 0 (by omega)
      rw [Nat.add_zero] at this
      exact (h.cell _).trans this
    have k0 : (0 : Int) ≤ (k : Int) := by omega
    have k2 : (k : Int) < 2 := by omega
    subst hO
    generalize (p.L k).on = o at *
    clear h
    go_enter Tryz.func23, Tryz.ntmps23
    go_wp2_with (go_at_call 63; refine (pcons_any _ _).mono ?_; rintro e w' ⟨rfl, rfl⟩)
    go_ret
    exact ⟨rfl, rfl⟩
  · have hc : isC c = false := by simpa using hc
    rw [hc, Bool.false_and] at hO
    subst hO
    clear h
    go_enter Tryz.func23, Tryz.ntmps23
    go_wp2_with (go_at_call 63; refine (pcons_any _ _).mono ?_; rintro e w' ⟨rfl, rfl⟩)
    go_ret
    exact ⟨rfl, rfl⟩
set_option maxHeartbeats 2000000 in
theorem pset_rep (l : List (Int × Int)) (v : Value) (P : Nat → Prop) (w : World) (h : Rep P w v 2 16 (pwC l)) : Calls Tryz.prog 34 #[v] w fun e w' => e = .returned (.bool (setB (-1) l)) ∧ Below w.heap.size w w' := by
  obtain ⟨A, C, rfl, hs, -, hc, -⟩ := h.open (pwC_length _) (by decide)
  have HC := hide hc
  have hlen : l.length ≤ 8796093022202 := by omega
  obtain ⟨G, hG⟩ : ∃ G, setB (-1) l = G := ⟨_, rfl⟩
  have HG := hide hG
  rw [hG]
  clear hc h hs hG
  go_enter Tryz.func34, Tryz.ntmps34
  go_upto_region 3 with fail
  go_loopw [3, 8] (fun s3 i wl => ∃ (k : Nat) (last : Int), k ≤ l.length ∧ i = .int .i64 (k : Int) ∧ s3 = .int .i64 last ∧ -1 ≤ last ∧ Hid (G = setB last (l.drop k) ∧ Below w.heap.size w wl)) (fun _ i _ => l.length - (intOf i).toNat)
  case atStart => exact ⟨0, -1, Nat.zero_le _, rfl, rfl, by omega, HG.out.symm, Below.refl _ _⟩
  case round =>
    obtain ⟨k, last, hk, rfl, rfl, hla, HR⟩ := hrel
    by_cases hlt : k < l.length
    · have hkI : (k : Int) < (l.length : Int) := by omega
      obtain ⟨x, hx, hd⟩ := drop_at' hlt
      obtain ⟨b, off, rfl, -, hbl, hcell⟩ := HC.out (by omega)
      have gx : l.getD k (0, 0) = x := by simp [List.getD, hx]
      obtain ⟨p0, p1⟩ := pwC_get l k hlt
      rw [gx] at p0 p1
      have c0 : wr.cell? ⟨b, off + k * 2, none⟩ = some (.int .i64 x.1) := (HR.out.2.cell (p := ⟨b, off + k * 2, none⟩) hbl).trans (hcell _ _ p0)
      have c1 : wr.cell? ⟨b, off + k * 2 + 1, none⟩ = some (.int .i64 x.2) := (HR.out.2.cell (p := ⟨b, off + k * 2 + 1, none⟩) hbl).trans (hcell _ _ p1)
      have HE : Hid (G = (setB1 last x && setB x.1 (l.drop (k + 1)))) := by have := HR.out.1; rw [hd] at this; exact this
      have HB := hide (HR.out.2.alloc HR.out.2.size (.cells #[.int .i64 x.1, .int .i64 x.2] 74))
      have HO : Hid (∀ last, setB1 last x = (decide (last < x.1) && decide (x.1 ≤ 5) && decide (1 ≤ x.2) && decide (x.2 ≤ 1125899906842624))) := fun _ => rfl
      have hvI : Hid (isV x.1 = decide (0 ≤ x.1 ∧ x.1 < 6)) := rfl
      clear HR hd hx gx p0 p1 hcell
      obtain ⟨x1, x2⟩ := x
      dsimp only at c0 c1 hvI
      by_cases h1 : last < x1 ∧ x1 ≤ 5 ∧ 1 ≤ x2 ∧ x2 ≤ 1125899906842624
      · obtain ⟨h1, h2, h3, h4⟩ := h1
        have e : G = setB x1 (l.drop (k + 1)) := by rw [HE.out, HO.out]; simp [h1, h2, h3, h4]
        have HE2 := hide e
        have hv : isV x1 = true := by rw [hvI.out]; simp; omega
        clear e HE
        go_wp2_with (go_at_call 79; refine (pval_any _ _).mono ?_; rintro e w' ⟨rfl, rfl⟩)
        first | exact ⟨⟨k + 1, x1, by omega, by go_num, rfl, by omega, HE2.out, HB.out⟩, by simp [intOf]; omega⟩ | ((repeat apply Exists.intro); exact ⟨⟨k + 1, x1, by omega, by go_num, rfl, by omega, HE2.out, HB.out⟩, rfl⟩)
      · have e : G = false := by
          rw [HE.out, HO.out]
          simp only [Bool.and_eq_false_iff, decide_eq_false_iff_not]
          by_cases q1 : last < x1
          · by_cases q2 : x1 ≤ 5
            · by_cases q3 : 1 ≤ x2
              · exact .inl (.inr fun q4 => h1 ⟨q1, q2, q3, q4⟩)
              · exact .inl (.inl (.inr q3))
            · exact .inl (.inl (.inl (.inr q2)))
          · exact .inl (.inl (.inl (.inl q1)))
        subst e
        clear HE HG
        have hcs : ¬ last < x1 ∨ (last < x1 ∧ isV x1 = false) ∨ (last < x1 ∧ isV x1 = true ∧ ¬ 1 ≤ x2) ∨ (last < x1 ∧ isV x1 = true ∧ 1 ≤ x2 ∧ ¬ x2 ≤ 1125899906842624) := by
          by_cases q1 : last < x1
          · by_cases q2 : x1 ≤ 5
            · have hv : isV x1 = true := by rw [hvI.out]; simp; omega
              by_cases q3 : 1 ≤ x2
              · exact .inr (.inr (.inr ⟨q1, hv, q3, fun q4 => h1 ⟨q1, q2, q3, q4⟩⟩))
              · exact .inr (.inr (.inl ⟨q1, hv, q3⟩))
            · have hv : isV x1 = false := by rw [hvI.out]; simp; omega
              exact .inr (.inl ⟨q1, hv⟩)
          · exact .inl q1
        clear h1
        rcases hcs with h1 | ⟨h1, h2⟩ | ⟨h1, h2, h3⟩ | ⟨h1, h2, h3, h4⟩
        all_goals
          go_wp2_with (go_at_call 79; refine (pval_any _ _).mono ?_; rintro e w' ⟨rfl, rfl⟩)
          go_ret
          exact ⟨rfl, HB.out⟩
    · obtain rfl : k = l.length := by omega
      have e : G = true := by have := HR.out.1; rw [List.drop_length] at this; exact this
      subst e
      go_wp2
      go_ret
      exact ⟨rfl, HR.out.2⟩
set_option maxHeartbeats 2000000 in
theorem prises_rep (l : List Int) (v : Value) (P : Nat → Prop) (w : World) (h : Rep P w v 1 8 (inC l)) : Calls Tryz.prog 80 #[v] w fun e w' => e = .returned (.bool (riseB (-1) l)) ∧ w = w' := by
  obtain ⟨A, C, rfl, hs, -, hc, -⟩ := h.open (inC_length _) (by decide)
  have HC := hide hc
  have hlen : l.length ≤ 17592186044405 := by omega
  obtain ⟨G, hG⟩ : ∃ G, riseB (-1) l = G := ⟨_, rfl⟩
  have HG := hide hG
  rw [hG]
  clear hc h hs hG
  go_enter Tryz.func80, Tryz.ntmps80
  go_upto_region 3 with fail
  go_loop [3, 8] (fun s3 i => ∃ (k : Nat) (last : Int), k ≤ l.length ∧ i = .int .i64 (k : Int) ∧ s3 = .int .i64 last ∧ -1 ≤ last ∧ Hid (G = riseB last (l.drop k))) (fun _ i => l.length - (intOf i).toNat)
  case atStart => exact ⟨0, -1, Nat.zero_le _, rfl, rfl, by omega, HG.out.symm⟩
  case round =>
    obtain ⟨k, last, hk, rfl, rfl, hla, HR⟩ := hrel
    by_cases hlt : k < l.length
    · have hkI : (k : Int) < (l.length : Int) := by omega
      obtain ⟨x, hx, hd⟩ := drop_at' hlt
      obtain ⟨b, off, rfl, -, hbl, hcell⟩ := HC.out (by omega)
      have gx : l.getD k 0 = x := by simp [List.getD, hx]
      have p0 := inC_get l k hlt
      rw [gx] at p0
      have c0 : w.cell? ⟨b, off + k, none⟩ = some (.int .i64 x) := hcell _ _ p0
      have HE : Hid (G = ((decide (last < x) && decide (x ≤ 5)) && riseB x (l.drop (k + 1)))) := by have := HR.out; rw [hd] at this; exact this
      have hvI : Hid (isV x = decide (0 ≤ x ∧ x < 6)) := rfl
      clear HR hd hx gx p0 hcell
      by_cases h1 : last < x ∧ x ≤ 5
      · obtain ⟨h1, h2⟩ := h1
        have e : G = riseB x (l.drop (k + 1)) := by rw [HE.out]; simp [h1, h2]
        have HE2 := hide e
        have hv : isV x = true := by rw [hvI.out]; simp; omega
        clear e HE
        go_wp2_with (go_at_call 79; refine (pval_any _ _).mono ?_; rintro e w' ⟨rfl, rfl⟩)
        go_round
        case rel => exact ⟨k + 1, x, by omega, by go_num, rfl, by omega, HE2⟩
        case measure => simp [intOf]; omega
      · have e : G = false := by
          rw [HE.out]
          have : (decide (last < x) && decide (x ≤ 5)) = false := by
            rw [Bool.eq_false_iff]; intro h; simp only [Bool.and_eq_true, decide_eq_true_eq] at h; exact h1 h
          rw [this, Bool.false_and]
        subst e
        clear HE HG
        have hcs : ¬ last < x ∨ (last < x ∧ isV x = false) := by
          by_cases q1 : last < x
          · have hv : isV x = false := by rw [hvI.out]; simp; omega
            exact .inr ⟨q1, hv⟩
          · exact .inl q1
        clear h1
        rcases hcs with h1 | ⟨h1, h2⟩
        all_goals
          go_wp2_with (go_at_call 79; refine (pval_any _ _).mono ?_; rintro e w' ⟨rfl, rfl⟩)
          go_ret
          exact ⟨rfl, rfl⟩
    · obtain rfl : k = l.length := by omega
      have e : G = true := by have := HR.out; rw [List.drop_length] at this; exact this
      subst e
      go_wp2
      go_ret
      exact ⟨rfl, rfl⟩
end Go.Proofs.YtjghbciepinofaaGreat.Pv

set_option maxRecDepth 100000
namespace Go.Proofs.YtjghbciepinofaaGreat.Pv
open Go.RowKit
/-- a link's cells at a place -/
def LkAt (w : World) (g o : Nat) (x : Lk) (u : LkV) : Prop := ∀ j, j < 14 → w.cell? ⟨g, o + j, none⟩ = (lkL x u)[j]?
theorem CAt.lk {w : World} {g : Nat} {p : Pr} {v : PrV} (h : CAt 47 w g (prC p v)) {k : Nat} (hk : k < 2) : LkAt w g (66 + k * 14) (p.L k) (v.l k) := fun j hj => (h.cell _).trans (pr_link k hk j hj)
theorem LkAt.over {w w' : World} {g o : Nat} {x : Lk} {u : LkV} (h : LkAt w g o x u) (hb : Below w.heap.size w w') : LkAt w' g o x u := fun j hj => by
  have hlt : g < w.heap.size := World.block_lt_of_cell? w ⟨g, o + 0, none⟩ (h 0 (by omega))
  rw [hb.cell (p := ⟨g, o + j, none⟩) hlt]
  exact h j hj
theorem LkAt.facts {w : World} {g o : Nat} {x : Lk} {u : LkV} (h : LkAt w g o x u) : w.cell? ⟨g, o, none⟩ = some (.bool x.on) ∧ w.cell? ⟨g, o + 1, none⟩ = some (.bool x.gone) ∧ w.cell? ⟨g, o + 2, none⟩ = some (.int .i64 x.base) ∧ w.cell? ⟨g, o + 3, none⟩ = some u.told ∧ w.cell? ⟨g, o + 4, none⟩ = some (.bool x.fresh) ∧ w.cell? ⟨g, o + 5, none⟩ = some u.done ∧ (w.cell? ⟨g, o + 6, none⟩ = some u.said ∧ w.cell? ⟨g, o + 6 + 1, none⟩ = some u.due ∧ w.cell? ⟨g, o + 6 + 2, none⟩ = some (.int .i64 x.out.g) ∧ w.cell? ⟨g, o + 6 + 3, none⟩ = some (.bool x.out.cl)) :=
  ⟨h 0 (by omega), h 1 (by omega), h 2 (by omega), h 3 (by omega), h 4 (by omega), h 5 (by omega), h 6 (by omega), h 7 (by omega), h 8 (by omega), h 9 (by omega)⟩
set_option maxHeartbeats 4000000 in
theorem plink_any (g o : Nat) (x : Lk) (u : LkV) (h : Int) (P : Nat → Prop) (w : World) (hc : LkAt w g o x u) (hl : LkIn P w x u) :
    Calls Tryz.prog 35 #[.pointer (some ⟨g, o, none⟩), .int .i64 h] w fun e w' => e = .returned (.bool (goodLk h x)) ∧ Below w.heap.size w w' := by
  have hG : goodLk h x = (riseB (-1) x.done && (!(x.on && x.gone) && decide (0 ≤ x.base) && decide (x.base ≤ h) && setB (-1) x.told && Ln.goodL x.out)) := rfl
  generalize goodLk h x = G at *
  obtain ⟨A1, C1, A2, C2, sb, so, db, dO, es, eu, hL, -, -⟩ := RepC.line hl.said hl.due
  have hln := fun (wx : World) (hb : Below w.heap.size w wx) => Ln.good_any x.out A1 A2 C1 C2 sb so db dO wx (hL.later hb)
  rw [← es, ← eu] at hln
  have HLN := hide hln
  have HST := hide (fun (wx : World) (hb : Below w.heap.size w wx) => pset_rep x.told u.told P wx (hl.told.over hb))
  have HRI := hide (fun (wx : World) (hb : Below w.heap.size w wx) => prises_rep x.done u.done P wx (hl.done.over hb))
  have HC := hide hc
  obtain ⟨c0, c1, c2, c3, c4, c5, c6, c7, c8, c9⟩ := hc.facts
  clear hln es eu hL hl hc
  have HG := hide hG
  clear hG
  generalize setB (-1) x.told = gt at *
  generalize riseB (-1) x.done = gr at *
  generalize Ln.goodL x.out = gl at *
  by_cases h1 : (x.on && x.gone) = false ∧ 0 ≤ x.base ∧ x.base ≤ h
  · obtain ⟨q1, q2, q3⟩ := h1
    have e : G = (gr && (gt && gl)) := by rw [HG.out, q1]; simp [q2, q3]
    subst e
    clear HG
    have hcs : x.on = false ∨ (x.on = true ∧ x.gone = false) := by cases h : x.on <;> simp_all
    clear q1
    generalize x.on = xo at *
    generalize x.gone = xg at *
    generalize x.base = xb at *
    rcases hcs with rfl | ⟨rfl, rfl⟩
    all_goals
      cases gt
      · go_enter Tryz.func35, Tryz.ntmps35
        go_wp2_with (go_at_call 34; refine (HST.out _ (Below.refl _ _)).mono ?_; rintro e w6 ⟨rfl, hb6⟩)
        go_ret
        exact ⟨by cases gr <;> rfl, hb6⟩
      · cases gr
        · go_enter Tryz.func35, Tryz.ntmps35
          go_wp2_with (first
            | (go_at_call 34; refine (HST.out _ (Below.refl _ _)).mono ?_; rintro e w6 ⟨rfl, hb6⟩; clear c0 c1 c2 c3 c4 c5 c6 c7 c8 c9; obtain ⟨c0, c1, c2, c3, c4, c5, c6, c7, c8, c9⟩ := (HC.out.over hb6).facts; have HB6 := hide hb6; clear hb6)
            | (go_at_call 80; refine (HRI.out _ HB6.out).mono ?_; rintro e w7 ⟨rfl, rfl⟩))
          go_ret
          exact ⟨rfl, HB6.out⟩
        · go_enter Tryz.func35, Tryz.ntmps35
          go_wp2_with (first
            | (go_at_call 34; refine (HST.out _ (Below.refl _ _)).mono ?_; rintro e w6 ⟨rfl, hb6⟩; clear c0 c1 c2 c3 c4 c5 c6 c7 c8 c9; obtain ⟨c0, c1, c2, c3, c4, c5, c6, c7, c8, c9⟩ := (HC.out.over hb6).facts; have HB6 := hide hb6; clear hb6)
            | (go_at_call 80; refine (HRI.out _ HB6.out).mono ?_; rintro e w7 ⟨rfl, rfl⟩)
            | (go_at_call 81; refine (HLN.out _ HB6.out).mono ?_; rintro e w8 ⟨rfl, hb8⟩; have HB8 := hide (HB6.out.trans (hb8.mono HB6.out.size)); clear hb8))
          go_ret
          exact ⟨rfl, HB8.out⟩
  · have e : G = false := by
      rw [HG.out]
      have : (!(x.on && x.gone) && decide (0 ≤ x.base) && decide (x.base ≤ h)) = false := by
        rw [Bool.eq_false_iff]
        intro hh
        simp only [Bool.and_eq_true, Bool.not_eq_true', decide_eq_true_eq] at hh
        exact h1 ⟨hh.1.1, hh.1.2, hh.2⟩
      simp only [this, Bool.false_and, Bool.and_false]
    subst e
    clear HG
    generalize x.on = xo at *
    generalize x.gone = xg at *
    generalize x.base = xb at *
    have hcs : (xo = true ∧ xg = true) ∨ ((xo = false ∨ (xo = true ∧ xg = false)) ∧ (¬ 0 ≤ xb ∨ (0 ≤ xb ∧ ¬ xb ≤ h))) := by
      cases xo <;> cases xg <;> simp_all <;> omega
    clear h1
    rcases hcs with ⟨rfl, rfl⟩ | ⟨rfl | ⟨rfl, rfl⟩, q2 | ⟨q2, q3⟩⟩
    all_goals
      go_enter Tryz.func35, Tryz.ntmps35
      go_wp2
      go_ret
      exact ⟨rfl, Below.refl _ _⟩
attribute [local go_sem ↓] loadS_eq
set_option maxHeartbeats 8000000 in
set_option maxRecDepth 1000000 in
theorem pgood_any (p : Pr) (v : PrV) (P : Nat → Prop) (w : World) (hp : PIn P w p v) :
    Calls Tryz.prog 10 #[.agg (prC p v)] w fun e w' => e = .returned (.bool (goodP p)) ∧ Below w.heap.size w w' := by
  have HG := hide (goodP_gg p)
  generalize goodP p = G at *
  obtain ⟨Aw, Cw, bw, ow, ews, Ws, -, -⟩ := hp.ws.wsAt
  have hgs := fun (wx : World) (hb : Below w.heap.size w wx) => sgood_any p.s Aw bw ow Cw wx (Ws.over hb)
  rw [← ews] at hgs
  have HGS := hide hgs
  have HP := hide hp
  clear hp hgs ews Ws
  obtain ⟨cs, hcs⟩ : ∃ cs, prC p v = cs := ⟨_, rfl⟩
  rw [hcs]
  have HCS := hide hcs
  clear hcs
  go_enter Tryz.func10, Tryz.ntmps10
  go_upto_region 1 with fail
  have C1 : CAt 47 (w.alloc (.cells cs 47)) w.heap.size (prC p v) := by rw [HCS.out]; exact CAt.new _ w cs
  have B1 : Below w.heap.size w (w.alloc (.cells cs 47)) := (Below.refl _ w).alloc (Nat.le_refl _) _
  generalize w.alloc (.cells cs 47) = w1 at *
  have HX := hide (show _ ∧ _ from ⟨C1, B1⟩)
  obtain ⟨⟨a0, a1, a2, a3, a4, a5⟩, a6⟩ := pr_facts C1
  clear C1 B1 HCS
  have hTI : Hid (isT p.t = (decide (0 ≤ p.t) && decide (p.t ≤ 1099511627776))) := rfl
  by_cases h1 : goodS p.s = true ∧ 0 ≤ p.h ∧ p.h ≤ 1099511627775 ∧ (0 ≤ p.t ∧ p.t ≤ 1099511627776) ∧ setB (-1) p.set = true
  · obtain ⟨q1, q2, q3, ⟨q4, q5⟩, q6⟩ := h1
    have HONE := hide (show (goodS p.s && decide (0 ≤ p.h) && decide (p.h ≤ 1099511627775) && decide (0 ≤ p.t) && decide (p.t ≤ 1099511627776) && setB (-1) p.set) = true by simp [q1, q2, q3, q4, q5, q6])
    have HST := hide (fun wx hb => pset_rep p.set v.set P wx (HP.out.set.over hb))
    have qt : isT p.t = true := by rw [hTI.out]; simp [q4, q5]
    rw [q1] at HGS
    rw [q6] at HST
    clear q1 q6
    go_upto_region 3 with (first
      | (go_at_call 33; refine (HGS.out _ HX.out.2).mono ?_; rintro e w2 ⟨rfl, hb2⟩; have HY := hide (show _ ∧ _ from ⟨HX.out.1.over hb2, HX.out.2.trans (hb2.mono HX.out.2.size)⟩); clear a0 a1 a2 a3 a4 a5 a6 hb2; obtain ⟨⟨a0, a1, a2, a3, a4, a5⟩, a6⟩ := pr_facts HY.out.1)
      | (go_at_call 27; refine (ptime_any _ _).mono ?_; rintro e w' ⟨rfl, rfl⟩)
      | (go_at_call 34; refine (HST.out _ HY.out.2).mono ?_; rintro e w3 ⟨rfl, hb3⟩; have HZ := hide (show _ ∧ _ from ⟨HY.out.1.over hb3, HY.out.2.trans (hb3.mono HY.out.2.size)⟩); clear a0 a1 a2 a3 a4 a5 a6 hb3))
    clear HGS HST HX HY
    go_upto_region 4 with fail
    go_loopw [32] (fun i wl => ∃ (k : Nat), k ≤ 2 ∧ i = .int .i64 (k : Int) ∧ Hid (Below w3.heap.size w3 wl) ∧ Hid (∀ c, c < k → goodLk p.h (p.L c) = true)) (fun i _ => (2 - intOf i).toNat)
    case atStart => exact ⟨0, by omega, rfl, Below.refl _ _, fun c hc => absurd hc (by omega)⟩
    case round =>
      obtain ⟨k, hk, rfl, HB, HA⟩ := hrel
      by_cases hk2 : k < 2
      · have hkk : (k : Int) < 2 := by omega
        have hk0 : (0 : Int) ≤ (k : Int) := by omega
        have hBw : Below w.heap.size w wr := HZ.out.2.trans (HB.out.mono HZ.out.2.size)
        have C5 := HZ.out.1.over HB.out
        have a0 := (pr_facts C5).1.1
        have hln := fun (wx : World) (hb : Below wr.heap.size wr wx) => plink_any w.heap.size (66 + k * 14) (p.L k) (v.l k) p.h P wx ((C5.over hb).lk hk2) ((HP.out.lk k hk2).keep fun b _ hlt => (hBw.trans (hb.mono hBw.size)).block b hlt)
        have HLN := hide hln
        have HGk := hide (fun h => HG.out.lks k hk2 h)
        have HBw := hide hBw
        have hb0 := HB.out.size
        clear hln C5 hBw
        go_upto_region 6 with fail
        generalize hgl : goodLk p.h (p.L k) = gl at *
        have HGL := hide hgl
        clear hgl
        cases gl
        · have e := HGk.out rfl
          subst e
          clear HG HGk HP HZ HA HONE
          go_region_with (go_at_call 35; refine (HLN.out _ (by exact (Below.refl _ _).drew)).mono ?_; rintro e w5 ⟨rfl, hb5⟩)
          all_goals
            go_wp2
            go_ret
            exact ⟨rfl, HBw.out.trans ((Below.refl _ _).drew.trans (hb5.mono HBw.out.size))⟩
        · go_region_with (go_at_call 35; refine (HLN.out _ (by exact (Below.refl _ _).drew)).mono ?_; rintro e w5 ⟨rfl, hb5⟩)
          all_goals
            have HF := hide (HB.out.trans ((Below.refl _ _).drew.trans (hb5.mono HB.out.size)))
            have HAk : Hid (∀ c, c < k + 1 → goodLk p.h (p.L c) = true) := fun c hc => by
              by_cases e : c = k
              · subst e; exact HGL.out
              · exact HA.out c (by omega)
            clear HA HLN HBw HB hb5
            go_wp2
            first | exact ⟨⟨k + 1, by omega, by go_num, HF, HAk⟩, by simp [intOf]; omega⟩ | ((repeat apply Exists.intro); exact ⟨⟨k + 1, by omega, by go_num, HF, HAk⟩, rfl⟩)
      · obtain rfl : k = 2 := by omega
        rename World => w9
        have HY := hide (show _ ∧ _ from ⟨HZ.out.1.over HB.out, HZ.out.2.trans (HB.out.mono HZ.out.2.size)⟩)
        obtain ⟨z, hzl, hzr, hzi⟩ := HP.out.q
        obtain ⟨Aq, Cq, eq, sq, -, cq, -⟩ := hzr.open (quL_length _ _ hzl) (by decide)
        have a5 := (pr_facts HY.out.1).1.2.2.2.2.2
        rw [eq] at a5
        have HQ := hide (show _ ∧ _ ∧ _ from ⟨hzl, hzi, cq⟩)
        have hq63 : p.q.length ≤ 1800000000000 := by omega
        clear hzl hzi cq hzr eq sq HB HZ
        go_upto_region 10 with fail
        clear a5
        go_loopw [46] (fun i wl => ∃ (k : Nat), k ≤ p.q.length ∧ i = .int .i64 (k : Int) ∧ Hid (Below w9.heap.size w9 wl) ∧ Hid (∀ (i : Nat) (x : Int × Pkt), i < k → p.q[i]? = some x → goodQ p.L x = true)) (fun i _ => p.q.length - (intOf i).toNat)
        case atStart => exact ⟨0, Nat.zero_le _, rfl, Below.refl _ _, fun i x hi => absurd hi (by omega)⟩
        case round =>
          obtain ⟨k, hk, rfl, HB, HN⟩ := hrel
          by_cases hlt : k < p.q.length
          · have hkI : (k : Int) < (p.q.length : Int) := by omega
            obtain ⟨x, hx⟩ : ∃ x, p.q[k]? = some x := ⟨_, List.getElem?_eq_getElem hlt⟩
            obtain ⟨y, hy⟩ : ∃ y, z[k]? = some y := ⟨_, List.getElem?_eq_getElem (by rw [HQ.out.1]; exact hlt)⟩
            have hin := HQ.out.2.1 k x y hx hy
            obtain ⟨y1, y2⟩ := y
            obtain ⟨⟨B1, n1, D1, ey1, -⟩, ⟨B2, n2, D2, ey2, -⟩⟩ := id hin
            dsimp only at ey1 ey2
            subst ey1 ey2
            have hBw : Below w.heap.size w wr := HY.out.2.trans (HB.out.mono HY.out.2.size)
            obtain ⟨bq, oq, rfl, -, hbl, hcell⟩ := HQ.out.2.2 (by omega)
            have hc : ∀ j, j < 7 → ∀ u, (akL x (.slice B1 n1 D1, .slice B2 n2 D2))[j]? = some u → wr.cell? ⟨bq, oq + k * 7 + j, none⟩ = some u := fun j hj u hu => by
              rw [hBw.cell (p := ⟨bq, oq + k * 7 + j, none⟩) hbl, Nat.add_assoc]
              exact hcell _ _ ((quL_get p.q z k x _ j hx hy hj).trans hu)
            have e0 := hc 0 (by omega) _ rfl
            have e1 := hc 1 (by omega) _ rfl
            have e2 := hc 2 (by omega) _ rfl
            have e3 := hc 3 (by omega) _ rfl
            have e4 := hc 4 (by omega) _ rfl
            have e5 := hc 5 (by omega) _ rfl
            have e6 := hc 6 (by omega) _ rfl
            rw [Nat.add_zero] at e0
            have HGq := hide (fun h => HG.out.qus k x hx h)
            have HXK := hide hx
            obtain ⟨S1, T1, S2, T2, sb, so, db, dO, es, eu, hL⟩ := Rep.lies (hin.1.over hBw) (hin.2.over hBw)
            have hgp := fun (wx : World) (hb : Below wr.heap.size wr wx) => Cd.good_any x.2.k x.2.i x.2.v x.2.n x.2.S x.2.D S1 S2 T1 T2 sb so db dO wx hL.hls hL.hld hL.hsa hL.hda (hL.later hb).PS (hL.later hb).PD
            rw [← es, ← eu] at hgp
            have HGP := hide hgp
            have C5 := HY.out.1.over HB.out
            have HON := hide (fun (wx : World) (hb : Below wr.heap.size wr wx) => pison_any w.heap.size p v x.1 wx (C5.over hb))
            have hglt : w.heap.size < wr.heap.size := C5.lt
            clear hc hcell hin hx hy es eu hL hgp C5
            have hgq : goodQ p.L x = (decide (0 ≤ x.1) && decide (x.1 ≤ 1) && (p.L x.1.toNat).on && decide (x.2.k ≠ 1) && decide (Cd.goodN x.2.k x.2.i x.2.v x.2.n x.2.S x.2.D = 0)) := rfl
            have hio : isOn p x.1 = (decide (0 ≤ x.1) && decide (x.1 ≤ 1) && (p.L x.1.toNat).on) := by
              show (isC x.1 && _) = _
              unfold isC
              rw [show (decide (x.1 < 2) : Bool) = decide (x.1 ≤ 1) by simp only [decide_eq_decide]; omega]
            rw [← hio] at hgq
            generalize isOn p x.1 = io at *
            generalize Cd.goodN x.2.k x.2.i x.2.v x.2.n x.2.S x.2.D = gn at *
            have HBn := hide (show Below wr.heap.size wr (wr.alloc (.cells #[.int .i64 x.1, .int .i64 x.2.k, .int .i64 x.2.i, .int .i64 x.2.v, .int .i64 x.2.n, .slice B1 n1 D1, .slice B2 n2 D2] 79)) from (Below.refl _ wr).alloc (Nat.le_refl _) _)
            have HBw := hide (hBw.trans (HBn.out.mono hBw.size))
            have HBk := hide (HB.out.trans (HBn.out.mono HB.out.size))
            have HE := HBw
            have HF := HBk
            have HV := hide hgq
            clear hgq hio hBw
            by_cases hq : io = true ∧ x.2.k ≠ 1 ∧ gn = 0
            · obtain ⟨rfl, q1, rfl⟩ := hq
              have hgood : goodQ p.L x = true := by rw [HV.out]; simp [q1]
              have HN2 : Hid (∀ (i : Nat) (y : Int × Pkt), i < k + 1 → p.q[i]? = some y → goodQ p.L y = true) := fun i y hi hy => by
                by_cases e : i = k
                · subst e; rw [HXK.out] at hy; cases hy; exact hgood
                · exact HN.out i y (by omega) hy
              have hk1 : (x.2.k == 1) = false := by simpa using q1
              clear hgood HN HV HGq HG HQ HP HXK HA
              go_upto_region 14 with (first
                | (go_at_call 23; refine (HON.out _ (by exact HBn.out)).mono ?_; rintro e w6 ⟨rfl, rfl⟩)
                | (go_at_call 21; refine (HGP.out _ (by exact HBn.out)).mono ?_; rintro e w7 ⟨rfl, hb7⟩; have HE := hide (HBw.out.trans (hb7.mono HBw.out.size)); have HF := hide (HBk.out.trans (hb7.mono HBk.out.size))))
              clear HE HBw HBk HBn HGP HON
              go_wp2
              go_roundw
              case rel => (repeat apply Exists.intro); exact ⟨⟨k + 1, by omega, by go_num, HF, HN2⟩, rfl⟩
              case measure => simp [intOf]; omega
            · have e : G = false := HGq.out (by
                rw [HV.out, Bool.eq_false_iff]
                intro h
                simp only [Bool.and_eq_true, decide_eq_true_eq] at h
                exact hq ⟨h.1.1, h.1.2, h.2⟩)
              subst e
              have hcs : io = false ∨ (io = true ∧ (x.2.k == 1) = true) ∨ (io = true ∧ (x.2.k == 1) = false ∧ (gn != 0) = true) := by
                cases io
                · exact .inl rfl
                · by_cases q1 : x.2.k = 1
                  · exact .inr (.inl ⟨rfl, by simpa using q1⟩)
                  · exact .inr (.inr ⟨rfl, by simpa using q1, by simp; intro q2; exact hq ⟨rfl, q1, q2⟩⟩)
              clear hq HV HGq HG HQ HP HXK HA HN
              rcases hcs with rfl | ⟨rfl, q1⟩ | ⟨rfl, q1, q2⟩
              all_goals
                go_wp2_with (first
                  | (go_at_call 23; refine (HON.out _ (by exact HBn.out)).mono ?_; rintro e w6 ⟨rfl, rfl⟩)
                  | (go_at_call 21; refine (HGP.out _ (by exact HBn.out)).mono ?_; rintro e w7 ⟨rfl, hb7⟩; have HE := hide (HBw.out.trans (hb7.mono HBw.out.size)); have HF := hide (HBk.out.trans (hb7.mono HBk.out.size))))
                go_ret
                exact ⟨rfl, HE.out⟩
          · obtain rfl : k = p.q.length := by omega
            have e : G = true := HG.out.all HONE.out HA.out (fun i x hx => HN.out i x (List.getElem?_eq_some_iff.1 hx).1 hx)
            subst e
            have HBz := hide (HY.out.2.trans (HB.out.mono HY.out.2.size))
            clear HG HQ HP HY HA HN HB HONE
            go_wp2
            go_ret
            exact ⟨rfl, HBz.out⟩
  · have e := HG.out.one (by
      rw [Bool.eq_false_iff]
      intro h
      simp only [Bool.and_eq_true, decide_eq_true_eq] at h
      exact h1 ⟨h.1.1.1.1.1, h.1.1.1.1.2, h.1.1.1.2, ⟨h.1.1.2, h.1.2⟩, h.2⟩)
    subst e
    have HST := hide (fun wx hb => pset_rep p.set v.set P wx (HP.out.set.over hb))
    generalize goodS p.s = gs at *
    generalize setB (-1) p.set = gt at *
    have hcs : gs = false ∨ (gs = true ∧ ¬ 0 ≤ p.h) ∨ (gs = true ∧ 0 ≤ p.h ∧ ¬ p.h ≤ 1099511627775) ∨ (gs = true ∧ 0 ≤ p.h ∧ p.h ≤ 1099511627775 ∧ isT p.t = false) ∨ (gs = true ∧ 0 ≤ p.h ∧ p.h ≤ 1099511627775 ∧ isT p.t = true ∧ gt = false) := by
      rw [hTI.out]
      cases gs
      · exact .inl rfl
      · by_cases q2 : 0 ≤ p.h <;> by_cases q3 : p.h ≤ 1099511627775 <;> by_cases q4 : 0 ≤ p.t <;> by_cases q5 : p.t ≤ 1099511627776 <;> cases gt <;> simp_all
    clear h1 HG hTI
    rcases hcs with rfl | ⟨rfl, h2⟩ | ⟨rfl, h2, h3⟩ | ⟨rfl, h2, h3, h4⟩ | ⟨rfl, h2, h3, h4, rfl⟩
    all_goals
      go_wp2_with (first
        | (go_at_call 33; refine (HGS.out _ HX.out.2).mono ?_; rintro e w2 ⟨rfl, hb2⟩; have HY := hide (show _ ∧ _ from ⟨HX.out.1.over hb2, HX.out.2.trans (hb2.mono HX.out.2.size)⟩); clear a0 a1 a2 a3 a4 a5 a6 hb2; obtain ⟨⟨a0, a1, a2, a3, a4, a5⟩, a6⟩ := pr_facts HY.out.1; have HE := hide HY.out.2)
        | (go_at_call 27; refine (ptime_any _ _).mono ?_; rintro e w' ⟨rfl, rfl⟩)
        | (go_at_call 34; refine (HST.out _ HY.out.2).mono ?_; rintro e w3 ⟨rfl, hb3⟩; have HE := hide (HY.out.2.trans (hb3.mono HY.out.2.size))))
      go_ret
      exact ⟨rfl, HE.out⟩
end Go.Proofs.YtjghbciepinofaaGreat.Pv

