/- Parts of the proof: KSB. -/
import Derived.Test.YtdkalcnlncjgiaaRows
import Derived.Test.YtdkalcnlncjgiaaAK10
set_option maxRecDepth 100000
namespace Go.Proofs.Ytdkalcnlncjgiaa.Kc
open Go.RowKit Pv
theorem powN_in {last : Int} : ∀ {l : List (Int × Int)} {v : Int}, setB last l = true → powN v l ≠ 0 → last < v ∧ v ≤ 5 ∧ 1 ≤ powN v l ∧ powN v l ≤ 1125899906842624
  | [], v, _, h => absurd rfl h
  | x :: l, v, hs, h => by
    have h2 : setB1 last x = true ∧ setB x.1 l = true := by
      have : (setB1 last x && setB x.1 l) = true := hs
      simpa using this
    have h3 : last < x.1 ∧ x.1 ≤ 5 ∧ 1 ≤ x.2 ∧ x.2 ≤ 1125899906842624 := by
      have := h2.1
      unfold setB1 at this
      simp only [Bool.and_eq_true, decide_eq_true_eq] at this
      exact ⟨this.1.1.1, this.1.1.2, this.1.2, this.2⟩
    have e : powN v (x :: l) = if x.1 = v then x.2 else powN v l := rfl
    rw [e] at h ⊢
    by_cases hv : x.1 = v
    · rw [if_pos hv]; subst hv; exact h3
    · rw [if_neg hv] at h ⊢
      have := powN_in h2.2 h
      exact ⟨by omega, this.2⟩
theorem ref_good {c : Cs} (h : refC c = 0) : goodC c = true ∧ c.on = true := by
  unfold refC at h
  by_cases hg : goodC c = true
  · rw [if_pos hg] at h
    by_cases ho : c.on = true
    · exact ⟨hg, ho⟩
    · rw [if_neg ho] at h; exact absurd h (by decide)
  · rw [if_neg hg] at h; exact absurd h (by decide)
/-- what a good consumer has -/
theorem good_parts {c : Cs} (h : goodC c = true) : ((c.on && c.gone) = false ∧ 0 ≤ c.h ∧ c.h < 1099511627776) ∧ (0 ≤ c.t ∧ c.t ≤ 1099511627776) ∧ (0 ≤ c.id ∧ c.id ≤ 1099511627776) ∧ setB (-1) c.set = true ∧ c.pd.all goodK = true ∧ c.rp.all goodR = true ∧ Ln.goodL c.out = true := by
  unfold goodC isT at h
  simp only [Bool.and_eq_true, decide_eq_true_eq, Bool.not_eq_true'] at h
  obtain ⟨⟨⟨⟨⟨h1, h2⟩, h3⟩, h4⟩, h5⟩, ⟨⟨⟨h6, h7⟩, h8⟩, h9⟩⟩ := h
  exact ⟨⟨h1, h2, h3⟩, h4, h5, h6, h7, h8, h9⟩
theorem isT_of {n : Int} (h : isT n = true) : 0 ≤ n ∧ n ≤ 1099511627776 := by
  unfold isT at h
  simpa using h
/-- a consumer that comes in by value, and the answer's block -/
structure BegC (P : Nat → Prop) (w w0 : World) (c : Cs) (v : CsV) : Prop where
  C0 : CAt 33 w0 w.heap.size (csC c v)
  R0 : CAt 33 w0 (w.heap.size + 1) Z22
  B0 : Below w.heap.size w w0
  I0 : CIn P w0 c v
  N0 : CIn (New P w 2) w0 c v
  no : ¬ P w.heap.size ∨ True
theorem begC {P : Nat → Prop} {w : World} {c : Cs} {v : CsV} (hp : CIn P w c v) : BegC P w ((w.alloc (.cells (csC c v) 33)).alloc (.cells Z22 33)) c v := by
  have hb : Below w.heap.size w ((w.alloc (.cells (csC c v) 33)).alloc (.cells Z22 33)) := ((Below.refl _ w).alloc (Nat.le_refl _) _).alloc (by simp) _
  exact ⟨(CAt.new _ w _).alloc _, CAt.new2 _ w _ _, hb, hp.over hb, hp.ofNew hb 2, .inr trivial⟩
theorem BegC.over {P : Nat → Prop} {w w0 w1 : World} {c : Cs} {v : CsV} (h : BegC P w w0 c v) (hb : Below w0.heap.size w0 w1) : BegC P w w1 c v :=
  ⟨h.C0.over hb, h.R0.over hb, h.B0.trans (hb.mono h.B0.size), h.I0.over hb, h.N0.over hb, .inr trivial⟩
/-- as it was, with an error -/
theorem BegC.asItWas {f : Func} {t q : Tmp} (hres : f.results = #[.cell t 33, .tmp q]) {P : Nat → Prop} {w w0 : World} {c : Cs} {v : CsV} (h : BegC P w w0 c v) (er : Int) (r : Cs × Int) (hr : r = (c, er)) (act : Act)
    (h8 : act.tmps.getD t undef = .pointer (some ⟨w.heap.size + 1, 0, none⟩)) (h9 : act.tmps.getD q undef = .int .i64 er) (hd : act.defers = []) :
    bodyPost Try.prog f (AnsC P w r) Exit.ret act (w0.setCells (w.heap.size + 1) 0 (csC c v).toList) := cs_end2 hres h.R0 Z22_size h.B0 c v er r hr h.N0 act h8 h9 hd
theorem BegC.facts {P : Nat → Prop} {w w0 : World} {c : Cs} {v : CsV} (h : BegC P w w0 c v) : (loadC (.pointer (some ⟨w.heap.size, 0, none⟩))).run Try.prog w0 = .ok (.agg (csC c v)) w0 ∧ (storeC (.pointer (some ⟨w.heap.size + 1, 0, none⟩)) (.agg (csC c v))).run Try.prog w0 = .ok () (w0.setCells (w.heap.size + 1) 0 (csC c v).toList) :=
  ⟨cs_load h.C0 (csC_size _ _), cs_store h.R0 Z22_size (csC_size c v) (cs_one h.I0)⟩
theorem lt2_no (P : Nat → Prop) (w : World) : ¬ New P w 2 w.heap.size := by
  have := new_no (P := P) (w := w) (k := 2) (j := 0) (by omega)
  simpa using this
theorem new_new {P : Nat → Prop} {w w0 : World} (hz : w.heap.size + 2 ≤ w0.heap.size) {b : Nat} (h : New (New P w 2) w0 0 b) : New P w 2 b := by
  rcases h with ⟨h, _⟩ | h
  · exact h
  · exact .inr (by omega)
attribute [local go_sem ↓] loadC_eq storeC_eq
set_option maxHeartbeats 4000000 in
theorem cdown_any (c : Cs) (v : CsV) (P : Nat → Prop) (w : World) (x now : Int) (hp : CIn P w c v) :
    Calls Try.prog 12 #[.agg (csC c v), .int .i64 x, .int .i64 now] w (AnsC P w (downC c x now)) := by
  have hD : downC c x now = if isT now = true then (if refC c = 0 then (if powN x c.set = 0 then (c, 4) else if c.fl x.toNat = true then (c, 5) else if (sayC c 3 c.id x (powN x c.set) now).2 = 0 then ({ (sayC c 3 c.id x (powN x c.set) now).1 with fl := updF c.fl x.toNat true }, 0) else (c, (sayC c 3 c.id x (powN x c.set) now).2)) else (c, refC c)) else (c, 2) := rfl
  have hs2 : (sayC c 3 c.id x (powN x c.set) now).2 ≠ 0 → (sayC c 3 c.id x (powN x c.set) now).1 = c := by
    unfold sayC
    split
    · intro h
      dsimp only at h ⊢
      unfold Ln.sayL
      rw [if_neg h]
    · intro _; rfl
  have HS2 := hide hs2
  have HSF : Hid ((sayC c 3 c.id x (powN x c.set) now).1.fl = c.fl) := by unfold sayC; split <;> rfl
  have HB := hide (begC hp)
  have HRF := hide (fun (wx : World) (h : BegC P w wx c v) => crefusedAt_any w.heap.size c v now P wx h.C0 h.I0)
  have HPW := hide (fun (wx : World) (h : BegC P w wx c v) => cpower_rep c.set v.set x P wx h.I0.set)
  have HSY := hide (fun (wx : World) (h : BegC P w wx c v) (h0 : 0 ≤ now) (h1 : now ≤ 1099511627776) => csay_any w.heap.size c v 3 c.id x (powN x c.set) now (New P w 2) wx h.C0 h.N0 (lt2_no P w) h0 h1)
  have HD := hide hD
  clear hp hD hs2
  generalize downC c x now = D at *
  generalize hSS : sayC c 3 c.id x (powN x c.set) now = SS at *
  clear hSS
  obtain ⟨c2, er⟩ := SS
  dsimp only at HS2 HSF HSY HD
  have HPI : Hid (refC c = 0 → powN x c.set ≠ 0 → -1 < x ∧ x ≤ 5) := fun h1 h2 => by
    have := powN_in (good_parts (ref_good h1).1).2.2.2.1 h2
    exact ⟨this.1, this.2.1⟩
  generalize powN x c.set = pw at *
  generalize refC c = RC at *
  have HIT := hide (fun h => isT_of (n := now) h)
  go_enter Try.func12, Try.ntmps12
  go_upto_region 1 with fail
  change Code.wp Try.prog _ _ _ ((w.alloc (.cells (csC c v) 33)).alloc (.cells Z22 33))
  generalize (w.alloc (.cells (csC c v) 33)).alloc (.cells Z22 33) = w0 at *
  generalize isT now = T at *
  cases T
  · have HR := hide (HD.out.trans (if_neg (by simp)))
    clear HD
    rw [show (if false = true then RC else 2) = (2 : Int) from rfl] at HRF
    go_upto_region 3 with (go_at_call 31; refine (HRF.out _ HB.out).mono ?_; rintro e w1 ⟨rfl, hb1⟩; have HB1 := hide (HB.out.over hb1); clear hb1; obtain ⟨l1, s1⟩ := HB1.out.facts)
    go_wp2
    exact HB1.out.asItWas Try.results12 _ _ HR.out _ rfl rfl rfl
  have HR := hide (HD.out.trans (if_pos rfl))
  clear HD
  obtain ⟨hn0, hn1⟩ := HIT.out rfl
  rw [show (if true = true then RC else 2) = RC from rfl] at HRF
  by_cases hRC : RC = 0
  · subst hRC
    replace HR := hide (HR.out.trans (if_pos rfl))
    replace HPI := hide (HPI.out rfl)
    go_upto_region 4 with (go_at_call 31; refine (HRF.out _ HB.out).mono ?_; rintro e w1 ⟨rfl, hb1⟩; have HB1 := hide (HB.out.over hb1); clear hb1)
    have a5 := (cs_facts HB1.out.C0).2.1.1
    go_upto_region 5 with (go_at_call 32; refine (HPW.out _ HB1.out).mono ?_; rintro e w2 ⟨rfl, hb2⟩; have HB2 := hide (HB1.out.over hb2); clear hb2 a5)
    by_cases hpw : pw = 0
    · subst hpw
      replace HR := hide (HR.out.trans (if_pos rfl))
      obtain ⟨l1, s1⟩ := HB2.out.facts
      go_wp2
      exact HB2.out.asItWas Try.results12 _ _ HR.out _ rfl rfl rfl
    · replace HR := hide (HR.out.trans (if_neg hpw))
      have hpw' : (pw == 0) = false := by simpa using hpw
      obtain ⟨hx1, hx2⟩ := HPI.out hpw
      obtain ⟨y, rfl⟩ : ∃ y : Nat, x = (y : Int) := ⟨x.toNat, by omega⟩
      have hy6 : y < 6 := by omega
      have hyI : (y : Int) < 6 := by omega
      rw [Int.toNat_natCast] at HR
      have aF : w2.cell? ⟨w.heap.size, 8 + y, none⟩ = some (.bool (c.fl y)) := (HB2.out.C0.cell _).trans (get_fl c v hy6)
      cases hfl : c.fl y
      · rw [hfl] at aF
        replace HR := hide (HR.out.trans (if_neg (by rw [hfl]; simp)))
        have a4 := (cs_facts HB2.out.C0).1.2.2.2.2
        go_upto_region 10 with (go_at_call 33; refine (HSY.out _ HB2.out hn0 hn1).mono ?_; rintro e w3 ⟨v3, rfl, C3, I3, A3⟩; clear a4 aF)
        have R3 := A3.cat (by omega) HB2.out.R0
        have B3 : Below w.heap.size w w3 := HB2.out.B0.trans (A3.below (Nat.le_refl _) (by have := HB2.out.B0.size; omega))
        have N3 : CIn (New P w 2) w3 c2 v3 := I3.mono fun b _ h => new_new (by have := HB2.out.R0.lt; omega) h
        by_cases her : er = 0
        · subst her
          replace HR := hide (HR.out.trans (if_pos rfl))
          have fF := C3.free (8 + y)
          have aF : w3.cell? ⟨w.heap.size, 8 + y, none⟩ = some (.bool (c2.fl y)) := (C3.cell _).trans (get_fl c2 v3 hy6)
          have C4 := C3.set (8 + y) (.bool true)
          rw [set_fl c2 v3 hy6, HSF.out] at C4
          have R4 := R3.other (c := w.heap.size) (o := 8 + y) (by omega) (.bool true)
          have B4 := B3.setCell (p := ⟨w.heap.size, 8 + y, none⟩) (Nat.le_refl _) (.bool true)
          have N4' := N3.set1 (lt2_no P w) (8 + y) (.bool true)
          have N4 : CIn (New P w 2) (w3.setCell ⟨w.heap.size, 8 + y, none⟩ (.bool true)) { c2 with fl := updF c.fl y true } v3 := ⟨N4'.set, N4'.pd, N4'.rp, N4'.said, N4'.due⟩
          have l4 := cs_load C4 (csC_size _ _)
          have s4 := cs_store R4 Z22_size (csC_size { c2 with fl := updF c.fl y true } v3) (cs_one N4)
          have HZ := hide (show _ ∧ _ ∧ _ from ⟨R4, B4, N4⟩)
          clear C4 R4 B4 N4 N4' C3 R3 B3 N3 I3 A3
          go_upto_region 13 with fail
          clear aF fF
          generalize w3.setCell ⟨w.heap.size, 8 + y, none⟩ (.bool true) = w4 at *
          go_wp2
          exact cs_end2 Try.results12 HZ.out.1 Z22_size HZ.out.2.1 _ _ 0 D HR.out HZ.out.2.2 _ rfl rfl rfl
        · replace HR := hide (HR.out.trans (if_neg her))
          have her' : (er != 0) = true := by simpa using her
          have e2 := HS2.out her
          subst e2
          have l4 := cs_load C3 (csC_size _ _)
          have s4 := cs_store R3 Z22_size (csC_size c2 v3) (cs_one N3)
          have HZ := hide (show _ ∧ _ ∧ _ from ⟨R3, B3, N3⟩)
          clear C3 R3 B3 N3 I3 A3
          go_wp2
          exact cs_end2 Try.results12 HZ.out.1 Z22_size HZ.out.2.1 _ _ er D HR.out HZ.out.2.2 _ rfl rfl rfl
      · rw [hfl] at aF
        replace HR := hide (HR.out.trans (if_pos (by rw [hfl])))
        obtain ⟨l1, s1⟩ := HB2.out.facts
        go_wp2
        exact HB2.out.asItWas Try.results12 _ _ HR.out _ rfl rfl rfl
  · replace HR := hide (HR.out.trans (if_neg hRC))
    have hRC' : (RC != 0) = true := by simpa using hRC
    go_upto_region 3 with (go_at_call 31; refine (HRF.out _ HB.out).mono ?_; rintro e w1 ⟨rfl, hb1⟩; have HB1 := hide (HB.out.over hb1); clear hb1; obtain ⟨l1, s1⟩ := HB1.out.facts)
    go_wp2
    exact HB1.out.asItWas Try.results12 _ _ HR.out _ rfl rfl rfl
set_option maxHeartbeats 4000000 in
theorem cdouble_any (c : Cs) (v : CsV) (P : Nat → Prop) (w : World) (x id now : Int) (hp : CIn P w c v) :
    Calls Try.prog 14 #[.agg (csC c v), .int .i64 x, .int .i64 id, .int .i64 now] w (AnsC P w (doubleC c x id now)) := by
  have hD : doubleC c x id now = if isT now = true then (if refC c = 0 then (if isV x = true then (if 1 ≤ id ∧ id ≤ c.id then sayC c 4 id x (maxO (powN x c.set)) now else (c, 2)) else (c, 4)) else (c, refC c)) else (c, 2) := rfl
  have HMO : Hid (maxO (powN x c.set) = if powN x c.set < 1 then 1 else powN x c.set) := rfl
  have HB := hide (begC hp)
  have HRF := hide (fun (wx : World) (h : BegC P w wx c v) => crefusedAt_any w.heap.size c v now P wx h.C0 h.I0)
  have HPW := hide (fun (wx : World) (h : BegC P w wx c v) => cpower_rep c.set v.set x P wx h.I0.set)
  have HSY := hide (fun (wx : World) (h : BegC P w wx c v) (h0 : 0 ≤ now) (h1 : now ≤ 1099511627776) => csay_any w.heap.size c v 4 id x (maxO (powN x c.set)) now (New P w 2) wx h.C0 h.N0 (lt2_no P w) h0 h1)
  have HVL := hide (fun (wx : World) => cval_any x wx)
  have HD := hide hD
  clear hp hD
  generalize doubleC c x id now = D at *
  generalize powN x c.set = pw at *
  generalize maxO pw = mo at *
  generalize hSS : sayC c 4 id x mo now = SS at *
  clear hSS
  obtain ⟨c2, er⟩ := SS
  dsimp only at HSY HD
  generalize refC c = RC at *
  have HIT := hide (fun h => isT_of (n := now) h)
  go_enter Try.func14, Try.ntmps14
  go_upto_region 1 with fail
  change Code.wp Try.prog _ _ _ ((w.alloc (.cells (csC c v) 33)).alloc (.cells Z22 33))
  generalize (w.alloc (.cells (csC c v) 33)).alloc (.cells Z22 33) = w0 at *
  generalize isT now = T at *
  generalize isV x = V at *
  cases T
  · have HR := hide (HD.out.trans (if_neg (by simp)))
    clear HD
    rw [show (if false = true then RC else 2) = (2 : Int) from rfl] at HRF
    go_upto_region 3 with (go_at_call 31; refine (HRF.out _ HB.out).mono ?_; rintro e w1 ⟨rfl, hb1⟩; have HB1 := hide (HB.out.over hb1); clear hb1; obtain ⟨l1, s1⟩ := HB1.out.facts)
    go_wp2
    exact HB1.out.asItWas Try.results14 _ _ HR.out _ rfl rfl rfl
  have HR := hide (HD.out.trans (if_pos rfl))
  clear HD
  obtain ⟨hn0, hn1⟩ := HIT.out rfl
  rw [show (if true = true then RC else 2) = RC from rfl] at HRF
  by_cases hRC : RC = 0
  · subst hRC
    replace HR := hide (HR.out.trans (if_pos rfl))
    cases V
    · replace HR := hide (HR.out.trans (if_neg (by simp)))
      go_upto_region 5 with (first
        | (go_at_call 31; refine (HRF.out _ HB.out).mono ?_; rintro e w1 ⟨rfl, hb1⟩; have HB1 := hide (HB.out.over hb1); clear hb1)
        | (go_at_call 35; refine (HVL.out _).mono ?_; rintro e w' ⟨rfl, rfl⟩))
      obtain ⟨l1, s1⟩ := HB1.out.facts
      go_wp2
      exact HB1.out.asItWas Try.results14 _ _ HR.out _ rfl rfl rfl
    · replace HR := hide (HR.out.trans (if_pos rfl))
      go_upto_region 6 with (first
        | (go_at_call 31; refine (HRF.out _ HB.out).mono ?_; rintro e w1 ⟨rfl, hb1⟩; have HB1 := hide (HB.out.over hb1); clear hb1)
        | (go_at_call 35; refine (HVL.out _).mono ?_; rintro e w' ⟨rfl, rfl⟩))
      have a4 := (cs_facts HB1.out.C0).1.2.2.2.2
      have a5 := (cs_facts HB1.out.C0).2.1.1
      generalize c.id = cid at *
      have hcs : id < 1 ∨ (1 ≤ id ∧ cid < id) ∨ (1 ≤ id ∧ id ≤ cid) := by omega
      rcases hcs with h1 | ⟨h1, h2⟩ | ⟨h1, h2⟩
      · replace HR := hide (HR.out.trans (if_neg (by omega)))
        obtain ⟨l1, s1⟩ := HB1.out.facts
        go_wp2
        exact HB1.out.asItWas Try.results14 _ _ HR.out _ rfl rfl rfl
      · replace HR := hide (HR.out.trans (if_neg (by omega)))
        obtain ⟨l1, s1⟩ := HB1.out.facts
        go_wp2
        exact HB1.out.asItWas Try.results14 _ _ HR.out _ rfl rfl rfl
      · replace HR := hide (HR.out.trans (if_pos ⟨h1, h2⟩))
        have hmx : (pw < 1 ∧ mo = 1) ∨ (1 ≤ pw ∧ mo = pw) := by
          rw [HMO.out]
          by_cases h : pw < 1
          · exact .inl ⟨h, if_pos h⟩
          · exact .inr ⟨by omega, if_neg h⟩
        clear HMO
        rcases hmx with ⟨hp1, rfl⟩ | ⟨hp1, rfl⟩
        all_goals
          go_upto_region 9 with (go_at_call 32; refine (HPW.out _ HB1.out).mono ?_; rintro e w2 ⟨rfl, hb2⟩; have HB2 := hide (HB1.out.over hb2); clear hb2 a5 a4)
          go_upto_region 10 with (go_at_call 33; refine (HSY.out _ (HB2.out.over (by exact (Below.refl _ w2).alloc (Nat.le_refl _) _)) hn0 hn1).mono ?_; rintro e w3 ⟨v3, rfl, C3, I3, A3⟩)
          have HBA := fun o => HB2.out.over ((Below.refl _ w2).alloc (Nat.le_refl _) o)
          have R3 := A3.cat (by omega) (HBA _).R0
          have B3 : Below w.heap.size w w3 := (HBA _).B0.trans (A3.below (Nat.le_refl _) (by have := HB2.out.B0.size; simp; omega))
          have N3 : CIn (New P w 2) w3 c2 v3 := I3.mono fun b _ h => new_new (by have := HB2.out.R0.lt; simp; omega) h
          have l4 := cs_load C3 (csC_size _ _)
          have s4 := cs_store R3 Z22_size (csC_size c2 v3) (cs_one N3)
          have HZ := hide (show _ ∧ _ ∧ _ from ⟨R3, B3, N3⟩)
          clear C3 R3 B3 N3 I3 A3 HBA
          go_wp2
          exact cs_end2 Try.results14 HZ.out.1 Z22_size HZ.out.2.1 _ _ er D HR.out HZ.out.2.2 _ rfl rfl rfl
  · replace HR := hide (HR.out.trans (if_neg hRC))
    have hRC' : (RC != 0) = true := by simpa using hRC
    go_upto_region 3 with (go_at_call 31; refine (HRF.out _ HB.out).mono ?_; rintro e w1 ⟨rfl, hb1⟩; have HB1 := hide (HB.out.over hb1); clear hb1; obtain ⟨l1, s1⟩ := HB1.out.facts)
    go_wp2
    exact HB1.out.asItWas Try.results14 _ _ HR.out _ rfl rfl rfl
end Go.Proofs.Ytdkalcnlncjgiaa.Kc

