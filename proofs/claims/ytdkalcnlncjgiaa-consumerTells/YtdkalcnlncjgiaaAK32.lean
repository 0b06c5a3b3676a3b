/- Parts of the proof: KRX. -/
import Derived.Test.YtdkalcnlncjgiaaRows
import Derived.Test.YtdkalcnlncjgiaaAK28
import Derived.Test.YtdkalcnlncjgiaaAK29
import Derived.Test.YtdkalcnlncjgiaaAK31
set_option maxRecDepth 100000
namespace Go.Proofs.Ytdkalcnlncjgiaa.Kc
open Go.RowKit Pv
theorem first_pow {m : Nat} (hm : m < 6) : ∀ l : List (Int × Int), Df.firstP l m = powN (m : Int) l
  | [] => rfl
  | x :: l => by
    have ih := first_pow hm l
    show Df.putP (Df.firstP l) x m = if x.1 = (m : Int) then x.2 else powN (m : Int) l
    unfold Df.putP
    by_cases h : 0 ≤ x.1 ∧ x.1 < 6
    · rw [if_pos h]
      by_cases e : x.1 = (m : Int)
      · rw [if_pos e, if_pos (by omega)]
      · rw [if_neg e, if_neg (by omega), ih]
    · rw [if_neg h, if_neg (by omega), ih]
attribute [local go_sem ↓] loadC_eq storeC_eq
set_option maxHeartbeats 8000000 in
theorem rdouble_any (c : Cs) (v : CsV) (x i now : Int) (P : Nat → Prop) (w : World) (hp : CIn P w c v) (h80 : c.pd.length * 80 ≤ 140737488351232) (h16 : c.rp.length * 16 ≤ 168884986026393) :
    Calls Try.prog 15 #[.agg (csC c v), .int .i64 x, .int .i64 i, .int .i64 now] w (AnsC P w (doubleC c x i now)) := by
  have HD : Hid (doubleC c x i now = if isT now = true then (if refC c = 0 then (if isV x = true then (if 1 ≤ i ∧ i ≤ c.id then sayC c 4 i x (maxO (powN x c.set)) now else (c, 2)) else (c, 4)) else (c, refC c)) else (c, 2)) := rfl
  have HRC : Hid (refC c = if goodC c = true then (if c.on = true then 0 else 4) else 2) := rfl
  have HIT : Hid (isT now = (decide (0 ≤ now) && decide (now ≤ 1099511627776))) := rfl
  have HB := hide (begC hp)
  have HGD := hide (fun (wx : World) (h : BegC P w wx c v) => rgoodc_any c v P wx h.I0)
  have HRW := hide (fun (wx : World) (h : BegC P w wx c v) => rrow_rep c.set v.set P wx h.I0.set)
  have HPS : Hid (goodC c = true → 0 ≤ powN x c.set) := fun h1 => by
    by_cases h2 : powN x c.set = 0
    · omega
    · have := powN_in (good_parts h1).2.2.2.1 h2
      omega
  have HSY := hide (fun (Q : Nat → Prop) (wx : World) (h : CIn Q wx c v) (h0 : 0 ≤ now) (h1 : now ≤ 1099511627776) => rsaying_any c v 4 i x (maxO (powN x c.set)) now Q wx h h0 h1 h80 h16)
  have HFP := hide (fun m (hm : m < 6) => first_pow hm c.set)
  have HIX := hide (fun m (hm : m < 6) (wx : World) => Df.ixAll (Df.firstP c.set) hm wx)
  have hIV : isV x = (decide (0 ≤ x) && decide (x ≤ 5)) := by
    unfold isV
    rw [Bool.eq_iff_iff]
    simp
    omega
  have HIV := hide hIV
  clear hIV
  clear hp h80 h16
  generalize doubleC c x i now = D at *
  generalize sayC c 4 i x (maxO (powN x c.set)) now = SS at *
  obtain ⟨c2, er⟩ := SS
  generalize refC c = RC at *
  generalize goodC c = G at *
  go_enter Try.func15, Try.ntmps15
  go_upto_region 1 with fail
  change Code.wp Try.prog _ _ _ ((w.alloc (.cells (csC c v) 33)).alloc (.cells Z22 33))
  generalize (w.alloc (.cells (csC c v) 33)).alloc (.cells Z22 33) = w0 at *
  obtain ⟨l0, -⟩ := HB.out.facts
  have hcs : (D = (c, 2) ∧ (G = false ∨ (G = true ∧ (now < 0 ∨ (0 ≤ now ∧ 1099511627776 < now))))) ∨ (G = true ∧ 0 ≤ now ∧ now ≤ 1099511627776) := by
    by_cases hT : 0 ≤ now ∧ now ≤ 1099511627776
    · cases G
      · left
        refine ⟨?_, .inl rfl⟩
        have e1 : RC = 2 := by rw [HRC.out]; simp
        rw [HD.out, HIT.out, e1]
        simp
      · exact .inr ⟨rfl, hT⟩
    · left
      refine ⟨?_, ?_⟩
      · rw [HD.out, if_neg]
        rw [HIT.out]
        simp only [Bool.and_eq_true, decide_eq_true_eq]
        exact hT
      · cases G
        · exact .inl rfl
        · exact .inr ⟨rfl, by omega⟩
  rcases hcs with ⟨hr, hcs⟩ | ⟨rfl, hn0, hn1⟩
  · have HR := hide hr
    clear hr HD HRC HIT
    rcases hcs with rfl | ⟨rfl, h1 | ⟨h1, h2⟩⟩
    all_goals
      go_upto_region 2 with (go_at_call 23; refine (HGD.out _ HB.out).mono ?_; rintro e w1 ⟨rfl, hb1⟩; have HB1 := hide (HB.out.over hb1); clear hb1 l0; obtain ⟨l1, s1⟩ := HB1.out.facts)
      go_wp2
      exact HB1.out.asItWas Try.results15 _ _ HR.out _ rfl rfl rfl
  have hT : isT now = true := by rw [HIT.out]; simp [hn0, hn1]
  have HR := hide (HD.out.trans (if_pos hT))
  replace HPS := hide (HPS.out rfl)
  clear HD HIT hT
  go_upto_region 3 with (go_at_call 23; refine (HGD.out _ HB.out).mono ?_; rintro e w1 ⟨rfl, hb1⟩; have HB1 := hide (HB.out.over hb1); clear hb1 l0)
  have a0 := (cs_facts HB1.out.C0).1.1
  have a4 := (cs_facts HB1.out.C0).1.2.2.2.2
  have a5 := (cs_facts HB1.out.C0).2.1.1
  cases hon : c.on
  · have e : RC = 4 := by rw [HRC.out, hon]; simp
    subst e
    replace HR := hide (HR.out.trans (if_neg (by decide)))
    clear HRC
    rw [hon] at a0
    obtain ⟨l1, s1⟩ := HB1.out.facts
    go_wp2
    exact HB1.out.asItWas Try.results15 _ _ HR.out _ rfl rfl rfl
  have e : RC = 0 := by rw [HRC.out, hon]; simp
  subst e
  replace HR := hide (HR.out.trans (if_pos rfl))
  clear HRC
  rw [hon] at a0
  have hxs : (x < 0 ∨ (0 ≤ x ∧ 5 < x)) ∨ ∃ y : Nat, x = (y : Int) ∧ y < 6 := by
    by_cases h0 : 0 ≤ x ∧ x ≤ 5
    · exact .inr ⟨x.toNat, by omega, by omega⟩
    · exact .inl (by omega)
  rcases hxs with hxs | ⟨y, rfl, hy6⟩
  · replace HR := hide (HR.out.trans (if_neg (by rw [HIV.out]; simp only [Bool.and_eq_true, decide_eq_true_eq]; omega)))
    obtain ⟨l1, s1⟩ := HB1.out.facts
    rcases hxs with h1 | ⟨h1, h2⟩
    all_goals
      go_wp2
      exact HB1.out.asItWas Try.results15 _ _ HR.out _ rfl rfl rfl
  replace HR := hide (HR.out.trans (if_pos (by rw [HIV.out]; simp only [Bool.and_eq_true, decide_eq_true_eq]; omega)))
  have hyI : (y : Int) < 6 := by omega
  have hy5 : (y : Int) ≤ 5 := by omega
  have hy0 : (0 : Int) ≤ (y : Int) := by omega
  have hix := HIX.out y hy6
  rw [HFP.out y hy6] at hix
  have his : (i < 1 ∨ (1 ≤ i ∧ c.id < i)) ∨ (1 ≤ i ∧ i ≤ c.id) := by omega
  rcases his with his | ⟨hi1, hi2⟩
  · replace HR := hide (HR.out.trans (if_neg (by omega)))
    obtain ⟨l1, s1⟩ := HB1.out.facts
    rcases his with h1 | ⟨h1, h2⟩
    all_goals
      go_wp2
      exact HB1.out.asItWas Try.results15 _ _ HR.out _ rfl rfl rfl
  replace HR := hide (HR.out.trans (if_pos ⟨hi1, hi2⟩))
  have hps := HPS.out
  generalize powN (y : Int) c.set = pw at *
  have hpws : (pw = 0 ∧ maxO pw = 1) ∨ (¬ pw = 0 ∧ (pw == 0) = false ∧ maxO pw = pw) := by
    unfold maxO
    by_cases h : pw = 0
    · exact .inl ⟨h, by rw [if_pos (by omega)]⟩
    · exact .inr ⟨h, by simpa using h, by rw [if_neg (by omega)]⟩
  rcases hpws with ⟨rfl, em⟩ | ⟨hne, hne', em⟩
  all_goals
    rw [em] at HSY
    clear em
    go_upto_region 10 with (go_at_call 34; refine (HRW.out _ HB1.out).mono ?_; rintro e w2 ⟨rfl, hb2⟩; have HB2 := hide (HB1.out.over hb2); clear hb2 a5 a0 a4)
    obtain ⟨l2, -⟩ := HB2.out.facts
    have hz2 : w.heap.size + 2 ≤ w2.heap.size := HB2.out.R0.lt
    go_wp2_with (go_at_call 25; refine (HSY.out _ _ HB2.out.N0 hn0 hn1).mono ?_; rintro e w3 ⟨v3, rfl, I3, hb3⟩; dsimp only at I3; dsimp only; have s3 := cs_store (HB2.out.R0.over hb3) Z22_size (csC_size c2 v3) (cs_one I3); have HI3 := hide I3; have HB3 := hide hb3; clear I3 hb3)
    exact cs_end2 Try.results15 (HB2.out.R0.over HB3.out) Z22_size (HB2.out.B0.trans (HB3.out.mono HB2.out.B0.size)) c2 v3 er D HR.out (HI3.out.mono fun b _ hn => Or.elim hn (fun h => h.1) (fun h => .inr (by omega))) _ rfl rfl rfl
end Go.Proofs.Ytdkalcnlncjgiaa.Kc

