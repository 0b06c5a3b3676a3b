/- Parts of the proof: KTD. -/
import Derived.Test.YtdkalcnlncjgiaaRows
import Derived.Test.YtdkalcnlncjgiaaBK23
set_option maxRecDepth 100000
namespace Go.Proofs.Ytdkalcnlncjgiaa.Kc
open Go.RowKit Pv
theorem rises_mem : ∀ (l : List Int) (last : Int), Cd.risesFrom last l = true → ∀ u ∈ l, 0 ≤ u ∧ u < 6
  | [], _, _, u, hu => by simp at hu
  | x :: l, last, h, u, hu => by
    unfold Cd.risesFrom Cd.isV at h
    simp only [Bool.and_eq_true, decide_eq_true_eq] at h
    rcases List.mem_cons.1 hu with rfl | hu
    · exact h.1.2
    · exact rises_mem l x h.2 u hu
theorem takes_facts : ∀ (l : List Pkt) (c : Cs), (l.foldl takeC c).pd = c.pd ∧ (l.foldl takeC c).t = c.t ∧ (l.foldl takeC c).rp.length = c.rp.length + l.length
  | [], c => ⟨rfl, rfl, rfl⟩
  | x :: l, c => by
    have := takes_facts l (takeC c x)
    rw [List.foldl_cons]
    refine ⟨this.1, this.2.1, ?_⟩
    rw [this.2.2, List.length_cons]
    show (c.rp ++ [_]).length + _ = _
    simp
    omega
theorem Alt2.below {g B : Nat} {o : Option Nat} {w w' : World} (h : Alt2 g o w w') (hg : B ≤ g) (ho : ∀ r, o = some r → B ≤ r) (hw : B ≤ w.heap.size) : Below B w w' := ⟨h.os, h.tape, h.output, h.size, fun k hk => h.block k (by omega) (by omega) (fun e => by have := ho k e.symm; omega)⟩
theorem clipR_any (ao : Option Addr) (n c : Nat) (hn : n ≤ c) (h0 : ao = none → n = 0) (hc : (n : Int) < 4611686018427387904) (w : World) : Calls Try.prog 20 #[.slice ao n c] w fun e w' => e = .returned (.slice ao n n) ∧ w = w' := by
  have h1 : (n : Int) ≤ (c : Int) := by omega
  have h2 : (0 : Int) ≤ (n : Int) := by omega
  go_enter Try.func20, Try.ntmps20
  cases ao
  · obtain rfl := h0 rfl
    go_wp2
    go_ret
    exact ⟨rfl, rfl⟩
  · clear h0
    go_wp2
    go_ret
    exact ⟨rfl, rfl⟩
/-- while changes are taken in -/
structure EnR (P : Nat → Prop) (w : World) (c : Cs) (pv : Value) (d : Cs) (wl : World) : Prop where
  st : ∃ (u : CsV) (o : Option Nat) (Q : Nat → Prop), TkIn Q (w.heap.size + 2) o wl w.heap.size d u ∧ u.pd = pv ∧ (∀ b, Q b → New P w 2 b) ∧ (∀ r, o = some r → w.heap.size + 2 ≤ r)
  R : CAt 33 wl (w.heap.size + 1) Z22
  B : Below w.heap.size w wl
theorem EnR.over {P : Nat → Prop} {w wl wx : World} {c d : Cs} {pv : Value} (h : EnR P w c pv d wl) (hb : Below wl.heap.size wl wx) : EnR P w c pv d wx := by
  obtain ⟨⟨u, o, Q, h1, h2, h3, h4⟩, R, B⟩ := h
  exact ⟨⟨u, o, Q, h1.later hb, h2, h3, h4⟩, R.over hb, B.trans (hb.mono B.size)⟩
theorem EnR.take {P : Nat → Prop} {w wl wx : World} {c d d' : Cs} {pv : Value} {u : CsV} {o : Option Nat} {Q : Nat → Prop} {e : Ending} (h1 : TkIn Q (w.heap.size + 2) o wl w.heap.size d u) (h3 : ∀ b, Q b → New P w 2 b) (h4 : ∀ r, o = some r → w.heap.size + 2 ≤ r) (R : CAt 33 wl (w.heap.size + 1) Z22) (B : Below w.heap.size w wl) (h : TakesC Q (w.heap.size + 2) o wl w.heap.size d' pv e wx) : e = .returned (.tuple #[]) ∧ EnR P w c pv d' wx := by
  obtain ⟨v', o', Q', e1, t, e2, q1, q2, q3, a⟩ := h
  have hz : w.heap.size + 2 ≤ wl.heap.size := R.lt
  refine ⟨e1, ⟨v', o', Q', t, e2, fun b hb => ?_, fun r e => ?_⟩, ?_, ?_⟩
  · rcases q1 b hb with ⟨hq, _⟩ | hq
    · exact h3 b hq
    · exact .inr (by omega)
  · rcases q3 with rfl | ⟨r', e', hr⟩
    · exact h4 r e
    · rw [e'] at e; cases e; omega
  · exact R.keep (a.block _ R.lt (by omega) (fun e => by have := h4 _ e.symm; omega))
  · exact B.trans (a.below (Nat.le_refl _) (fun r e => by have := h4 r e; omega) (by omega))
attribute [local go_sem ↓] loadC_eq storeC_eq
set_option maxHeartbeats 8000000 in
theorem cend_any (c : Cs) (v : CsV) (P : Nat → Prop) (w : World) (now : Int) (hp : CIn P w c v) (hsz : (c.rp.length + c.pd.length) * 16 ≤ 168884986026393) :
    Calls Try.prog 6 #[.agg (csC c v), .int .i64 now] w (AnsC P w (endC c now)) := by
  have hD : endC c now = if refC c = 0 then (if isT now = true ∧ c.t ≤ now then (doneC { c with h := c.h + 1, t := now }, 0) else (c, 2)) else (c, refC c) := rfl
  have HDN : Hid (doneC { c with h := c.h + 1, t := now } = ripeC { takesC { c with h := c.h + 1, t := now } with pd := [] } (takesC { c with h := c.h + 1, t := now }).rp) := rfl
  have HTK : Hid (takesC { c with h := c.h + 1, t := now } = c.pd.foldl takeC { c with h := c.h + 1, t := now }) := rfl
  have HB := hide (begC hp)
  have HRF := hide (fun (wx : World) (h : BegC P w wx c v) => crefused_any w.heap.size c v P wx h.C0 h.I0)
  have HD := hide hD
  have HSZ := hide hsz
  have HGP : Hid (refC c = 0 → (0 ≤ c.h ∧ c.h < 1099511627776) ∧ (0 ≤ c.t ∧ c.t ≤ 1099511627776) ∧ c.pd.all goodK = true) := fun h => by
    have := good_parts (ref_good h).1
    exact ⟨⟨this.1.2.1, this.1.2.2⟩, this.2.1, this.2.2.2.2.1⟩
  clear hp hD hsz
  generalize endC c now = D at *
  generalize doneC { c with h := c.h + 1, t := now } = DN at *
  generalize takesC { c with h := c.h + 1, t := now } = TK at *
  generalize refC c = RC at *
  have HIT := hide (fun h => isT_of (n := now) h)
  have HTI := hide (fun (wx : World) => ctime_any now wx)
  go_enter Try.func6, Try.ntmps6
  go_upto_region 1 with fail
  change Code.wp Try.prog _ _ _ ((w.alloc (.cells (csC c v) 33)).alloc (.cells Z22 33))
  generalize (w.alloc (.cells (csC c v) 33)).alloc (.cells Z22 33) = w0 at *
  by_cases hRC : RC = 0
  rotate_left
  · have HR := hide (HD.out.trans (if_neg hRC))
    have hRC' : (RC != 0) = true := by simpa using hRC
    go_upto_region 3 with (go_at_call 18; refine (HRF.out _ HB.out).mono ?_; rintro e w1 ⟨rfl, hb1⟩; have HB1 := hide (HB.out.over hb1); clear hb1; obtain ⟨l1, s1⟩ := HB1.out.facts)
    go_wp2
    exact HB1.out.asItWas Try.results6 _ _ HR.out _ rfl rfl rfl
  subst hRC
  have HR := hide (HD.out.trans (if_pos rfl))
  clear HD
  obtain ⟨⟨hh0, hh1⟩, ⟨ht0, ht1⟩, hgk⟩ := HGP.out rfl
  have HGK := hide hgk
  clear HGP hgk
  go_upto_region 4 with (go_at_call 18; refine (HRF.out _ HB.out).mono ?_; rintro e w1 ⟨rfl, hb1⟩; have HB1 := hide (HB.out.over hb1); clear hb1)
  obtain ⟨⟨-, -, a2, a3, -⟩, ⟨-, a6, a7⟩, -⟩ := cs_facts HB1.out.C0
  generalize isT now = T at *
  cases T
  · replace HR := hide (HR.out.trans (if_neg (by simp)))
    obtain ⟨l1, s1⟩ := HB1.out.facts
    go_wp2_with (go_at_call 19; refine (HTI.out _).mono ?_; rintro e w' ⟨rfl, rfl⟩)
    exact HB1.out.asItWas Try.results6 _ _ HR.out _ rfl rfl rfl
  obtain ⟨hn0, hn1⟩ := HIT.out rfl
  by_cases hnt : c.t ≤ now
  rotate_left
  · replace HR := hide (HR.out.trans (if_neg (fun h => hnt h.2)))
    obtain ⟨l1, s1⟩ := HB1.out.facts
    have hnt' : now < c.t := by omega
    go_wp2_with (go_at_call 19; refine (HTI.out _).mono ?_; rintro e w' ⟨rfl, rfl⟩)
    exact HB1.out.asItWas Try.results6 _ _ HR.out _ rfl rfl rfl
  replace HR := hide (HR.out.trans (if_pos ⟨rfl, hnt⟩))
  have HNT := hide hnt
  clear hnt
  have hnt : c.t ≤ now := HNT.out
  go_upto_region 6 with (go_at_call 19; refine (HTI.out _).mono ?_; rintro e w' ⟨rfl, rfl⟩)
  -- height, time, ripes
  obtain ⟨Ar, Cr, er, -, hr0, -, -⟩ := HB1.out.I0.rp.open (pwC_length _) (by decide)
  have hroom := (HB1.out.I0.rp.room er).1
  have hnilr : Ar = none → c.rp.length = 0 := fun h => (hr0 h).1
  have hlenr : (c.rp.length : Int) < 4611686018427387904 := by have := HSZ.out; omega
  have f2 := HB1.out.C0.free 2
  have f3 := HB1.out.C0.free 3
  have f7 := HB1.out.C0.free 7
  have hg1 := HB1.out.C0.lt
  have hr1 : Rep P w1 (.slice Ar c.rp.length c.rp.length) 2 8 (pwC c.rp) := by have := HB1.out.I0.rp; rw [er] at this; exact this.clip
  rw [er] at a7
  have C2 := ((HB1.out.C0.set 2 (.int .i64 (c.h + 1))).set 3 (.int .i64 now)).set 7 (.slice Ar c.rp.length c.rp.length)
  rw [set_h, set_t, set_rp _ _ c.rp] at C2
  have R2 := ((HB1.out.R0.other (c := w.heap.size) (o := 2) (by omega) (.int .i64 (c.h + 1))).other (c := w.heap.size) (o := 3) (by omega) (.int .i64 now)).other (c := w.heap.size) (o := 7) (by omega) (.slice Ar c.rp.length c.rp.length)
  have B2 := ((HB1.out.B0.setCell (p := ⟨w.heap.size, 2, none⟩) (Nat.le_refl _) (.int .i64 (c.h + 1))).setCell (p := ⟨w.heap.size, 3, none⟩) (Nat.le_refl _) (.int .i64 now)).setCell (p := ⟨w.heap.size, 7, none⟩) (Nat.le_refl _) (.slice Ar c.rp.length c.rp.length)
  have kN : ∀ b, New P w 2 b → b < w1.heap.size → (((w1.setCell ⟨w.heap.size, 2, none⟩ (.int .i64 (c.h + 1))).setCell ⟨w.heap.size, 3, none⟩ (.int .i64 now)).setCell ⟨w.heap.size, 7, none⟩ (.slice Ar c.rp.length c.rp.length)).heap[b]? = w1.heap[b]? := fun b hb _ => by
    have hne : b ≠ w.heap.size := fun e => lt2_no P w (by rw [← e]; exact hb)
    rw [Below.heap_setCell _ _ _ _ hne, Below.heap_setCell _ _ _ _ hne, Below.heap_setCell _ _ _ _ hne]
  have T2 : TkIn (New P w 2) (w.heap.size + 2) none (((w1.setCell ⟨w.heap.size, 2, none⟩ (.int .i64 (c.h + 1))).setCell ⟨w.heap.size, 3, none⟩ (.int .i64 now)).setCell ⟨w.heap.size, 7, none⟩ (.slice Ar c.rp.length c.rp.length)) w.heap.size { c with h := c.h + 1, t := now } { v with rp := .slice Ar c.rp.length c.rp.length } := by
    have hz := HB1.out.R0.lt
    have n0 := HB1.out.N0
    have hw0 := HB1.out.I0
    refine ⟨C2, n0.set.keep kN, n0.pd.keep kN, .inl ⟨rfl, ⟨Ar, rfl⟩, ?_⟩, n0.said.keep kN, n0.due.keep kN, lt2_no P w, fun r e => (by cases e), by simp [World.setCell]; omega⟩
    have : Rep (New P w 2) w1 (.slice Ar c.rp.length c.rp.length) 2 8 (pwC c.rp) := by have := n0.rp; rw [er] at this; exact this.clip
    exact this.keep kN
  have E2 : EnR P w c v.pd { c with h := c.h + 1, t := now } (((w1.setCell ⟨w.heap.size, 2, none⟩ (.int .i64 (c.h + 1))).setCell ⟨w.heap.size, 3, none⟩ (.int .i64 now)).setCell ⟨w.heap.size, 7, none⟩ (.slice Ar c.rp.length c.rp.length)) := ⟨⟨_, none, _, T2, rfl, fun b hb => hb, fun r e => (by cases e)⟩, R2, B2⟩
  have HE2 := hide E2
  clear E2 T2 kN B2 R2 C2 hr1 hr0
  go_upto_region 7 with fail
  go_upto_region 8 with fail
  go_upto_region 9 with (go_at_call 20; refine (clipR_any Ar c.rp.length Cr hroom hnilr hlenr _).mono ?_; rintro e w' ⟨rfl, rfl⟩)
  clear a2 a3 a6 a7 f2 f3 f7 hg1 er hroom hnilr hlenr
  generalize ((w1.setCell ⟨w.heap.size, 2, none⟩ (.int .i64 (c.h + 1))).setCell ⟨w.heap.size, 3, none⟩ (.int .i64 now)).setCell ⟨w.heap.size, 7, none⟩ (.slice Ar c.rp.length c.rp.length) = w2 at *
  obtain ⟨Ap, Cp, ep⟩ : ∃ Ap Cp, v.pd = .slice Ap c.pd.length Cp := by
    obtain ⟨z, hz, hr, -⟩ := HB1.out.I0.pd
    obtain ⟨A, C, e, -⟩ := hr.open (pdL_length _ _ hz) (by decide)
    exact ⟨A, C, e⟩
  have HPV := hide ep
  have a6 : w2.cell? ⟨w.heap.size, 6, none⟩ = some (.slice Ap c.pd.length Cp) := by
    obtain ⟨⟨u, o, Q, t, e, -⟩, -⟩ := HE2.out
    rw [← ep, ← e]
    exact t.cat.cell 6
  have hplen : (c.pd.length : Int) < 4611686018427387904 := by have := HSZ.out; omega
  clear ep
  go_upto_region 10 with fail
  clear a6
  go_loopw [37] (fun i wl => ∃ (k : Nat), k ≤ c.pd.length ∧ i = .int .i64 (k : Int) ∧ Hid (EnR P w c (.slice Ap c.pd.length Cp) ((c.pd.take k).foldl takeC { c with h := c.h + 1, t := now }) wl)) (fun i _ => c.pd.length - (intOf i).toNat)
  case atStart => exact ⟨0, Nat.zero_le _, rfl, by have := HE2.out; rw [HPV.out] at this; exact this⟩
  case round =>
    obtain ⟨k, hk, rfl, HK⟩ := hrel
    by_cases hlt : k < c.pd.length
    · have hkI : (k : Int) < (c.pd.length : Int) := by omega
      obtain ⟨⟨u, o, Q, T, eu, hq1, hq2⟩, RK, BK⟩ := HK.out
      have tf := takes_facts (c.pd.take k) { c with h := c.h + 1, t := now }
      have htk : c.pd.take (k + 1) = c.pd.take k ++ [c.pd[k]] := List.take_succ_eq_append_getElem hlt
      have hfold : (c.pd.take (k + 1)).foldl takeC { c with h := c.h + 1, t := now } = takeC ((c.pd.take k).foldl takeC { c with h := c.h + 1, t := now }) c.pd[k] := by rw [htk, List.foldl_append]; rfl
      have hgx : goodK c.pd[k] = true := (List.all_eq_true.1 HGK.out) _ (List.getElem_mem hlt)
      have hx : c.pd[k]? = some c.pd[k] := List.getElem?_eq_getElem hlt
      have hlk : ((c.pd.take k).foldl takeC { c with h := c.h + 1, t := now }).rp.length = c.rp.length + k := by rw [tf.2.2]; simp; omega
      have HFO := hide hfold
      generalize (c.pd.take k).foldl takeC { c with h := c.h + 1, t := now } = d at *
      generalize c.pd[k] = x at *
      obtain ⟨hpd, hdt, -⟩ := tf
      dsimp only at hpd hdt
      obtain ⟨z, hz, hr, hin⟩ := T.pd
      rw [hpd] at hz hr hin
      obtain ⟨A', C', e', -, -, hc', -⟩ := hr.open (pdL_length _ _ hz) (by decide)
      rw [eu] at e'
      cases e'
      obtain ⟨b, off, rfl, -, hbl, hcell⟩ := hc' (by omega)
      have hy : z[k]? = some z[k] := List.getElem?_eq_getElem (by omega)
      obtain ⟨r1, r2⟩ := hin k x _ hx hy
      have cl : ∀ j, j < 6 → ∀ u', (pkL x z[k])[j]? = some u' → wr.cell? ⟨b, off + k * 6 + j, none⟩ = some u' := fun j hj u' hu => by
        rw [Nat.add_assoc]
        exact hcell _ _ ((pdL_get c.pd z k x _ j hx hy hj).trans hu)
      have c0 := cl 0 (by omega) _ rfl
      have c1 := cl 1 (by omega) _ rfl
      have c2 := cl 2 (by omega) _ rfl
      have c3 := cl 3 (by omega) _ rfl
      have c4 := cl 4 (by omega) _ rfl
      have c5 := cl 5 (by omega) _ rfl
      rw [Nat.add_zero] at c0
      have hgn : Cd.goodN x.k x.i x.v x.n x.S x.D = 0 := by
        unfold goodK at hgx
        simp only [Bool.and_eq_true, decide_eq_true_eq] at hgx
        exact hgx.2
      have hD := rises_mem x.D (-1) (good_rises hgn).2
      generalize z[k] = y at *
      obtain ⟨y1, y2⟩ := y
      dsimp only at c4 c5 r1 r2
      obtain ⟨A1, n1, C1, e1, -⟩ := id r1
      obtain ⟨A2, n2, C2, e2, -⟩ := id r2
      subst e1 e2
      have HTA := hide (fun (wx : World) (hb : Below wr.heap.size wr wx) => ctake_any w.heap.size d u x (.slice A1 n1 C1) (.slice A2 n2 C2) Q (w.heap.size + 2) o wx (T.later hb) (r1.over hb) (r2.over hb) hD (by rw [hlk]; have := HSZ.out; omega) (by rw [hdt]; exact hn0) (by rw [hdt]; exact hn1))
      have bA : Below wr.heap.size wr (wr.alloc (.cells #[.int .i64 x.k, .int .i64 x.i, .int .i64 x.v, .int .i64 x.n, .slice A1 n1 C1, .slice A2 n2 C2] 46)) := (Below.refl _ wr).alloc (Nat.le_refl _) _
      have HTT := hide (show _ ∧ _ ∧ _ ∧ _ ∧ _ from ⟨T.later bA, hq1, hq2, RK.over bA, BK.trans (bA.mono BK.size)⟩)
      rw [eu] at HTA
      clear T RK BK hq1 hq2 hin hr hz hc' hcell cl r1 r2 hD hgn hgx hx hy eu bA hbl hlk hpd hdt hfold htk
      obtain ⟨xk, xi, xv, xn, xS, xD⟩ := x
      dsimp only at c0 c1 c2 c3 HTA HTT
      go_upto_region 13 with (go_at_call 21; refine (HTA.out _ (by exact (Below.refl _ wr).alloc (Nat.le_refl _) _)).mono ?_; intro e w5 hTK; have HEN := hide (EnR.take (c := c) HTT.out.1 HTT.out.2.1 HTT.out.2.2.1 HTT.out.2.2.2.1 HTT.out.2.2.2.2 hTK); obtain rfl := HEN.out.1; clear hTK)
      go_wp2
      first | exact ⟨⟨k + 1, by omega, by go_num, by rw [HFO.out]; exact HEN.out.2⟩, by simp [intOf]; omega⟩ | ((repeat apply Exists.intro); exact ⟨⟨k + 1, by omega, by go_num, by rw [HFO.out]; exact HEN.out.2⟩, rfl⟩)
    · obtain rfl : k = c.pd.length := by omega
      rw [List.take_length, ← HTK.out] at HK
      have tf := takes_facts c.pd { c with h := c.h + 1, t := now }
      rw [← HTK.out] at tf
      obtain ⟨-, hdt, hrl⟩ := tf
      dsimp only at hdt hrl
      obtain ⟨⟨u, o, Q, T, eu, hq1, hq2⟩, RK, BK⟩ := HK.out
      have hz := RK.lt
      have a6 : wr.cell? ⟨w.heap.size, 6, none⟩ = some u.pd := T.cat.cell 6
      rw [eu] at a6
      have f6 := T.cat.free 6
      have hgl := T.cat.lt
      have C5 := T.cat.set 6 (.slice none 0 0)
      rw [set_pd _ _ []] at C5
      have I5 : CIn (New P w 2) wr { TK with pd := [] } { u with pd := .slice none 0 0 } := ⟨T.set.mono fun b _ hb => hq1 b hb, KRep.nil _ _, T.rp.rep (by rw [hrl]; exact HSZ.out) (fun b _ hb => hq1 b hb) (fun b e => .inr (hq2 b e)), T.said.mono fun b _ hb => hq1 b hb, T.due.mono fun b _ hb => hq1 b hb⟩
      have I6 := I5.set1 (lt2_no P w) 6 (.slice none 0 0)
      have R6 := RK.other (c := w.heap.size) (o := 6) (by omega) (.slice none 0 0)
      have B6 := BK.setCell (p := ⟨w.heap.size, 6, none⟩) (Nat.le_refl _) (.slice none 0 0)
      have hz6 : (wr.setCell ⟨w.heap.size, 6, none⟩ (.slice none 0 0)).heap.size = wr.heap.size := by simp [World.setCell]
      have HSR := hide (csayRipe_any w.heap.size { TK with pd := [] } { u with pd := .slice none 0 0 } (New P w 2) _ C5 I6 (lt2_no P w) (by show 0 ≤ TK.t; rw [hdt]; exact hn0) (by show TK.t ≤ _; rw [hdt]; exact hn1))
      have HZ := hide (show _ ∧ _ from ⟨R6, B6⟩)
      clear C5 I5 I6 R6 B6 T RK BK hq1 hq2 eu
      go_upto_region 15 with fail
      clear a6 f6 hgl
      generalize wr.setCell ⟨w.heap.size, 6, none⟩ (.slice none 0 0) = w6 at *
      dsimp only at HSR
      rw [← HDN.out] at HSR
      go_upto_region 16 with (go_at_call 22; refine HSR.out.mono ?_; rintro e w7 ⟨v7, rfl, C7, I7, A7⟩)
      have R7 := A7.cat (by omega) HZ.out.1
      have B7 : Below w.heap.size w w7 := HZ.out.2.trans (A7.below (Nat.le_refl _) (by have := HZ.out.2.size; omega))
      have N7 : CIn (New P w 2) w7 DN v7 := I7.mono fun b _ h => new_new (by rw [hz6]; omega) h
      have l7 := cs_load C7 (csC_size _ _)
      have s7 := cs_store R7 Z22_size (csC_size DN v7) (cs_one N7)
      have HU := hide (show _ ∧ _ ∧ _ from ⟨R7, B7, N7⟩)
      clear C7 R7 B7 N7 I7 A7
      go_wp2
      exact cs_end2 Try.results6 HU.out.1 Z22_size HU.out.2.1 _ _ 0 D HR.out HU.out.2.2 _ rfl rfl rfl
end Go.Proofs.Ytdkalcnlncjgiaa.Kc

