/- Parts of the proof: KRP. -/
import Derived.Test.YtdkalcnlncjgiaaRows
import Derived.Test.YtdkalcnlncjgiaaBK25
set_option maxRecDepth 100000
namespace Go.Proofs.Ytdkalcnlncjgiaa.Kc
open Go.RowKit Pv
/-- the first one counts of what was, the last one of what changes -/
def applyF (a d : List (Int × Int)) : List (Int × Int) := Df.those (fun v => decide (0 < Df.lastP (Df.firstP a) d v)) (Df.lastP (Df.firstP a) d) 6
theorem applyF_len (a d : List (Int × Int)) : (applyF a d).length ≤ 6 := Df.those_len _ _ 6
/-- validators that rise -/
def upB (last : Int) : List (Int × Int) → Bool
  | [] => true
  | x :: l => decide (last < x.1) && decide (x.1 ≤ 5) && upB x.1 l
theorem up_set : ∀ (l : List (Int × Int)) (last : Int), setB last l = true → upB last l = true
  | [], _, _ => rfl
  | x :: l, last, h => by
    unfold setB setB1 at h
    simp only [Bool.and_eq_true, decide_eq_true_eq] at h
    unfold upB
    simp only [Bool.and_eq_true, decide_eq_true_eq]
    exact ⟨⟨h.1.1.1.1, h.1.1.1.2⟩, up_set l x.1 h.2⟩
theorem up_app : ∀ (l : List (Int × Int)) (last : Int) (x : Int × Int), upB last l = true → last < x.1 → x.1 ≤ 5 → (∀ y ∈ l, y.1 < x.1) → upB last (l ++ [x]) = true
  | [], last, x, _, h1, h2, _ => by
    show upB last [x] = true
    unfold upB upB
    simp [h1, h2]
  | y :: l, last, x, h, h1, h2, h3 => by
    unfold upB at h
    simp only [Bool.and_eq_true, decide_eq_true_eq] at h
    show upB last (y :: (l ++ [x])) = true
    unfold upB
    simp only [Bool.and_eq_true, decide_eq_true_eq]
    exact ⟨h.1, up_app l y.1 x h.2 (h3 y (by simp)) h2 fun z hz => h3 z (by simp [hz])⟩
theorem up_those (c : Nat → Bool) (f : Nat → Int) : ∀ n, n ≤ 6 → upB (-1) (Df.those c f n) = true ∧ ∀ y ∈ Df.those c f n, y.1 < (n : Int)
  | 0, _ => ⟨rfl, fun y hy => by cases hy⟩
  | n + 1, h => by
    obtain ⟨h1, h2⟩ := up_those c f n (by omega)
    rw [Df.those_succ]
    split
    · refine ⟨up_app _ _ _ h1 (by show (-1 : Int) < (n : Int); omega) (by show (n : Int) ≤ 5; omega) h2, fun y hy => ?_⟩
      rcases List.mem_append.1 hy with hy | hy
      · have := h2 y hy; omega
      · simp at hy; subst hy; show (n : Int) < _; omega
    · exact ⟨h1, fun y hy => by have := h2 y hy; omega⟩
theorem up_apply (a d : List (Int × Int)) : upB (-1) (Df.applyL a d) = true := (up_those _ _ 6 (Nat.le_refl _)).1
theorem lastP_put (P : Nat → Int) : ∀ (l : List (Int × Int)) (last : Int), upB last l = true → -1 ≤ last → ∀ i : Nat, (i : Int) ≤ last → Df.lastP P l i = P i
  | [], _, _, _, _, _ => rfl
  | x :: l, last, h, h0, i, hi => by
    unfold upB at h
    simp only [Bool.and_eq_true, decide_eq_true_eq] at h
    show Df.lastP (Df.putP P x) l i = P i
    rw [lastP_put (Df.putP P x) l x.1 h.2 (by omega) i (by omega)]
    unfold Df.putP
    rw [if_pos (by omega), if_neg (by omega)]
theorem first_last (P : Nat → Int) : ∀ (l : List (Int × Int)) (last : Int), upB last l = true → -1 ≤ last → ∀ i : Nat, Df.lastP P l i = l.foldr (fun x P => Df.putP P x) P i
  | [], _, _, _, _ => rfl
  | x :: l, last, h, h0, i => by
    have h' := h
    unfold upB at h
    simp only [Bool.and_eq_true, decide_eq_true_eq] at h
    show Df.lastP (Df.putP P x) l i = Df.putP (l.foldr (fun x P => Df.putP P x) P) x i
    by_cases hx : i = x.1.toNat
    · rw [lastP_put _ l x.1 h.2 (by omega) i (by omega)]
      unfold Df.putP
      rw [if_pos (by omega), if_pos hx, if_pos (by omega), if_pos hx]
    · rw [first_last _ l x.1 h.2 (by omega) i]
      rw [show Df.putP (l.foldr (fun x P => Df.putP P x) P) x i = l.foldr (fun x P => Df.putP P x) P i by unfold Df.putP; rw [if_pos (by omega), if_neg hx]]
      have e : ∀ (m : List (Int × Int)), m.foldr (fun x P => Df.putP P x) (Df.putP P x) i = m.foldr (fun x P => Df.putP P x) P i := by
        intro m
        induction m with
        | nil => show Df.putP P x i = P i; unfold Df.putP; rw [if_pos (by omega), if_neg hx]
        | cons y m ih =>
          have hp : ∀ (Q Q' : Nat → Int), Q i = Q' i → Df.putP Q y i = Df.putP Q' y i := fun Q Q' h => by
            unfold Df.putP
            split
            · show (if i = y.1.toNat then y.2 else Q i) = (if i = y.1.toNat then y.2 else Q' i)
              rw [h]
            · exact h
          exact hp _ _ ih
      exact e l
theorem applyF_set {a : List (Int × Int)} (h : upB (-1) a = true) (d : List (Int × Int)) : applyF a d = Df.applyL a d := by
  have e : Df.firstP a = Df.lastP Df.zeroP a := funext fun i => (first_last Df.zeroP a (-1) h (by omega) i).symm
  unfold applyF Df.applyL
  rw [e]
set_option maxHeartbeats 4000000 in
theorem rapply_rep (a d : List (Int × Int)) (v u : Value) (P P' : Nat → Prop) (w : World) (ha : Rep P w v 2 16 (pwC a)) (hd : Rep P' w u 2 16 (pwC d)) :
    Calls Try.prog 24 #[v, u] w fun e w' => ∃ A n C, e = .returned (.slice A n C) ∧ Rep (fun b => w.heap.size ≤ b) w' (.slice A n C) 2 16 (pwC (applyF a d)) ∧ Below w.heap.size w w' := by
  obtain ⟨i0, hi, hz0, hz1, hz2⟩ := info_parts infoPw
  have HRW := hide (rrow_rep a v P w ha)
  obtain ⟨A, C, rfl, hs, -, hc, -⟩ := hd.open (pwC_length _) (by decide)
  have HC := hide hc
  have hlen : d.length ≤ 8796093022202 := by omega
  obtain ⟨A0, n0, C0, rfl, -⟩ := id ha
  have HFD := hide (fun k (hk : k < d.length) => Df.foldl_take (Df.firstP a) d k hk)
  clear hc ha hd hs
  go_enter Try.func24, Try.ntmps24
  go_upto_region 2 with (go_at_call 34; refine HRW.out.mono ?_; rintro e w1 ⟨rfl, hb1⟩; have HB1 := hide hb1; clear hb1)
  have Q2 := Df.QAt.new w1 (Df.firstP a)
  have B2 := HB1.out.alloc HB1.out.size (.cells #[.int .i64 (Df.firstP a 0), .int .i64 (Df.firstP a 1), .int .i64 (Df.firstP a 2), .int .i64 (Df.firstP a 3), .int .i64 (Df.firstP a 4), .int .i64 (Df.firstP a 5)] 68)
  generalize w1.alloc (.cells #[.int .i64 (Df.firstP a 0), .int .i64 (Df.firstP a 1), .int .i64 (Df.firstP a 2), .int .i64 (Df.firstP a 3), .int .i64 (Df.firstP a 4), .int .i64 (Df.firstP a 5)] 68) = w2 at *
  have hb5 : w.heap.size ≤ w1.heap.size := HB1.out.size
  generalize w1.heap.size = b5 at *
  have HX2 := hide (show Df.QAt w2 b5 (Df.firstP a) ∧ Below w.heap.size w w2 from ⟨Q2, B2⟩)
  clear Q2 B2 HB1 HRW
  go_upto_region 3 with fail
  go_loopw [14] (fun i wl => ∃ k : Nat, k ≤ d.length ∧ i = .int .i64 (k : Int) ∧ Hid (Df.QAt wl b5 (Df.lastP (Df.firstP a) (d.take k)) ∧ Below w.heap.size w wl)) (fun i _ => d.length - (intOf i).toNat)
  case atStart => exact ⟨0, Nat.zero_le _, rfl, HX2.out.1, HX2.out.2⟩
  case round =>
    obtain ⟨k, hk, rfl, HR⟩ := hrel
    by_cases hlt : k < d.length
    · have hkI : (k : Int) < (d.length : Int) := by omega
      have hk0 : (0 : Int) ≤ (k : Int) := by omega
      obtain ⟨b, off, rfl, -, hbl, hcell⟩ := HC.out (by omega)
      obtain ⟨x, hx⟩ : ∃ x, d.getD k (0, 0) = x := ⟨_, rfl⟩
      obtain ⟨p0, p1⟩ := pwC_get d k hlt
      rw [hx] at p0 p1
      have c0 : wr.cell? ⟨b, off + k * 2, none⟩ = some (.int .i64 x.1) := (HR.out.2.cell (p := ⟨b, off + k * 2, none⟩) hbl).trans (hcell _ _ p0)
      have c1 : wr.cell? ⟨b, off + k * 2 + 1, none⟩ = some (.int .i64 x.2) := (HR.out.2.cell (p := ⟨b, off + k * 2 + 1, none⟩) hbl).trans (hcell _ _ p1)
      have hfd := HFD.out k hlt
      rw [hx] at hfd
      have HFX := hide hfd
      clear hcell p0 p1 hx hfd
      obtain ⟨x1, x2⟩ := x
      dsimp only at c0 c1
      have Q1 := HR.out.1.alloc (.cells #[.int .i64 x1, .int .i64 x2] 64)
      have B1 := HR.out.2.alloc HR.out.2.size (.cells #[.int .i64 x1, .int .i64 x2] 64)
      have hlb := HR.out.1.lt
      by_cases hv : 0 ≤ x1 ∧ x1 < 6
      · obtain ⟨m, rfl⟩ : ∃ m : Nat, x1 = (m : Int) := ⟨x1.toNat, by omega⟩
        have hm6 : m < 6 := by omega
        have hmI : (m : Int) < 6 := by omega
        have hm0 : (0 : Int) ≤ (m : Int) := by omega
        have q1 := HR.out.1.one hm6
        have f1 := HR.out.1.facts.2 m
        have q1' := Q1.one hm6
        have f1' := Q1.facts.2 m
        have Q2 := (HR.out.1.put hm6 x2).alloc (.cells #[.int .i64 (m : Int), .int .i64 x2] 64)
        rw [← HFX.out] at Q2
        have B3 := (HR.out.2.setCell (p := ⟨b5, m, none⟩) hb5 (.int .i64 x2)).alloc (by simp [World.setCell]; exact HR.out.2.size) (.cells #[.int .i64 (m : Int), .int .i64 x2] 64)
        have HZ := hide (show _ ∧ _ from ⟨Q2, B3⟩)
        clear Q2 B3 HR Q1 B1
        go_wp2
        first | exact ⟨⟨k + 1, by omega, by go_num, HZ.out.1, HZ.out.2⟩, by simp [intOf]; omega⟩ | ((repeat apply Exists.intro); exact ⟨⟨k + 1, by omega, by go_num, HZ.out.1, HZ.out.2⟩, rfl⟩)
      · have hpp : Df.putP (Df.lastP (Df.firstP a) (d.take k)) (x1, x2) = Df.lastP (Df.firstP a) (d.take k) := by unfold Df.putP; rw [if_neg hv]
        have HZ : Hid (Df.QAt (wr.alloc (.cells #[.int .i64 x1, .int .i64 x2] 64)) b5 (Df.lastP (Df.firstP a) (d.take (k + 1))) ∧ Below w.heap.size w (wr.alloc (.cells #[.int .i64 x1, .int .i64 x2] 64))) := by rw [HFX.out, hpp]; exact ⟨Q1, B1⟩
        have hcs : ¬ 0 ≤ x1 ∨ (0 ≤ x1 ∧ ¬ x1 < 6) := by omega
        clear hv hpp Q1 B1
        rcases hcs with h1 | ⟨h1, h2⟩
        all_goals
          go_wp2
          first | exact ⟨⟨k + 1, by omega, by go_num, HZ.out.1, HZ.out.2⟩, by simp [intOf]; omega⟩ | ((repeat apply Exists.intro); exact ⟨⟨k + 1, by omega, by go_num, HZ.out.1, HZ.out.2⟩, rfl⟩)
    · obtain rfl : k = d.length := by omega
      rw [List.take_length] at HR
      have HR3 := hide HR.out
      clear HR HX2 HC
      have e1 : applyF a d = Df.those (fun v => decide (0 < Df.lastP (Df.firstP a) d v)) (Df.lastP (Df.firstP a) d) 6 := rfl
      obtain ⟨R, hR⟩ : ∃ R, Df.lastP (Df.firstP a) d = R := ⟨_, rfl⟩
      rw [hR] at e1 HR3
      have HE := hide e1
      have HL6 := hide (applyF_len a d)
      clear e1 hR HFD
      obtain ⟨wz, rfl⟩ : ∃ wz, wz = wr := ⟨_, rfl⟩
      go_upto_region 10 with fail
      go_loopw [8, 32] (fun v i wl => ∃ k : Nat, k ≤ 6 ∧ i = .int .i64 (k : Int) ∧ Pows wl wz.heap.size v (Df.those (fun v => decide (0 < R v)) R k) ∧ Hid (Below wz.heap.size wz wl)) (fun _ i _ => (6 - intOf i).toNat)
      case atStart => exact ⟨0, by omega, rfl, Pows.nil _ _, Below.refl _ _⟩
      case round =>
        obtain ⟨k, hk, rfl, hown, HB⟩ := hrel
        have hsz : wz.heap.size ≤ wr.heap.size := HB.out.size
        by_cases hk6 : k < 6
        · have hkk : (k : Int) < 6 := by omega
          have hk0 : (0 : Int) ≤ (k : Int) := by omega
          have q1 := (HR3.out.1.later HB.out HR3.out.1.lt).one hk6
          have HCS := hide (Df.those_succ (fun v => decide (0 < R v)) R k)
          have hlen := Df.those_len (fun v => decide (0 < R v)) R k
          generalize R k = pk at *
          by_cases hne : 0 < pk
          · go_wp2_with (at_builtin; refine wpList_append_own_at _ rfl _ _ 22 rfl wz.heap.size 64 i0 (.agg #[.int .i64 0, .int .i64 0]) 2 16 Try.underlying22 hi hz0 hz1 hz2 rfl (by decide) _ _ _ rfl (World.ownsRow.alloc hown _) ⟨wr.heap.size, 0, none⟩ 1 1 [.int .i64 (k : Int), .int .i64 pk] rfl rfl (pw_news _ _ _ _) (by intro u hu; simp at hu; rcases hu with rfl | rfl <;> rfl) (by unfold maxLen; omega) (by omega) (by simp; omega) ?_; intro v' w1 hown' hgrow _ hat)
            have hb : Below wz.heap.size wz w1 := Pows.grow hown HB.out hgrow (Nat.le_refl _) hsz
            refine ⟨⟨k + 1, by omega, by go_num, ?_, hb⟩, by simp [intOf]; omega⟩
            rw [HCS.out, if_pos (by simpa using hne)]
            exact Pows.append hown' rfl
          · go_wp2
            exact ⟨⟨k + 1, by omega, by go_num, by rw [HCS.out, if_neg (by simpa using hne)]; exact hown, HB.out⟩, by simp [intOf]; omega⟩
        · obtain rfl : k = 6 := by omega
          go_wp2
          go_ret
          rw [← HE.out] at hown
          have hr := pows_rep (Df.own_mono hown HR3.out.2.size) HL6.out
          obtain ⟨A0, n0, C0, rfl, _⟩ := id hr
          exact ⟨A0, n0, C0, rfl, hr, HR3.out.2.trans (HB.out.mono HR3.out.2.size)⟩
end Go.Proofs.Ytdkalcnlncjgiaa.Kc

