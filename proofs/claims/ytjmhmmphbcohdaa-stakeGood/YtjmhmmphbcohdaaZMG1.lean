/- Whatever is done to a good stake, it stays good, nothing is unburnt, the dead stay dead, what is lost stays lost, and what is refused changes nothing: plain facts. -/
import Derived.Test.YtjmhmmphbcohdaaZMR1
import Derived.Test.YtjmhmmphbcohdaaZMP1
import Derived.Test.YtjmhmmphbcohdaaZMS2
import Derived.Test.YtjmhmmphbcohdaaZSV
import Derived.Test.YtjmhmmphbcohdaaZSRL
set_option maxRecDepth 100000
namespace Go.Proofs.Ytjmhmmphbcohdaa
structure Kp (s : St) (r : St × Int) : Prop where
  good : goodS r.1 = true
  bu : s.b.bu ≤ r.1.b.bu
  dead : ∀ k, k < 6 → (s.V k).dead = true → (r.1.V k).dead = true
  lost : ∀ k, k < 6 → (s.V k).lost ≤ (r.1.V k).lost
  no : r.2 ≠ 0 → r.1 = s
theorem Kp.same {s : St} (hg : goodS s = true) (e : Int) : Kp s (s, e) := ⟨hg, Int.le_refl _, fun _ _ h => h, fun _ _ => Int.le_refl _, fun _ => rfl⟩
theorem kp_deleg {s : St} (hg : goodS s = true) (d v n : Int) : Kp s (delegS s d v n) := by
  by_cases h : (delegS s d v n).2 = 0
  · obtain ⟨i, j, rfl, rfl, hi, hj, -, hdead, hn, hn1, hsh, hbo, hD⟩ := deleg_zero h
    obtain ⟨hB, hb1, hb2, hb3⟩ := bond_zero hi hbo
    have hv := good_vals hg j hj
    have hx := (vOk_iff _).1 hv.1
    obtain ⟨g0, g1, g2⟩ := sh_zero hv.1 hn hn1 hsh
    have hS := inA_iff.1 (psh_at hv.2 hi)
    have gA := good_add (t := n) (n := shN (s.V j) n) hg hi hj hB hb1 hb2 hb3 (by omega) (by omega) g1 (fun _ => by omega)
    rw [hD]
    refine ⟨gA, by show s.b.bu ≤ (bondR s.b i n).1.bu; omega, fun k hk hd => ?_, fun k hk => ?_, fun h => absurd rfl h⟩
    · show (setV s.V j _ k).dead = true
      unfold setV
      split
      · rename_i e; subst e; exact hd
      · exact hd
    · show (s.V k).lost ≤ (setV s.V j _ k).lost
      unfold setV
      split
      · rename_i e; subst e; exact Int.le_refl _
      · exact Int.le_refl _
  · have e : (delegS s d v n).1 = s := by
      unfold delegS at h ⊢
      repeat' split
      all_goals first | rfl | (simp_all; done)
    have := Kp.same hg (delegS s d v n).2
    rw [show delegS s d v n = ((delegS s d v n).1, (delegS s d v n).2) from rfl, e]
    exact this
theorem wOk_up {next next' : Int} (hn : next ≤ next') : ∀ {W : List Wt} {last : Int}, wOk next last W = true → wOk next' last W = true
  | [], _, _ => rfl
  | x :: W, last, h => by
    simp only [wOk, wOk1, Bool.and_eq_true, decide_eq_true_eq] at h ⊢
    obtain ⟨⟨⟨⟨⟨⟨⟨h1, h2⟩, h3⟩, h4⟩, h5⟩, h6⟩, h7⟩, h8⟩ := h
    exact ⟨⟨⟨⟨⟨⟨⟨h1, by omega⟩, h3⟩, h4⟩, h5⟩, h6⟩, h7⟩, wOk_up hn h8⟩
theorem wOk_snoc {next : Int} (x : Wt) (hx : wOk1 (next - 1) (next + 1) { x with num := next } = true) (e : x.num = next) : ∀ {W : List Wt} {last : Int}, last < next → wOk next last W = true → wOk (next + 1) last (W ++ [x]) = true
  | [], last, hl, _ => by
    simp only [List.nil_append, wOk, wOk1, Bool.and_eq_true, decide_eq_true_eq] at hx ⊢
    obtain ⟨⟨⟨⟨⟨⟨h1, h2⟩, h3⟩, h4⟩, h5⟩, h6⟩, h7⟩ := hx
    exact ⟨⟨⟨⟨⟨⟨⟨by omega, by omega⟩, h3⟩, h4⟩, h5⟩, h6⟩, h7⟩, trivial⟩
  | y :: W, last, hl, h => by
    simp only [List.cons_append, wOk, wOk1, Bool.and_eq_true, decide_eq_true_eq] at h ⊢
    obtain ⟨⟨⟨⟨⟨⟨⟨h1, h2⟩, h3⟩, h4⟩, h5⟩, h6⟩, h7⟩, h8⟩ := h
    exact ⟨⟨⟨⟨⟨⟨⟨h1, by omega⟩, h3⟩, h4⟩, h5⟩, h6⟩, h7⟩, wOk_snoc x hx e h2 h8⟩
theorem kp_undel {s : St} (hg : goodS s = true) {i j : Nat} (hi : i < 4) (hj : j < 6) (n : Int) (y : Wt) : Kp s (undelS s i j n y) := by
  have hr := ref_of_good hg hi hj
  by_cases h1 : (decide (0 < n) && inA n) = true ∧ 0 ≤ y.hei ∧ 0 ≤ y.due
  case neg => rw [undel_1 hr h1]; exact Kp.same hg _
  by_cases h2 : n ≤ s.S (i : Int).toNat (j : Int).toNat
  case neg => rw [undel_2 hr h1 h2]; exact Kp.same hg _
  by_cases h3 : s.W.length < 60 ∧ s.next < 1125899906842624
  case neg => rw [undel_3 hr h1 h2 h3]; exact Kp.same hg _
  by_cases h4 : woE (s.V (j : Int).toNat) n = 0
  case neg => rw [undel_4 hr h1 h2 h3 h4]; exact Kp.same hg _
  by_cases h5 : (unbondR s.b (woN (s.V (j : Int).toNat) n)).2 = 0
  case neg => rw [undel_5 hr h1 h2 h3 h4 h5]; exact Kp.same hg _
  rw [undel_6 hr h1 h2 h3 h4 h5]
  simp only [Int.toNat_natCast] at *
  have hv := good_vals hg j hj
  have hx := (vOk_iff _).1 hv.1
  have hS := inA_iff.1 (psh_at hv.2 hi)
  have hG := (goodS_iff s).1 hg
  have hpe := (hG.2.2.2.2.2.1 j hj).2.2
  have hge := psh_ge hv.2 hi
  rw [hpe] at hge
  obtain ⟨hn, hy0, hy1⟩ := h1
  simp only [Bool.and_eq_true, decide_eq_true_eq, inA_iff] at hn
  obtain ⟨w1, w2, -⟩ := wo_le (k := (s.V j).tok) hv.1 hn.1 (by omega) (by rw [Int.mul_comm]; exact Int.mul_le_mul_of_nonneg_left (by omega) hx.1.1)
  have hwN : woN (s.V j) n = mdN n (s.V j).tok (s.V j).sh := by unfold woN; rw [if_pos w1]
  have hmb := mdN_bound n (s.V j).tok (s.V j).sh
  obtain ⟨m1, m2, m3, m4, m5⟩ := mv_zero (b := s.b) (f := 4) (t := 5) h5
  have hgm := good_mv (f := 4) (t := 5) (.inr (.inr (.inl ⟨rfl, rfl⟩))) m1 m2 m4
  have hB : (unbondR s.b (woN (s.V j) n)).1 = (s.b.put 4 (s.b.get 4 - woN (s.V j) n)).put 5 (s.b.get 5 + woN (s.V j) n) := by unfold unbondR; rw [m5]
  rw [← hB] at hgm
  have hbo : (unbondR s.b (woN (s.V j) n)).1.bo = s.b.bo - woN (s.V j) n := by rw [hB]; rfl
  have hwa : (unbondR s.b (woN (s.V j) n)).1.wa = s.b.wa + woN (s.V j) n := by rw [hB]; rfl
  have hbu : (unbondR s.b (woN (s.V j) n)).1.bu = s.b.bu := by rw [hB]; rfl
  generalize (unbondR s.b (woN (s.V j) n)).1 = B at *
  have hwo : woN (s.V j) n ≤ (s.V j).tok ∧ 0 ≤ woN (s.V j) n ∧ woN (s.V j) n ≤ 1125899906842624 := by rw [hwN]; omega
  have hsm : (s.V j).sh - n = 0 → woN (s.V j) n = (s.V j).tok := by
    intro h0
    rw [hwN]
    have c1 : ¬ (n < 0 ∨ (s.V j).tok < 0 ∨ (s.V j).sh < 1) := by omega
    have e : n = (s.V j).sh := by omega
    unfold mdN
    rw [if_neg c1, e, Int.mul_comm (s.V j).sh, Int.mul_ediv_cancel _ (by omega), if_pos (by omega)]
  -- the stake without the wait, as if the tokens had gone: all but the waits
  generalize woN (s.V j) n = wo at *
  obtain ⟨g1, g2, g3, g4, g5, g6, g7, g8, g9⟩ := hG
  refine ⟨?_, by show s.b.bu ≤ B.bu; omega, fun k hk hd => ?_, fun k hk => ?_, fun h => absurd rfl h⟩
  · rw [goodS_iff]
    have htk : ptok (setV s.V j { s.V j with tok := (s.V j).tok + -wo, sh := (s.V j).sh + -n }) 6 = B.bo := by rw [ptok_set _ _ _ hj, g7, hbo]; show s.b.bo + ((s.V j).tok + -wo) - (s.V j).tok = _; omega
    refine ⟨hgm.1, by show 1 ≤ s.next + 1; omega, by show s.next + 1 ≤ _; omega, ?_, ?_, fun k hk => ?_, htk, ?_, ?_⟩
    · show (s.W ++ [_]).length ≤ 60
      rw [List.length_append]
      simp only [List.length_cons, List.length_nil]
      omega
    · show wOk (s.next + 1) 0 (s.W ++ [_]) = true
      refine wOk_snoc (next := s.next) _ ?_ rfl (show (0 : Int) < s.next by omega) g5
      simp only [wOk1, Bool.and_eq_true, decide_eq_true_eq, isD_iff, isV_iff, inA_iff]
      omega
    · show vOk (setV s.V j _ k) = true ∧ pshOk (setSh s.S i j _) k 4 = true ∧ psh (setSh s.S i j _) k 4 = (setV s.V j _ k).sh
      refine ⟨?_, pshOk_set _ _ _ _ _ (g6 k hk).2.1 (inA_iff.2 ⟨by show 0 ≤ s.S i j + -n; omega, by show s.S i j + -n ≤ _; omega⟩), ?_⟩
      · unfold setV
        split
        · rw [vOk_iff]
          exact ⟨⟨by show 0 ≤ (s.V j).tok + -wo; omega, by show (s.V j).tok + -wo ≤ _; omega⟩, ⟨by show 0 ≤ (s.V j).sh + -n; omega, by show (s.V j).sh + -n ≤ _; omega⟩, hx.2.2.1, by show 0 < (s.V j).tok + -wo → (s.V j).sh + -n ≠ 0; omega, hx.2.2.2.2⟩
        · exact (g6 k hk).1
      · by_cases hkv : k = j
        · subst hkv
          rw [psh_set _ _ _ _ hi, hpe]
          simp only [setV, if_true]
          omega
        · rw [psh_other _ _ _ _ _ hkv, (g6 k hk).2.2]
          simp only [setV, if_neg hkv]
    · show amts (s.W ++ [_]) = B.wa
      rw [amts_append, g8, hwa]
      simp only [amts]
      omega
    · show plost (setV s.V j _) 6 = B.bu
      rw [plost_set _ _ _ hj, g9, hbu]
      simp only
      omega
  · show (setV s.V j _ k).dead = true
    unfold setV
    split
    · rename_i e; subst e; exact hd
    · exact hd
  · show (s.V k).lost ≤ (setV s.V j _ k).lost
    unfold setV
    split
    · rename_i e; subst e; exact Int.le_refl _
    · exact Int.le_refl _
theorem kp_slash {s : St} (hg : goodS s = true) {v : Nat} (hv : v < 6) (h : Int) {f : Int} (hf : 0 ≤ f ∧ f ≤ 1000) : Kp s (slashS s v h f, 0) := by
  obtain ⟨b0, b1, b2, b3, b4⟩ := slash_burn hg hv h hf
  obtain ⟨n1, n2, n3, n4, n5, n6, n7, n8, n9, n10, n11⟩ := slash_nums hg hv h hf
  refine ⟨slash_good hg hv h hf, by show s.b.bu ≤ (slashS s v h f).b.bu; omega, fun k hk hd => ?_, fun k hk => ?_, fun h => absurd rfl h⟩
  · show (setV s.V v _ k).dead = true
    unfold setV
    split
    · rename_i e; subst e; exact hd
    · exact hd
  · show (s.V k).lost ≤ (setV s.V v _ k).lost
    unfold setV
    split
    · rename_i e; subst e; show _ ≤ (s.V k).lost + _; omega
    · exact Int.le_refl _
theorem setJ_good {s : St} (hg : goodS s = true) {v : Nat} (hv : v < 6) {j d : Bool} (hjd : d = true → j = true) : goodS (setJ s v j d) = true := by
  rw [goodS_iff] at hg ⊢
  obtain ⟨h1, h2, h3, h4, h5, h6, h7, h8, h9⟩ := hg
  refine ⟨h1, h2, h3, h4, h5, fun k hk => ?_, ?_, h8, ?_⟩
  · obtain ⟨i1, i2, i3⟩ := h6 k hk
    show vOk (setV s.V v _ k) = true ∧ pshOk s.S k 4 = true ∧ psh s.S k 4 = (setV s.V v _ k).sh
    unfold setV
    by_cases hkv : k = v
    · subst hkv
      rw [if_pos rfl]
      rw [vOk_iff] at i1
      refine ⟨?_, i2, i3⟩
      rw [vOk_iff]
      exact ⟨i1.1, i1.2.1, i1.2.2.1, i1.2.2.2.1, hjd⟩
    · rw [if_neg hkv]
      exact ⟨i1, i2, i3⟩
  · show ptok (setV s.V v _) 6 = s.b.bo
    rw [ptok_set _ _ _ hv, h7]
    simp only
    omega
  · show plost (setV s.V v _) 6 = s.b.bu
    rw [plost_set _ _ _ hv, h9]
    simp only
    omega
theorem kp_setJ {s : St} (hg : goodS s = true) {v : Nat} (hv : v < 6) {j d : Bool} (hjd : d = true → j = true) (hd : (s.V v).dead = true → d = true) : Kp s (setJ s v j d, 0) := by
  refine ⟨setJ_good hg hv hjd, Int.le_refl _, fun k hk h => ?_, fun k hk => ?_, fun h => absurd rfl h⟩
  · show (setV s.V v _ k).dead = true
    unfold setV
    split
    · rename_i e; subst e; exact hd h
    · exact h
  · show (s.V k).lost ≤ (setV s.V v _ k).lost
    unfold setV
    split
    · rename_i e; subst e; exact Int.le_refl _
    · exact Int.le_refl _
theorem kp_jail {s : St} (hg : goodS s = true) (v : Int) : Kp s (jailS s v) := by
  unfold jailS
  repeat' split
  · exact Kp.same hg _
  · rename_i h _
    obtain ⟨-, h0, h1⟩ := refE_zero h
    exact kp_setJ hg (by omega) (fun _ => rfl) (fun h => h)
  · exact Kp.same hg _
theorem kp_unjail {s : St} (hg : goodS s = true) (v : Int) : Kp s (unjailS s v) := by
  unfold unjailS
  repeat' split
  · exact Kp.same hg _
  · rename_i h hd _
    obtain ⟨-, h0, h1⟩ := refE_zero h
    exact kp_setJ hg (by omega) (fun h => by cases h) (fun h => absurd h hd)
  · exact Kp.same hg _
  · exact Kp.same hg _
theorem kp_bury {s : St} (hg : goodS s = true) (v : Int) : Kp s (buryS s v) := by
  unfold buryS
  repeat' split
  · exact Kp.same hg _
  · rename_i h _
    obtain ⟨-, h0, h1⟩ := refE_zero h
    exact kp_setJ hg (by omega) (fun _ => rfl) (fun _ => rfl)
  · exact Kp.same hg _
theorem kp_pay {s : St} (hg : goodS s = true) (t : Int) : Kp s (payS s t, 0) := by
  obtain ⟨a1, a2, a3, a4⟩ := pay_all hg t
  exact ⟨pay_good hg t, by show s.b.bu ≤ (payS s t).b.bu; omega, fun k hk h => h, fun k hk => Int.le_refl _, fun h => absurd rfl h⟩
theorem relX_keeps (c : Nat) (h : Int) (x : Wt) : (relX c h x).num = x.num ∧ (relX c h x).d = x.d ∧ (relX c h x).v = x.v ∧ (relX c h x).hei = x.hei ∧ (relX c h x).due = x.due ∧ (relX c h x).amt = x.amt := by
  unfold relX
  repeat' split
  all_goals exact ⟨rfl, rfl, rfl, rfl, rfl, rfl⟩
theorem wOk_rel {next h : Int} {c : Nat} : ∀ {W : List Wt} {last : Int}, wOk next last W = true → wOk next last (relW c h W) = true
  | [], _, _ => rfl
  | x :: W, last, hw => by
    obtain ⟨k1, k2, k3, k4, k5, k6⟩ := relX_keeps c h x
    simp only [wOk, Bool.and_eq_true] at hw
    have ih := wOk_rel (c := c) (h := h) hw.2
    have h1 := hw.1
    simp only [relW, List.map_cons, wOk, wOk1, Bool.and_eq_true, decide_eq_true_eq, k1, k2, k3, k4, k5, k6] at h1 ⊢
    exact ⟨h1, ih⟩
theorem amts_rel (c : Nat) (h : Int) : ∀ W : List Wt, amts (relW c h W) = amts W
  | [] => rfl
  | x :: W => by
    show (relX c h x).amt + amts (relW c h W) = x.amt + amts W
    rw [amts_rel c h W, (relX_keeps c h x).2.2.2.2.2]
theorem kp_rel {s : St} (hg : goodS s = true) (c : Nat) (h : Int) : Kp s ({ s with W := relW c h s.W }, 0) := by
  refine ⟨?_, Int.le_refl _, fun _ _ h => h, fun _ _ => Int.le_refl _, fun h => absurd rfl h⟩
  rw [goodS_iff] at hg ⊢
  obtain ⟨h1, h2, h3, h4, h5, h6, h7, h8, h9⟩ := hg
  exact ⟨h1, h2, h3, by show (relW c h s.W).length ≤ 60; unfold relW; rw [List.length_map]; exact h4, wOk_rel h5, h6, h7, by show amts (relW c h s.W) = _; rw [amts_rel]; exact h8, h9⟩
end Go.Proofs.Ytjmhmmphbcohdaa
