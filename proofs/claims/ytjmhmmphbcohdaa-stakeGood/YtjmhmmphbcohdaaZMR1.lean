/- What it brings to go in and out: plain facts. -/
import Derived.Test.YtjmhmmphbcohdaaXsa
import Derived.Test.YtjmhmmphbcohdaaZSW4
import Derived.Test.YtjmhmmphbcohdaaXba
set_option maxRecDepth 100000
namespace Go.Proofs.Ytjmhmmphbcohdaa
theorem goodS_iff (s : St) : goodS s = true ↔ s.b.good = true ∧ 1 ≤ s.next ∧ s.next ≤ 1125899906842624 ∧ s.W.length ≤ 60 ∧ wOk s.next 0 s.W = true ∧ (∀ k, k < 6 → vOk (s.V k) = true ∧ pshOk s.S k 4 = true ∧ psh s.S k 4 = (s.V k).sh) ∧ ptok s.V 6 = s.b.bo ∧ amts s.W = s.b.wa ∧ plost s.V 6 = s.b.bu := by
  have hp : pvs s 6 = true ↔ ∀ k, k < 6 → vOk (s.V k) = true ∧ pshOk s.S k 4 = true ∧ psh s.S k 4 = (s.V k).sh := by
    constructor
    · intro h k hk
      have := pvs_at h hk
      simp only [vsOk, shOk, Bool.and_eq_true, decide_eq_true_eq] at this
      exact ⟨this.1, this.2.1, this.2.2⟩
    · intro h
      simp only [pvs, vsOk, shOk, Bool.and_eq_true, decide_eq_true_eq, true_and]
      exact ⟨⟨⟨⟨⟨h 0 (by omega), h 1 (by omega)⟩, h 2 (by omega)⟩, h 3 (by omega)⟩, h 4 (by omega)⟩, h 5 (by omega)⟩
  unfold goodS bal
  simp only [Bool.and_eq_true, decide_eq_true_eq, hp]
  constructor
  · rintro ⟨⟨⟨⟨⟨⟨h1, h2⟩, h3⟩, h4⟩, h5⟩, h6⟩, ⟨h7, h8⟩, h9⟩
    exact ⟨h1, h2, h3, h4, h5, h6, h7, h8, h9⟩
  · rintro ⟨h1, h2, h3, h4, h5, h6, h7, h8, h9⟩
    exact ⟨⟨⟨⟨⟨⟨h1, h2⟩, h3⟩, h4⟩, h5⟩, h6⟩, ⟨h7, h8⟩, h9⟩
theorem vOk_iff (x : Vd) : vOk x = true ↔ (0 ≤ x.tok ∧ x.tok ≤ 1125899906842624) ∧ (0 ≤ x.sh ∧ x.sh ≤ 1125899906842624) ∧ (0 ≤ x.lost ∧ x.lost ≤ 1125899906842624) ∧ (0 < x.tok → x.sh ≠ 0) ∧ (x.dead = true → x.jail = true) := by
  unfold vOk
  simp only [Bool.and_eq_true, inA_iff, Bool.not_eq_true', Bool.and_eq_false_iff, decide_eq_false_iff_not, Bool.or_eq_true]
  constructor
  · rintro ⟨⟨⟨⟨h1, h2⟩, h3⟩, h4⟩, h5⟩
    refine ⟨h1, h2, h3, fun h => h4.resolve_left (fun h' => h' h), fun h => ?_⟩
    rcases h5 with h5 | h5
    · exact h5
    · rw [h] at h5; cases h5
  · rintro ⟨h1, h2, h3, h4, h5⟩
    refine ⟨⟨⟨⟨h1, h2⟩, h3⟩, ?_⟩, ?_⟩
    · by_cases h : 0 < x.tok
      · exact .inr (h4 h)
      · exact .inl h
    · cases hd : x.dead
      · exact .inr rfl
      · exact .inl (h5 hd)
theorem six {v : Nat} (h : v < 6) : v = 0 ∨ v = 1 ∨ v = 2 ∨ v = 3 ∨ v = 4 ∨ v = 5 := by omega
theorem four {v : Nat} (h : v < 4) : v = 0 ∨ v = 1 ∨ v = 2 ∨ v = 3 := by omega
theorem ptok_set (V : Nat → Vd) (v : Nat) (x : Vd) (hv : v < 6) : ptok (setV V v x) 6 = ptok V 6 + x.tok - (V v).tok := by
  rcases six hv with rfl | rfl | rfl | rfl | rfl | rfl <;> simp [ptok, setV] <;> omega
theorem plost_set (V : Nat → Vd) (v : Nat) (x : Vd) (hv : v < 6) : plost (setV V v x) 6 = plost V 6 + x.lost - (V v).lost := by
  rcases six hv with rfl | rfl | rfl | rfl | rfl | rfl <;> simp [plost, setV] <;> omega
theorem psh_set (S : Nat → Nat → Int) (d v : Nat) (y : Int) (hd : d < 4) : psh (setSh S d v y) v 4 = psh S v 4 + y - S d v := by
  rcases four hd with rfl | rfl | rfl | rfl <;> simp [psh, setSh] <;> omega
theorem psh_other (S : Nat → Nat → Int) (d v k : Nat) (y : Int) (hk : k ≠ v) : psh (setSh S d v y) k 4 = psh S k 4 := by
  simp [psh, setSh, hk]
theorem pshOk_set (S : Nat → Nat → Int) (d v k : Nat) (y : Int) (h : pshOk S k 4 = true) (hy : inA y = true) : pshOk (setSh S d v y) k 4 = true := by
  simp only [pshOk, Bool.and_eq_true, true_and] at *
  obtain ⟨⟨⟨h0, h1⟩, h2⟩, h3⟩ := h
  refine ⟨⟨⟨?_, ?_⟩, ?_⟩, ?_⟩ <;> unfold setSh <;> split <;> assumption
theorem ptok_ge {V : Nat → Vd} (h : ∀ k, k < 6 → 0 ≤ (V k).tok) {v : Nat} (hv : v < 6) : (V v).tok ≤ ptok V 6 := by
  have h0 := h 0 (by omega); have h1 := h 1 (by omega); have h2 := h 2 (by omega); have h3 := h 3 (by omega); have h4 := h 4 (by omega); have h5 := h 5 (by omega)
  simp only [ptok]
  rcases six hv with rfl | rfl | rfl | rfl | rfl | rfl <;> omega
theorem psh_ge {S : Nat → Nat → Int} {k : Nat} (h : pshOk S k 4 = true) {d : Nat} (hd : d < 4) : S d k ≤ psh S k 4 := by
  have h0 := inA_iff.1 (psh_at h (d := 0) (by omega)); have h1 := inA_iff.1 (psh_at h (d := 1) (by omega)); have h2 := inA_iff.1 (psh_at h (d := 2) (by omega)); have h3 := inA_iff.1 (psh_at h (d := 3) (by omega))
  simp only [psh]
  rcases four hd with rfl | rfl | rfl | rfl <;> omega
theorem bond_zero {b : Bk} {d : Nat} {n : Int} (hd : d < 4) (h : (bondR b d n).2 = 0) : (bondR b d n).1.good = true ∧ (bondR b d n).1.bo = b.bo + n ∧ (bondR b d n).1.wa = b.wa ∧ (bondR b d n).1.bu = b.bu := by
  refine ⟨((kept_bond b d n).yes h).2.1, ?_⟩
  unfold bondR at *
  rw [if_pos (by omega)] at *
  obtain ⟨-, -, -, -, h5⟩ := mv_zero h
  rw [h5]
  rcases four hd with rfl | rfl | rfl | rfl <;> simp [Bk.put, Bk.get]
/-- a good stake to which tokens and shares are added stays good -/
theorem good_add {s : St} {B : Bk} {d v : Nat} {t n : Int} (hg : goodS s = true) (hd : d < 4) (hv : v < 6) (hB : B.good = true) (hbo : B.bo = s.b.bo + t) (hwa : B.wa = s.b.wa) (hbu : B.bu = s.b.bu)
    (ht : 0 ≤ (s.V v).tok + t) (hn0 : 0 ≤ s.S d v + n) (hn : (s.V v).sh + n ≤ 1125899906842624) (hpos : 0 < (s.V v).tok + t → (s.V v).sh + n ≠ 0) : goodS (addS { s with b := B } d v t n) = true := by
  rw [goodS_iff] at *
  obtain ⟨h1, h2, h3, h4, h5, h6, h7, h8, h9⟩ := hg
  obtain ⟨hvv, hps, hpe⟩ := h6 v hv
  rw [vOk_iff] at hvv
  have hB' := (good_iff B).1 hB
  have hpt : ptok (setV s.V v { s.V v with tok := (s.V v).tok + t, sh := (s.V v).sh + n }) 6 = B.bo := by rw [ptok_set _ _ _ hv, h7, hbo]; show s.b.bo + ((s.V v).tok + t) - (s.V v).tok = _; omega
  have htk : ∀ k, k < 6 → 0 ≤ (setV s.V v { s.V v with tok := (s.V v).tok + t, sh := (s.V v).sh + n } k).tok := fun k hk => by
    unfold setV
    split
    · exact ht
    · exact ((vOk_iff _).1 (h6 k hk).1).1.1
  have hge := ptok_ge htk hv
  rw [hpt] at hge
  simp only [setV, if_true] at hge
  have hsd := psh_ge hps hd
  rw [hpe] at hsd
  refine ⟨hB, h2, h3, h4, h5, fun k hk => ?_, hpt, h8.trans hwa.symm, ?_⟩
  · show vOk (setV s.V v _ k) = true ∧ pshOk (setSh s.S d v _) k 4 = true ∧ psh (setSh s.S d v _) k 4 = (setV s.V v _ k).sh
    refine ⟨?_, pshOk_set _ _ _ _ _ (h6 k hk).2.1 (inA_iff.2 ⟨hn0, by show s.S d v + n ≤ _; omega⟩), ?_⟩
    · unfold setV
      split
      · rw [vOk_iff]
        exact ⟨⟨ht, by show (s.V v).tok + t ≤ _; omega⟩, ⟨by show 0 ≤ (s.V v).sh + n; omega, hn⟩, hvv.2.2.1, hpos, hvv.2.2.2.2⟩
      · exact (h6 k hk).1
    · by_cases hkv : k = v
      · subst hkv
        rw [psh_set _ _ _ _ hd, hpe]
        simp only [setV, if_true]
        omega
      · rw [psh_other _ _ _ _ _ hkv, (h6 k hk).2.2]
        simp only [setV, if_neg hkv]
  · show plost (setV s.V v _) 6 = B.bu
    rw [plost_set _ _ _ hv, h9, hbu]
    simp only
    omega
/-- what a delegation that is granted does -/
theorem deleg_zero {s : St} {d v n : Int} (h : (delegS s d v n).2 = 0) : ∃ i j : Nat, d = i ∧ v = j ∧ i < 4 ∧ j < 6 ∧ goodS s = true ∧ (s.V j).dead = false ∧ 0 < n ∧ n ≤ 1125899906842624 ∧ shE (s.V j) n = 0 ∧ (bondR s.b i n).2 = 0 ∧ delegS s d v n = (addS { s with b := (bondR s.b i n).1 } i j n (shN (s.V j) n), 0) := by
  have hr : refOfE s d v = 0 := Decidable.byContradiction fun hr => by rw [deleg_ref hr] at h; exact hr h
  obtain ⟨hg, ⟨v0, v1⟩, d0, d1⟩ := ref_zero hr
  obtain ⟨j, rfl⟩ := Int.eq_ofNat_of_zero_le v0
  obtain ⟨i, rfl⟩ := Int.eq_ofNat_of_zero_le d0
  refine ⟨i, j, rfl, rfl, by omega, by omega, hg, ?_⟩
  have h1 : (s.V j).dead = false := by
    cases hd : (s.V j).dead with
    | false => rfl
    | true => rw [deleg_dead hr hd] at h; cases h
  have h2 : (decide (0 < n) && inA n) = true := by
    cases hd : (decide (0 < n) && inA n) with
    | true => rfl
    | false => rw [deleg_range hr h1 hd] at h; cases h
  have h3 : shE (s.V j) n = 0 := Decidable.byContradiction fun h3 => by rw [deleg_shE hr h1 h2 h3] at h; exact h3 h
  have h4 : (bondR s.b i n).2 = 0 := Decidable.byContradiction fun h4 => by rw [deleg_bond hr h1 h2 h3 h4] at h; exact h4 h
  have h2' := h2
  simp only [Bool.and_eq_true, decide_eq_true_eq, inA_iff] at h2'
  exact ⟨h1, h2'.1, h2'.2.2, h3, h4, deleg_ok hr h1 h2 h3 h4⟩
/-- shares that are brought are some, and not more than that many tokens are worth -/
theorem sh_zero {x : Vd} {n : Int} (hx : vOk x = true) (hn : 0 < n) (hn1 : n ≤ 1125899906842624) (h : shE x n = 0) : 0 < shN x n ∧ x.sh + shN x n ≤ 1125899906842624 ∧ shN x n * x.tok ≤ n * x.sh := by
  rw [vOk_iff] at hx
  obtain ⟨⟨t0, t1⟩, ⟨s0, s1⟩, -, hp, -⟩ := hx
  unfold shE at h
  unfold shN
  by_cases hs : x.sh = 0
  · have ht : x.tok = 0 := by
      rcases Int.lt_or_le 0 x.tok with h1 | h1
      · exact absurd hs (hp h1)
      · omega
    rw [if_pos hs, hs, ht]
    refine ⟨hn, by omega, ?_⟩
    simp
  · rw [if_neg hs] at h ⊢
    by_cases ht : x.tok = 0
    · rw [if_pos ht] at h; cases h
    · rw [if_neg ht] at h ⊢
      by_cases hm : mdE n x.sh x.tok = 0 ∧ inA (x.sh + mdN n x.sh x.tok) = true
      · rw [if_pos hm] at h ⊢
        have hm2 := inA_iff.1 hm.2
        have hb := mdN_bound n x.sh x.tok
        refine ⟨?_, hm2.2, ?_⟩
        · by_cases h0 : mdN n x.sh x.tok = 0
          · rw [if_pos h0] at h; cases h
          · omega
        · unfold mdN
          split
          · rw [Int.zero_mul]; exact Int.mul_nonneg (by omega) s0
          · split
            · exact Int.ediv_mul_le _ ht
            · rw [Int.zero_mul]; exact Int.mul_nonneg (by omega) s0
      · rw [if_neg hm] at h; cases h
/-- shares are worth no more than all tokens, and than their part -/
theorem wo_le {x : Vd} {g k : Int} (hx : vOk x = true) (hg : 0 < g) (hs : g ≤ x.sh) (hk : g * x.tok ≤ k * x.sh) : mdE g x.tok x.sh = 0 ∧ mdN g x.tok x.sh ≤ x.tok ∧ mdN g x.tok x.sh ≤ k := by
  rw [vOk_iff] at hx
  obtain ⟨⟨t0, t1⟩, ⟨s0, s1⟩, -, -, -⟩ := hx
  have q1 : g * x.tok / x.sh ≤ x.tok := by
    apply Int.ediv_le_of_le_mul (by omega)
    rw [Int.mul_comm x.tok]
    exact Int.mul_le_mul_of_nonneg_right hs t0
  have q2 : g * x.tok / x.sh ≤ k := Int.ediv_le_of_le_mul (by omega) hk
  have c1 : ¬ (g < 0 ∨ x.tok < 0 ∨ x.sh < 1) := by omega
  have c2 : g * x.tok / x.sh ≤ 1125899906842624 := by omega
  unfold mdE mdN
  simp only [if_neg c1, if_pos c2]
  exact ⟨trivial, q1, q2⟩
def wt0 : Wt := ⟨0, 0, 0, 0, 0, 0, 0, 0⟩
/-- in and out again -/
theorem round_facts {s : St} {d v n : Int} (h : (delegS s d v n).2 = 0) : ∃ (i j : Nat) (g : Int), d = i ∧ v = j ∧ i < 4 ∧ j < 6 ∧ 0 < g ∧ g ≤ 1125899906842624 ∧ (0 ≤ s.S i j ∧ s.S i j ≤ 1125899906842624) ∧ (delegS s d v n).1.S i j = s.S i j + g ∧ (delegS s d v n).1.W = s.W ∧
    ((undelS (delegS s d v n).1 d v g wt0).2 ≠ 0 → (undelS (delegS s d v n).1 d v g wt0).2 = 8 ∨ (undelS (delegS s d v n).1 d v g wt0).2 = 6) ∧
    ((undelS (delegS s d v n).1 d v g wt0).2 = 0 → s.W.length < 60 ∧ ∃ x : Wt, (undelS (delegS s d v n).1 d v g wt0).1.W = s.W ++ [x] ∧ x.amt ≤ n ∧ x.v = v ∧ x.d = d ∧ (s.V j).tok ≤ ((undelS (delegS s d v n).1 d v g wt0).1.V j).tok ∧ ((undelS (delegS s d v n).1 d v g wt0).1.V j).sh = (s.V j).sh) := by
  obtain ⟨i, j, rfl, rfl, hi, hj, hg, hdead, hn, hn1, hsh, hbo, hD⟩ := deleg_zero h
  rw [hD]
  obtain ⟨hB, hb1, hb2, hb3⟩ := bond_zero hi hbo
  have hv := good_vals hg j hj
  have hx := (vOk_iff _).1 hv.1
  obtain ⟨g0, g1, g2⟩ := sh_zero hv.1 hn hn1 hsh
  have hS := inA_iff.1 (psh_at hv.2 hi)
  have gA := good_add (t := n) (n := shN (s.V j) n) hg hi hj hB hb1 hb2 hb3 (by omega) (by omega) g1 (fun _ => by omega)
  generalize shN (s.V j) n = g at *
  generalize (bondR s.b i n).1 = B at *
  have eV : (addS { s with b := B } i j n g).V j = { s.V j with tok := (s.V j).tok + n, sh := (s.V j).sh + g } := by simp [addS, setV]
  have eS : (addS { s with b := B } i j n g).S i j = s.S i j + g := by simp [addS, setSh]
  have hr := ref_of_good gA hi hj
  have hvA := (good_vals gA j hj).1
  obtain ⟨w1, w2, w3⟩ := wo_le (k := n) hvA g0 (by rw [eV]; show g ≤ (s.V j).sh + g; omega) (by rw [eV]; show g * ((s.V j).tok + n) ≤ n * ((s.V j).sh + g); rw [Int.mul_add, Int.mul_add, Int.mul_comm n g]; omega)
  have hgA := (goodS_iff _).1 gA
  have hgt := ptok_ge (fun k hk => ((vOk_iff _).1 (hgA.2.2.2.2.2.1 k hk).1).1.1) hj
  rw [hgA.2.2.2.2.2.2.1] at hgt
  have hmb := mdN_bound g ((addS { s with b := B } i j n g).V j).tok ((addS { s with b := B } i j n g).V j).sh
  have hwN : woN ((addS { s with b := B } i j n g).V j) g = mdN g ((addS { s with b := B } i j n g).V j).tok ((addS { s with b := B } i j n g).V j).sh := by unfold woN; rw [if_pos w1]
  have hwE : woE ((addS { s with b := B } i j n g).V j) g = 0 ∨ woE ((addS { s with b := B } i j n g).V j) g = 8 := by unfold woE; rw [if_pos w1]; split <;> simp
  refine ⟨i, j, g, rfl, rfl, hi, hj, g0, by omega, hS, eS, rfl, ?_⟩
  have eSI : g ≤ (addS { s with b := B } i j n g).S (i : Int).toNat (j : Int).toNat := by simp only [Int.toNat_natCast]; rw [eS]; omega
  have h1 : (decide (0 < g) && inA g) = true ∧ 0 ≤ wt0.hei ∧ 0 ≤ wt0.due := ⟨by rw [Bool.and_eq_true, decide_eq_true_eq, inA_iff]; omega, Int.le_refl _, Int.le_refl _⟩
  by_cases h3 : (addS { s with b := B } i j n g).W.length < 60 ∧ (addS { s with b := B } i j n g).next < 1125899906842624
  · by_cases h4 : woE ((addS { s with b := B } i j n g).V j) g = 0
    · have h5 : unbondR (addS { s with b := B } i j n g).b (woN ((addS { s with b := B } i j n g).V j) g) = _ := mv_make (f := 4) (t := 5) hgA.1 (by rw [hwN]; omega) (by rw [hwN]; omega) (by rw [hwN]; exact Int.le_trans w2 hgt)
      have h6 : (unbondR (addS { s with b := B } i j n g).b (woN ((addS { s with b := B } i j n g).V j) g)).2 = 0 := by rw [h5]
      rw [undel_6 hr h1 eSI h3 h4 h6]
      refine ⟨fun h => absurd rfl h, fun _ => ⟨h3.1, _, rfl, ?_, rfl, rfl, ?_, ?_⟩⟩
      · show woN ((addS { s with b := B } i j n g).V j) g ≤ n
        rw [hwN]; exact w3
      · show (s.V j).tok ≤ (setV (addS { s with b := B } i j n g).V j _ j).tok
        simp only [setV, if_true]
        show (s.V j).tok ≤ ((addS { s with b := B } i j n g).V j).tok + -woN ((addS { s with b := B } i j n g).V j) g
        rw [hwN]
        rw [eV] at w3 ⊢
        show (s.V j).tok ≤ (s.V j).tok + n + -_
        omega
      · show (setV (addS { s with b := B } i j n g).V j _ j).sh = (s.V j).sh
        simp only [setV, if_true]
        show ((addS { s with b := B } i j n g).V j).sh + -g = (s.V j).sh
        rw [eV]
        show (s.V j).sh + g + -g = _
        omega
    · rw [undel_4 hr h1 eSI h3 h4]
      exact ⟨fun _ => .inl (hwE.resolve_left h4), fun h => absurd h h4⟩
  · rw [undel_3 hr h1 eSI h3]
    exact ⟨fun _ => .inr rfl, fun h => by cases h⟩
end Go.Proofs.Ytjmhmmphbcohdaa
