/- What the set of a stake is: who is in it, in which order, and who is left out. StakeSet: the law's walk. -/
import Derived.Test.YtookecjeknpheadXsd
import Derived.Test.YtookecjeknpheadXtc
set_option maxRecDepth 100000
namespace Go.Proofs.Ytookecjeknphead
theorem swap_perm : ∀ (l : List Pw) (p : Nat), p + 1 < l.length → (swapAt l p).Perm l
  | [], _, h => by simp at h
  | [_], _, h => by simp at h
  | a :: b :: t, 0, _ => by
    have e : swapAt (a :: b :: t) 0 = b :: a :: t := by simp [swapAt]
    rw [e]
    exact List.Perm.swap a b t
  | a :: b :: t, p + 1, h => by
    have e : swapAt (a :: b :: t) (p + 1) = a :: swapAt (b :: t) p := by simp [swapAt]
    rw [e]
    exact (swap_perm (b :: t) p (by simp at h ⊢; omega)).cons a
theorem swap_getD (l : List Pw) (p : Nat) (h : p + 1 < l.length) (i : Nat) : (swapAt l p).getD i pz = if i = p then l.getD (p + 1) pz else if i = p + 1 then l.getD p pz else l.getD i pz := by
  unfold swapAt
  simp only [List.getD_eq_getElem?_getD, List.getElem?_set, List.length_set]
  by_cases h1 : i = p
  · subst h1; simp [show i < l.length by omega]
  · by_cases h2 : i = p + 1
    · subst h2; simp [h]
    · rw [if_neg (by omega), if_neg (by omega), if_neg h1, if_neg h2]
/-- no element of the first is less than one ahead of it -/
def Srt (lt : Pw → Pw → Bool) (l : List Pw) (m : Nat) : Prop := ∀ i j, i < j → j < m → lt (l.getD j pz) (l.getD i pz) = false
structure Ord (lt : Pw → Pw → Bool) : Prop where
  asym : ∀ a b, lt a b = true → lt b a = false
  trans : ∀ a b c, lt b a = false → lt c b = false → lt c a = false
theorem ins_srt {lt : Pw → Pw → Bool} (o : Ord lt) : ∀ (p : Nat) (l : List Pw) (m : Nat), p < m → m ≤ l.length → (∀ i j, i < j → j < m → j ≠ p → lt (l.getD j pz) (l.getD i pz) = false) → Srt lt (insG lt p l) m
  | 0, l, m, _, _, h => fun i j hij hj => h i j hij hj (by omega)
  | p + 1, l, m, hp, hm, h => by
    rw [insG]
    split
    · rename_i hlt
      refine ins_srt o p _ m (by omega) (by rw [swap_length]; exact hm) fun i j hij hj hjp => ?_
      have hs := swap_getD l p (by omega)
      rw [hs j, hs i]
      by_cases h1 : j = p + 1
      · subst h1
        rw [if_neg (by omega), if_pos rfl]
        by_cases h2 : i = p
        · subst h2; rw [if_pos rfl]; exact o.asym _ _ hlt
        · rw [if_neg h2, if_neg (by omega)]; exact h i p (by omega) (by omega) (by omega)
      · rw [if_neg hjp, if_neg h1]
        by_cases h2 : i = p
        · subst h2; rw [if_pos rfl]; exact h _ j (by omega) hj h1
        · rw [if_neg h2]
          by_cases h3 : i = p + 1
          · subst h3; rw [if_pos rfl]; exact h p j (by omega) hj h1
          · rw [if_neg h3]; exact h i j hij hj h1
    · rename_i hlt
      have hlt' : lt (l.getD (p + 1) pz) (l.getD p pz) = false := by simpa using hlt
      intro i j hij hj
      by_cases h1 : j = p + 1
      · subst h1
        by_cases h2 : i = p
        · subst h2; exact hlt'
        · exact o.trans _ _ _ (h i p (by omega) (by omega) (by omega)) hlt'
      · exact h i j hij hj h1
theorem ins_perm (lt : Pw → Pw → Bool) : ∀ (p : Nat) (l : List Pw), p < l.length → (insG lt p l).Perm l
  | 0, _, _ => List.Perm.refl _
  | p + 1, l, h => by
    rw [insG]
    split
    · exact (ins_perm lt p _ (by rw [swap_length]; omega)).trans (swap_perm l p h)
    · exact List.Perm.refl _
theorem sortTo_srt {lt : Pw → Pw → Bool} (o : Ord lt) (l : List Pw) : ∀ k, k < l.length → Srt lt (sortTo lt l k) (k + 1)
  | 0, _ => fun i j hij hj => by omega
  | k + 1, h => by
    rw [sortTo]
    exact ins_srt o (k + 1) _ (k + 2) (by omega) (by rw [sortTo_length]; omega) fun i j hij hj hk => sortTo_srt o l k (by omega) i j hij (by omega)
theorem sortTo_perm (lt : Pw → Pw → Bool) (l : List Pw) : ∀ k, k < l.length → (sortTo lt l k).Perm l
  | 0, _ => List.Perm.refl _
  | k + 1, h => by
    rw [sortTo]
    exact (ins_perm lt (k + 1) _ (by rw [sortTo_length]; exact h)).trans (sortTo_perm lt l k (by omega))
theorem isort_perm (lt : Pw → Pw → Bool) (l : List Pw) : (isort lt l).Perm l := by
  unfold isort
  rcases Nat.eq_zero_or_pos l.length with h | h
  · rw [h]; exact List.Perm.refl _
  · exact sortTo_perm lt l _ (by omega)
theorem isort_srt {lt : Pw → Pw → Bool} (o : Ord lt) (l : List Pw) : Srt lt (isort lt l) l.length := by
  unfold isort
  rcases Nat.eq_zero_or_pos l.length with h | h
  · intro i j hij hj; omega
  · have := sortTo_srt o l (l.length - 1) (by omega)
    rwa [show l.length - 1 + 1 = l.length by omega] at this
theorem ltV_iff (a b : Pw) : ltV a b = true ↔ a.1 < b.1 := by
  unfold ltV cmpV cmpI
  rw [decide_eq_true_eq]
  split
  · simp_all
  · split <;> simp_all <;> omega
theorem ltP_iff (a b : Pw) : ltP a b = true ↔ b.2 < a.2 ∨ (a.2 = b.2 ∧ a.1 < b.1) := by
  unfold ltP cmpP cmpV cmpI
  rw [decide_eq_true_eq]
  repeat' split
  all_goals (constructor <;> intro h <;> first | omega | (exfalso; omega) | exact absurd h (by decide))
theorem ltV_no (a b : Pw) : ltV a b = false ↔ ¬ a.1 < b.1 := by rw [← ltV_iff, Bool.not_eq_true]
theorem ltP_no (a b : Pw) : ltP a b = false ↔ ¬ (b.2 < a.2 ∨ (a.2 = b.2 ∧ a.1 < b.1)) := by rw [← ltP_iff, Bool.not_eq_true]
theorem ordV : Ord ltV := ⟨fun a b h => by rw [ltV_no]; rw [ltV_iff] at h; omega, fun a b c h1 h2 => by rw [ltV_no] at *; omega⟩
theorem ordP : Ord ltP := ⟨fun a b h => by rw [ltP_no]; rw [ltP_iff] at h; omega, fun a b c h1 h2 => by rw [ltP_no] at *; omega⟩
theorem mem_cand (V : Nat → Vd) (x : Pw) : ∀ k, x ∈ cand V k ↔ ∃ i : Nat, i < k ∧ x = ((i : Int), pwr (V i)) ∧ 0 < pwr (V i) ∧ (V i).jail = false
  | 0 => by simp [cand]
  | k + 1 => by
    rw [cand]
    have ih := mem_cand V x k
    split
    · rename_i h
      simp only [Bool.and_eq_true, decide_eq_true_eq, Bool.not_eq_true'] at h
      rw [List.mem_append, ih, List.mem_singleton]
      constructor
      · rintro (⟨i, hi, h1⟩ | rfl)
        · exact ⟨i, by omega, h1⟩
        · exact ⟨k, by omega, rfl, h.1, h.2⟩
      · rintro ⟨i, hi, h1⟩
        rcases Nat.lt_or_ge i k with h2 | h2
        · exact .inl ⟨i, h2, h1⟩
        · obtain rfl : i = k := by omega
          exact .inr h1.1
    · rename_i h
      simp only [Bool.and_eq_true, decide_eq_true_eq, Bool.not_eq_true'] at h
      rw [ih]
      constructor
      · rintro ⟨i, hi, h1⟩
        exact ⟨i, by omega, h1⟩
      · rintro ⟨i, hi, h1⟩
        rcases Nat.lt_or_ge i k with h2 | h2
        · exact ⟨i, h2, h1⟩
        · obtain rfl : i = k := by omega
          exact absurd h1.2 h
theorem cand_nodup (V : Nat → Vd) : ∀ k, (cand V k).Pairwise (fun a b => a.1 ≠ b.1)
  | 0 => List.Pairwise.nil
  | k + 1 => by
    rw [cand]
    split
    · rw [List.pairwise_append]
      refine ⟨cand_nodup V k, List.pairwise_singleton _ _, fun a ha b hb => ?_⟩
      rw [mem_cand] at ha
      obtain ⟨i, hi, rfl, _⟩ := ha
      rw [List.mem_singleton] at hb
      subst hb
      show (i : Int) ≠ (k : Int)
      omega
    · exact cand_nodup V k
theorem set_mem (V : Nat → Vd) (x : Pw) : x ∈ setS V ↔ x ∈ (isort ltP (cand V 6)).take 4 := (isort_perm _ _).mem_iff
theorem set_in (V : Nat → Vd) (x : Pw) (h : x ∈ setS V) : ∃ i : Nat, i < 6 ∧ x = ((i : Int), pwr (V i)) ∧ 0 < pwr (V i) ∧ (V i).jail = false := by
  rw [set_mem] at h
  exact (mem_cand V x 6).1 ((isort_perm _ _).mem_iff.1 (List.mem_of_mem_take h))
theorem set_length (V : Nat → Vd) : (setS V).length = min 4 (cand V 6).length := by
  unfold setS
  rw [isort_length, List.length_take, isort_length]
theorem set_rises (V : Nat → Vd) (i j : Nat) (hij : i < j) (hj : j < (setS V).length) : ((setS V).getD i pz).1 < ((setS V).getD j pz).1 := by
  have h1 : ((setS V).getD j pz).1 ≥ ((setS V).getD i pz).1 := by
    have := isort_srt ordV ((isort ltP (cand V 6)).take 4) i j hij (by unfold setS at hj; rw [isort_length] at hj; exact hj)
    rw [ltV_no] at this
    unfold setS
    omega
  have hn : (setS V).Pairwise (fun a b => a.1 ≠ b.1) := by
    have h2 : (isort ltP (cand V 6)).Pairwise (fun a b => a.1 ≠ b.1) := (isort_perm _ _).symm.pairwise (cand_nodup V 6) (fun h => Ne.symm h)
    exact (isort_perm _ _).symm.pairwise (h2.sublist (List.take_sublist _ _)) (fun h => Ne.symm h)
  have h3 := List.pairwise_iff_getElem.1 hn i j (by omega) hj hij
  have e1 : (setS V).getD i pz = (setS V)[i]'(by omega) := by simp [List.getD, show i < (setS V).length by omega]
  have e2 : (setS V).getD j pz = (setS V)[j] := by simp [List.getD, hj]
  rw [e1, e2] at h1 ⊢
  omega
theorem set_out (V : Nat → Vd) (v : Nat) (hv : v < 6) (hp : 0 < pwr (V v)) (hj : (V v).jail = false) (hno : ∀ x ∈ setS V, x.1 ≠ (v : Int)) : (setS V).length = 4 ∧ ∀ x ∈ setS V, pwr (V v) ≤ x.2 := by
  have hm : ((v : Int), pwr (V v)) ∈ isort ltP (cand V 6) := (isort_perm _ _).mem_iff.2 ((mem_cand V _ 6).2 ⟨v, hv, rfl, hp, hj⟩)
  obtain ⟨j, hjl, hje⟩ := List.getElem_of_mem hm
  have hj4 : 4 ≤ j := by
    rcases Nat.lt_or_ge j 4 with h | h
    · exfalso
      refine hno ((v : Int), pwr (V v)) ?_ rfl
      rw [set_mem, ← hje]
      exact List.mem_take_iff_getElem.2 ⟨j, by omega, rfl⟩
    · exact h
  rw [isort_length] at hjl
  refine ⟨by rw [set_length]; omega, fun x hx => ?_⟩
  rw [set_mem] at hx
  obtain ⟨i, hi, rfl⟩ := List.mem_take_iff_getElem.1 hx
  have := isort_srt ordP (cand V 6) i j (by omega) hjl
  rw [ltP_no] at this
  have e1 : (isort ltP (cand V 6)).getD i pz = (isort ltP (cand V 6))[i]'(by omega) := by simp [List.getD, show i < (isort ltP (cand V 6)).length by omega]
  have e2 : (isort ltP (cand V 6)).getD j pz = (isort ltP (cand V 6))[j]'(by rw [isort_length]; exact hjl) := by simp [List.getD, show j < (isort ltP (cand V 6)).length by rw [isort_length]; exact hjl]
  rw [e1, e2, hje] at this
  omega
/-- the least power of the first -/
def lmin (l : List Pw) : Nat → Int
  | 0 => 0
  | k + 1 => if k = 0 ∨ (l.getD k pz).2 < lmin l k then (l.getD k pz).2 else lmin l k
theorem lmin_is (l : List Pw) : ∀ k, 0 < k → ∃ i, i < k ∧ lmin l k = (l.getD i pz).2
  | 0, h => by omega
  | k + 1, _ => by
    rw [lmin]
    split
    · exact ⟨k, by omega, rfl⟩
    · rename_i h
      obtain ⟨i, hi, e⟩ := lmin_is l k (by omega)
      exact ⟨i, by omega, e⟩
end Go.Proofs.Ytookecjeknphead
namespace Go.Proofs.Ytookecjeknphead
open Go.RowKit
theorem PRow.row {w : World} {B : Nat} {v : Value} {l : List Pw} (h : PRow w B v l) : ∃ po g cap, v = .slice po l.length cap ∧ (0 < l.length → po = some ⟨g, 0, none⟩ ∧ RowAt w g l ∧ l.length ≤ cap ∧ B ≤ g) := by
  rcases h with ⟨rfl, rfl⟩ | ⟨g, cap, rfl, hg, hrow, hc, _⟩
  · exact ⟨none, 0, 0, rfl, fun h => absurd h (by simp)⟩
  · exact ⟨_, g, cap, rfl, fun _ => ⟨rfl, hrow, hc, hg⟩⟩
theorem getD_mem {l : List Pw} {k : Nat} (h : k < l.length) : l.getD k pz ∈ l := by
  rw [show l.getD k pz = l[k] by simp [List.getD, h]]
  exact List.getElem_mem h
/-- is one of the first such a validator's? -/
def inS (l : List Pw) (v : Int) : Nat → Bool
  | 0 => false
  | k + 1 => inS l v k || decide ((l.getD k pz).1 = v)
theorem inS_no {l : List Pw} {v : Int} : ∀ k, inS l v k = false → ∀ i, i < k → (l.getD i pz).1 ≠ v
  | 0, _, i, hi => by omega
  | k + 1, h, i, hi => by
    simp only [inS, Bool.or_eq_false_iff, decide_eq_false_iff_not] at h
    rcases Nat.lt_or_ge i k with h1 | h1
    · exact inS_no k h.1 i h1
    · obtain rfl : i = k := by omega
      exact h.2
theorem left_out (V : Nat → Vd) (v : Nat) (hv : v < 6) (hno : inS (setS V) v (setS V).length = false) (hj : (V v).jail = false) (hp : 0 < pwr (V v)) : (setS V).length = 4 ∧ pwr (V v) ≤ lmin (setS V) (setS V).length := by
  have h := set_out V v hv hp hj (fun x hx => by
    obtain ⟨i, hi, rfl⟩ := List.getElem_of_mem hx
    have := inS_no _ hno i hi
    rwa [show (setS V).getD i pz = (setS V)[i] by simp [List.getD, hi]] at this)
  refine ⟨h.1, ?_⟩
  obtain ⟨i, hi, e⟩ := lmin_is (setS V) (setS V).length (by omega)
  rw [e]
  exact h.2 _ (getD_mem hi)
set_option maxHeartbeats 8000000 in
theorem kset_walk (s : St) (ao : Option Addr) (sb so c : Nat) (w : World) (hW : WsAt w ao sb so s.W) :
    Calls Try.prog 7 #[.agg (stC s (.slice ao s.W.length c))] w fun e w' => e = .returned (.bool true) ∧ Below w.heap.size w w' := by
  have S0 := SAt.new w (stC s (.slice ao s.W.length c))
  have HB0 : Hid (Below w.heap.size w (w.alloc (.cells (stC s (.slice ao s.W.length c)) 32))) := (Below.refl _ w).alloc (Nat.le_refl _) _
  have HW := hide hW
  have hG := fun w h => sgood_any s ao sb so c w h
  clear hW
  go_enter Try.func7, Try.ntmps7
  go_upto_region 1 with fail
  generalize w.alloc (.cells (stC s (.slice ao s.W.length c)) 32) = w0 at *
  apply wp_region_lit
  refine wpList_load_mid rfl 32 _ rfl _ 0 rfl _ _ S0.range Try.underlying32 rfl (by rw [infoS]; rfl) ?_
  rcases Bool.eq_false_or_eq_true (goodS s) with hg | hg
  case inr =>
    rw [hg] at hG
    go_wp2_with (first
      | (go_at_call 20; refine (hG _ (by exact HW.out.over HB0.out)).mono ?_; rintro e w1 ⟨rfl, h1⟩; have HB1 := hide (HB0.out.trans (h1.mono HB0.out.size)))
      | (go_at_call 16; refine (stakes_any _).mono ?_; rintro e w2 ⟨rfl, h2⟩))
    go_ret
    exact ⟨rfl, HB1.out.trans (h2.mono HB1.out.size)⟩
  have hV : ∀ k, k < 6 → inA (s.V k).tok = true := fun k hk => (vOk_amounts (good_vals hg k hk).1).1
  have hSet := fun w => sset_any s (.slice ao s.W.length c) w hV
  have hL := fun j hj => set_in s.V ((setS s.V).getD j pz) (getD_mem (k := j) hj)
  have hRise := set_rises s.V
  have hOut := left_out s.V
  have h4 : (setS s.V).length ≤ 4 := by rw [set_length]; omega
  rw [hg] at hG
  go_upto_region 3 with (first
      | (go_at_call 20; refine (hG _ (by exact HW.out.over HB0.out)).mono ?_; rintro e w1 ⟨rfl, h1⟩; have HB1 := hide (HB0.out.trans (h1.mono HB0.out.size)); have S1 := S0.later h1 S0.lt)
      | (go_at_call 16; refine (stakes_any _).mono ?_; rintro e w2 ⟨rfl, h2⟩))
  have HB2 := hide (HB1.out.trans (h2.mono HB1.out.size))
  have S2 := S1.later h2 S1.lt
  clear S0 S1 HB0 HB1 h1 h2 hG
  apply wp_region_lit
  refine wpList_load_mid rfl 32 _ rfl _ 0 rfl _ _ S2.range Try.underlying32 rfl (by rw [infoS]; rfl) ?_
  go_upto_region 5 with (go_at_call 21; refine (hSet _).mono ?_; rintro e w3 ⟨v, rfl, hrow0, h3⟩)
  obtain ⟨po, g, cap, rfl, hrow⟩ := hrow0.row
  have HB3 := hide (HB2.out.trans (h3.mono HB2.out.size))
  have S3 := S2.later h3 S2.lt
  clear S2 HB2 h3 hSet hrow0
  generalize hLL : setS s.V = L at *
  clear hLL
  have hz3 : w.heap.size < w3.heap.size := S3.lt
  have hn4 : (L.length : Int) ≤ 4 := by omega
  go_wp2_with fail
  go_loopw [4, 25] (fun l i wl => ∃ k : Nat, k ≤ L.length ∧ i = .int .i64 (k : Int) ∧ l = .int .i64 (lmin L k) ∧ Hid (Below w3.heap.size w3 wl)) (fun _ i _ => ((L.length : Int) - intOf i).toNat)
  case atStart => exact ⟨0, by omega, rfl, rfl, Below.refl _ _⟩
  case round =>
    obtain ⟨k, hk, rfl, rfl, HO⟩ := hrel
    rename World => w4
    have hsz4 : w3.heap.size ≤ w4.heap.size := HO.out.size
    by_cases hkl : k < L.length
    · obtain ⟨hpo, hr, hcap, hgg⟩ := hrow (by omega)
      subst hpo
      have hr4 := hr.later HO.out
      obtain ⟨c0, c1⟩ := hr4.cell hkl
      obtain ⟨j, hj, ej, hp, hjl⟩ := hL k hkl
      have hpr : 0 < k → ∃ i : Nat, w4.cell? ⟨g, (k - 1) * 2, none⟩ = some (.int .i64 (i : Int)) ∧ i < j := fun h => by
        obtain ⟨x0, _⟩ := hr4.cell (i := k - 1) (by omega)
        obtain ⟨i, hi, ei, _⟩ := hL (k - 1) (by omega)
        have := hRise (k - 1) k (by omega) hkl
        rw [ei] at x0 this
        rw [ej] at this
        exact ⟨i, x0, by simpa using this⟩
      have HLm : Hid (lmin L (k + 1) = if k = 0 ∨ (L.getD k pz).2 < lmin L k then (L.getD k pz).2 else lmin L k) := rfl
      rw [ej] at c0 c1 HLm
      have S4 := S3.later HO.out hz3
      obtain ⟨d0, d1, d2, d3, d4⟩ := S4.val j hj
      have hjj : (j : Int) < 6 := by omega
      have hkk : (k : Int) < (L.length : Int) := by omega
      have hgl : g < w4.heap.size := by obtain ⟨cur, hc, _⟩ := hr4; exact (Array.getElem?_eq_some_iff.1 hc).1
      have hta := inA_iff.1 (hV j hj)
      have hpw : pwr (s.V j) = (s.V j).tok / 100 := rfl
      rw [hpw] at c1 hp
      rw [hpw] at HLm
      rw [hjl] at d3
      have hwl : w.heap.size < w4.heap.size := by omega
      simp only at c0 c1 HLm
      clear S3 hr hr4 S4 hpw ej hL hRise hOut hV
      have HLt := hide h4
      generalize (s.V j).tok = xt at *
      generalize (s.V j).sh = xs at *
      generalize (s.V j).lost = xl at *
      generalize (s.V j).dead = xd at *
      generalize lmin L k = lm at *
      go_upto_region 9 with fail
      have hb5 := hide (((Below.refl w4.heap.size w4).alloc (Nat.le_refl _) (.cells #[.int .i64 (j : Int), .int .i64 (xt / 100)] 56)).alloc (by simp) (.cells #[.int .i64 xt, .int .i64 xs, .int .i64 xl, .bool false, .bool xd] 26))
      have e0 : ((w4.alloc (.cells #[.int .i64 (j : Int), .int .i64 (xt / 100)] 56)).alloc (.cells #[.int .i64 xt, .int .i64 xs, .int .i64 xl, .bool false, .bool xd] 26)).heap[w4.heap.size]? = some (.cells #[.int .i64 (j : Int), .int .i64 (xt / 100)] 56) := ((Below.refl (w4.heap.size + 1) (w4.alloc (.cells #[.int .i64 (j : Int), .int .i64 (xt / 100)] 56))).alloc (by simp) _).block _ (by omega) |>.trans (heap_alloc_new _ _)
      have e1 : ((w4.alloc (.cells #[.int .i64 (j : Int), .int .i64 (xt / 100)] 56)).alloc (.cells #[.int .i64 xt, .int .i64 xs, .int .i64 xl, .bool false, .bool xd] 26)).heap[w4.heap.size + 1]? = some (.cells #[.int .i64 xt, .int .i64 xs, .int .i64 xl, .bool false, .bool xd] 26) := by
        have := heap_alloc_new (w4.alloc (.cells #[.int .i64 (j : Int), .int .i64 (xt / 100)] 56)) (.cells #[.int .i64 xt, .int .i64 xs, .int .i64 xl, .bool false, .bool xd] 26)
        rwa [show (w4.alloc (.cells #[.int .i64 (j : Int), .int .i64 (xt / 100)] 56)).heap.size = w4.heap.size + 1 by simp] at this
      generalize (w4.alloc (.cells #[.int .i64 (j : Int), .int .i64 (xt / 100)] 56)).alloc (.cells #[.int .i64 xt, .int .i64 xs, .int .i64 xl, .bool false, .bool xd] 26) = w5 at *
      have q0 : w5.cell? ⟨w4.heap.size, 0, none⟩ = some (.int .i64 (j : Int)) := by simp [World.cell?, e0]
      have q1 : w5.cell? ⟨w4.heap.size, 1, none⟩ = some (.int .i64 (xt / 100)) := by simp [World.cell?, e0]
      have q2 : w5.cell? ⟨w4.heap.size + 1, 0, none⟩ = some (.int .i64 xt) := by simp [World.cell?, e1]
      have q3 : w5.cell? ⟨w4.heap.size + 1, 3, none⟩ = some (.bool false) := by simp [World.cell?, e1]
      have hz5 : w4.heap.size + 1 < w5.heap.size := (Array.getElem?_eq_some_iff.1 e1).1
      clear e0 e1 c0 c1 d0 d1 d2 d3 d4
      have HBr := hide (HO.out.trans (hb5.out.mono hsz4))
      have hwq : IntKind.i64.wrap (xt.tdiv 100) = xt / 100 := by rw [Int.tdiv_eq_ediv_of_nonneg hta.1]; exact wrapI (by omega) (by omega)
      generalize xt / 100 = q at *
      have hq1 : ¬ q < 1 := by omega
      rcases Nat.eq_zero_or_pos k with rfl | hk0
      · clear hpr
        go_region
        go_wp2
        go_roundw
        case rel => exact ⟨1, by omega, rfl, by rw [HLm.out, if_pos (.inl rfl)], HBr.out.drew⟩
        case measure => simp [intOf]; omega
      · obtain ⟨i, ci, hi⟩ := hpr hk0
        obtain ⟨m, rfl⟩ : ∃ m, k = m + 1 := ⟨k - 1, by omega⟩
        have ci5 := (hb5.out.cell (p := ⟨g, (m + 1 - 1) * 2, none⟩) hgl).trans ci
        rw [Nat.add_sub_cancel] at ci5
        have hi' : (i : Int) < (j : Int) := by omega
        have hm0 : (0 : Int) ≤ (m : Int) := by omega
        have hml : (m : Int) < (L.length : Int) := by omega
        clear ci
        go_region
        go_wp2
        all_goals go_roundw
        all_goals first
          | exact ⟨m + 2, by omega, by go_num, by rw [HLm.out]; first | rw [if_pos (.inr (by omega))] | rw [if_neg (by omega)], HBr.out.drew⟩
          | (simp [intOf]; omega)
          | (rename_i hdd; have hql : q < lm := hdd.elim (fun h => absurd (beq_iff_eq.1 h) (by omega)) id; exact ⟨m + 2, by omega, by go_num, by rw [HLm.out, if_pos (.inr hql)], HBr.out.drew⟩)
    · obtain rfl : k = L.length := by omega
      have S4 := S3.later HO.out hz3
      have HB4 := hide (HB3.out.trans (HO.out.mono (by omega)))
      have hrow4 : 0 < L.length → po = some ⟨g, 0, none⟩ ∧ RowAt w4 g L ∧ g < w4.heap.size := fun h => by
        obtain ⟨h1, h2, _, _⟩ := hrow h
        have h3 := h2.later HO.out
        exact ⟨h1, h3, by obtain ⟨cur, hc, _⟩ := h3; exact (Array.getElem?_eq_some_iff.1 hc).1⟩
      have hwl : w.heap.size < w4.heap.size := by omega
      clear S3 HB3 hrow hL hRise
      generalize lmin L L.length = lm at *
      go_upto_region 14 with fail
      apply wp_region_lit
      iterate 3 go_step
      refine wpList_load_mid rfl 27 _ rfl _ 7 rfl _ _ (st_vals S4) Try.underlying27 rfl (by rw [infoVs]; rfl) ?_
      go_wp2_with fail
      go_loopw [78] (fun i wl => ∃ v : Nat, v ≤ 6 ∧ i = .int .i64 (v : Int) ∧ Hid (Below w4.heap.size w4 wl)) (fun i _ => (6 - intOf i).toNat)
      case atStart => exact ⟨0, by omega, rfl, Below.refl _ _⟩
      case round =>
        obtain ⟨v, hv, rfl, HO2⟩ := hrel
        rename World => w5
        have hsz5 : w4.heap.size ≤ w5.heap.size := HO2.out.size
        by_cases hv6 : v < 6
        · have hix := fun w => ixV w s.V v hv6
          have hvv : (v : Int) < 6 := by omega
          clear S4
          go_upto_region 18 with fail
          have V6 : VAt (w5.alloc (.cells #[.int .i64 (s.V v).tok, .int .i64 (s.V v).sh, .int .i64 (s.V v).lost, .bool (s.V v).jail, .bool (s.V v).dead] 26)) w5.heap.size (s.V v) := heap_alloc_new _ _
          have HB6 := hide (HO2.out.alloc hsz5 (.cells #[.int .i64 (s.V v).tok, .int .i64 (s.V v).sh, .int .i64 (s.V v).lost, .bool (s.V v).jail, .bool (s.V v).dead] 26))
          generalize w5.alloc (.cells #[.int .i64 (s.V v).tok, .int .i64 (s.V v).sh, .int .i64 (s.V v).lost, .bool (s.V v).jail, .bool (s.V v).dead] 26) = w6 at *
          have hz6 : w5.heap.size < w6.heap.size := V6.lt
          clear hix
          go_wp2_with fail
          go_loopw [10, 84] (fun t i wl => ∃ j : Nat, j ≤ L.length ∧ i = .int .i64 (j : Int) ∧ t = .bool (inS L v j) ∧ Hid (Below w6.heap.size w6 wl)) (fun _ i _ => ((L.length : Int) - intOf i).toNat)
          case atStart => exact ⟨0, by omega, rfl, rfl, Below.refl _ _⟩
          case round =>
            obtain ⟨j, hj, rfl, rfl, HO3⟩ := hrel
            rename World => w7
            have hsz7 : w6.heap.size ≤ w7.heap.size := HO3.out.size
            by_cases hjl : j < L.length
            · obtain ⟨hpo, hr, hgl⟩ := hrow4 (by omega)
              subst hpo
              have hr7 := (hr.later (HB6.out)).later HO3.out
              obtain ⟨c0, c1⟩ := hr7.cell hjl
              have hjj : (j : Int) < (L.length : Int) := by omega
              have HI : Hid (inS L v (j + 1) = (inS L v j || decide ((L.getD j pz).1 = (v : Int)))) := rfl
              have hgl7 : g < w7.heap.size := by omega
              clear hr hr7 V6 hOut
              generalize (L.getD j pz).1 = x at *
              generalize (L.getD j pz).2 = y at *
              generalize inS L v j = t at *
              go_wp2
              · exact ⟨⟨j + 1, by omega, by go_num, by rw [HI.out, ‹t = true›]; rfl, HO3.out.alloc hsz7 _⟩, by simp [intOf]; omega⟩
              · have ht : t = false := by simpa using ‹¬ t = true›
                exact ⟨⟨j + 1, by omega, by go_num, by rw [HI.out, ht, Bool.false_or]; congr 1, HO3.out.alloc hsz7 _⟩, by simp [intOf]; omega⟩
            · obtain rfl : j = L.length := by omega
              obtain ⟨e0, _, _, e3, _⟩ := (V6.later HO3.out hz6).cells
              have hO := hOut v hv6
              have hta := inA_iff.1 (hV v hv6)
              have hpw : pwr (s.V v) = (s.V v).tok / 100 := rfl
              rw [hpw] at hO
              have HBr := hide (HB6.out.trans (HO3.out.mono (by omega)))
              have hwq : IntKind.i64.wrap ((s.V v).tok.tdiv 100) = (s.V v).tok / 100 := by rw [Int.tdiv_eq_ediv_of_nonneg hta.1]; exact wrapI (by omega) (by omega)
              clear hOut V6 HO3 hpw hrow4
              generalize (s.V v).tok / 100 = q at *
              generalize (s.V v).tok = xt at *
              generalize (s.V v).jail = xj at *
              generalize inS L v L.length = t at *
              have hz7 : w5.heap.size < w7.heap.size := by omega
              go_wp2
              all_goals first
                | exact ⟨⟨v + 1, by omega, by go_num, HBr.out⟩, by simp [intOf]; omega⟩
                | (exfalso; have h1 : t = false := (by simpa using ‹¬ t = true›); have h2 : xj = false := (by simpa using ‹¬ xj = true›); have h3 := hO h1 h2 (by omega); omega)
        · obtain rfl : v = 6 := by omega
          have HBz := hide (HB4.out.trans (HO2.out.mono (by omega)))
          clear S4 hrow4 hOut
          go_wp2
          go_ret
          exact ⟨rfl, HBz.out⟩
end Go.Proofs.Ytookecjeknphead
