/- Parts of the proof: DF0. -/
import Derived.Test.YtnfigdecgkcgcaaRows
set_option maxRecDepth 100000
namespace Go.Proofs.Ytnfigdecgkcgcaa.Df
abbrev Pw := Int × Int
/-- a power is put in its validator's place -/
def putP (P : Nat → Int) (x : Pw) : Nat → Int := if 0 ≤ x.1 ∧ x.1 < 6 then (fun i => if i = x.1.toNat then x.2 else P i) else P
def zeroP : Nat → Int := fun _ => 0
/-- the first one counts -/
def firstP (l : List Pw) : Nat → Int := l.foldr (fun x P => putP P x) zeroP
/-- the last one counts -/
def lastP (P : Nat → Int) (l : List Pw) : Nat → Int := l.foldl putP P
/-- those of the first n that are wanted, with their powers -/
def those (c : Nat → Bool) (f : Nat → Int) (n : Nat) : List Pw := (List.range n).filterMap fun v => if c v = true then some ((v : Int), f v) else none
theorem those_succ (c : Nat → Bool) (f : Nat → Int) (n : Nat) : those c f (n + 1) = if c n = true then those c f n ++ [((n : Int), f n)] else those c f n := by
  unfold those
  rw [List.range_succ, List.filterMap_append]
  cases h : c n <;> simp [h]
theorem those_len (c : Nat → Bool) (f : Nat → Int) : ∀ n, (those c f n).length ≤ n
  | 0 => by simp [those]
  | n + 1 => by
    have := those_len c f n
    rw [those_succ]
    split
    · rw [List.length_append]; simp; omega
    · omega
def diffL (a b : List Pw) : List Pw := those (fun v => decide (firstP b v ≠ firstP a v)) (firstP b) 6
def applyL (a d : List Pw) : List Pw := those (fun v => decide (0 < lastP (lastP zeroP a) d v)) (lastP (lastP zeroP a) d) 6
/-- a set, by its powers -/
def setOf (P : Nat → Int) : List Pw := those (fun v => decide (0 < P v)) P 6
theorem put_at {P : Nat → Int} {n : Nat} {x : Int} (hn : n < 6) (i : Nat) : putP P ((n : Int), x) i = if i = n then x else P i := by
  unfold putP
  rw [if_pos (by simp; omega)]
  simp
theorem last_those (P : Nat → Int) (c : Nat → Bool) (f : Nat → Int) : ∀ n, n ≤ 6 → ∀ i, lastP P (those c f n) i = if i < n ∧ c i = true then f i else P i
  | 0, _, i => by simp [those, lastP]
  | n + 1, hn, i => by
    have ih := last_those P c f n (by omega)
    rw [those_succ]
    cases hc : c n
    · rw [if_neg (by simp), ih i]
      by_cases hi : i = n
      · subst hi; simp [hc]
      · have : (i < n ↔ i < n + 1) := by omega
        simp [this]
    · rw [if_pos rfl]
      unfold lastP at ih ⊢
      rw [List.foldl_append]
      show putP _ _ i = _
      rw [put_at (by omega), ih i]
      by_cases hi : i = n
      · subst hi; simp [hc]
      · have : (i < n ↔ i < n + 1) := by omega
        simp [hi, this]
theorem first_those' (c : Nat → Bool) (f : Nat → Int) : ∀ n, n ≤ 6 → ∀ (P : Nat → Int) i, (those c f n).foldr (fun x P => putP P x) P i = if i < n ∧ c i = true then f i else P i
  | 0, _, P, i => by simp [those]
  | n + 1, hn, P, i => by
    have ih := first_those' c f n (by omega)
    rw [those_succ]
    cases hc : c n
    · rw [if_neg (by simp), ih P i]
      by_cases hi : i = n
      · subst hi; simp [hc]
      · have : (i < n ↔ i < n + 1) := by omega
        simp [this]
    · rw [if_pos rfl, List.foldr_append, ih]
      simp only [List.foldr_cons, List.foldr_nil]
      rw [put_at (by omega)]
      by_cases hi : i = n
      · subst hi; simp [hc]
      · have : (i < n ↔ i < n + 1) := by omega
        simp [hi, this]
theorem first_set {P : Nat → Int} (h0 : ∀ i, 0 ≤ P i) {i : Nat} (hi : i < 6) : firstP (setOf P) i = P i := by
  unfold firstP setOf
  rw [first_those' _ _ 6 (by omega)]
  by_cases h : 0 < P i
  · simp [hi, h]
  · have := h0 i
    simp [h, zeroP]
    omega
theorem last_set {P : Nat → Int} (h0 : ∀ i, 0 ≤ P i) {i : Nat} (hi : i < 6) : lastP zeroP (setOf P) i = P i := by
  unfold setOf
  rw [last_those _ _ _ 6 (by omega)]
  by_cases h : 0 < P i
  · simp [hi, h]
  · have := h0 i
    simp [h, zeroP]
    omega
theorem those_congr {c c' : Nat → Bool} {f f' : Nat → Int} : ∀ n, (∀ i, i < n → c i = c' i ∧ (c i = true → f i = f' i)) → those c f n = those c' f' n
  | 0, _ => rfl
  | n + 1, h => by
    rw [those_succ, those_succ, those_congr n (fun i hi => h i (by omega))]
    obtain ⟨h1, h2⟩ := h n (by omega)
    rw [← h1]
    split
    · rename_i hc
      rw [h2 hc]
    · rfl
/-- what changes leads from one set to the next -/
theorem apply_diff {P R : Nat → Int} (hP : ∀ i, 0 ≤ P i) (hR : ∀ i, 0 ≤ R i) : applyL (setOf P) (diffL (setOf P) (setOf R)) = setOf R := by
  have key : ∀ i, i < 6 → lastP (lastP zeroP (setOf P)) (diffL (setOf P) (setOf R)) i = R i := by
    intro i hi
    unfold diffL
    rw [last_those _ _ _ 6 (by omega)]
    simp only [first_set hP hi, first_set hR hi, last_set hP hi]
    by_cases h : R i = P i
    · simp [h]
    · simp [h, hi]
  unfold applyL
  exact those_congr 6 fun i hi => ⟨by rw [key i hi], fun _ => key i hi⟩
/-- the powers that numbers make -/
def madeP (l : List Int) : Nat → Int := fun v => if v < l.length then l.getD v 0 % 4 else 0
theorem madeP_pos (l : List Int) (i : Nat) : 0 ≤ madeP l i ∧ madeP l i ≤ 3 := by
  unfold madeP
  split <;> omega
/-- from some length on nothing is made -/
theorem made_end (l : List Int) {n : Nat} (hn : l.length ≤ n) : ∀ m, those (fun v => decide (0 < madeP l v)) (madeP l) (n + m) = those (fun v => decide (0 < madeP l v)) (madeP l) n
  | 0 => rfl
  | m + 1 => by
    rw [← Nat.add_assoc, those_succ, if_neg, made_end l hn m]
    simp [madeP]
    omega
theorem foldr_drop (l : List Pw) (k : Nat) (hk : k < l.length) : firstP (l.drop k) = putP (firstP (l.drop (k + 1))) (l.getD k (0, 0)) := by
  unfold firstP
  rw [List.drop_eq_getElem_cons hk, List.foldr_cons, show l.getD k (0, 0) = l[k] by simp [List.getD, hk]]
theorem foldl_take (P : Nat → Int) (l : List Pw) (k : Nat) (hk : k < l.length) : lastP P (l.take (k + 1)) = putP (lastP P (l.take k)) (l.getD k (0, 0)) := by
  unfold lastP
  rw [List.take_succ_eq_append_getElem hk, List.foldl_append]
  simp [List.getD, hk]
end Go.Proofs.Ytnfigdecgkcgcaa.Df

