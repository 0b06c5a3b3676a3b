/- Parts of the proof: MP1 MS1. -/
import Derived.Test.YtjghbciepinofaaGreatRows
import Derived.Test.YtjghbciepinofaaGreatPK6
import Derived.Test.YtjghbciepinofaaGreatPK54
set_option maxRecDepth 100000
namespace Go.Proofs.YtjghbciepinofaaGreat
/-- due and not held -/
def dueW (t : Int) (x : Wt) : Bool := decide (x.due ≤ t) && decide (x.h0 = 0 ∧ x.h1 = 0)
def leftW (t : Int) (W : List Wt) : List Wt := W.filter fun x => !dueW t x
def paidL (t : Int) (W : List Wt) : List Wt := W.filter (dueW t)
def paidW (t : Int) (W : List Wt) : List Int := (paidL t W).map (·.num)
def payF (t : Int) (b : Bk) (W : List Wt) : Bk := W.foldl (fun b x => if dueW t x = true then (payR b x.d x.amt).1 else b) b
def payS (s : St) (t : Int) : St := { s with b := payF t s.b s.W, W := leftW t s.W }
theorem take_snoc {W : List Wt} {k : Nat} {x : Wt} (h : W[k]? = some x) : W.take (k + 1) = W.take k ++ [x] := by
  rw [List.take_add_one, h]
  rfl
theorem amts_append : ∀ A B : List Wt, amts (A ++ B) = amts A + amts B
  | [], B => by simp [amts]
  | x :: A, B => by simp only [List.cons_append, amts, amts_append A B]; omega
theorem wOk_mem {next : Int} : ∀ {W : List Wt} {last : Int}, wOk next last W = true → ∀ x ∈ W, last < x.num ∧ x.num < next ∧ (0 ≤ x.d ∧ x.d < 4) ∧ (0 ≤ x.v ∧ x.v < 6) ∧ (0 ≤ x.amt ∧ x.amt ≤ 1125899906842624) ∧ 0 ≤ x.hei ∧ 0 ≤ x.due
  | [], _, _, x, hx => by cases hx
  | y :: W, last, h, x, hx => by
    simp only [wOk, wOk1, Bool.and_eq_true, decide_eq_true_eq, isD_iff, isV_iff, inA_iff] at h
    obtain ⟨⟨⟨⟨⟨⟨⟨h1, h2⟩, h3⟩, h4⟩, h5⟩, h6⟩, h7⟩, h8⟩ := h
    rcases List.mem_cons.1 hx with rfl | hx
    · exact ⟨h1, h2, h3, h4, h5, h6, h7⟩
    · have := wOk_mem h8 x hx
      exact ⟨by omega, this.2⟩
theorem wOk_lower {next : Int} : ∀ {W : List Wt} {last last' : Int}, wOk next last W = true → last' < last → wOk next last' W = true
  | [], _, _, _, _ => rfl
  | y :: W, last, last', h, hl => by
    simp only [wOk, wOk1, Bool.and_eq_true, decide_eq_true_eq] at h ⊢
    obtain ⟨⟨⟨⟨⟨⟨⟨h1, h2⟩, h3⟩, h4⟩, h5⟩, h6⟩, h7⟩, h8⟩ := h
    exact ⟨⟨⟨⟨⟨⟨⟨by omega, h2⟩, h3⟩, h4⟩, h5⟩, h6⟩, h7⟩, h8⟩
theorem wOk_filter {next : Int} (p : Wt → Bool) : ∀ {W : List Wt} {last : Int}, wOk next last W = true → wOk next last (W.filter p) = true
  | [], _, _ => rfl
  | y :: W, last, h => by
    have hy := wOk_mem h y (List.mem_cons_self ..)
    simp only [wOk, Bool.and_eq_true] at h
    have ih := wOk_filter p h.2
    rw [List.filter_cons]
    split
    · simp only [wOk, Bool.and_eq_true]
      exact ⟨h.1, ih⟩
    · exact wOk_lower ih (by omega)
theorem amts_nonneg : ∀ {W : List Wt}, (∀ x ∈ W, 0 ≤ x.amt) → 0 ≤ amts W
  | [], _ => Int.le_refl _
  | x :: W, h => by
    have := h x (List.mem_cons_self ..)
    have := amts_nonneg (W := W) fun y hy => h y (List.mem_cons_of_mem _ hy)
    simp only [amts]
    omega
theorem amts_split (p : Wt → Bool) : ∀ W : List Wt, amts (W.filter p) + amts (W.filter fun x => !p x) = amts W
  | [] => rfl
  | x :: W => by
    have := amts_split p W
    rw [List.filter_cons, List.filter_cons]
    cases p x <;> simp [amts] <;> omega
theorem left_snoc (t : Int) (W : List Wt) (x : Wt) : leftW t (W ++ [x]) = if dueW t x = true then leftW t W else leftW t W ++ [x] := by
  unfold leftW
  rw [List.filter_append]
  cases h : dueW t x <;> simp [h]
theorem paid_snoc (t : Int) (W : List Wt) (x : Wt) : paidL t (W ++ [x]) = if dueW t x = true then paidL t W ++ [x] else paidL t W := by
  unfold paidL
  rw [List.filter_append]
  cases h : dueW t x <;> simp [h]
theorem payF_snoc (t : Int) (b : Bk) (W : List Wt) (x : Wt) : payF t b (W ++ [x]) = if dueW t x = true then (payR (payF t b W) x.d x.amt).1 else payF t b W := by
  unfold payF
  rw [List.foldl_append]
  rfl
theorem pay_zero {b : Bk} {d n : Int} (hd : 0 ≤ d ∧ d < 4) (hg : b.good = true) (h0 : 0 ≤ n) (h1 : n ≤ 1125899906842624) (h2 : n ≤ b.wa) : (payR b d n).2 = 0 ∧ (payR b d n).1.good = true ∧ (payR b d n).1.bo = b.bo ∧ (payR b d n).1.wa = b.wa - n ∧ (payR b d n).1.bu = b.bu := by
  have h := mv_make (f := 5) (t := d.toNat) hg h0 h1 h2
  have hk := (kept_pay b d n).yes
  unfold payR at *
  rw [if_pos hd] at *
  rw [h] at hk ⊢
  refine ⟨rfl, (hk rfl).2.1, ?_⟩
  have h4 : d.toNat < 4 := by omega
  generalize d.toNat = i at *
  rcases four h4 with rfl | rfl | rfl | rfl <;> simp [Bk.put, Bk.get]
theorem pay_le {s : St} (hg : goodS s = true) (t : Int) {k : Nat} {x : Wt} (hx : s.W[k]? = some x) : x.amt ≤ s.b.wa - amts (paidL t (s.W.take k)) := by
  obtain ⟨h1, h2, h3, h4, h5, h6, h7, h8, h9⟩ := (goodS_iff s).1 hg
  have hmem := wOk_mem h5
  obtain ⟨hk, he⟩ := List.getElem?_eq_some_iff.1 hx
  have e1 : s.W = s.W.take k ++ (x :: s.W.drop (k + 1)) := by rw [← he, ← List.drop_eq_getElem_cons hk, List.take_append_drop]
  have e2 : amts s.W = amts (s.W.take k) + (x.amt + amts (s.W.drop (k + 1))) := by
    conv => lhs; rw [e1]
    rw [amts_append]
    rfl
  have e3 := amts_split (dueW t) (s.W.take k)
  have n1 := amts_nonneg (W := (s.W.take k).filter fun x => !dueW t x) fun y hy => (hmem y (List.mem_of_mem_take (List.mem_filter.1 hy).1)).2.2.2.2.1.1
  have n2 := amts_nonneg (W := s.W.drop (k + 1)) fun y hy => (hmem y (List.mem_of_mem_drop hy)).2.2.2.2.1.1
  unfold paidL
  omega
/-- the bank while it is paid out -/
theorem pay_run {s : St} (hg : goodS s = true) (t : Int) : ∀ k, k ≤ s.W.length → (payF t s.b (s.W.take k)).good = true ∧ (payF t s.b (s.W.take k)).bo = s.b.bo ∧ (payF t s.b (s.W.take k)).bu = s.b.bu ∧ (payF t s.b (s.W.take k)).wa = s.b.wa - amts (paidL t (s.W.take k)) := by
  obtain ⟨h1, h2, h3, h4, h5, h6, h7, h8, h9⟩ := (goodS_iff s).1 hg
  intro k
  induction k with
  | zero => intro _; refine ⟨h1, rfl, rfl, ?_⟩; simp [paidL, payF, amts]
  | succ k ih =>
    intro hk
    obtain ⟨i1, i2, i3, i4⟩ := ih (by omega)
    have hx : s.W[k]? = some (s.W[k]'(by omega)) := List.getElem?_eq_getElem _
    have hm := wOk_mem h5 _ (List.getElem_mem (show k < s.W.length by omega))
    rw [take_snoc hx, payF_snoc, paid_snoc]
    have hle := pay_le hg t hx
    generalize s.W[k]'(by omega) = x at *
    split
    · obtain ⟨j1, j2, j3, j4, j5⟩ := pay_zero hm.2.2.1 i1 hm.2.2.2.2.1.1 hm.2.2.2.2.1.2 (by rw [i4]; omega)
      refine ⟨j2, by rw [j3, i2], by rw [j5, i3], ?_⟩
      rw [j4, i4, amts_append]
      simp only [amts]
      omega
    · exact ⟨i1, i2, i3, i4⟩
/-- each payment is granted -/
theorem pay_step {s : St} (hg : goodS s = true) (t : Int) {k : Nat} {x : Wt} (hx : s.W[k]? = some x) (hd : dueW t x = true) : payR (payF t s.b (s.W.take k)) x.d x.amt = (payF t s.b (s.W.take (k + 1)), 0) := by
  obtain ⟨hk, he⟩ := List.getElem?_eq_some_iff.1 hx
  obtain ⟨i1, i2, i3, i4⟩ := pay_run hg t k (by omega)
  have hm := wOk_mem ((goodS_iff s).1 hg).2.2.2.2.1 x (he ▸ List.getElem_mem hk)
  have hle := pay_le hg t hx
  obtain ⟨j1, -⟩ := pay_zero hm.2.2.1 i1 hm.2.2.2.2.1.1 hm.2.2.2.2.1.2 (by rw [i4]; exact hle)
  rw [take_snoc hx, payF_snoc, if_pos hd, ← j1]
theorem pay_all {s : St} (hg : goodS s = true) (t : Int) : (payS s t).b.good = true ∧ (payS s t).b.bo = s.b.bo ∧ (payS s t).b.bu = s.b.bu ∧ (payS s t).b.wa = s.b.wa - amts (paidL t s.W) := by
  have := pay_run hg t s.W.length (Nat.le_refl _)
  rwa [List.take_length] at this
theorem pay_good {s : St} (hg : goodS s = true) (t : Int) : goodS (payS s t) = true := by
  obtain ⟨a1, a2, a3, a4⟩ := pay_all hg t
  rw [goodS_iff] at hg ⊢
  obtain ⟨h1, h2, h3, h4, h5, h6, h7, h8, h9⟩ := hg
  refine ⟨a1, h2, h3, ?_, wOk_filter _ h5, h6, h7.trans a2.symm, ?_, h9.trans a3.symm⟩
  · exact Nat.le_trans (List.length_filter_le _ _) h4
  · rw [a4, ← h8, ← amts_split (dueW t) s.W]
    show amts (leftW t s.W) = _
    unfold paidL leftW
    omega
end Go.Proofs.YtjghbciepinofaaGreat

set_option maxRecDepth 100000
namespace Go.Proofs.YtjghbciepinofaaGreat
def ptN (n f : Int) : Int := Ra.ptN n f
def ptE (n f : Int) : Int := Ra.ptE n f
theorem pt_in {n f : Int} (hn : 0 ≤ n ∧ n ≤ 1125899906842624) (hf : 0 ≤ f ∧ f ≤ 1000) : ptE n f = 0 ∧ 0 ≤ ptN n f ∧ ptN n f ≤ n := by
  obtain ⟨h1, h2⟩ := Ra.pt_good (n := n) (f := f) ⟨Ra.inB_iff.2 hn, hf⟩
  refine ⟨h2, ?_, ?_⟩
  · show 0 ≤ Ra.ptN n f
    rw [h1]
    exact Int.ediv_nonneg (Int.mul_nonneg hn.1 hf.1) (by omega)
  · show Ra.ptN n f ≤ n
    rw [h1]
    exact Int.ediv_le_of_le_mul (by omega) (Int.mul_le_mul_of_nonneg_left hf.2 hn.1)
/-- is a wait touched? -/
def hitW (v h : Int) (x : Wt) : Bool := decide (x.v = v) && decide (h ≤ x.hei)
def slX (v h f : Int) (x : Wt) : Wt := if hitW v h x = true then { x with amt := x.amt - ptN x.amt f } else x
def slW (v h f : Int) (W : List Wt) : List Wt := W.map (slX v h f)
def slP (v h f : Int) (x : Wt) : Int := if hitW v h x = true then ptN x.amt f else 0
def slN (v h f : Int) : List Wt → Int
  | [] => 0
  | x :: W => slP v h f x + slN v h f W
theorem slN_append (v h f : Int) : ∀ A B : List Wt, slN v h f (A ++ B) = slN v h f A + slN v h f B
  | [], B => by simp [slN]
  | x :: A, B => by simp only [List.cons_append, slN, slN_append v h f A B]; omega
theorem slP_in {v h f : Int} {x : Wt} (hx : 0 ≤ x.amt ∧ x.amt ≤ 1125899906842624) (hf : 0 ≤ f ∧ f ≤ 1000) : 0 ≤ slP v h f x ∧ slP v h f x ≤ x.amt := by
  have := pt_in hx hf
  unfold slP
  split <;> omega
theorem slN_in {v h f : Int} (hf : 0 ≤ f ∧ f ≤ 1000) : ∀ {W : List Wt}, (∀ x ∈ W, 0 ≤ x.amt ∧ x.amt ≤ 1125899906842624) → 0 ≤ slN v h f W ∧ slN v h f W ≤ amts W
  | [], _ => ⟨Int.le_refl _, Int.le_refl _⟩
  | x :: W, h1 => by
    have := slP_in (v := v) (h := h) (h1 x (List.mem_cons_self ..)) hf
    have := slN_in (v := v) (h := h) hf (W := W) fun y hy => h1 y (List.mem_cons_of_mem _ hy)
    simp only [slN, amts]
    omega
theorem sl_amts (v h f : Int) : ∀ W : List Wt, amts (slW v h f W) = amts W - slN v h f W
  | [] => rfl
  | x :: W => by
    have := sl_amts v h f W
    simp only [slW, List.map_cons, amts, slN] at *
    have e : (slX v h f x).amt = x.amt - slP v h f x := by
      unfold slX slP
      split
      · rfl
      · omega
    omega
theorem sl_step (v h f : Int) {W : List Wt} {k : Nat} {x : Wt} (hx : W[k]? = some x) : slW v h f (W.take (k + 1)) ++ W.drop (k + 1) = (slW v h f (W.take k) ++ W.drop k).set k (slX v h f x) ∧ (slW v h f (W.take k) ++ W.drop k)[k]? = some x ∧ slN v h f (W.take (k + 1)) = slN v h f (W.take k) + slP v h f x := by
  obtain ⟨hk, he⟩ := List.getElem?_eq_some_iff.1 hx
  have hl : (slW v h f (W.take k)).length = k := by unfold slW; rw [List.length_map, List.length_take]; omega
  have hd : W.drop k = x :: W.drop (k + 1) := by rw [← he]; exact List.drop_eq_getElem_cons hk
  refine ⟨?_, ?_, ?_⟩
  · rw [take_snoc hx, hd]
    unfold slW at *
    rw [List.map_append, List.set_append_right _ _ (by omega), hl, Nat.sub_self, List.append_assoc]
    rfl
  · rw [List.getElem?_append_right (by omega), hl, Nat.sub_self, hd]
    rfl
  · rw [take_snoc hx, slN_append]
    simp [slN]
theorem sl_same {v h f : Int} {x : Wt} (hx : hitW v h x = false) : slX v h f x = x ∧ slP v h f x = 0 := by
  unfold slX slP
  rw [if_neg (by simp [hx]), if_neg (by simp [hx])]
  exact ⟨rfl, rfl⟩
theorem sl_hit {v h f : Int} {x : Wt} (hx : hitW v h x = true) : slX v h f x = { x with amt := x.amt - ptN x.amt f } ∧ slP v h f x = ptN x.amt f := by
  unfold slX slP
  rw [if_pos hx, if_pos hx]
  exact ⟨rfl, rfl⟩
theorem set_same {W : List Wt} {k : Nat} {x : Wt} (h : W[k]? = some x) : W.set k x = W := by
  obtain ⟨hk, rfl⟩ := List.getElem?_eq_some_iff.1 h
  exact List.set_getElem_self hk
end Go.Proofs.YtjghbciepinofaaGreat

