/- Parts of the proof: MR1 MP1 MS1 MS2. -/
import Derived.Test.YtjghbciepinofaaGreatRows
import Derived.Test.YtjghbciepinofaaGreatPEK34
import Derived.Test.YtjghbciepinofaaGreatPEK38
import Derived.Test.YtjghbciepinofaaGreatPEK44
set_option maxRecDepth 100000
namespace Go.Proofs.YtjghbciepinofaaGreat
theorem goodS_iff (s : St) : goodS s = true ↔ s.b.good = true ∧ 1 ≤ s.next ∧ s.next ≤ 1125899906842624 ∧ s.W.length ≤ 60 ∧ wOk s.next 0 s.W = true ∧ (∀ k, k < 6 → vOk (s.V k) = true ∧ pshOk s.S k 4 = true ∧ psh s.S k 4 = (s.V k).sh) ∧ ptok s.V 6 = s.b.bo ∧ amts s.W = s.b.wa ∧ plost s.V 6 = s.b.bu := by
  have hp : pvs s 6 = true ↔ ∀ k, k < 6 → vOk (s.V k) = true ∧ pshOk s.S k 4 = true ∧ psh s.S k 4 = (s.V k).sh := by
    constructor
    · intro h k hk
      have := pvs_at h hk
      simp only [vsOk, shOk, Bool.and_eq_true, decide_eq_true_eq] at this
      exact ⟨this.1, this.2.1, this.2.2⟩
    · intro h
      simp only [pvs, vsOk, shOk, Bool.and_eq_true, decide_eq_true_eq, true_and]
      exact ⟨⟨⟨⟨⟨h 0 (by omega), h 1 (by omega)⟩, h 2 (by omega)⟩, h 3 (by omega)⟩, h 4 (by omega)⟩, h 5 (by omega)⟩
  unfold goodS bal
  simp only [Bool.and_eq_true, decide_eq_true_eq, hp]
  constructor
  · rintro ⟨⟨⟨⟨⟨⟨h1, h2⟩, h3⟩, h4⟩, h5⟩, h6⟩, ⟨h7, h8⟩, h9⟩
    exact ⟨h1, h2, h3, h4, h5, h6, h7, h8, h9⟩
  · rintro ⟨h1, h2, h3, h4, h5, h6, h7, h8, h9⟩
    exact ⟨⟨⟨⟨⟨⟨h1, h2⟩, h3⟩, h4⟩, h5⟩, h6⟩, ⟨h7, h8⟩, h9⟩
theorem vOk_iff (x : Vd) : vOk x = true ↔ (0 ≤ x.tok ∧ x.tok ≤ 1125899906842624) ∧ (0 ≤ x.sh ∧ x.sh ≤ 1125899906842624) ∧ (0 ≤ x.lost ∧ x.lost ≤ 1125899906842624) ∧ (0 < x.tok → x.sh ≠ 0) ∧ (x.dead = true → x.jail = true) := by
  unfold vOk
  simp only [Bool.and_eq_true, inA_iff, Bool.not_eq_true', Bool.and_eq_false_iff, decide_eq_false_iff_not, Bool.or_eq_true]
  constructor
  · rintro ⟨⟨⟨⟨h1, h2⟩, h3⟩, h4⟩, h5⟩
    refine ⟨h1, h2, h3, fun h => h4.resolve_left (fun h' => h' h), fun h => ?_⟩
    rcases h5 with h5 | h5
    · exact h5
    · rw [h] at h5; cases h5
  · rintro ⟨h1, h2, h3, h4, h5⟩
    refine ⟨⟨⟨⟨h1, h2⟩, h3⟩, ?_⟩, ?_⟩
    · by_cases h : 0 < x.tok
      · exact .inr (h4 h)
      · exact .inl h
    · cases hd : x.dead
      · exact .inr rfl
      · exact .inl (h5 hd)
theorem six {v : Nat} (h : v < 6) : v = 0 ∨ v = 1 ∨ v = 2 ∨ v = 3 ∨ v = 4 ∨ v = 5 := by omega
theorem four {v : Nat} (h : v < 4) : v = 0 ∨ v = 1 ∨ v = 2 ∨ v = 3 := by omega
theorem ptok_set (V : Nat → Vd) (v : Nat) (x : Vd) (hv : v < 6) : ptok (setV V v x) 6 = ptok V 6 + x.tok - (V v).tok := by
  rcases six hv with rfl | rfl | rfl | rfl | rfl | rfl <;> simp [ptok, setV] <;> omega
theorem plost_set (V : Nat → Vd) (v : Nat) (x : Vd) (hv : v < 6) : plost (setV V v x) 6 = plost V 6 + x.lost - (V v).lost := by
  rcases six hv with rfl | rfl | rfl | rfl | rfl | rfl <;> simp [plost, setV] <;> omega
theorem ptok_ge {V : Nat → Vd} (h : ∀ k, k < 6 → 0 ≤ (V k).tok) {v : Nat} (hv : v < 6) : (V v).tok ≤ ptok V 6 := by
  have h0 := h 0 (by omega); have h1 := h 1 (by omega); have h2 := h 2 (by omega); have h3 := h 3 (by omega); have h4 := h 4 (by omega); have h5 := h 5 (by omega)
  simp only [ptok]
  rcases six hv with rfl | rfl | rfl | rfl | rfl | rfl <;> omega
end Go.Proofs.YtjghbciepinofaaGreat

set_option maxRecDepth 100000
namespace Go.Proofs.YtjghbciepinofaaGreat
/-- due and not held -/
def dueW (t : Int) (x : Wt) : Bool := decide (x.due ≤ t) && decide (x.h0 = 0 ∧ x.h1 = 0)
def leftW (t : Int) (W : List Wt) : List Wt := W.filter fun x => !dueW t x
def paidL (t : Int) (W : List Wt) : List Wt := W.filter (dueW t)
def paidW (t : Int) (W : List Wt) : List Int := (paidL t W).map (·.num)
def payF (t : Int) (b : Bk) (W : List Wt) : Bk := W.foldl (fun b x => if dueW t x = true then (payR b x.d x.amt).1 else b) b
def payS (s : St) (t : Int) : St := { s with b := payF t s.b s.W, W := leftW t s.W }
theorem take_snoc {W : List Wt} {k : Nat} {x : Wt} (h : W[k]? = some x) : W.take (k + 1) = W.take k ++ [x] := by
  rw [List.take_add_one, h]
  rfl
theorem amts_append : ∀ A B : List Wt, amts (A ++ B) = amts A + amts B
  | [], B => by simp [amts]
  | x :: A, B => by simp only [List.cons_append, amts, amts_append A B]; omega
theorem wOk_mem {next : Int} : ∀ {W : List Wt} {last : Int}, wOk next last W = true → ∀ x ∈ W, last < x.num ∧ x.num < next ∧ (0 ≤ x.d ∧ x.d < 4) ∧ (0 ≤ x.v ∧ x.v < 6) ∧ (0 ≤ x.amt ∧ x.amt ≤ 1125899906842624) ∧ 0 ≤ x.hei ∧ 0 ≤ x.due
  | [], _, _, x, hx => by cases hx
  | y :: W, last, h, x, hx => by
    simp only [wOk, wOk1, Bool.and_eq_true, decide_eq_true_eq, isD_iff, isV_iff, inA_iff] at h
    obtain ⟨⟨⟨⟨⟨⟨⟨h1, h2⟩, h3⟩, h4⟩, h5⟩, h6⟩, h7⟩, h8⟩ := h
    rcases List.mem_cons.1 hx with rfl | hx
    · exact ⟨h1, h2, h3, h4, h5, h6, h7⟩
    · have := wOk_mem h8 x hx
      exact ⟨by omega, this.2⟩
theorem wOk_lower {next : Int} : ∀ {W : List Wt} {last last' : Int}, wOk next last W = true → last' < last → wOk next last' W = true
  | [], _, _, _, _ => rfl
  | y :: W, last, last', h, hl => by
    simp only [wOk, wOk1, Bool.and_eq_true, decide_eq_true_eq] at h ⊢
    obtain ⟨⟨⟨⟨⟨⟨⟨h1, h2⟩, h3⟩, h4⟩, h5⟩, h6⟩, h7⟩, h8⟩ := h
    exact ⟨⟨⟨⟨⟨⟨⟨by omega, h2⟩, h3⟩, h4⟩, h5⟩, h6⟩, h7⟩, h8⟩
theorem wOk_filter {next : Int} (p : Wt → Bool) : ∀ {W : List Wt} {last : Int}, wOk next last W = true → wOk next last (W.filter p) = true
  | [], _, _ => rfl
  | y :: W, last, h => by
    have hy := wOk_mem h y (List.mem_cons_self ..)
    simp only [wOk, Bool.and_eq_true] at h
    have ih := wOk_filter p h.2
    rw [List.filter_cons]
    split
    · simp only [wOk, Bool.and_eq_true]
      exact ⟨h.1, ih⟩
    · exact wOk_lower ih (by omega)
theorem amts_nonneg : ∀ {W : List Wt}, (∀ x ∈ W, 0 ≤ x.amt) → 0 ≤ amts W
  | [], _ => Int.le_refl _
  | x :: W, h => by
    have := h x (List.mem_cons_self ..)
    have := amts_nonneg (W := W) fun y hy => h y (List.mem_cons_of_mem _ hy)
    simp only [amts]
    omega
theorem amts_split (p : Wt → Bool) : ∀ W : List Wt, amts (W.filter p) + amts (W.filter fun x => !p x) = amts W
  | [] => rfl
  | x :: W => by
    have := amts_split p W
    rw [List.filter_cons, List.filter_cons]
    cases p x <;> simp [amts] <;> omega
theorem left_snoc (t : Int) (W : List Wt) (x : Wt) : leftW t (W ++ [x]) = if dueW t x = true then leftW t W else leftW t W ++ [x] := by
  unfold leftW
  rw [List.filter_append]
  cases h : dueW t x <;> simp [h]
theorem paid_snoc (t : Int) (W : List Wt) (x : Wt) : paidL t (W ++ [x]) = if dueW t x = true then paidL t W ++ [x] else paidL t W := by
  unfold paidL
  rw [List.filter_append]
  cases h : dueW t x <;> simp [h]
theorem payF_snoc (t : Int) (b : Bk) (W : List Wt) (x : Wt) : payF t b (W ++ [x]) = if dueW t x = true then (payR (payF t b W) x.d x.amt).1 else payF t b W := by
  unfold payF
  rw [List.foldl_append]
  rfl
theorem pay_zero {b : Bk} {d n : Int} (hd : 0 ≤ d ∧ d < 4) (hg : b.good = true) (h0 : 0 ≤ n) (h1 : n ≤ 1125899906842624) (h2 : n ≤ b.wa) : (payR b d n).2 = 0 ∧ (payR b d n).1.good = true ∧ (payR b d n).1.bo = b.bo ∧ (payR b d n).1.wa = b.wa - n ∧ (payR b d n).1.bu = b.bu := by
  have h := mv_make (f := 5) (t := d.toNat) hg h0 h1 h2
  have hk := (kept_pay b d n).yes
  unfold payR at *
  rw [if_pos hd] at *
  rw [h] at hk ⊢
  refine ⟨rfl, (hk rfl).2.1, ?_⟩
  have h4 : d.toNat < 4 := by omega
  generalize d.toNat = i at *
  rcases four h4 with rfl | rfl | rfl | rfl <;> simp [Bk.put, Bk.get]
theorem pay_le {s : St} (hg : goodS s = true) (t : Int) {k : Nat} {x : Wt} (hx : s.W[k]? = some x) : x.amt ≤ s.b.wa - amts (paidL t (s.W.take k)) := by
  obtain ⟨h1, h2, h3, h4, h5, h6, h7, h8, h9⟩ := (goodS_iff s).1 hg
  have hmem := wOk_mem h5
  obtain ⟨hk, he⟩ := List.getElem?_eq_some_iff.1 hx
  have e1 : s.W = s.W.take k ++ (x :: s.W.drop (k + 1)) := by rw [← he, ← List.drop_eq_getElem_cons hk, List.take_append_drop]
  have e2 : amts s.W = amts (s.W.take k) + (x.amt + amts (s.W.drop (k + 1))) := by
    conv => lhs; rw [e1]
    rw [amts_append]
    rfl
  have e3 := amts_split (dueW t) (s.W.take k)
  have n1 := amts_nonneg (W := (s.W.take k).filter fun x => !dueW t x) fun y hy => (hmem y (List.mem_of_mem_take (List.mem_filter.1 hy).1)).2.2.2.2.1.1
  have n2 := amts_nonneg (W := s.W.drop (k + 1)) fun y hy => (hmem y (List.mem_of_mem_drop hy)).2.2.2.2.1.1
  unfold paidL
  omega
/-- the bank while it is paid out -/
theorem pay_run {s : St} (hg : goodS s = true) (t : Int) : ∀ k, k ≤ s.W.length → (payF t s.b (s.W.take k)).good = true ∧ (payF t s.b (s.W.take k)).bo = s.b.bo ∧ (payF t s.b (s.W.take k)).bu = s.b.bu ∧ (payF t s.b (s.W.take k)).wa = s.b.wa - amts (paidL t (s.W.take k)) := by
  obtain ⟨h1, h2, h3, h4, h5, h6, h7, h8, h9⟩ := (goodS_iff s).1 hg
  intro k
  induction k with
  | zero => intro _; refine ⟨h1, rfl, rfl, ?_⟩; simp [paidL, payF, amts]
  | succ k ih =>
    intro hk
    obtain ⟨i1, i2, i3, i4⟩ := ih (by omega)
    have hx : s.W[k]? = some (s.W[k]'(by omega)) := List.getElem?_eq_getElem _
    have hm := wOk_mem h5 _ (List.getElem_mem (show k < s.W.length by omega))
    rw [take_snoc hx, payF_snoc, paid_snoc]
    have hle := pay_le hg t hx
    generalize s.W[k]'(by omega) = x at *
    split
    · obtain ⟨j1, j2, j3, j4, j5⟩ := pay_zero hm.2.2.1 i1 hm.2.2.2.2.1.1 hm.2.2.2.2.1.2 (by rw [i4]; omega)
      refine ⟨j2, by rw [j3, i2], by rw [j5, i3], ?_⟩
      rw [j4, i4, amts_append]
      simp only [amts]
      omega
    · exact ⟨i1, i2, i3, i4⟩
/-- each payment is granted -/
theorem pay_step {s : St} (hg : goodS s = true) (t : Int) {k : Nat} {x : Wt} (hx : s.W[k]? = some x) (hd : dueW t x = true) : payR (payF t s.b (s.W.take k)) x.d x.amt = (payF t s.b (s.W.take (k + 1)), 0) := by
  obtain ⟨hk, he⟩ := List.getElem?_eq_some_iff.1 hx
  obtain ⟨i1, i2, i3, i4⟩ := pay_run hg t k (by omega)
  have hm := wOk_mem ((goodS_iff s).1 hg).2.2.2.2.1 x (he ▸ List.getElem_mem hk)
  have hle := pay_le hg t hx
  obtain ⟨j1, -⟩ := pay_zero hm.2.2.1 i1 hm.2.2.2.2.1.1 hm.2.2.2.2.1.2 (by rw [i4]; exact hle)
  rw [take_snoc hx, payF_snoc, if_pos hd, ← j1]
theorem pay_all {s : St} (hg : goodS s = true) (t : Int) : (payS s t).b.good = true ∧ (payS s t).b.bo = s.b.bo ∧ (payS s t).b.bu = s.b.bu ∧ (payS s t).b.wa = s.b.wa - amts (paidL t s.W) := by
  have := pay_run hg t s.W.length (Nat.le_refl _)
  rwa [List.take_length] at this
theorem pay_good {s : St} (hg : goodS s = true) (t : Int) : goodS (payS s t) = true := by
  obtain ⟨a1, a2, a3, a4⟩ := pay_all hg t
  rw [goodS_iff] at hg ⊢
  obtain ⟨h1, h2, h3, h4, h5, h6, h7, h8, h9⟩ := hg
  refine ⟨a1, h2, h3, ?_, wOk_filter _ h5, h6, h7.trans a2.symm, ?_, h9.trans a3.symm⟩
  · exact Nat.le_trans (List.length_filter_le _ _) h4
  · rw [a4, ← h8, ← amts_split (dueW t) s.W]
    show amts (leftW t s.W) = _
    unfold paidL leftW
    omega
end Go.Proofs.YtjghbciepinofaaGreat

set_option maxRecDepth 100000
namespace Go.Proofs.YtjghbciepinofaaGreat
def ptN (n f : Int) : Int := Ra.ptN n f
def ptE (n f : Int) : Int := Ra.ptE n f
theorem pt_in {n f : Int} (hn : 0 ≤ n ∧ n ≤ 1125899906842624) (hf : 0 ≤ f ∧ f ≤ 1000) : ptE n f = 0 ∧ 0 ≤ ptN n f ∧ ptN n f ≤ n := by
  obtain ⟨h1, h2⟩ := Ra.pt_good (n := n) (f := f) ⟨Ra.inB_iff.2 hn, hf⟩
  refine ⟨h2, ?_, ?_⟩
  · show 0 ≤ Ra.ptN n f
    rw [h1]
    exact Int.ediv_nonneg (Int.mul_nonneg hn.1 hf.1) (by omega)
  · show Ra.ptN n f ≤ n
    rw [h1]
    exact Int.ediv_le_of_le_mul (by omega) (Int.mul_le_mul_of_nonneg_left hf.2 hn.1)
/-- is a wait touched? -/
def hitW (v h : Int) (x : Wt) : Bool := decide (x.v = v) && decide (h ≤ x.hei)
def slX (v h f : Int) (x : Wt) : Wt := if hitW v h x = true then { x with amt := x.amt - ptN x.amt f } else x
def slW (v h f : Int) (W : List Wt) : List Wt := W.map (slX v h f)
def slP (v h f : Int) (x : Wt) : Int := if hitW v h x = true then ptN x.amt f else 0
def slN (v h f : Int) : List Wt → Int
  | [] => 0
  | x :: W => slP v h f x + slN v h f W
theorem slN_append (v h f : Int) : ∀ A B : List Wt, slN v h f (A ++ B) = slN v h f A + slN v h f B
  | [], B => by simp [slN]
  | x :: A, B => by simp only [List.cons_append, slN, slN_append v h f A B]; omega
theorem slP_in {v h f : Int} {x : Wt} (hx : 0 ≤ x.amt ∧ x.amt ≤ 1125899906842624) (hf : 0 ≤ f ∧ f ≤ 1000) : 0 ≤ slP v h f x ∧ slP v h f x ≤ x.amt := by
  have := pt_in hx hf
  unfold slP
  split <;> omega
theorem slN_in {v h f : Int} (hf : 0 ≤ f ∧ f ≤ 1000) : ∀ {W : List Wt}, (∀ x ∈ W, 0 ≤ x.amt ∧ x.amt ≤ 1125899906842624) → 0 ≤ slN v h f W ∧ slN v h f W ≤ amts W
  | [], _ => ⟨Int.le_refl _, Int.le_refl _⟩
  | x :: W, h1 => by
    have := slP_in (v := v) (h := h) (h1 x (List.mem_cons_self ..)) hf
    have := slN_in (v := v) (h := h) hf (W := W) fun y hy => h1 y (List.mem_cons_of_mem _ hy)
    simp only [slN, amts]
    omega
theorem sl_amts (v h f : Int) : ∀ W : List Wt, amts (slW v h f W) = amts W - slN v h f W
  | [] => rfl
  | x :: W => by
    have := sl_amts v h f W
    simp only [slW, List.map_cons, amts, slN] at *
    have e : (slX v h f x).amt = x.amt - slP v h f x := by
      unfold slX slP
      split
      · rfl
      · omega
    omega
theorem sl_step (v h f : Int) {W : List Wt} {k : Nat} {x : Wt} (hx : W[k]? = some x) : slW v h f (W.take (k + 1)) ++ W.drop (k + 1) = (slW v h f (W.take k) ++ W.drop k).set k (slX v h f x) ∧ (slW v h f (W.take k) ++ W.drop k)[k]? = some x ∧ slN v h f (W.take (k + 1)) = slN v h f (W.take k) + slP v h f x := by
  obtain ⟨hk, he⟩ := List.getElem?_eq_some_iff.1 hx
  have hl : (slW v h f (W.take k)).length = k := by unfold slW; rw [List.length_map, List.length_take]; omega
  have hd : W.drop k = x :: W.drop (k + 1) := by rw [← he]; exact List.drop_eq_getElem_cons hk
  refine ⟨?_, ?_, ?_⟩
  · rw [take_snoc hx, hd]
    unfold slW at *
    rw [List.map_append, List.set_append_right _ _ (by omega), hl, Nat.sub_self, List.append_assoc]
    rfl
  · rw [List.getElem?_append_right (by omega), hl, Nat.sub_self, hd]
    rfl
  · rw [take_snoc hx, slN_append]
    simp [slN]
theorem sl_same {v h f : Int} {x : Wt} (hx : hitW v h x = false) : slX v h f x = x ∧ slP v h f x = 0 := by
  unfold slX slP
  rw [if_neg (by simp [hx]), if_neg (by simp [hx])]
  exact ⟨rfl, rfl⟩
theorem sl_hit {v h f : Int} {x : Wt} (hx : hitW v h x = true) : slX v h f x = { x with amt := x.amt - ptN x.amt f } ∧ slP v h f x = ptN x.amt f := by
  unfold slX slP
  rw [if_pos hx, if_pos hx]
  exact ⟨rfl, rfl⟩
theorem set_same {W : List Wt} {k : Nat} {x : Wt} (h : W[k]? = some x) : W.set k x = W := by
  obtain ⟨hk, rfl⟩ := List.getElem?_eq_some_iff.1 h
  exact List.set_getElem_self hk
end Go.Proofs.YtjghbciepinofaaGreat

set_option maxRecDepth 100000
namespace Go.Proofs.YtjghbciepinofaaGreat
def slashV (x : Vd) (pb pw : Int) : Vd := { x with tok := x.tok - pb, lost := x.lost + (pb + pw) }
def slashS (s : St) (v : Nat) (h f : Int) : St := { s with b := (burnR s.b (ptN (s.V v).tok f) (slN v h f s.W)).1, V := setV s.V v (slashV (s.V v) (ptN (s.V v).tok f) (slN v h f s.W)), W := slW v h f s.W }
theorem burn_zero {b : Bk} {x y : Int} (hg : b.good = true) (hx : 0 ≤ x ∧ x ≤ b.bo) (hy : 0 ≤ y ∧ y ≤ b.wa) : (burnR b x y).2 = 0 ∧ (burnR b x y).1.good = true ∧ (burnR b x y).1.bo = b.bo - x ∧ (burnR b x y).1.wa = b.wa - y ∧ (burnR b x y).1.bu = b.bu + (x + y) := by
  have hb := (good_iff b).1 hg
  have h1 := mv_make (f := 4) (t := 6) hg hx.1 (by omega) hx.2
  have g1 := (good_mv (f := 4) (t := 6) (.inr (.inr (.inr (.inl ⟨rfl, rfl⟩)))) hg hx.1 hx.2).1
  have h2 := mv_make (f := 5) (t := 6) g1 hy.1 (by omega) (show y ≤ b.wa from hy.2)
  have g2 := (good_mv (f := 5) (t := 6) (.inr (.inr (.inr (.inr ⟨rfl, rfl⟩)))) g1 hy.1 (show y ≤ b.wa from hy.2)).1
  unfold burnR
  rw [h1]
  simp only [if_true]
  rw [h2]
  simp only [if_true]
  refine ⟨trivial, g2, rfl, rfl, ?_⟩
  show b.bu + x + y = _
  omega
theorem slX_keeps (v h f : Int) (x : Wt) : (slX v h f x).num = x.num ∧ (slX v h f x).d = x.d ∧ (slX v h f x).v = x.v ∧ (slX v h f x).hei = x.hei ∧ (slX v h f x).due = x.due ∧ (slX v h f x).amt = x.amt - slP v h f x := by
  unfold slX slP
  split
  · exact ⟨rfl, rfl, rfl, rfl, rfl, rfl⟩
  · exact ⟨rfl, rfl, rfl, rfl, rfl, by omega⟩
theorem wOk_slash {next v h f : Int} (hf : 0 ≤ f ∧ f ≤ 1000) : ∀ {W : List Wt} {last : Int}, wOk next last W = true → wOk next last (slW v h f W) = true
  | [], _, _ => rfl
  | x :: W, last, hw => by
    obtain ⟨k1, k2, k3, k4, k5, k6⟩ := slX_keeps v h f x
    simp only [wOk, wOk1, Bool.and_eq_true, decide_eq_true_eq, isD_iff, isV_iff, inA_iff] at hw
    obtain ⟨⟨⟨⟨⟨⟨⟨h1, h2⟩, h3⟩, h4⟩, h5⟩, h6⟩, h7⟩, h8⟩ := hw
    have hp := slP_in (v := v) (h := h) h5 hf
    have ih := wOk_slash (v := v) (h := h) hf h8
    simp only [slW, List.map_cons, wOk, wOk1, Bool.and_eq_true, decide_eq_true_eq, isD_iff, isV_iff, inA_iff, k1, k2, k3, k4, k5, k6]
    exact ⟨⟨⟨⟨⟨⟨⟨h1, h2⟩, h3⟩, h4⟩, by omega⟩, h6⟩, h7⟩, ih⟩
theorem plost_ge {V : Nat → Vd} (h : ∀ k, k < 6 → 0 ≤ (V k).lost) {v : Nat} (hv : v < 6) : (V v).lost ≤ plost V 6 := by
  have h0 := h 0 (by omega); have h1 := h 1 (by omega); have h2 := h 2 (by omega); have h3 := h 3 (by omega); have h4 := h 4 (by omega); have h5 := h 5 (by omega)
  simp only [plost]
  rcases six hv with rfl | rfl | rfl | rfl | rfl | rfl <;> omega
/-- the numbers of a slash -/
theorem slash_nums {s : St} (hg : goodS s = true) {v : Nat} (hv : v < 6) (h : Int) {f : Int} (hf : 0 ≤ f ∧ f ≤ 1000) : ptE (s.V v).tok f = 0 ∧ (0 ≤ ptN (s.V v).tok f ∧ ptN (s.V v).tok f ≤ (s.V v).tok) ∧ (0 ≤ slN v h f s.W ∧ slN v h f s.W ≤ s.b.wa) ∧ (s.V v).tok ≤ s.b.bo ∧ (0 ≤ (s.V v).lost ∧ (s.V v).lost ≤ s.b.bu) ∧ s.b.bo ≤ 400000 ∧ s.b.wa ≤ 400000 ∧ s.b.bu ≤ 400000 ∧ amts s.W ≤ 400000 ∧ (∀ x ∈ s.W, 0 ≤ x.amt ∧ x.amt ≤ 1125899906842624) ∧ s.W.length ≤ 60 := by
  obtain ⟨h1, h2, h3, h4, h5, h6, h7, h8, h9⟩ := (goodS_iff s).1 hg
  have hb := (good_iff s.b).1 h1
  have hx := (vOk_iff _).1 (h6 v hv).1
  have hA : ∀ x ∈ s.W, 0 ≤ x.amt ∧ x.amt ≤ 1125899906842624 := fun x hx => (wOk_mem h5 x hx).2.2.2.2.1
  have hp := pt_in hx.1 hf
  have hn := slN_in (v := v) (h := h) hf hA
  have ht := ptok_ge (fun k hk => ((vOk_iff _).1 (h6 k hk).1).1.1) hv
  have hl := plost_ge (fun k hk => ((vOk_iff _).1 (h6 k hk).1).2.2.1.1) hv
  rw [h7] at ht
  rw [h8] at hn
  rw [h9] at hl
  exact ⟨hp.1, hp.2, hn, ht, ⟨hx.2.2.1.1, hl⟩, by omega, by omega, by omega, by omega, hA, h4⟩
theorem slash_burn {s : St} (hg : goodS s = true) {v : Nat} (hv : v < 6) (h : Int) {f : Int} (hf : 0 ≤ f ∧ f ≤ 1000) : (burnR s.b (ptN (s.V v).tok f) (slN v h f s.W)).2 = 0 ∧ (slashS s v h f).b.good = true ∧ (slashS s v h f).b.bo = s.b.bo - ptN (s.V v).tok f ∧ (slashS s v h f).b.wa = s.b.wa - slN v h f s.W ∧ (slashS s v h f).b.bu = s.b.bu + (ptN (s.V v).tok f + slN v h f s.W) := by
  have hs := slash_nums hg hv h hf
  exact burn_zero ((goodS_iff s).1 hg).1 ⟨hs.2.1.1, by omega⟩ hs.2.2.1
theorem slash_good {s : St} (hg : goodS s = true) {v : Nat} (hv : v < 6) (h : Int) {f : Int} (hf : 0 ≤ f ∧ f ≤ 1000) : goodS (slashS s v h f) = true := by
  obtain ⟨b0, b1, b2, b3, b4⟩ := slash_burn hg hv h hf
  obtain ⟨n1, n2, n3, n4, n5, n6, n7, n8, n9, n10, n11⟩ := slash_nums hg hv h hf
  rw [goodS_iff] at hg ⊢
  obtain ⟨h1, h2, h3, h4, h5, h6, h7, h8, h9⟩ := hg
  have hB := (good_iff _).1 b1
  refine ⟨b1, h2, h3, ?_, wOk_slash hf h5, fun k hk => ?_, ?_, ?_, ?_⟩
  · show (slW v h f s.W).length ≤ 60
    unfold slW
    rw [List.length_map]
    exact h4
  · obtain ⟨i1, i2, i3⟩ := h6 k hk
    show vOk (setV s.V v _ k) = true ∧ pshOk s.S k 4 = true ∧ psh s.S k 4 = (setV s.V v _ k).sh
    unfold setV
    by_cases hkv : k = v
    · subst hkv
      rw [if_pos rfl]
      rw [vOk_iff] at i1
      refine ⟨?_, i2, i3⟩
      rw [vOk_iff]
      refine ⟨⟨?_, ?_⟩, i1.2.1, ⟨?_, ?_⟩, ?_, i1.2.2.2.2⟩ <;> simp only [slashV] <;> first | omega | (intro hp; exact i1.2.2.2.1 (by omega))
    · rw [if_neg hkv]
      exact ⟨i1, i2, i3⟩
  · show ptok (setV s.V v _) 6 = _
    rw [ptok_set _ _ _ hv, h7, b2]
    simp only [slashV]
    omega
  · show amts (slW v h f s.W) = _
    rw [sl_amts, h8, b3]
  · show plost (setV s.V v _) 6 = _
    rw [plost_set _ _ _ hv, h9, b4]
    simp only [slashV]
    omega
end Go.Proofs.YtjghbciepinofaaGreat

