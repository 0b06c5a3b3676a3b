/- Parts of the proof: PKP PKE. -/
import Derived.Test.YtjghbciepinofaaGreatRows
import Derived.Test.YtjghbciepinofaaGreatPEK19
import Derived.Test.YtjghbciepinofaaGreatPEK46
import Derived.Test.YtjghbciepinofaaGreatPEK53
import Derived.Test.YtjghbciepinofaaGreatPEK54
set_option maxRecDepth 100000
namespace Go.Proofs.YtjghbciepinofaaGreat.Pv
open Go.RowKit
theorem setB_mem : ∀ (l : List (Int × Int)) (a : Int), setB a l = true → ∀ x ∈ l, a < x.1 ∧ x.1 ≤ 5 ∧ 1 ≤ x.2 ∧ x.2 ≤ 1125899906842624
  | [], _, _, x, hx => by cases hx
  | y :: l, a, h, x, hx => by
    simp only [setB, setB1, Bool.and_eq_true, decide_eq_true_eq] at h
    rcases List.mem_cons.1 hx with rfl | hx
    · exact ⟨h.1.1.1.1, h.1.1.1.2, h.1.1.2, h.1.2⟩
    · have := setB_mem l y.1 h.2 x hx
      exact ⟨by omega, this.2⟩
theorem setB_ext : ∀ (l m : List (Int × Int)) (a b : Int), setB a l = true → setB b m = true → (∀ x, x ∈ l ↔ x ∈ m) → l = m
  | [], [], _, _, _, _, _ => rfl
  | [], y :: m, _, _, _, _, h => by have := (h y).2 (List.mem_cons_self); cases this
  | x :: l, [], _, _, _, _, h => by have := (h x).1 (List.mem_cons_self); cases this
  | x :: l, y :: m, a, b, hl, hm, h => by
    simp only [setB, Bool.and_eq_true] at hl hm
    have e : x = y := by
      rcases List.mem_cons.1 ((h x).1 List.mem_cons_self) with h1 | h1
      · exact h1
      · rcases List.mem_cons.1 ((h y).2 List.mem_cons_self) with h2 | h2
        · exact h2.symm
        · have := (setB_mem m y.1 hm.2 x h1).1
          have := (setB_mem l x.1 hl.2 y h2).1
          omega
    subst e
    rw [setB_ext l m x.1 x.1 hl.2 hm.2 fun z => ⟨fun hz => ?_, fun hz => ?_⟩]
    · rcases List.mem_cons.1 ((h z).1 (List.mem_cons_of_mem _ hz)) with h1 | h1
      · have := (setB_mem l x.1 hl.2 z hz).1
        rw [h1] at this; omega
      · exact h1
    · rcases List.mem_cons.1 ((h z).2 (List.mem_cons_of_mem _ hz)) with h1 | h1
      · have := (setB_mem m x.1 hm.2 z hz).1
        rw [h1] at this; omega
      · exact h1
/-- rising, with powers: a set -/
theorem setB_of : ∀ (l : List (Int × Int)) (a : Int), (∀ x ∈ l, a < x.1 ∧ x.1 ≤ 5 ∧ 1 ≤ x.2 ∧ x.2 ≤ 1125899906842624) → l.Pairwise (fun x y => x.1 < y.1) → setB a l = true
  | [], _, _, _ => rfl
  | y :: l, a, h, hp => by
    have hy := h y List.mem_cons_self
    have hp' := List.pairwise_cons.1 hp
    simp only [setB, setB1, Bool.and_eq_true, decide_eq_true_eq]
    exact ⟨⟨⟨⟨hy.1, hy.2.1⟩, hy.2.2.1⟩, hy.2.2.2⟩, setB_of l y.1 (fun x hx => ⟨hp'.1 x hx, (h x (List.mem_cons_of_mem _ hx)).2⟩) hp'.2⟩
theorem those_mem (c : Nat → Bool) (f : Nat → Int) (x : Int × Int) : ∀ n, x ∈ Df.those c f n ↔ ∃ i : Nat, i < n ∧ c i = true ∧ x = ((i : Int), f i)
  | 0 => by simp [Df.those]
  | n + 1 => by
    rw [Df.those_succ]
    have ih := those_mem c f x n
    by_cases h : c n = true
    · rw [if_pos h, List.mem_append, ih, List.mem_singleton]
      constructor
      · rintro (⟨i, hi, h1⟩ | rfl)
        · exact ⟨i, by omega, h1⟩
        · exact ⟨n, by omega, h, rfl⟩
      · rintro ⟨i, hi, h1⟩
        rcases Nat.lt_or_ge i n with h2 | h2
        · exact .inl ⟨i, h2, h1⟩
        · obtain rfl : i = n := by omega
          exact .inr h1.2
    · rw [if_neg h, ih]
      constructor
      · rintro ⟨i, hi, h1⟩
        exact ⟨i, by omega, h1⟩
      · rintro ⟨i, hi, h1⟩
        rcases Nat.lt_or_ge i n with h2 | h2
        · exact ⟨i, h2, h1⟩
        · obtain rfl : i = n := by omega
          exact absurd h1.1 h
theorem those_rise (c : Nat → Bool) (f : Nat → Int) : ∀ n, (Df.those c f n).Pairwise (fun x y => x.1 < y.1)
  | 0 => by simp [Df.those]
  | n + 1 => by
    rw [Df.those_succ]
    split
    · rw [List.pairwise_append]
      refine ⟨those_rise c f n, List.pairwise_singleton _ _, fun a ha b hb => ?_⟩
      obtain ⟨i, hi, -, rfl⟩ := (those_mem c f a n).1 ha
      rw [List.mem_singleton] at hb
      subst hb
      show (i : Int) < (n : Int)
      omega
    · exact those_rise c f n
theorem last_mem : ∀ (l : List (Int × Int)) (a : Int) (P : Nat → Int), -1 ≤ a → setB a l = true → (∀ x ∈ l, Df.lastP P l x.1.toNat = x.2) ∧ ∀ i : Nat, (∀ x ∈ l, x.1 ≠ (i : Int)) → Df.lastP P l i = P i
  | [], _, P, _, _ => ⟨fun x hx => (by cases hx), fun _ _ => rfl⟩
  | y :: l, a, P, ha, h => by
    have hm := setB_mem (y :: l) a h
    have hy := hm y List.mem_cons_self
    simp only [setB, Bool.and_eq_true] at h
    obtain ⟨h1, h2⟩ := last_mem l y.1 (Df.putP P y) (by omega) h.2
    have hl := setB_mem l y.1 h.2
    have hput : ∀ i, Df.putP P y i = if i = y.1.toNat then y.2 else P i := fun i => by
      unfold Df.putP
      rw [if_pos (by omega)]
    refine ⟨fun x hx => ?_, fun i hi => ?_⟩
    · show Df.lastP (Df.putP P y) l x.1.toNat = x.2
      rcases List.mem_cons.1 hx with rfl | hx
      · rw [h2 _ (fun z hz => by have := (hl z hz).1; omega), hput, if_pos rfl]
      · exact h1 x hx
    · show Df.lastP (Df.putP P y) l i = P i
      rw [h2 i (fun z hz => hi z (List.mem_cons_of_mem _ hz)), hput, if_neg (by have := hi y List.mem_cons_self; omega)]
/-- a set is what its powers say -/
theorem set_of {l : List (Int × Int)} (h : setB (-1) l = true) : l = Df.setOf (Df.lastP Df.zeroP l) ∧ ∀ i, 0 ≤ Df.lastP Df.zeroP l i := by
  obtain ⟨h1, h2⟩ := last_mem l (-1) Df.zeroP (by omega) h
  have hm := setB_mem l (-1) h
  have hz : ∀ i : Nat, (∃ x ∈ l, x.1 = (i : Int) ∧ Df.lastP Df.zeroP l i = x.2) ∨ ((∀ x ∈ l, x.1 ≠ (i : Int)) ∧ Df.lastP Df.zeroP l i = 0) := fun i => by
    by_cases e : ∃ x ∈ l, x.1 = (i : Int)
    · obtain ⟨x, hx, ex⟩ := e
      have := h1 x hx
      rw [ex, Int.toNat_natCast] at this
      exact .inl ⟨x, hx, ex, this⟩
    · have e' : ∀ x ∈ l, x.1 ≠ (i : Int) := fun x hx hxe => e ⟨x, hx, hxe⟩
      exact .inr ⟨e', h2 i e'⟩
  have hn : ∀ i, 0 ≤ Df.lastP Df.zeroP l i := fun i => by
    rcases hz i with ⟨x, hx, -, e⟩ | ⟨-, e⟩
    · rw [e]; have := hm x hx; omega
    · rw [e]; omega
  refine ⟨?_, hn⟩
  have hmem : ∀ x, x ∈ l ↔ x ∈ Df.setOf (Df.lastP Df.zeroP l) := fun x => by
    unfold Df.setOf
    rw [those_mem]
    constructor
    · intro hx
      have hb := hm x hx
      have e := h1 x hx
      exact ⟨x.1.toNat, by omega, by rw [e]; simp; omega, by rw [e]; ext <;> simp; omega⟩
    · rintro ⟨i, hi, hc, rfl⟩
      rcases hz i with ⟨x, hx, ex, e⟩ | ⟨-, e⟩
      · rw [e, ← ex]; exact hx
      · rw [e] at hc; simp at hc
  refine setB_ext l _ (-1) (-1) h (setB_of _ (-1) (fun x hx => ?_) (those_rise _ _ 6)) hmem
  exact hm x ((hmem x).2 hx)
/-- what changes leads from one set to another -/
theorem set_apply {l m : List (Int × Int)} (hl : setB (-1) l = true) (hm : setB (-1) m = true) : Df.applyL l (Df.diffL l m) = m := by
  obtain ⟨e1, n1⟩ := set_of hl
  obtain ⟨e2, n2⟩ := set_of hm
  rw [e1, e2]
  exact Df.apply_diff n1 n2
/-- the set of a good stake -/
theorem setS_set {V : Nat → Vd} (hV : ∀ k, k < 6 → (V k).tok ≤ 1125899906842624) : setB (-1) (setS V) = true := by
  refine setB_of _ _ (fun x hx => ?_) ?_
  · obtain ⟨i, hi, rfl, hp, -⟩ := set_in V x hx
    have := hV i hi
    unfold pwr at *
    refine ⟨by show (-1 : Int) < (i : Int); omega, by show (i : Int) ≤ 5; omega, by show 1 ≤ (V i).tok / 100; omega, by show (V i).tok / 100 ≤ _; omega⟩
  · have hs := isort_srt ordV ((isort ltP (cand V 6)).take 4)
    have hnd : (setS V).Pairwise (fun a b => a.1 ≠ b.1) := by
      have h1 : (isort ltP (cand V 6)).Pairwise (fun a b => a.1 ≠ b.1) := (isort_perm ltP (cand V 6)).symm.pairwise (cand_nodup V 6) (fun h => h.symm)
      exact (isort_perm ltV _).symm.pairwise (h1.sublist (List.take_sublist _ _)) (fun h => h.symm)
    rw [List.pairwise_iff_getElem] at hnd ⊢
    intro i j hi hj hij
    have hlen : (setS V).length = ((isort ltP (cand V 6)).take 4).length := (isort_perm ltV _).length_eq
    have h1 := hs i j hij (by omega)
    rw [ltV_no] at h1
    have h2 := hnd i j hi hj hij
    have e1 : (isort ltV ((isort ltP (cand V 6)).take 4)).getD i pz = (setS V)[i] := by show (setS V).getD i pz = _; simp [List.getD, hi]
    have e2 : (isort ltV ((isort ltP (cand V 6)).take 4)).getD j pz = (setS V)[j] := by show (setS V).getD j pz = _; simp [List.getD, hj]
    rw [e1, e2] at h1
    omega
end Go.Proofs.YtjghbciepinofaaGreat.Pv

set_option maxRecDepth 100000
namespace Go.Proofs.YtjghbciepinofaaGreat.Pv
open Go.RowKit
/-- a link of which nothing but what is done has turned -/
structure LSame (y x : Lk) : Prop where
  on : x.on = y.on
  gone : x.gone = y.gone
  base : x.base = y.base
  told : x.told = y.told
  fresh : x.fresh = y.fresh
  out : x.out = y.out
  hd : x.h0 = y.h0 ∧ x.h1 = y.h1 ∧ x.h2 = y.h2 ∧ x.h3 = y.h3
theorem LSame.refl (y : Lk) : LSame y y := ⟨rfl, rfl, rfl, rfl, rfl, rfl, rfl, rfl, rfl, rfl⟩
theorem LSame.trans {a b c : Lk} (h : LSame a b) (k : LSame b c) : LSame a c := ⟨k.on.trans h.on, k.gone.trans h.gone, k.base.trans h.base, k.told.trans h.told, k.fresh.trans h.fresh, k.out.trans h.out, k.hd.1.trans h.hd.1, k.hd.2.1.trans h.hd.2.1, k.hd.2.2.1.trans h.hd.2.2.1, k.hd.2.2.2.trans h.hd.2.2.2⟩
theorem LSame.done (L : Nat → Lk) (c : Nat) (l : List Int) (k : Nat) : LSame (L k) (updL L c { L c with done := l } k) := by
  unfold updL
  by_cases e : k = c
  · subst e; rw [if_pos rfl]; exact ⟨rfl, rfl, rfl, rfl, rfl, rfl, rfl, rfl, rfl, rfl⟩
  · rw [if_neg e]; exact LSame.refl _
/-- what dealing with packets leaves -/
structure DSame (p r : Pr) : Prop where
  h : r.h = p.h
  t : r.t = p.t
  set : r.set = p.set
  mn : r.mn = p.mn
  lk : ∀ k, LSame (p.L k) (r.L k)
theorem DSame.refl (p : Pr) : DSame p p := ⟨rfl, rfl, rfl, rfl, fun _ => LSame.refl _⟩
theorem DSame.trans {a b c : Pr} (h : DSame a b) (k : DSame b c) : DSame a c := ⟨k.h.trans h.h, k.t.trans h.t, k.set.trans h.set, k.mn.trans h.mn, fun i => (h.lk i).trans (k.lk i)⟩
theorem deal_same (p : Pr) (c : Nat) (x : Pkt) : DSame p (dealP p c x).1 := by
  unfold dealP
  repeat' split
  all_goals first | exact DSame.refl p | exact ⟨rfl, rfl, rfl, rfl, fun _ => LSame.refl _⟩ | exact ⟨rfl, rfl, rfl, rfl, fun k => LSame.done _ _ _ k⟩
theorem steps_same : ∀ (l : List (Int × Pkt)) (z : QS), DSame z.p (l.foldl stepQ z).p
  | [], z => DSame.refl _
  | a :: l, z => by
    rw [List.foldl_cons]
    refine DSame.trans ?_ (steps_same l (stepQ z a))
    unfold stepQ
    split
    · exact DSame.refl _
    · split
      · exact deal_same _ _ _
      · exact DSame.refl _
theorem queue_same (p : Pr) : DSame p (queueP p) := by
  have h := steps_same p.q ⟨p, fun _ => false, []⟩
  exact ⟨h.h, h.t, h.set, h.mn, h.lk⟩
/-- what a telling leaves -/
theorem tell_offk (p : Pr) (c k : Nat) (h : k ≠ c) : (tellP p c).L k = p.L k := by
  unfold tellP
  repeat' split
  all_goals first | rfl | (show updL p.L c _ k = p.L k; unfold updL; rw [if_neg h])
theorem tell_rest (p : Pr) (c : Nat) : (tellP p c).h = p.h ∧ (tellP p c).t = p.t ∧ (tellP p c).s = p.s ∧ (tellP p c).set = p.set ∧ (tellP p c).ml = p.ml ∧ (tellP p c).mn = p.mn ∧ (tellP p c).q = p.q := by
  unfold tellP
  repeat' split
  all_goals exact ⟨rfl, rfl, rfl, rfl, rfl, rfl, rfl⟩
theorem diff_len6 (a d : List (Int × Int)) : (Df.diffL a d).length ≤ 6 := Df.those_len _ _ 6
end Go.Proofs.YtjghbciepinofaaGreat.Pv

