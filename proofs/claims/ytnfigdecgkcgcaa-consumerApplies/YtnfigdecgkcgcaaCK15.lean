/- Parts of the proof: CK. -/
import Derived.Test.YtnfigdecgkcgcaaRows
import Derived.Test.YtnfigdecgkcgcaaCK14
set_option maxRecDepth 100000
namespace Go.Proofs.Ytnfigdecgkcgcaa.Cd
open Go.RowKit
theorem numF_split : ∀ (t : List Int) (x : Int), numF x t = x * 2 ^ (8 * t.length) + numF 0 t := by
  intro t
  induction t with
  | nil => intro x; simp [numF]
  | cons c t ih =>
    intro x
    have h1 : numF x (c :: t) = numF (x * 256 + c) t := rfl
    have h2 : numF 0 (c :: t) = numF (0 * 256 + c) t := rfl
    rw [h1, h2, ih (x * 256 + c), ih (0 * 256 + c), List.length_cons, pow_succ8, Int.add_mul, Int.zero_mul, Int.zero_add, Int.mul_assoc, Int.mul_comm 256]
    omega
theorem be_num (a : List Int) (h : Bytes a) : ∀ acc : Int, be (numF acc a) a.length = a := by
  induction a with
  | nil => intro _; rfl
  | cons c t ih =>
    intro acc
    have ht : Bytes t := fun x hx => h x (List.mem_cons_of_mem _ hx)
    have hc := h c (List.mem_cons_self ..)
    have h1 : numF acc (c :: t) = numF (acc * 256 + c) t := rfl
    have hb := numF_bound t 0 0 ht (by omega) (by omega)
    rw [Nat.zero_add] at hb
    rw [h1, List.length_cons, be, ih ht (acc * 256 + c), numF_split t (acc * 256 + c)]
    congr 1
    rw [Int.mul_comm, Int.add_comm, Int.add_mul_ediv_left _ _ (by have := pow_pos8 t.length; omega), Int.ediv_eq_zero_of_lt hb.1 hb.2]
    omega
theorem tk_flag {m : Nat} {st : List Int × Bool} (h : (tk m st).2.2 = false) : st.2 = false ∧ m ≤ st.1.length := by
  unfold tk at h
  split at h
  · cases h
  · exact ⟨h, by omega⟩
theorem tk_app (a l : List Int) (m : Nat) (hm : a.length = m) : tk m (a ++ l, false) = (numF 0 a, (l, false)) := by
  subst hm
  rw [tk, if_neg (by simp)]
  simp
theorem tk_read {m : Nat} {l : List Int} {x : Int} {l' : List Int} (h : tk m (l, false) = (x, (l', false))) : ∃ a, a.length = m ∧ l = a ++ l' ∧ x = numF 0 a := by
  have hf := tk_flag (m := m) (st := (l, false)) (by rw [h])
  rw [tk, if_neg (by have := hf.2; dsimp only at this ⊢; omega)] at h
  simp only [Prod.mk.injEq] at h
  obtain ⟨rfl, rfl, _⟩ := h
  exact ⟨l.take m, by rw [List.length_take]; have := hf.2; dsimp only at this; omega, (List.take_append_drop m l).symm, rfl⟩
theorem tkP_flag : ∀ (m : Nat) {st : List Int × Bool}, (tkP m st).2.2 = false → st.2 = false := by
  intro m
  induction m with
  | zero => intro st h; exact h
  | succ m ih => intro st h; exact (tk_flag (tk_flag (ih h)).1).1
theorem tkD_flag : ∀ (m : Nat) {st : List Int × Bool}, (tkD m st).2.2 = false → st.2 = false := by
  intro m
  induction m with
  | zero => intro st h; exact h
  | succ m ih => intro st h; exact (tk_flag (ih h)).1
theorem tkP_app (X : List Int) : ∀ (S : List (Int × Int)), (∀ p ∈ S, 0 ≤ p.1 ∧ p.1 < 256 ∧ 0 ≤ p.2 ∧ p.2 < 72057594037927936) → tkP S.length (S.flatMap encP ++ X, false) = (S, (X, false)) := by
  intro S
  induction S with
  | nil => intro _; rfl
  | cons p t ih =>
    intro h
    have hp := h p (List.mem_cons_self ..)
    have e1 : tk 1 ((p :: t).flatMap encP ++ X, false) = (p.1, (be p.2 7 ++ (t.flatMap encP ++ X), false)) := by
      rw [List.flatMap_cons, encP, List.append_assoc, List.append_assoc, tk_app _ _ 1 (be_length _ _), num_be hp.1 (by omega)]
    have e2 : tk 7 (be p.2 7 ++ (t.flatMap encP ++ X), false) = (p.2, (t.flatMap encP ++ X, false)) := by
      rw [tk_app _ _ 7 (be_length _ _), num_be hp.2.2.1 (by omega)]
    rw [List.length_cons, tkP, e1]
    dsimp only
    rw [e2]
    dsimp only
    rw [ih (fun q hq => h q (List.mem_cons_of_mem _ hq))]
theorem tkD_app (X : List Int) : ∀ (D : List Int), (∀ p ∈ D, 0 ≤ p ∧ p < 256) → tkD D.length (D.flatMap (be · 1) ++ X, false) = (D, (X, false)) := by
  intro D
  induction D with
  | nil => intro _; rfl
  | cons p t ih =>
    intro h
    have hp := h p (List.mem_cons_self ..)
    have e1 : tk 1 ((p :: t).flatMap (be · 1) ++ X, false) = (p, (t.flatMap (be · 1) ++ X, false)) := by
      rw [List.flatMap_cons, List.append_assoc, tk_app _ _ 1 (be_length _ _), num_be hp.1 (by omega)]
    rw [List.length_cons, tkD, e1]
    dsimp only
    rw [ih (fun q hq => h q (List.mem_cons_of_mem _ hq))]
/-- the bytes of a right packet, and something behind, are read as it was, and what is behind is left -/
theorem parse_enc {k i v n : Int} {S : List (Int × Int)} {D : List Int} (h : goodN k i v n S D = 0) (X : List Int) : parse (enc k i v n S D ++ X) = ((k, i, v, n, S, D), (X, false)) := by
  obtain ⟨b1, b2, b3, b4, b5, b6, b7, b8⟩ := good_bounds h
  obtain ⟨l1, l2, l3, l4⟩ := good_lists h
  have hS := pws_bounds S (-1) (by omega) l1
  have hD := nums_bounds D (-1) (by omega) l2
  have e0 : enc k i v n S D ++ X = be k 1 ++ (be i 6 ++ (be v 1 ++ (be n 7 ++ (be S.length 1 ++ (S.flatMap encP ++ (be D.length 1 ++ (D.flatMap (be · 1) ++ X))))))) := by simp [enc, encH]
  rw [e0]
  have e1 : p1 (be k 1 ++ (be i 6 ++ (be v 1 ++ (be n 7 ++ (be S.length 1 ++ (S.flatMap encP ++ (be D.length 1 ++ (D.flatMap (be · 1) ++ X)))))))) = (k, (be i 6 ++ (be v 1 ++ (be n 7 ++ (be S.length 1 ++ (S.flatMap encP ++ (be D.length 1 ++ (D.flatMap (be · 1) ++ X)))))), false)) := by
    rw [p1, tk_app _ _ 1 (be_length _ _), num_be (by omega) (by omega)]
  generalize be k 1 ++ (be i 6 ++ (be v 1 ++ (be n 7 ++ (be S.length 1 ++ (S.flatMap encP ++ (be D.length 1 ++ (D.flatMap (be · 1) ++ X))))))) = l at *
  have e2 : p2 l = (i, (be v 1 ++ (be n 7 ++ (be S.length 1 ++ (S.flatMap encP ++ (be D.length 1 ++ (D.flatMap (be · 1) ++ X))))), false)) := by
    rw [p2, e1]; dsimp only; rw [tk_app _ _ 6 (be_length _ _), num_be (by omega) (by omega)]
  have e3 : p3 l = (v, (be n 7 ++ (be S.length 1 ++ (S.flatMap encP ++ (be D.length 1 ++ (D.flatMap (be · 1) ++ X)))), false)) := by
    rw [p3, e2]; dsimp only; rw [tk_app _ _ 1 (be_length _ _), num_be (by omega) (by omega)]
  have e4 : p4 l = (n, (be S.length 1 ++ (S.flatMap encP ++ (be D.length 1 ++ (D.flatMap (be · 1) ++ X))), false)) := by
    rw [p4, e3]; dsimp only; rw [tk_app _ _ 7 (be_length _ _), num_be (by omega) (by omega)]
  have e5 : p5 l = ((S.length : Int), (S.flatMap encP ++ (be D.length 1 ++ (D.flatMap (be · 1) ++ X)), false)) := by
    rw [p5, e4]; dsimp only; rw [tk_app _ _ 1 (be_length _ _), num_be (by omega) (by omega)]
  have e6 : p6 l = (S, (be D.length 1 ++ (D.flatMap (be · 1) ++ X), false)) := by
    rw [p6, e5]; dsimp only; rw [Int.toNat_natCast, tkP_app _ S (fun p hp => by have := hS p hp; omega)]
  have e7 : p7 l = ((D.length : Int), (D.flatMap (be · 1) ++ X, false)) := by
    rw [p7, e6]; dsimp only; rw [tk_app _ _ 1 (be_length _ _), num_be (by omega) (by omega)]
  have e8 : p8 l = (D, (X, false)) := by
    rw [p8, e7]; dsimp only; rw [Int.toNat_natCast, tkD_app _ D (fun p hp => by have := hD p hp; omega)]
  rw [parse, e1, e2, e3, e4, e6, e8]
theorem tkP_read : ∀ (m : Nat) {l l' : List Int} {S : List (Int × Int)}, Bytes l → tkP m (l, false) = (S, (l', false)) → S.length = m ∧ l = S.flatMap encP ++ l' := by
  intro m
  induction m with
  | zero => intro l l' S _ h; simp only [tkP, Prod.mk.injEq] at h; obtain ⟨rfl, rfl, _⟩ := h; exact ⟨rfl, rfl⟩
  | succ m ih =>
    intro l l' S hb h
    rcases e1 : tk 1 (l, false) with ⟨y, l1, f1⟩
    rcases e2 : tk 7 (l1, f1) with ⟨z, l2, f2⟩
    rcases e3 : tkP m (l2, f2) with ⟨T, l3, f3⟩
    rw [tkP, e1] at h
    dsimp only at h
    rw [e2] at h
    dsimp only at h
    rw [e3] at h
    simp only [Prod.mk.injEq] at h
    obtain ⟨rfl, rfl, rfl⟩ := h
    have g2 := tkP_flag m (st := (l2, f2)) (by rw [e3])
    dsimp only at g2
    subst g2
    have g1 := (tk_flag (m := 7) (st := (l1, f1)) (by rw [e2])).1
    dsimp only at g1
    subst g1
    obtain ⟨a, ha, rfl, rfl⟩ := tk_read e1
    obtain ⟨c, hc, rfl, rfl⟩ := tk_read e2
    have ba : Bytes a := fun x hx => hb x (by simp [hx])
    have bc : Bytes c := fun x hx => hb x (by simp [hx])
    have b2 : Bytes l2 := fun x hx => hb x (by simp [hx])
    obtain ⟨r1, r2⟩ := ih b2 e3
    refine ⟨by simp [r1], ?_⟩
    have q1 := be_num a ba 0
    have q2 := be_num c bc 0
    rw [ha] at q1
    rw [hc] at q2
    rw [List.flatMap_cons, encP]
    dsimp only
    rw [q1, q2, List.append_assoc, List.append_assoc, ← r2]
theorem tkD_read : ∀ (m : Nat) {l l' : List Int} {D : List Int}, Bytes l → tkD m (l, false) = (D, (l', false)) → D.length = m ∧ l = D.flatMap (be · 1) ++ l' := by
  intro m
  induction m with
  | zero => intro l l' S _ h; simp only [tkD, Prod.mk.injEq] at h; obtain ⟨rfl, rfl, _⟩ := h; exact ⟨rfl, rfl⟩
  | succ m ih =>
    intro l l' S hb h
    rcases e1 : tk 1 (l, false) with ⟨y, l1, f1⟩
    rcases e3 : tkD m (l1, f1) with ⟨T, l3, f3⟩
    rw [tkD, e1] at h
    dsimp only at h
    rw [e3] at h
    simp only [Prod.mk.injEq] at h
    obtain ⟨rfl, rfl, rfl⟩ := h
    have g1 := tkD_flag m (st := (l1, f1)) (by rw [e3])
    dsimp only at g1
    subst g1
    obtain ⟨a, ha, rfl, rfl⟩ := tk_read e1
    have ba : Bytes a := fun x hx => hb x (by simp [hx])
    have b2 : Bytes l1 := fun x hx => hb x (by simp [hx])
    obtain ⟨r1, r2⟩ := ih b2 e3
    refine ⟨by simp [r1], ?_⟩
    have q1 := be_num a ba 0
    rw [ha] at q1
    rw [List.flatMap_cons, q1, List.append_assoc, ← r2]
/-- what is read without want has just these bytes, and what is left -/
theorem parse_read {l r : List Int} {k i v n : Int} {S : List (Int × Int)} {D : List Int} (hb : Bytes l) (h : parse l = ((k, i, v, n, S, D), (r, false))) : l = enc k i v n S D ++ r := by
  have hbd := parse_bounds l hb
  rcases e1 : p1 l with ⟨x1, l1, f1⟩
  rcases e2 : p2 l with ⟨x2, l2, f2⟩
  rcases e3 : p3 l with ⟨x3, l3, f3⟩
  rcases e4 : p4 l with ⟨x4, l4, f4⟩
  rcases e5 : p5 l with ⟨c, l5, f5⟩
  rcases e6 : p6 l with ⟨S', l6, f6⟩
  rcases e7 : p7 l with ⟨d, l7, f7⟩
  rcases e8 : p8 l with ⟨D', l8, f8⟩
  rw [parse, e1, e2, e3, e4, e6, e8] at h
  simp only [Prod.mk.injEq] at h
  obtain ⟨⟨rfl, rfl, rfl, rfl, rfl, rfl⟩, rfl, rfl⟩ := h
  rw [e5, e7] at hbd
  dsimp only at hbd
  have n1 := e1
  rw [p1] at n1
  have n2 := e2
  rw [p2, e1] at n2
  dsimp only at n2
  have n3 := e3
  rw [p3, e2] at n3
  dsimp only at n3
  have n4 := e4
  rw [p4, e3] at n4
  dsimp only at n4
  have n5 := e5
  rw [p5, e4] at n5
  dsimp only at n5
  have n6 := e6
  rw [p6, e5] at n6
  dsimp only at n6
  have n7 := e7
  rw [p7, e6] at n7
  dsimp only at n7
  have n8 := e8
  rw [p8, e7] at n8
  dsimp only at n8
  clear e1 e2 e3 e4 e5 e6 e7 e8
  have g7 := tkD_flag d.toNat (st := (l7, f7)) (by rw [n8])
  dsimp only at g7
  subst g7
  have g6 := (tk_flag (m := 1) (st := (l6, f6)) (by rw [n7])).1
  dsimp only at g6
  subst g6
  have g5 := tkP_flag c.toNat (st := (l5, f5)) (by rw [n6])
  dsimp only at g5
  subst g5
  have g4 := (tk_flag (m := 1) (st := (l4, f4)) (by rw [n5])).1
  dsimp only at g4
  subst g4
  have g3 := (tk_flag (m := 7) (st := (l3, f3)) (by rw [n4])).1
  dsimp only at g3
  subst g3
  have g2 := (tk_flag (m := 1) (st := (l2, f2)) (by rw [n3])).1
  dsimp only at g2
  subst g2
  have g1 := (tk_flag (m := 6) (st := (l1, f1)) (by rw [n2])).1
  dsimp only at g1
  subst g1
  obtain ⟨a1, h1, rfl, rfl⟩ := tk_read n1
  obtain ⟨a2, h2, rfl, rfl⟩ := tk_read n2
  obtain ⟨a3, h3, rfl, rfl⟩ := tk_read n3
  obtain ⟨a4, h4, rfl, rfl⟩ := tk_read n4
  obtain ⟨a5, h5, rfl, rfl⟩ := tk_read n5
  have b5 : Bytes l5 := fun x hx => hb x (by simp [hx])
  obtain ⟨r1, r2⟩ := tkP_read _ b5 n6
  obtain ⟨a7, h7, rfl, rfl⟩ := tk_read n7
  have b7 : Bytes l7 := fun x hx => hb x (by rw [r2]; simp [hx])
  obtain ⟨r3, r4⟩ := tkD_read _ b7 n8
  have q1 := be_num a1 (fun x hx => hb x (by simp [hx])) 0
  have q2 := be_num a2 (fun x hx => hb x (by simp [hx])) 0
  have q3 := be_num a3 (fun x hx => hb x (by simp [hx])) 0
  have q4 := be_num a4 (fun x hx => hb x (by simp [hx])) 0
  have q5 := be_num a5 (fun x hx => hb x (by simp [hx])) 0
  have q7 := be_num a7 (fun x hx => hb x (by rw [r2]; simp [hx])) 0
  rw [h1] at q1
  rw [h2] at q2
  rw [h3] at q3
  rw [h4] at q4
  rw [h5] at q5
  rw [h7] at q7
  have w5 : (S'.length : Int) = numF 0 a5 := by omega
  have w7 : (D'.length : Int) = numF 0 a7 := by omega
  unfold enc encH
  rw [q1, q2, q3, q4, w5, q5, w7, q7, r2, r4]
  simp
/-- what Decode answers, in words -/
theorem decE_read {l : List Int} (hb : Bytes l) (h : decE l = 0) : goodN (decP l).1 (decP l).2.1 (decP l).2.2.1 (decP l).2.2.2.1 (decP l).2.2.2.2.1 (decP l).2.2.2.2.2 = 0 ∧ enc (decP l).1 (decP l).2.1 (decP l).2.2.1 (decP l).2.2.2.1 (decP l).2.2.2.2.1 (decP l).2.2.2.2.2 = l := by
  have hP : decP l = (parse l).1 := by rw [decP, if_pos h]
  rw [hP]
  unfold decE at h
  split at h
  · rename_i h2
    rcases e : parse l with ⟨⟨k', i', v', n', S', D'⟩, st⟩
    rw [e] at h h2
    dsimp only at h2
    subst h2
    have h3 := parse_read hb e
    rw [List.append_nil] at h3
    exact ⟨h, h3.symm⟩
  · cases h
theorem dec_enc {k i v n : Int} {S : List (Int × Int)} {D : List Int} (h : goodN k i v n S D = 0) : decE (enc k i v n S D) = 0 ∧ decP (enc k i v n S D) = (k, i, v, n, S, D) := by
  have h4 := parse_enc h []
  rw [List.append_nil] at h4
  have hE : decE (enc k i v n S D) = 0 := by rw [decE, h4, if_pos rfl]; exact h
  exact ⟨hE, by rw [decP, if_pos hE, h4]⟩
end Go.Proofs.Ytnfigdecgkcgcaa.Cd

