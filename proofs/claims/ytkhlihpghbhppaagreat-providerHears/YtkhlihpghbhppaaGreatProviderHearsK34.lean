/- Parts of the proof: CK CJ CDP0. -/
import Derived.Test.YtkhlihpghbhppaaGreatRows
import Derived.Test.YtkhlihpghbhppaaGreatProviderHearsK8
import Derived.Test.YtkhlihpghbhppaaGreatProviderHearsK23
import Derived.Test.YtkhlihpghbhppaaGreatProviderHearsK36
import Derived.Deep.DeepCutAuto
import Derived.Deep.RegionWith
import Derived.Deep.RegionHeld3
set_option maxRecDepth 100000
namespace Go.Proofs.YtkhlihpghbhppaaGreat.Cd
open Go.RowKit
theorem numF_split : ∀ (t : List Int) (x : Int), numF x t = x * 2 ^ (8 * t.length) + numF 0 t := by
  intro t
  induction t with
  | nil => intro x; simp [numF]
  | cons c t ih =>
    intro x
    have h1 : numF x (c :: t) = numF (x * 256 + c) t := rfl
    have h2 : numF 0 (c :: t) = numF (0 * 256 + c) t := rfl
    rw [h1, h2, ih (x * 256 + c), ih (0 * 256 + c), List.length_cons, pow_succ8, Int.add_mul, Int.zero_mul, Int.zero_add, Int.mul_assoc, Int.mul_comm 256]
    omega
theorem be_num (a : List Int) (h : Bytes a) : ∀ acc : Int, be (numF acc a) a.length = a := by
  induction a with
  | nil => intro _; rfl
  | cons c t ih =>
    intro acc
    have ht : Bytes t := fun x hx => h x (List.mem_cons_of_mem _ hx)
    have hc := h c (List.mem_cons_self ..)
    have h1 : numF acc (c :: t) = numF (acc * 256 + c) t := rfl
    have hb := numF_bound t 0 0 ht (by omega) (by omega)
    rw [Nat.zero_add] at hb
    rw [h1, List.length_cons, be, ih ht (acc * 256 + c), numF_split t (acc * 256 + c)]
    congr 1
    rw [Int.mul_comm, Int.add_comm, Int.add_mul_ediv_left _ _ (by have := pow_pos8 t.length; omega), Int.ediv_eq_zero_of_lt hb.1 hb.2]
    omega
theorem tk_flag {m : Nat} {st : List Int × Bool} (h : (tk m st).2.2 = false) : st.2 = false ∧ m ≤ st.1.length := by
  unfold tk at h
  split at h
  · cases h
  · exact ⟨h, by omega⟩
theorem tk_read {m : Nat} {l : List Int} {x : Int} {l' : List Int} (h : tk m (l, false) = (x, (l', false))) : ∃ a, a.length = m ∧ l = a ++ l' ∧ x = numF 0 a := by
  have hf := tk_flag (m := m) (st := (l, false)) (by rw [h])
  rw [tk, if_neg (by have := hf.2; dsimp only at this ⊢; omega)] at h
  simp only [Prod.mk.injEq] at h
  obtain ⟨rfl, rfl, _⟩ := h
  exact ⟨l.take m, by rw [List.length_take]; have := hf.2; dsimp only at this; omega, (List.take_append_drop m l).symm, rfl⟩
theorem tkP_flag : ∀ (m : Nat) {st : List Int × Bool}, (tkP m st).2.2 = false → st.2 = false := by
  intro m
  induction m with
  | zero => intro st h; exact h
  | succ m ih => intro st h; exact (tk_flag (tk_flag (ih h)).1).1
theorem tkD_flag : ∀ (m : Nat) {st : List Int × Bool}, (tkD m st).2.2 = false → st.2 = false := by
  intro m
  induction m with
  | zero => intro st h; exact h
  | succ m ih => intro st h; exact (tk_flag (ih h)).1
theorem tkP_read : ∀ (m : Nat) {l l' : List Int} {S : List (Int × Int)}, Bytes l → tkP m (l, false) = (S, (l', false)) → S.length = m ∧ l = S.flatMap encP ++ l' := by
  intro m
  induction m with
  | zero => intro l l' S _ h; simp only [tkP, Prod.mk.injEq] at h; obtain ⟨rfl, rfl, _⟩ := h; exact ⟨rfl, rfl⟩
  | succ m ih =>
    intro l l' S hb h
    rcases e1 : tk 1 (l, false) with ⟨y, l1, f1⟩
    rcases e2 : tk 7 (l1, f1) with ⟨z, l2, f2⟩
    rcases e3 : tkP m (l2, f2) with ⟨T, l3, f3⟩
    rw [tkP, e1] at h
    dsimp only at h
    rw [e2] at h
    dsimp only at h
    rw [e3] at h
    simp only [Prod.mk.injEq] at h
    obtain ⟨rfl, rfl, rfl⟩ := h
    have g2 := tkP_flag m (st := (l2, f2)) (by rw [e3])
    dsimp only at g2
    subst g2
    have g1 := (tk_flag (m := 7) (st := (l1, f1)) (by rw [e2])).1
    dsimp only at g1
    subst g1
    obtain ⟨a, ha, rfl, rfl⟩ := tk_read e1
    obtain ⟨c, hc, rfl, rfl⟩ := tk_read e2
    have ba : Bytes a := fun x hx => hb x (by simp [hx])
    have bc : Bytes c := fun x hx => hb x (by simp [hx])
    have b2 : Bytes l2 := fun x hx => hb x (by simp [hx])
    obtain ⟨r1, r2⟩ := ih b2 e3
    refine ⟨by simp [r1], ?_⟩
    have q1 := be_num a ba 0
    have q2 := be_num c bc 0
    rw [ha] at q1
    rw [hc] at q2
    rw [List.flatMap_cons, encP]
    dsimp only
    rw [q1, q2, List.append_assoc, List.append_assoc, ← r2]
theorem tkD_read : ∀ (m : Nat) {l l' : List Int} {D : List Int}, Bytes l → tkD m (l, false) = (D, (l', false)) → D.length = m ∧ l = D.flatMap (be · 1) ++ l' := by
  intro m
  induction m with
  | zero => intro l l' S _ h; simp only [tkD, Prod.mk.injEq] at h; obtain ⟨rfl, rfl, _⟩ := h; exact ⟨rfl, rfl⟩
  | succ m ih =>
    intro l l' S hb h
    rcases e1 : tk 1 (l, false) with ⟨y, l1, f1⟩
    rcases e3 : tkD m (l1, f1) with ⟨T, l3, f3⟩
    rw [tkD, e1] at h
    dsimp only at h
    rw [e3] at h
    simp only [Prod.mk.injEq] at h
    obtain ⟨rfl, rfl, rfl⟩ := h
    have g1 := tkD_flag m (st := (l1, f1)) (by rw [e3])
    dsimp only at g1
    subst g1
    obtain ⟨a, ha, rfl, rfl⟩ := tk_read e1
    have ba : Bytes a := fun x hx => hb x (by simp [hx])
    have b2 : Bytes l1 := fun x hx => hb x (by simp [hx])
    obtain ⟨r1, r2⟩ := ih b2 e3
    refine ⟨by simp [r1], ?_⟩
    have q1 := be_num a ba 0
    rw [ha] at q1
    rw [List.flatMap_cons, q1, List.append_assoc, ← r2]
/-- what is read without want has just these bytes, and what is left -/
theorem parse_read {l r : List Int} {k i v n : Int} {S : List (Int × Int)} {D : List Int} (hb : Bytes l) (h : parse l = ((k, i, v, n, S, D), (r, false))) : l = enc k i v n S D ++ r := by
  have hbd := parse_bounds l hb
  rcases e1 : p1 l with ⟨x1, l1, f1⟩
  rcases e2 : p2 l with ⟨x2, l2, f2⟩
  rcases e3 : p3 l with ⟨x3, l3, f3⟩
  rcases e4 : p4 l with ⟨x4, l4, f4⟩
  rcases e5 : p5 l with ⟨c, l5, f5⟩
  rcases e6 : p6 l with ⟨S', l6, f6⟩
  rcases e7 : p7 l with ⟨d, l7, f7⟩
  rcases e8 : p8 l with ⟨D', l8, f8⟩
  rw [parse, e1, e2, e3, e4, e6, e8] at h
  simp only [Prod.mk.injEq] at h
  obtain ⟨⟨rfl, rfl, rfl, rfl, rfl, rfl⟩, rfl, rfl⟩ := h
  rw [e5, e7] at hbd
  dsimp only at hbd
  have n1 := e1
  rw [p1] at n1
  have n2 := e2
  rw [p2, e1] at n2
  dsimp only at n2
  have n3 := e3
  rw [p3, e2] at n3
  dsimp only at n3
  have n4 := e4
  rw [p4, e3] at n4
  dsimp only at n4
  have n5 := e5
  rw [p5, e4] at n5
  dsimp only at n5
  have n6 := e6
  rw [p6, e5] at n6
  dsimp only at n6
  have n7 := e7
  rw [p7, e6] at n7
  dsimp only at n7
  have n8 := e8
  rw [p8, e7] at n8
  dsimp only at n8
  clear e1 e2 e3 e4 e5 e6 e7 e8
  have g7 := tkD_flag d.toNat (st := (l7, f7)) (by rw [n8])
  dsimp only at g7
  subst g7
  have g6 := (tk_flag (m := 1) (st := (l6, f6)) (by rw [n7])).1
  dsimp only at g6
  subst g6
  have g5 := tkP_flag c.toNat (st := (l5, f5)) (by rw [n6])
  dsimp only at g5
  subst g5
  have g4 := (tk_flag (m := 1) (st := (l4, f4)) (by rw [n5])).1
  dsimp only at g4
  subst g4
  have g3 := (tk_flag (m := 7) (st := (l3, f3)) (by rw [n4])).1
  dsimp only at g3
  subst g3
  have g2 := (tk_flag (m := 1) (st := (l2, f2)) (by rw [n3])).1
  dsimp only at g2
  subst g2
  have g1 := (tk_flag (m := 6) (st := (l1, f1)) (by rw [n2])).1
  dsimp only at g1
  subst g1
  obtain ⟨a1, h1, rfl, rfl⟩ := tk_read n1
  obtain ⟨a2, h2, rfl, rfl⟩ := tk_read n2
  obtain ⟨a3, h3, rfl, rfl⟩ := tk_read n3
  obtain ⟨a4, h4, rfl, rfl⟩ := tk_read n4
  obtain ⟨a5, h5, rfl, rfl⟩ := tk_read n5
  have b5 : Bytes l5 := fun x hx => hb x (by simp [hx])
  obtain ⟨r1, r2⟩ := tkP_read _ b5 n6
  obtain ⟨a7, h7, rfl, rfl⟩ := tk_read n7
  have b7 : Bytes l7 := fun x hx => hb x (by rw [r2]; simp [hx])
  obtain ⟨r3, r4⟩ := tkD_read _ b7 n8
  have q1 := be_num a1 (fun x hx => hb x (by simp [hx])) 0
  have q2 := be_num a2 (fun x hx => hb x (by simp [hx])) 0
  have q3 := be_num a3 (fun x hx => hb x (by simp [hx])) 0
  have q4 := be_num a4 (fun x hx => hb x (by simp [hx])) 0
  have q5 := be_num a5 (fun x hx => hb x (by simp [hx])) 0
  have q7 := be_num a7 (fun x hx => hb x (by rw [r2]; simp [hx])) 0
  rw [h1] at q1
  rw [h2] at q2
  rw [h3] at q3
  rw [h4] at q4
  rw [h5] at q5
  rw [h7] at q7
  have w5 : (S'.length : Int) = numF 0 a5 := by omega
  have w7 : (D'.length : Int) = numF 0 a7 := by omega
  unfold enc encH
  rw [q1, q2, q3, q4, w5, q5, w7, q7, r2, r4]
  simp
/-- what Decode answers, in words -/
theorem decE_read {l : List Int} (hb : Bytes l) (h : decE l = 0) : goodN (decP l).1 (decP l).2.1 (decP l).2.2.1 (decP l).2.2.2.1 (decP l).2.2.2.2.1 (decP l).2.2.2.2.2 = 0 ∧ enc (decP l).1 (decP l).2.1 (decP l).2.2.1 (decP l).2.2.2.1 (decP l).2.2.2.2.1 (decP l).2.2.2.2.2 = l := by
  have hP : decP l = (parse l).1 := by rw [decP, if_pos h]
  rw [hP]
  unfold decE at h
  split at h
  · rename_i h2
    rcases e : parse l with ⟨⟨k', i', v', n', S', D'⟩, st⟩
    rw [e] at h h2
    dsimp only at h2
    subst h2
    have h3 := parse_read hb e
    rw [List.append_nil] at h3
    exact ⟨h, h3.symm⟩
  · cases h
end Go.Proofs.YtkhlihpghbhppaaGreat.Cd

set_option maxRecDepth 100000
namespace Go.Proofs.YtkhlihpghbhppaaGreat.Cd
open Go.RowKit
/-- pairs of numbers, eight bytes each, from a place on; numbers, one byte each -/
def pairsAt (l : List Int) (p n : Nat) : List (Int × Int) := (List.range n).map fun t => (l.getD (p + 8 * t) 0, numF 0 ((l.drop (p + 8 * t + 1)).take 7))
def doneAt (l : List Int) (p n : Nat) : List Int := (List.range n).map fun t => l.getD (p + t) 0
theorem pairsAt_succ (l : List Int) (p n : Nat) : pairsAt l p (n + 1) = pairsAt l p n ++ [(l.getD (p + 8 * n) 0, numF 0 ((l.drop (p + 8 * n + 1)).take 7))] := by
  simp [pairsAt, List.range_succ]
theorem doneAt_succ (l : List Int) (p n : Nat) : doneAt l p (n + 1) = doneAt l p n ++ [l.getD (p + n) 0] := by
  simp [doneAt, List.range_succ]
theorem pairsAt_len (l : List Int) (p n : Nat) : (pairsAt l p n).length = n := by simp [pairsAt]
theorem doneAt_len (l : List Int) (p n : Nat) : (doneAt l p n).length = n := by simp [doneAt]
theorem tk_at (l : List Int) (p m : Nat) (h : p + m ≤ l.length) : tk m (l.drop p, false) = (numF 0 ((l.drop p).take m), (l.drop (p + m), false)) := by
  rw [tk, if_neg (by simp; omega)]
  simp [List.drop_drop]
theorem num_one (l : List Int) (p : Nat) (h : p < l.length) : numF 0 ((l.drop p).take 1) = l.getD p 0 := by
  have e : (l.drop p).take 1 = [l.getD p 0] := by
    rw [List.drop_eq_getElem_cons h, List.take_succ_cons, List.take_zero, List.getD, List.getElem?_eq_getElem h]; rfl
  rw [e]; simp [numF]
theorem tkP_at (l : List Int) : ∀ (n p : Nat), p + 8 * n ≤ l.length → tkP n (l.drop p, false) = (pairsAt l p n, (l.drop (p + 8 * n), false)) := by
  intro n
  induction n with
  | zero => intro p _; simp [tkP, pairsAt]
  | succ n ih =>
    intro p h
    rw [tkP, tk_at l p 1 (by omega)]
    dsimp only
    rw [tk_at l (p + 1) 7 (by omega)]
    dsimp only
    rw [show p + 1 + 7 = p + 8 by omega, ih (p + 8) (by omega), num_one l p (by omega)]
    refine Prod.ext ?_ ?_
    · simp only [pairsAt, List.range_succ_eq_map, List.map_cons, List.map_map]
      have e : (List.range n).map (fun t => (l.getD (p + 8 + 8 * t) 0, numF 0 ((l.drop (p + 8 + 8 * t + 1)).take 7))) = (List.range n).map ((fun t => (l.getD (p + 8 * t) 0, numF 0 ((l.drop (p + 8 * t + 1)).take 7))) ∘ Nat.succ) := by
        refine List.map_congr_left fun t _ => ?_
        simp only [Function.comp, Nat.succ_eq_add_one]
        rw [show p + 8 + 8 * t = p + 8 * (t + 1) by omega]
      rw [e]; rfl
    · simp only
      rw [show p + 8 + 8 * n = p + 8 * (n + 1) by omega]
theorem tkD_at (l : List Int) : ∀ (n p : Nat), p + n ≤ l.length → tkD n (l.drop p, false) = (doneAt l p n, (l.drop (p + n), false)) := by
  intro n
  induction n with
  | zero => intro p _; simp [tkD, doneAt]
  | succ n ih =>
    intro p h
    rw [tkD, tk_at l p 1 (by omega)]
    dsimp only
    rw [ih (p + 1) (by omega), num_one l p (by omega)]
    refine Prod.ext ?_ ?_
    · simp only [doneAt, List.range_succ_eq_map, List.map_cons, List.map_map]
      have e : (List.range n).map (fun t => l.getD (p + 1 + t) 0) = (List.range n).map ((fun t => l.getD (p + t) 0) ∘ Nat.succ) := by
        refine List.map_congr_left fun t _ => ?_
        simp only [Function.comp, Nat.succ_eq_add_one]
        rw [show p + 1 + t = p + (t + 1) by omega]
      rw [e]; rfl
    · simp only
      rw [show p + 1 + n = p + (n + 1) by omega]
/-- just as many bytes as that takes: what is read, by places -/
theorem parse_at (l : List Int) (n m : Nat) (hl : l.length = 17 + 8 * n + m) (hn : l.getD 15 0 = (n : Int)) (hm : l.getD (16 + 8 * n) 0 = (m : Int)) :
    parse l = ((l.getD 0 0, numF 0 ((l.drop 1).take 6), l.getD 7 0, numF 0 ((l.drop 8).take 7), pairsAt l 16 n, doneAt l (17 + 8 * n) m), ([], false)) := by
  have e1 : p1 l = (l.getD 0 0, (l.drop 1, false)) := by
    have := tk_at l 0 1 (by omega)
    rw [num_one l 0 (by omega), List.drop_zero] at this
    rw [p1]; exact this
  have e2 : p2 l = (numF 0 ((l.drop 1).take 6), (l.drop 7, false)) := by
    rw [p2, e1]; exact tk_at l 1 6 (by omega)
  have e3 : p3 l = (l.getD 7 0, (l.drop 8, false)) := by
    have := tk_at l 7 1 (by omega)
    rw [num_one l 7 (by omega)] at this
    rw [p3, e2]; exact this
  have e4 : p4 l = (numF 0 ((l.drop 8).take 7), (l.drop 15, false)) := by
    rw [p4, e3]; exact tk_at l 8 7 (by omega)
  have e5 : p5 l = ((n : Int), (l.drop 16, false)) := by
    have := tk_at l 15 1 (by omega)
    rw [num_one l 15 (by omega), hn] at this
    rw [p5, e4]; exact this
  have e6 : p6 l = (pairsAt l 16 n, (l.drop (16 + 8 * n), false)) := by
    rw [p6, e5]
    dsimp only
    rw [Int.toNat_natCast]; exact tkP_at l n 16 (by omega)
  have e7 : p7 l = ((m : Int), (l.drop (17 + 8 * n), false)) := by
    have := tk_at l (16 + 8 * n) 1 (by omega)
    rw [num_one l (16 + 8 * n) (by omega), hm, show 16 + 8 * n + 1 = 17 + 8 * n by omega] at this
    rw [p7, e6]; exact this
  have e8 : p8 l = (doneAt l (17 + 8 * n) m, ([], false)) := by
    have := tkD_at l m (17 + 8 * n) (by omega)
    rw [List.drop_of_length_le (show l.length ≤ 17 + 8 * n + m by omega)] at this
    rw [p8, e7]
    dsimp only
    rw [Int.toNat_natCast]; exact this
  rw [parse, e1, e2, e3, e4, e6, e8]
theorem tkP_len : ∀ (m : Nat) (st : List Int × Bool), (tkP m st).1.length = m := by
  intro m
  induction m with
  | zero => intro st; rfl
  | succ m ih => intro st; rw [tkP, List.length_cons, ih]
theorem tkD_len : ∀ (m : Nat) (st : List Int × Bool), (tkD m st).1.length = m := by
  intro m
  induction m with
  | zero => intro st; rfl
  | succ m ih => intro st; rw [tkD, List.length_cons, ih]
theorem getD_app (a b : List Int) (j : Nat) : (a ++ b).getD (a.length + j) 0 = b.getD j 0 := by
  rw [List.getD, List.getD, List.getElem?_append_right (by omega), Nat.add_sub_cancel_left]
/-- what is read whole is just as many bytes as it says -/
theorem parse_len {l : List Int} (hb : Bytes l) (h : (parse l).2 = ([], false)) : ∃ n m : Nat, l.getD 15 0 = (n : Int) ∧ l.getD (16 + 8 * n) 0 = (m : Int) ∧ l.length = 17 + 8 * n + m := by
  obtain ⟨a1, a2, a3, a4⟩ := parse_bounds l hb
  have hS : (parse l).1.2.2.2.2.1.length = (p5 l).1.toNat := by
    rw [parse]
    dsimp only
    rw [p6]; exact tkP_len _ _
  have hD : (parse l).1.2.2.2.2.2.length = (p7 l).1.toNat := by
    rw [parse]
    dsimp only
    rw [p8]; exact tkD_len _ _
  rcases e : parse l with ⟨⟨k, i, v, n, S, D⟩, st⟩
  rw [e] at h hS hD
  dsimp only at h hS hD
  subst h
  have hr := parse_read hb e
  rw [List.append_nil] at hr
  have hl := congrArg List.length hr
  rw [enc_length] at hl
  refine ⟨S.length, D.length, ?_, ?_, hl⟩
  · have e1 : l = (be k 1 ++ be i 6 ++ be v 1 ++ be n 7) ++ (be S.length 1 ++ (S.flatMap encP ++ (be D.length 1 ++ D.flatMap (be · 1)))) := by rw [hr]; simp [enc, encH]
    have e2 := getD_app (be k 1 ++ be i 6 ++ be v 1 ++ be n 7) (be S.length 1 ++ (S.flatMap encP ++ (be D.length 1 ++ D.flatMap (be · 1)))) 0
    rw [← e1] at e2
    simp only [List.length_append, be_length] at e2
    rw [show 15 = 1 + 6 + 1 + 7 + 0 by rfl, e2]
    simp [be, List.getD]
    omega
  · have e1 : l = (be k 1 ++ be i 6 ++ be v 1 ++ be n 7 ++ be S.length 1 ++ S.flatMap encP) ++ (be D.length 1 ++ D.flatMap (be · 1)) := by rw [hr]; simp [enc, encH]
    have e2 := getD_app (be k 1 ++ be i 6 ++ be v 1 ++ be n 7 ++ be S.length 1 ++ S.flatMap encP) (be D.length 1 ++ D.flatMap (be · 1)) 0
    rw [← e1] at e2
    simp only [List.length_append, be_length, encPs_length] at e2
    rw [show 16 + 8 * S.length = 1 + 6 + 1 + 7 + 1 + 8 * S.length + 0 by omega, e2]
    simp [be, List.getD]
    omega
end Go.Proofs.YtkhlihpghbhppaaGreat.Cd

set_option maxRecDepth 100000
namespace Go.Proofs.YtkhlihpghbhppaaGreat.Cd
open Go.RowKit
/-- where DecodePacket stands: the packet's box, and what lies below it as it was -/
structure QSt (c : Nat) (W wl : World) (pb : Nat) (k i v n s d : Value) : Prop where
  Bx : BoxAt wl pb k i v n s d
  Be : Below c W wl
  hp : c ≤ pb
  hW : c ≤ W.heap.size
theorem QSt.later {c : Nat} {W wl wl' : World} {pb : Nat} {k i v n s d : Value} (h : QSt c W wl pb k i v n s d) (hb : Below wl.heap.size wl wl') : QSt c W wl' pb k i v n s d :=
  ⟨(hb.block pb h.Bx.lt).trans h.Bx, h.Be.trans (hb.mono (Nat.le_trans h.hW h.Be.size)), h.hp, h.hW⟩
theorem QSt.alloc {c : Nat} {W wl : World} {pb : Nat} {k i v n s d : Value} (h : QSt c W wl pb k i v n s d) (o : Obj) : QSt c W (wl.alloc o) pb k i v n s d := h.later (below_new wl o)
theorem QSt.own {c : Nat} {W wl wl' : World} {pb : Nat} {k i v n s d : Value} {r : Option Nat} (h : QSt c W wl pb k i v n s d) (g : wl.grownBy wl' r) (hr : ∀ j, r = some j → pb + 1 ≤ j) : QSt c W wl' pb k i v n s d :=
  ⟨h.Bx.keep g (fun e => by have := hr pb e.symm; omega), h.Be.grown g (Nat.le_trans h.hW h.Be.size) (fun j hj => by have := hr j hj; have := h.hp; omega), h.hp, h.hW⟩
theorem QSt.set4 {c : Nat} {W wl : World} {pb : Nat} {k i v n s d : Value} (h : QSt c W wl pb k i v n s d) (u : Value) : QSt c W (wl.setCell ⟨pb, 4, none⟩ u) pb k i v n u d := ⟨(h.Bx.set u).2.2.2.2.1, h.Be.setCell h.hp _, h.hp, h.hW⟩
theorem QSt.set5 {c : Nat} {W wl : World} {pb : Nat} {k i v n s d : Value} (h : QSt c W wl pb k i v n s d) (u : Value) : QSt c W (wl.setCell ⟨pb, 5, none⟩ u) pb k i v n s u := ⟨(h.Bx.set u).2.2.2.2.2, h.Be.setCell h.hp _, h.hp, h.hW⟩
theorem own_later {wl wl' : World} {base e size m : Nat} {v : Value} {xs : List Value} (h : wl.ownsRow base e size v m xs) (hb : Below wl.heap.size wl wl') : wl'.ownsRow base e size v m xs :=
  h.kept (row := none) ⟨hb.os, hb.tape, hb.output, hb.size, fun k hk _ => hb.block k hk⟩ (by cases hv : v.ownBlock <;> simp)
theorem own_setb {wl : World} {base c o e size m : Nat} {v u : Value} {xs : List Value} (h : wl.ownsRow base e size v m xs) (hc : c < base) : (wl.setCell ⟨c, o, none⟩ u).ownsRow base e size v m xs :=
  h.kept (grown_set _ _ _ _) (by
    cases hv : v.ownBlock with
    | none => exact .inl rfl
    | some g => right; intro e; cases e; have := (h.lt _ hv).1; omega)
theorem bs_ext (s : ByteArray) (a b : Nat) : bs (s.extract a b) = ((bs s).drop a).take (b - a) := by
  unfold bs
  rw [ByteArray.data_extract, Array.toList_extract, List.extract_eq_take_drop, ← List.map_drop, ← List.map_take]
theorem ext_size (s : ByteArray) (a b : Nat) : (s.extract a b).size ≤ b - a := by
  have h := congrArg List.length (bs_ext s a b)
  rw [bs_length, List.length_take] at h
  omega
theorem BoxAt.set6 {w : World} {b : Nat} {k i v n s d : Value} (h : BoxAt w b k i v n s d) (v0 v1 v2 v3 v4 v5 : Value) : BoxAt (set6 w b v0 v1 v2 v3 v4 v5) b v0 v1 v2 v3 v4 v5 :=
  (((((((h.set v0).1.set v1).2.1.set v2).2.2.1.set v3).2.2.2.1.set v4).2.2.2.2.1).set v5).2.2.2.2.2
theorem dpA {Z wA wB : World} (o : Obj) (hA : Below Z.drew.heap.size Z.drew wA) (hB : Below wA.heap.size wA wB) : Z.heap.size ≤ wB.heap.size ∧ Below Z.heap.size Z (wB.alloc o) := by
  have h1 := below_then (below_drew Z) hA
  have h2 := below_then h1 hB
  exact ⟨h2.size, below_then h2 (below_new wB o)⟩
theorem dpB {Z wA wB : World} {k i v n s d : Value} (v0 v1 v2 v3 v4 v5 : Value) (hA : Below Z.drew.heap.size Z.drew wA) (hB : Below (wA.alloc (.cells #[k, i, v, n, s, d] 72)).heap.size (wA.alloc (.cells #[k, i, v, n, s, d] 72)) wB) :
    Z.heap.size ≤ wA.heap.size ∧ BoxAt (set6 wB wA.heap.size v0 v1 v2 v3 v4 v5) wA.heap.size v0 v1 v2 v3 v4 v5 ∧ Below Z.heap.size Z (set6 wB wA.heap.size v0 v1 v2 v3 v4 v5) := by
  have h1 := below_then (below_drew Z) hA
  have h2 := below_then (below_then h1 (below_new wA _)) hB
  have hb : BoxAt wB wA.heap.size k i v n s d := (hB.block _ (by simp)).trans (heap_alloc_new _ _)
  exact ⟨h1.size, hb.set6 _ _ _ _ _ _, set6_below _ _ _ _ _ _ h2 h1.size⟩
theorem dpC {Z wA wB : World} {k i v n s d : Value} (v0 v1 v2 v3 v4 v5 : Value) (hA : Below (Z.alloc (.cells #[k, i, v, n, s, d] 72)).drew.heap.size (Z.alloc (.cells #[k, i, v, n, s, d] 72)).drew wA) (hB : Below wA.heap.size wA wB) :
    BoxAt (set6 wB Z.heap.size v0 v1 v2 v3 v4 v5) Z.heap.size v0 v1 v2 v3 v4 v5 ∧ Below Z.heap.size Z (set6 wB Z.heap.size v0 v1 v2 v3 v4 v5) := by
  have h1 := below_then (below_then (below_new Z _) (below_drew _)) hA
  have h2 := below_then h1 hB
  have hb0 : BoxAt wA Z.heap.size k i v n s d := (hA.block _ (by simp)).trans (heap_alloc_new _ _)
  have hb : BoxAt wB Z.heap.size k i v n s d := (hB.block _ hb0.lt).trans hb0
  exact ⟨hb.set6 _ _ _ _ _ _, set6_below _ _ _ _ _ _ h2 (Nat.le_refl _)⟩
theorem dec_form {l : List Int} (h : (parse l).2 ≠ ([], false)) : decE l = 1 ∧ decP l = (0, 0, 0, 0, [], []) := by
  have h1 : decE l = 1 := by rw [decE, if_neg h]
  exact ⟨h1, by rw [decP, h1, if_neg (by decide)]⟩
end Go.Proofs.YtkhlihpghbhppaaGreat.Cd

