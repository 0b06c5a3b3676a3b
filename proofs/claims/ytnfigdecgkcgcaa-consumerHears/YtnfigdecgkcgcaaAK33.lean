/- Parts of the proof: CJ. -/
import Derived.Test.YtnfigdecgkcgcaaRows
import Derived.Test.YtnfigdecgkcgcaaAK51
set_option maxRecDepth 100000
namespace Go.Proofs.Ytnfigdecgkcgcaa.Cd
open Go.RowKit
/-- pairs of numbers, eight bytes each, from a place on; numbers, one byte each -/
def pairsAt (l : List Int) (p n : Nat) : List (Int × Int) := (List.range n).map fun t => (l.getD (p + 8 * t) 0, numF 0 ((l.drop (p + 8 * t + 1)).take 7))
def doneAt (l : List Int) (p n : Nat) : List Int := (List.range n).map fun t => l.getD (p + t) 0
theorem pairsAt_succ (l : List Int) (p n : Nat) : pairsAt l p (n + 1) = pairsAt l p n ++ [(l.getD (p + 8 * n) 0, numF 0 ((l.drop (p + 8 * n + 1)).take 7))] := by
  simp [pairsAt, List.range_succ]
theorem doneAt_succ (l : List Int) (p n : Nat) : doneAt l p (n + 1) = doneAt l p n ++ [l.getD (p + n) 0] := by
  simp [doneAt, List.range_succ]
theorem pairsAt_len (l : List Int) (p n : Nat) : (pairsAt l p n).length = n := by simp [pairsAt]
theorem doneAt_len (l : List Int) (p n : Nat) : (doneAt l p n).length = n := by simp [doneAt]
theorem tk_at (l : List Int) (p m : Nat) (h : p + m ≤ l.length) : tk m (l.drop p, false) = (numF 0 ((l.drop p).take m), (l.drop (p + m), false)) := by
  rw [tk, if_neg (by simp; omega)]
  simp [List.drop_drop]
theorem num_one (l : List Int) (p : Nat) (h : p < l.length) : numF 0 ((l.drop p).take 1) = l.getD p 0 := by
  have e : (l.drop p).take 1 = [l.getD p 0] := by
    rw [List.drop_eq_getElem_cons h, List.take_succ_cons, List.take_zero, List.getD, List.getElem?_eq_getElem h]; rfl
  rw [e]; simp [numF]
theorem tkP_at (l : List Int) : ∀ (n p : Nat), p + 8 * n ≤ l.length → tkP n (l.drop p, false) = (pairsAt l p n, (l.drop (p + 8 * n), false)) := by
  intro n
  induction n with
  | zero => intro p _; simp [tkP, pairsAt]
  | succ n ih =>
    intro p h
    rw [tkP, tk_at l p 1 (by omega)]
    dsimp only
    rw [tk_at l (p + 1) 7 (by omega)]
    dsimp only
    rw [show p + 1 + 7 = p + 8 by omega, ih (p + 8) (by omega), num_one l p (by omega)]
    refine Prod.ext ?_ ?_
    · simp only [pairsAt, List.range_succ_eq_map, List.map_cons, List.map_map]
      have e : (List.range n).map (fun t => (l.getD (p + 8 + 8 * t) 0, numF 0 ((l.drop (p + 8 + 8 * t + 1)).take 7))) = (List.range n).map ((fun t => (l.getD (p + 8 * t) 0, numF 0 ((l.drop (p + 8 * t + 1)).take 7))) ∘ Nat.succ) := by
        refine List.map_congr_left fun t _ => ?_
        simp only [Function.comp, Nat.succ_eq_add_one]
        rw [show p + 8 + 8 * t = p + 8 * (t + 1) by omega]
      rw [e]; rfl
    · simp only
      rw [show p + 8 + 8 * n = p + 8 * (n + 1) by omega]
theorem tkD_at (l : List Int) : ∀ (n p : Nat), p + n ≤ l.length → tkD n (l.drop p, false) = (doneAt l p n, (l.drop (p + n), false)) := by
  intro n
  induction n with
  | zero => intro p _; simp [tkD, doneAt]
  | succ n ih =>
    intro p h
    rw [tkD, tk_at l p 1 (by omega)]
    dsimp only
    rw [ih (p + 1) (by omega), num_one l p (by omega)]
    refine Prod.ext ?_ ?_
    · simp only [doneAt, List.range_succ_eq_map, List.map_cons, List.map_map]
      have e : (List.range n).map (fun t => l.getD (p + 1 + t) 0) = (List.range n).map ((fun t => l.getD (p + t) 0) ∘ Nat.succ) := by
        refine List.map_congr_left fun t _ => ?_
        simp only [Function.comp, Nat.succ_eq_add_one]
        rw [show p + 1 + t = p + (t + 1) by omega]
      rw [e]; rfl
    · simp only
      rw [show p + 1 + n = p + (n + 1) by omega]
/-- just as many bytes as that takes: what is read, by places -/
theorem parse_at (l : List Int) (n m : Nat) (hl : l.length = 17 + 8 * n + m) (hn : l.getD 15 0 = (n : Int)) (hm : l.getD (16 + 8 * n) 0 = (m : Int)) :
    parse l = ((l.getD 0 0, numF 0 ((l.drop 1).take 6), l.getD 7 0, numF 0 ((l.drop 8).take 7), pairsAt l 16 n, doneAt l (17 + 8 * n) m), ([], false)) := by
  have e1 : p1 l = (l.getD 0 0, (l.drop 1, false)) := by
    have := tk_at l 0 1 (by omega)
    rw [num_one l 0 (by omega), List.drop_zero] at this
    rw [p1]; exact this
  have e2 : p2 l = (numF 0 ((l.drop 1).take 6), (l.drop 7, false)) := by
    rw [p2, e1]; exact tk_at l 1 6 (by omega)
  have e3 : p3 l = (l.getD 7 0, (l.drop 8, false)) := by
    have := tk_at l 7 1 (by omega)
    rw [num_one l 7 (by omega)] at this
    rw [p3, e2]; exact this
  have e4 : p4 l = (numF 0 ((l.drop 8).take 7), (l.drop 15, false)) := by
    rw [p4, e3]; exact tk_at l 8 7 (by omega)
  have e5 : p5 l = ((n : Int), (l.drop 16, false)) := by
    have := tk_at l 15 1 (by omega)
    rw [num_one l 15 (by omega), hn] at this
    rw [p5, e4]; exact this
  have e6 : p6 l = (pairsAt l 16 n, (l.drop (16 + 8 * n), false)) := by
    rw [p6, e5]
    dsimp only
    rw [Int.toNat_natCast]; exact tkP_at l n 16 (by omega)
  have e7 : p7 l = ((m : Int), (l.drop (17 + 8 * n), false)) := by
    have := tk_at l (16 + 8 * n) 1 (by omega)
    rw [num_one l (16 + 8 * n) (by omega), hm, show 16 + 8 * n + 1 = 17 + 8 * n by omega] at this
    rw [p7, e6]; exact this
  have e8 : p8 l = (doneAt l (17 + 8 * n) m, ([], false)) := by
    have := tkD_at l m (17 + 8 * n) (by omega)
    rw [List.drop_of_length_le (show l.length ≤ 17 + 8 * n + m by omega)] at this
    rw [p8, e7]
    dsimp only
    rw [Int.toNat_natCast]; exact this
  rw [parse, e1, e2, e3, e4, e6, e8]
theorem tkP_len : ∀ (m : Nat) (st : List Int × Bool), (tkP m st).1.length = m := by
  intro m
  induction m with
  | zero => intro st; rfl
  | succ m ih => intro st; rw [tkP, List.length_cons, ih]
theorem tkD_len : ∀ (m : Nat) (st : List Int × Bool), (tkD m st).1.length = m := by
  intro m
  induction m with
  | zero => intro st; rfl
  | succ m ih => intro st; rw [tkD, List.length_cons, ih]
theorem getD_app (a b : List Int) (j : Nat) : (a ++ b).getD (a.length + j) 0 = b.getD j 0 := by
  rw [List.getD, List.getD, List.getElem?_append_right (by omega), Nat.add_sub_cancel_left]
/-- what is read whole is just as many bytes as it says -/
theorem parse_len {l : List Int} (hb : Bytes l) (h : (parse l).2 = ([], false)) : ∃ n m : Nat, l.getD 15 0 = (n : Int) ∧ l.getD (16 + 8 * n) 0 = (m : Int) ∧ l.length = 17 + 8 * n + m := by
  obtain ⟨a1, a2, a3, a4⟩ := parse_bounds l hb
  have hS : (parse l).1.2.2.2.2.1.length = (p5 l).1.toNat := by
    rw [parse]
    dsimp only
    rw [p6]; exact tkP_len _ _
  have hD : (parse l).1.2.2.2.2.2.length = (p7 l).1.toNat := by
    rw [parse]
    dsimp only
    rw [p8]; exact tkD_len _ _
  rcases e : parse l with ⟨⟨k, i, v, n, S, D⟩, st⟩
  rw [e] at h hS hD
  dsimp only at h hS hD
  subst h
  have hr := parse_read hb e
  rw [List.append_nil] at hr
  have hl := congrArg List.length hr
  rw [enc_length] at hl
  refine ⟨S.length, D.length, ?_, ?_, hl⟩
  · have e1 : l = (be k 1 ++ be i 6 ++ be v 1 ++ be n 7) ++ (be S.length 1 ++ (S.flatMap encP ++ (be D.length 1 ++ D.flatMap (be · 1)))) := by rw [hr]; simp [enc, encH]
    have e2 := getD_app (be k 1 ++ be i 6 ++ be v 1 ++ be n 7) (be S.length 1 ++ (S.flatMap encP ++ (be D.length 1 ++ D.flatMap (be · 1)))) 0
    rw [← e1] at e2
    simp only [List.length_append, be_length] at e2
    rw [show 15 = 1 + 6 + 1 + 7 + 0 by rfl, e2]
    simp [be, List.getD]
    omega
  · have e1 : l = (be k 1 ++ be i 6 ++ be v 1 ++ be n 7 ++ be S.length 1 ++ S.flatMap encP) ++ (be D.length 1 ++ D.flatMap (be · 1)) := by rw [hr]; simp [enc, encH]
    have e2 := getD_app (be k 1 ++ be i 6 ++ be v 1 ++ be n 7 ++ be S.length 1 ++ S.flatMap encP) (be D.length 1 ++ D.flatMap (be · 1)) 0
    rw [← e1] at e2
    simp only [List.length_append, be_length, encPs_length] at e2
    rw [show 16 + 8 * S.length = 1 + 6 + 1 + 7 + 1 + 8 * S.length + 0 by omega, e2]
    simp [be, List.getD]
    omega
end Go.Proofs.Ytnfigdecgkcgcaa.Cd

