/- Parts of the proof: CK OS1. -/
import Derived.Test.YtkhlihpghbhppabGreatRows
import Derived.Test.YtkhlihpghbhppabGreatProviderRemovesK42
import Derived.Test.YtkhlihpghbhppabGreatProviderRemovesK53
import Derived.WalkKit
import Derived.ProofKit
import Derived.OpenShut
import Derived.Deep.Slices
import Derived.SizedLaws
import Derived.Laws.IdiomArrays
set_option maxRecDepth 100000
namespace Go.Proofs.YtkhlihpghbhppabGreat.Cd
open Go.RowKit
theorem numF_split : ∀ (t : List Int) (x : Int), numF x t = x * 2 ^ (8 * t.length) + numF 0 t := by
  intro t
  induction t with
  | nil => intro x; simp [numF]
  | cons c t ih =>
    intro x
    have h1 : numF x (c :: t) = numF (x * 256 + c) t := rfl
    have h2 : numF 0 (c :: t) = numF (0 * 256 + c) t := rfl
    rw [h1, h2, ih (x * 256 + c), ih (0 * 256 + c), List.length_cons, pow_succ8, Int.add_mul, Int.zero_mul, Int.zero_add, Int.mul_assoc, Int.mul_comm 256]
    omega
theorem be_num (a : List Int) (h : Bytes a) : ∀ acc : Int, be (numF acc a) a.length = a := by
  induction a with
  | nil => intro _; rfl
  | cons c t ih =>
    intro acc
    have ht : Bytes t := fun x hx => h x (List.mem_cons_of_mem _ hx)
    have hc := h c (List.mem_cons_self ..)
    have h1 : numF acc (c :: t) = numF (acc * 256 + c) t := rfl
    have hb := numF_bound t 0 0 ht (by omega) (by omega)
    rw [Nat.zero_add] at hb
    rw [h1, List.length_cons, be, ih ht (acc * 256 + c), numF_split t (acc * 256 + c)]
    congr 1
    rw [Int.mul_comm, Int.add_comm, Int.add_mul_ediv_left _ _ (by have := pow_pos8 t.length; omega), Int.ediv_eq_zero_of_lt hb.1 hb.2]
    omega
theorem tk_flag {m : Nat} {st : List Int × Bool} (h : (tk m st).2.2 = false) : st.2 = false ∧ m ≤ st.1.length := by
  unfold tk at h
  split at h
  · cases h
  · exact ⟨h, by omega⟩
theorem tk_read {m : Nat} {l : List Int} {x : Int} {l' : List Int} (h : tk m (l, false) = (x, (l', false))) : ∃ a, a.length = m ∧ l = a ++ l' ∧ x = numF 0 a := by
  have hf := tk_flag (m := m) (st := (l, false)) (by rw [h])
  rw [tk, if_neg (by have := hf.2; dsimp only at this ⊢; omega)] at h
  simp only [Prod.mk.injEq] at h
  obtain ⟨rfl, rfl, _⟩ := h
  exact ⟨l.take m, by rw [List.length_take]; have := hf.2; dsimp only at this; omega, (List.take_append_drop m l).symm, rfl⟩
theorem tkP_flag : ∀ (m : Nat) {st : List Int × Bool}, (tkP m st).2.2 = false → st.2 = false := by
  intro m
  induction m with
  | zero => intro st h; exact h
  | succ m ih => intro st h; exact (tk_flag (tk_flag (ih h)).1).1
theorem tkD_flag : ∀ (m : Nat) {st : List Int × Bool}, (tkD m st).2.2 = false → st.2 = false := by
  intro m
  induction m with
  | zero => intro st h; exact h
  | succ m ih => intro st h; exact (tk_flag (ih h)).1
theorem tkP_read : ∀ (m : Nat) {l l' : List Int} {S : List (Int × Int)}, Bytes l → tkP m (l, false) = (S, (l', false)) → S.length = m ∧ l = S.flatMap encP ++ l' := by
  intro m
  induction m with
  | zero => intro l l' S _ h; simp only [tkP, Prod.mk.injEq] at h; obtain ⟨rfl, rfl, _⟩ := h; exact ⟨rfl, rfl⟩
  | succ m ih =>
    intro l l' S hb h
    rcases e1 : tk 1 (l, false) with ⟨y, l1, f1⟩
    rcases e2 : tk 7 (l1, f1) with ⟨z, l2, f2⟩
    rcases e3 : tkP m (l2, f2) with ⟨T, l3, f3⟩
    rw [tkP, e1] at h
    dsimp only at h
    rw [e2] at h
    dsimp only at h
    rw [e3] at h
    simp only [Prod.mk.injEq] at h
    obtain ⟨rfl, rfl, rfl⟩ := h
    have g2 := tkP_flag m (st := (l2, f2)) (by rw [e3])
    dsimp only at g2
    subst g2
    have g1 := (tk_flag (m := 7) (st := (l1, f1)) (by rw [e2])).1
    dsimp only at g1
    subst g1
    obtain ⟨a, ha, rfl, rfl⟩ := tk_read e1
    obtain ⟨c, hc, rfl, rfl⟩ := tk_read e2
    have ba : Bytes a := fun x hx => hb x (by simp [hx])
    have bc : Bytes c := fun x hx => hb x (by simp [hx])
    have b2 : Bytes l2 := fun x hx => hb x (by simp [hx])
    obtain ⟨r1, r2⟩ := ih b2 e3
    refine ⟨by simp [r1], ?_⟩
    have q1 := be_num a ba 0
    have q2 := be_num c bc 0
    rw [ha] at q1
    rw [hc] at q2
    rw [List.flatMap_cons, encP]
    dsimp only
    rw [q1, q2, List.append_assoc, List.append_assoc, ← r2]
theorem tkD_read : ∀ (m : Nat) {l l' : List Int} {D : List Int}, Bytes l → tkD m (l, false) = (D, (l', false)) → D.length = m ∧ l = D.flatMap (be · 1) ++ l' := by
  intro m
  induction m with
  | zero => intro l l' S _ h; simp only [tkD, Prod.mk.injEq] at h; obtain ⟨rfl, rfl, _⟩ := h; exact ⟨rfl, rfl⟩
  | succ m ih =>
    intro l l' S hb h
    rcases e1 : tk 1 (l, false) with ⟨y, l1, f1⟩
    rcases e3 : tkD m (l1, f1) with ⟨T, l3, f3⟩
    rw [tkD, e1] at h
    dsimp only at h
    rw [e3] at h
    simp only [Prod.mk.injEq] at h
    obtain ⟨rfl, rfl, rfl⟩ := h
    have g1 := tkD_flag m (st := (l1, f1)) (by rw [e3])
    dsimp only at g1
    subst g1
    obtain ⟨a, ha, rfl, rfl⟩ := tk_read e1
    have ba : Bytes a := fun x hx => hb x (by simp [hx])
    have b2 : Bytes l1 := fun x hx => hb x (by simp [hx])
    obtain ⟨r1, r2⟩ := ih b2 e3
    refine ⟨by simp [r1], ?_⟩
    have q1 := be_num a ba 0
    rw [ha] at q1
    rw [List.flatMap_cons, q1, List.append_assoc, ← r2]
/-- what is read without want has just these bytes, and what is left -/
theorem parse_read {l r : List Int} {k i v n : Int} {S : List (Int × Int)} {D : List Int} (hb : Bytes l) (h : parse l = ((k, i, v, n, S, D), (r, false))) : l = enc k i v n S D ++ r := by
  have hbd := parse_bounds l hb
  rcases e1 : p1 l with ⟨x1, l1, f1⟩
  rcases e2 : p2 l with ⟨x2, l2, f2⟩
  rcases e3 : p3 l with ⟨x3, l3, f3⟩
  rcases e4 : p4 l with ⟨x4, l4, f4⟩
  rcases e5 : p5 l with ⟨c, l5, f5⟩
  rcases e6 : p6 l with ⟨S', l6, f6⟩
  rcases e7 : p7 l with ⟨d, l7, f7⟩
  rcases e8 : p8 l with ⟨D', l8, f8⟩
  rw [parse, e1, e2, e3, e4, e6, e8] at h
  simp only [Prod.mk.injEq] at h
  obtain ⟨⟨rfl, rfl, rfl, rfl, rfl, rfl⟩, rfl, rfl⟩ := h
  rw [e5, e7] at hbd
  dsimp only at hbd
  have n1 := e1
  rw [p1] at n1
  have n2 := e2
  rw [p2, e1] at n2
  dsimp only at n2
  have n3 := e3
  rw [p3, e2] at n3
  dsimp only at n3
  have n4 := e4
  rw [p4, e3] at n4
  dsimp only at n4
  have n5 := e5
  rw [p5, e4] at n5
  dsimp only at n5
  have n6 := e6
  rw [p6, e5] at n6
  dsimp only at n6
  have n7 := e7
  rw [p7, e6] at n7
  dsimp only at n7
  have n8 := e8
  rw [p8, e7] at n8
  dsimp only at n8
  clear e1 e2 e3 e4 e5 e6 e7 e8
  have g7 := tkD_flag d.toNat (st := (l7, f7)) (by rw [n8])
  dsimp only at g7
  subst g7
  have g6 := (tk_flag (m := 1) (st := (l6, f6)) (by rw [n7])).1
  dsimp only at g6
  subst g6
  have g5 := tkP_flag c.toNat (st := (l5, f5)) (by rw [n6])
  dsimp only at g5
  subst g5
  have g4 := (tk_flag (m := 1) (st := (l4, f4)) (by rw [n5])).1
  dsimp only at g4
  subst g4
  have g3 := (tk_flag (m := 7) (st := (l3, f3)) (by rw [n4])).1
  dsimp only at g3
  subst g3
  have g2 := (tk_flag (m := 1) (st := (l2, f2)) (by rw [n3])).1
  dsimp only at g2
  subst g2
  have g1 := (tk_flag (m := 6) (st := (l1, f1)) (by rw [n2])).1
  dsimp only at g1
  subst g1
  obtain ⟨a1, h1, rfl, rfl⟩ := tk_read n1
  obtain ⟨a2, h2, rfl, rfl⟩ := tk_read n2
  obtain ⟨a3, h3, rfl, rfl⟩ := tk_read n3
  obtain ⟨a4, h4, rfl, rfl⟩ := tk_read n4
  obtain ⟨a5, h5, rfl, rfl⟩ := tk_read n5
  have b5 : Bytes l5 := fun x hx => hb x (by simp [hx])
  obtain ⟨r1, r2⟩ := tkP_read _ b5 n6
  obtain ⟨a7, h7, rfl, rfl⟩ := tk_read n7
  have b7 : Bytes l7 := fun x hx => hb x (by rw [r2]; simp [hx])
  obtain ⟨r3, r4⟩ := tkD_read _ b7 n8
  have q1 := be_num a1 (fun x hx => hb x (by simp [hx])) 0
  have q2 := be_num a2 (fun x hx => hb x (by simp [hx])) 0
  have q3 := be_num a3 (fun x hx => hb x (by simp [hx])) 0
  have q4 := be_num a4 (fun x hx => hb x (by simp [hx])) 0
  have q5 := be_num a5 (fun x hx => hb x (by simp [hx])) 0
  have q7 := be_num a7 (fun x hx => hb x (by rw [r2]; simp [hx])) 0
  rw [h1] at q1
  rw [h2] at q2
  rw [h3] at q3
  rw [h4] at q4
  rw [h5] at q5
  rw [h7] at q7
  have w5 : (S'.length : Int) = numF 0 a5 := by omega
  have w7 : (D'.length : Int) = numF 0 a7 := by omega
  unfold enc encH
  rw [q1, q2, q3, q4, w5, q5, w7, q7, r2, r4]
  simp
/-- what Decode answers, in words -/
theorem decE_read {l : List Int} (hb : Bytes l) (h : decE l = 0) : goodN (decP l).1 (decP l).2.1 (decP l).2.2.1 (decP l).2.2.2.1 (decP l).2.2.2.2.1 (decP l).2.2.2.2.2 = 0 ∧ enc (decP l).1 (decP l).2.1 (decP l).2.2.1 (decP l).2.2.2.1 (decP l).2.2.2.2.1 (decP l).2.2.2.2.2 = l := by
  have hP : decP l = (parse l).1 := by rw [decP, if_pos h]
  rw [hP]
  unfold decE at h
  split at h
  · rename_i h2
    rcases e : parse l with ⟨⟨k', i', v', n', S', D'⟩, st⟩
    rw [e] at h h2
    dsimp only at h2
    subst h2
    have h3 := parse_read hb e
    rw [List.append_nil] at h3
    exact ⟨h, h3.symm⟩
  · cases h
end Go.Proofs.YtkhlihpghbhppabGreat.Cd

set_option maxRecDepth 100000
namespace Go.Proofs.YtkhlihpghbhppabGreat
open Go.ChangeShapes Go.WideShapes Go.ChangeAt Go.RowKit Go.Deep
theorem chunks {α : Type} (k : Nat) : ∀ (n : Nat) (l : List α), l.length = n * k → l = (List.range n).flatMap fun i => (l.drop (i * k)).take k
  | 0, l, h => by simp at h; subst h; rfl
  | n + 1, l, h => by
    rw [List.range_succ, List.flatMap_append]
    have hm : (n + 1) * k = n * k + k := Nat.succ_mul n k
    have h1 := chunks k n (l.take (n * k)) (by rw [List.length_take]; omega)
    have h2 : ((List.range n).flatMap fun i => ((l.take (n * k)).drop (i * k)).take k) = (List.range n).flatMap fun i => (l.drop (i * k)).take k := by
      refine flatMap_congr_range fun i hi => ?_
      have hik : i * k + k ≤ n * k := by rw [← Nat.succ_mul]; exact Nat.mul_le_mul_right k hi
      rw [List.drop_take, List.take_take, Nat.min_eq_left (by omega)]
    rw [← h2, ← h1]
    simp only [List.flatMap_cons, List.flatMap_nil, List.append_nil]
    rw [List.take_of_length_le (l := l.drop (n * k)) (by rw [List.length_drop]; omega), List.take_append_drop]
theorem pick_all {β : Type} {p : Nat → β → Prop} (d : β) {n : Nat} (h : ∀ i, i < n → ∃ y, p i y) : ∃ f : Nat → β, ∀ i, i < n → p i (f i) := by
  refine ⟨fun i => if hi : i < n then Classical.choose (h i hi) else d, fun i hi => ?_⟩
  simp only [dif_pos hi]
  exact Classical.choose_spec (h i hi)
section
variable {H : Type} {enc : TypeId × Value → H} {W : World}
theorem open_arr {β : Type} (d : β) (f : β → List Value) {t e : TypeId} {n fuel : Nat} {cs : List Value} {x : DataW H × List MemPlace} (ht : Tryz.prog.underlying t = some (.array n e)) (hc : Tryz.prog.cellsOf t = n * Tryz.prog.cellsOf e)
    (h : DataW.trod enc Tryz.prog W 0 (fun _ => true) true fuel t cs = some x)
    (he : ∀ {m : Nat} {l : List Value} {y : DataW H × List MemPlace}, DataW.trod enc Tryz.prog W 0 (fun _ => true) true m e l = some y → ∃ b, l = f b) : ∃ g : Nat → β, cs = (List.range n).flatMap fun i => f (g i) := by
  obtain ⟨xs, m, _, _, hl, hxl, hx⟩ := DataW.trod_array ht h
  obtain ⟨g, hg⟩ := pick_all (n := n) (p := fun i b => (cs.drop (i * Tryz.prog.cellsOf e)).take (Tryz.prog.cellsOf e) = f b) d (fun i hi => by
    have := hx i hi
    rw [List.getElem?_eq_getElem (by omega)] at this
    exact he this)
  refine ⟨g, ?_⟩
  rw [chunks (Tryz.prog.cellsOf e) n cs (by rw [hl, hc])]
  exact flatMap_congr_range hg
theorem open_i {m : Nat} {l : List Value} {y : DataW H × List MemPlace} (h : DataW.trod enc Tryz.prog W 0 (fun _ => true) true m 3 l = some y) : ∃ b : Int, l = [.int .i64 b] := by
  obtain ⟨q, e, _⟩ := DataW.trod_int Tryz.underlying3 h
  exact ⟨q, e⟩
theorem open_t {m : Nat} {l : List Value} {y : DataW H × List MemPlace} (h : DataW.trod enc Tryz.prog W 0 (fun _ => true) true m 4 l = some y) : ∃ b : Bool, l = [.bool b] := by
  obtain ⟨q, e, _⟩ := DataW.trod_bool Tryz.underlying4 h
  exact ⟨q, e⟩
theorem cI : Tryz.prog.cellsOf 3 = 1 := by kernel_rfl
theorem cT : Tryz.prog.cellsOf 4 = 1 := by kernel_rfl
theorem cA : Tryz.prog.cellsOf 22 = 4 := by kernel_rfl
theorem cB : Tryz.prog.cellsOf 24 = 7 := by kernel_rfl
theorem cV : Tryz.prog.cellsOf 26 = 5 := by kernel_rfl
theorem cVs : Tryz.prog.cellsOf 27 = 30 := by kernel_rfl
theorem cRow : Tryz.prog.cellsOf 28 = 6 := by kernel_rfl
theorem cSh : Tryz.prog.cellsOf 29 = 24 := by kernel_rfl
theorem cWs : Tryz.prog.cellsOf 30 = 1 := by kernel_rfl
theorem cS : Tryz.prog.cellsOf 32 = 63 := by kernel_rfl
theorem cW : Tryz.prog.cellsOf 53 = 8 := by kernel_rfl
theorem cH : Tryz.prog.cellsOf 51 = 2 := by kernel_rfl
theorem open_row {m : Nat} {l : List Value} {y : DataW H × List MemPlace} (h : DataW.trod enc Tryz.prog W 0 (fun _ => true) true m 28 l = some y) : ∃ r : Nat → Int, l = (rowC r).toList := by
  obtain ⟨g, rfl⟩ := open_arr 0 (fun b : Int => [.int .i64 b]) Tryz.underlying28 (by rw [cRow, cI]) h open_i
  exact ⟨g, rfl⟩
theorem open_shs {m : Nat} {l : List Value} {y : DataW H × List MemPlace} (h : DataW.trod enc Tryz.prog W 0 (fun _ => true) true m 29 l = some y) : ∃ S : Nat → Nat → Int, l = (shC S).toList := by
  obtain ⟨g, rfl⟩ := open_arr (fun _ => 0) (fun r : Nat → Int => (rowC r).toList) Tryz.underlying29 (by rw [cSh, cRow]) h open_row
  exact ⟨g, rfl⟩
theorem open_hs {m : Nat} {l : List Value} {y : DataW H × List MemPlace} (h : DataW.trod enc Tryz.prog W 0 (fun _ => true) true m 51 l = some y) : ∃ a b : Int, l = [.int .i64 a, .int .i64 b] := by
  obtain ⟨g, rfl⟩ := open_arr 0 (fun b : Int => [.int .i64 b]) Tryz.underlying51 (by rw [cH, cI]) h open_i
  exact ⟨g 0, g 1, rfl⟩
theorem open_fr {m : Nat} {l : List Value} {y : DataW H × List MemPlace} (h : DataW.trod enc Tryz.prog W 0 (fun _ => true) true m 22 l = some y) : ∃ g : Nat → Int, l = [.int .i64 (g 0), .int .i64 (g 1), .int .i64 (g 2), .int .i64 (g 3)] := by
  obtain ⟨g, rfl⟩ := open_arr 0 (fun b : Int => [.int .i64 b]) Tryz.underlying22 (by rw [cA, cI]) h open_i
  exact ⟨g, rfl⟩
theorem parts {α : Type} {l : List α} {o n : Nat} : l.drop o = (l.drop o).take n ++ l.drop (o + n) := by
  rw [← List.drop_drop, List.take_append_drop]
theorem open_vd {m : Nat} {l : List Value} {y : DataW H × List MemPlace} (h : DataW.trod enc Tryz.prog W 0 (fun _ => true) true m 26 l = some y) : ∃ x : Vd, l = (vdC x).toList := by
  obtain ⟨xs, n, _, _, hl, hxl, hx⟩ := DataW.trod_struct Tryz.underlying26 h
  rw [cV] at hl
  match l, hl with
  | [a0, a1, a2, a3, a4], _ =>
    match xs, hxl with
    | [y0, y1, y2, y3, y4], _ =>
      have t0 := hx 0 _ rfl
      have t1 := hx 1 _ rfl
      have t2 := hx 2 _ rfl
      have t3 := hx 3 _ rfl
      have t4 := hx 4 _ rfl
      simp [cI, cT] at t0 t1 t2 t3 t4
      obtain ⟨q0, e0⟩ := open_i t0
      obtain ⟨q1, e1⟩ := open_i t1
      obtain ⟨q2, e2⟩ := open_i t2
      obtain ⟨q3, e3⟩ := open_t t3
      obtain ⟨q4, e4⟩ := open_t t4
      simp at e0 e1 e2 e3 e4
      subst e0 e1 e2 e3 e4
      exact ⟨⟨q0, q1, q2, q3, q4⟩, rfl⟩
theorem open_vds {m : Nat} {l : List Value} {y : DataW H × List MemPlace} (h : DataW.trod enc Tryz.prog W 0 (fun _ => true) true m 27 l = some y) : ∃ V : Nat → Vd, l = (vsC V).toList := by
  obtain ⟨g, rfl⟩ := open_arr ⟨0, 0, 0, false, false⟩ (fun x : Vd => (vdC x).toList) Tryz.underlying27 (by rw [cVs, cV]) h open_vd
  exact ⟨g, rfl⟩
theorem open_bk {m : Nat} {l : List Value} {y : DataW H × List MemPlace} (h : DataW.trod enc Tryz.prog W 0 (fun _ => true) true m 24 l = some y) : ∃ b : Bk, l = (bkC b).toList := by
  obtain ⟨xs, n, _, _, hl, hxl, hx⟩ := DataW.trod_struct Tryz.underlying24 h
  rw [cB] at hl
  match l, hl with
  | [a0, a1, a2, a3, a4, a5, a6], _ =>
    match xs, hxl with
    | [y0, y1, y2, y3], _ =>
      have t0 := hx 0 _ rfl
      have t1 := hx 1 _ rfl
      have t2 := hx 2 _ rfl
      have t3 := hx 3 _ rfl
      simp [cI, cA] at t0 t1 t2 t3
      obtain ⟨g, e0⟩ := open_fr t0
      obtain ⟨q1, e1⟩ := open_i t1
      obtain ⟨q2, e2⟩ := open_i t2
      obtain ⟨q3, e3⟩ := open_i t3
      simp at e0 e1 e2 e3
      obtain ⟨e01, e02, e03, e04⟩ := e0
      subst e01 e02 e03 e04 e1 e2 e3
      exact ⟨⟨g 0, g 1, g 2, g 3, q1, q2, q3⟩, rfl⟩
theorem open_wt {m : Nat} {l : List Value} {y : DataW H × List MemPlace} (h : DataW.trod enc Tryz.prog W 0 (fun _ => true) true m 53 l = some y) : ∃ x : Wt, l = (wtC x).toList := by
  obtain ⟨xs, n, _, _, hl, hxl, hx⟩ := DataW.trod_struct Tryz.underlying53 h
  rw [cW] at hl
  match l, hl with
  | [a0, a1, a2, a3, a4, a5, a6, a7], _ =>
    match xs, hxl with
    | [y0, y1, y2, y3, y4, y5, y6], _ =>
      have t0 := hx 0 _ rfl
      have t1 := hx 1 _ rfl
      have t2 := hx 2 _ rfl
      have t3 := hx 3 _ rfl
      have t4 := hx 4 _ rfl
      have t5 := hx 5 _ rfl
      have t6 := hx 6 _ rfl
      simp [cI, cH] at t0 t1 t2 t3 t4 t5 t6
      obtain ⟨q0, e0⟩ := open_i t0
      obtain ⟨q1, e1⟩ := open_i t1
      obtain ⟨q2, e2⟩ := open_i t2
      obtain ⟨q3, e3⟩ := open_i t3
      obtain ⟨q4, e4⟩ := open_i t4
      obtain ⟨q5, e5⟩ := open_i t5
      obtain ⟨q6, q7, e6⟩ := open_hs t6
      simp at e0 e1 e2 e3 e4 e5 e6
      obtain ⟨e6, e7⟩ := e6
      subst e0 e1 e2 e3 e4 e5 e6 e7
      exact ⟨⟨q0, q1, q2, q3, q4, q5, q6, q7⟩, rfl⟩
theorem bytesW : Tryz.prog.bytesOf 53 = 64 := by kernel_rfl
theorem open_num {r : Reach} {b0 : Nat} {v : Value} {d : DataW H} {p : List MemPlace} (hv : Value.okWide Tryz.prog W r b0 3 v) (h : DataW.Trod enc Tryz.prog W 0 (fun _ => true) true 3 v d p) : ∃ n : Int, v = .int .i64 n := by
  obtain ⟨n, e, _⟩ := open_int Tryz.underlying3 hv h
  exact ⟨n, e⟩
end
end Go.Proofs.YtkhlihpghbhppabGreat

