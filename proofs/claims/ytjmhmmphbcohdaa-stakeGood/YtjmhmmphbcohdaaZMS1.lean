/- What a slash takes: plain facts. -/
import Derived.Test.YtjmhmmphbcohdaaZMP1
import Derived.Test.YtjmhmmphbcohdaaXra
set_option maxRecDepth 100000
namespace Go.Proofs.Ytjmhmmphbcohdaa
def ptN (n f : Int) : Int := Ra.ptN n f
def ptE (n f : Int) : Int := Ra.ptE n f
theorem pt_in {n f : Int} (hn : 0 ≤ n ∧ n ≤ 1125899906842624) (hf : 0 ≤ f ∧ f ≤ 1000) : ptE n f = 0 ∧ 0 ≤ ptN n f ∧ ptN n f ≤ n := by
  obtain ⟨h1, h2⟩ := Ra.pt_good (n := n) (f := f) ⟨Ra.inB_iff.2 hn, hf⟩
  refine ⟨h2, ?_, ?_⟩
  · show 0 ≤ Ra.ptN n f
    rw [h1]
    exact Int.ediv_nonneg (Int.mul_nonneg hn.1 hf.1) (by omega)
  · show Ra.ptN n f ≤ n
    rw [h1]
    exact Int.ediv_le_of_le_mul (by omega) (Int.mul_le_mul_of_nonneg_left hf.2 hn.1)
theorem pt_out {n f : Int} (hf : ¬ (0 ≤ f ∧ f ≤ 1000)) : ptE n f = 2 ∧ ptN n f = 0 := by
  unfold ptE ptN Ra.ptE Ra.ptN
  rw [if_neg (fun h => hf h.2), if_neg (fun h => hf h.2)]
  exact ⟨rfl, rfl⟩
/-- is a wait touched? -/
def hitW (v h : Int) (x : Wt) : Bool := decide (x.v = v) && decide (h ≤ x.hei)
def slX (v h f : Int) (x : Wt) : Wt := if hitW v h x = true then { x with amt := x.amt - ptN x.amt f } else x
def slW (v h f : Int) (W : List Wt) : List Wt := W.map (slX v h f)
def slP (v h f : Int) (x : Wt) : Int := if hitW v h x = true then ptN x.amt f else 0
def slN (v h f : Int) : List Wt → Int
  | [] => 0
  | x :: W => slP v h f x + slN v h f W
theorem slN_append (v h f : Int) : ∀ A B : List Wt, slN v h f (A ++ B) = slN v h f A + slN v h f B
  | [], B => by simp [slN]
  | x :: A, B => by simp only [List.cons_append, slN, slN_append v h f A B]; omega
theorem slP_in {v h f : Int} {x : Wt} (hx : 0 ≤ x.amt ∧ x.amt ≤ 1125899906842624) (hf : 0 ≤ f ∧ f ≤ 1000) : 0 ≤ slP v h f x ∧ slP v h f x ≤ x.amt := by
  have := pt_in hx hf
  unfold slP
  split <;> omega
theorem slN_in {v h f : Int} (hf : 0 ≤ f ∧ f ≤ 1000) : ∀ {W : List Wt}, (∀ x ∈ W, 0 ≤ x.amt ∧ x.amt ≤ 1125899906842624) → 0 ≤ slN v h f W ∧ slN v h f W ≤ amts W
  | [], _ => ⟨Int.le_refl _, Int.le_refl _⟩
  | x :: W, h1 => by
    have := slP_in (v := v) (h := h) (h1 x (List.mem_cons_self ..)) hf
    have := slN_in (v := v) (h := h) hf (W := W) fun y hy => h1 y (List.mem_cons_of_mem _ hy)
    simp only [slN, amts]
    omega
theorem sl_amts (v h f : Int) : ∀ W : List Wt, amts (slW v h f W) = amts W - slN v h f W
  | [] => rfl
  | x :: W => by
    have := sl_amts v h f W
    simp only [slW, List.map_cons, amts, slN] at *
    have e : (slX v h f x).amt = x.amt - slP v h f x := by
      unfold slX slP
      split
      · rfl
      · omega
    omega
theorem sl_step (v h f : Int) {W : List Wt} {k : Nat} {x : Wt} (hx : W[k]? = some x) : slW v h f (W.take (k + 1)) ++ W.drop (k + 1) = (slW v h f (W.take k) ++ W.drop k).set k (slX v h f x) ∧ (slW v h f (W.take k) ++ W.drop k)[k]? = some x ∧ slN v h f (W.take (k + 1)) = slN v h f (W.take k) + slP v h f x := by
  obtain ⟨hk, he⟩ := List.getElem?_eq_some_iff.1 hx
  have hl : (slW v h f (W.take k)).length = k := by unfold slW; rw [List.length_map, List.length_take]; omega
  have hd : W.drop k = x :: W.drop (k + 1) := by rw [← he]; exact List.drop_eq_getElem_cons hk
  refine ⟨?_, ?_, ?_⟩
  · rw [take_snoc hx, hd]
    unfold slW at *
    rw [List.map_append, List.set_append_right _ _ (by omega), hl, Nat.sub_self, List.append_assoc]
    rfl
  · rw [List.getElem?_append_right (by omega), hl, Nat.sub_self, hd]
    rfl
  · rw [take_snoc hx, slN_append]
    simp [slN]
theorem sl_same {v h f : Int} {x : Wt} (hx : hitW v h x = false) : slX v h f x = x ∧ slP v h f x = 0 := by
  unfold slX slP
  rw [if_neg (by simp [hx]), if_neg (by simp [hx])]
  exact ⟨rfl, rfl⟩
theorem sl_hit {v h f : Int} {x : Wt} (hx : hitW v h x = true) : slX v h f x = { x with amt := x.amt - ptN x.amt f } ∧ slP v h f x = ptN x.amt f := by
  unfold slX slP
  rw [if_pos hx, if_pos hx]
  exact ⟨rfl, rfl⟩
theorem set_same {W : List Wt} {k : Nat} {x : Wt} (h : W[k]? = some x) : W.set k x = W := by
  obtain ⟨hk, rfl⟩ := List.getElem?_eq_some_iff.1 h
  exact List.set_getElem_self hk
end Go.Proofs.Ytjmhmmphbcohdaa
