/- Parts of the proof: KI3. -/
import Derived.Test.YtnfigdecgkcgcaaRows
import Derived.Test.YtnfigdecgkcgcaaCK43
set_option maxRecDepth 100000
namespace Go.Proofs.Ytnfigdecgkcgcaa.Kc
open Go.RowKit Pv
theorem those_prises (c : Nat → Bool) (f : Nat → Int) (h : ∀ i, i < 6 → 0 ≤ f i ∧ f i ≤ 3) : Cd.prisesFrom (-1) (Df.those c f 6) = true := by
  have h0 := h 0 (by omega)
  have h1 := h 1 (by omega)
  have h2 := h 2 (by omega)
  have h3 := h 3 (by omega)
  have h4 := h 4 (by omega)
  have h5 := h 5 (by omega)
  unfold Df.those
  rw [show List.range 6 = [0, 1, 2, 3, 4, 5] from rfl]
  cases e0 : c 0 <;> cases e1 : c 1 <;> cases e2 : c 2 <;> cases e3 : c 3 <;> cases e4 : c 4 <;> cases e5 : c 5 <;> simp [e0, e1, e2, e3, e4, e5, Cd.prisesFrom, Cd.isV] <;> omega
theorem those_set (f : Nat → Int) (h : ∀ i, i < 6 → 0 ≤ f i ∧ f i ≤ 3) : setB (-1) (Df.setOf f) = true := by
  have h0 := h 0 (by omega)
  have h1 := h 1 (by omega)
  have h2 := h 2 (by omega)
  have h3 := h 3 (by omega)
  have h4 := h 4 (by omega)
  have h5 := h 5 (by omega)
  unfold Df.setOf Df.those
  rw [show List.range 6 = [0, 1, 2, 3, 4, 5] from rfl]
  by_cases e0 : 0 < f 0 <;> by_cases e1 : 0 < f 1 <;> by_cases e2 : 0 < f 2 <;> by_cases e3 : 0 < f 3 <;> by_cases e4 : 0 < f 4 <;> by_cases e5 : 0 < f 5 <;> simp [e0, e1, e2, e3, e4, e5, setB, setB1] <;> omega
section
variable (F : Nat → Nat → Int)
/-- the i-th change -/
def chD (i : Nat) : Pkt := ⟨1, 2 + (i : Int), 0, 0, Df.diffL (Df.setOf (F i)) (Df.setOf (F (i + 1))), []⟩
def rips (now : Int) (i n : Nat) : List (Int × Int) := (List.range' i n).map fun (j : Nat) => (2 + (j : Int), now + 15)
/-- i changes are taken in, those up to m are heard -/
def gC (i m : Nat) (h t : Int) (rp : List (Int × Int)) : Cs := ⟨true, false, h, t, 1 + (i : Int), Df.setOf (F i), (List.range' i (m - i)).map (chD F), rp, fun _ => false, ⟨[], [], 0, false⟩, 0, 0, 0, 0⟩
variable {F}
theorem g_zero : beginC (Df.setOf (F 0)) 1 0 = gC F 0 0 0 0 [] := rfl
theorem good_chD (hF : ∀ i j, 0 ≤ F i j ∧ F i j ≤ 3) (i : Nat) (hi : i ≤ 100) : Cd.goodN 1 (2 + (i : Int)) 0 0 (Df.diffL (Df.setOf (F i)) (Df.setOf (F (i + 1)))) [] = 0 := by
  have hp : Cd.prisesFrom (-1) (Df.diffL (Df.setOf (F i)) (Df.setOf (F (i + 1)))) = true := by
    unfold Df.diffL
    refine those_prises _ _ fun j hj => ?_
    rw [Df.first_set (fun k => (hF (i + 1) k).1) hj]
    exact hF (i + 1) j
  unfold Cd.goodN
  rw [if_neg (by omega), if_neg (by omega), if_neg (by rintro ⟨h, -⟩; revert h; decide), if_neg (by show ¬ (false = true); decide), if_neg (by rw [hp]; decide)]
theorem g_ref (hF : ∀ i j, 0 ≤ F i j ∧ F i j ≤ 3) (i m : Nat) (h t : Int) (rp : List (Int × Int)) (hm : m ≤ 8) (hi : i ≤ m) (h0 : 0 ≤ h) (h1 : h ≤ 10) (t0 : 0 ≤ t) (t1 : t ≤ 1000) (hr : rp.all goodR = true) : refC (gC F i m h t rp) = 0 := by
  refine ref_of ?_ rfl
  have hp : ((List.range' i (m - i)).map (chD F)).all goodK = true := by
    rw [List.all_eq_true]
    intro x hx
    obtain ⟨j, hj, rfl⟩ := List.mem_map.1 hx
    have := List.mem_range'_1.1 hj
    show (decide ((1 : Int) = 1) && decide (Cd.goodN 1 (2 + (j : Int)) 0 0 (Df.diffL (Df.setOf (F j)) (Df.setOf (F (j + 1)))) [] = 0)) = true
    rw [good_chD hF j (by omega)]
    rfl
  show ((_ && decide (0 ≤ h) && decide (h < 1099511627776) && isT t && isT (1 + (i : Int))) && (setB (-1) (Df.setOf (F i)) && ((List.range' i (m - i)).map (chD F)).all goodK && rp.all goodR && _)) = true
  rw [hp, hr, those_set (F i) (fun j _ => hF i j), show decide (0 ≤ h) = true by simp; omega, show decide (h < 1099511627776) = true by simp; omega, show isT t = true by simp [isT]; omega, show isT (1 + (i : Int)) = true by simp [isT]; omega]
  rfl
theorem g_hear (hF : ∀ i j, 0 ≤ F i j ∧ F i j ≤ 3) (i m : Nat) (h t : Int) (rp : List (Int × Int)) (hm : m < 8) (hi : i ≤ m) (h0 : 0 ≤ h) (h1 : h ≤ 10) (t0 : 0 ≤ t) (t1 : t ≤ 1000) (hr : rp.all goodR = true) :
    hearC (gC F i m h t rp) (Cd.bs (Cd.encS 1 (2 + (m : Int)) 0 0 (Df.diffL (Df.setOf (F m)) (Df.setOf (F (m + 1)))) [])) = (gC F i (m + 1) h t rp, 0) := by
  have hg := good_chD hF m (by omega)
  unfold hearC
  rw [if_pos (g_ref hF i m h t rp (by omega) hi h0 h1 t0 t1 hr), if_pos (dec_encS hg).1, pktOf_encS hg, if_pos rfl]
  show (({ gC F i m h t rp with pd := (List.range' i (m - i)).map (chD F) ++ [chD F m] } : Cs), (0 : Int)) = (gC F i (m + 1) h t rp, 0)
  have e : (List.range' i (m - i)).map (chD F) ++ [chD F m] = (List.range' i (m + 1 - i)).map (chD F) := by
    rw [show m + 1 - i = (m - i) + 1 by omega, List.range'_1_concat, List.map_append, show i + (m - i) = m by omega]
    rfl
  rw [e]
  rfl
theorem takes_g (hF : ∀ i j, 0 ≤ F i j ∧ F i j ≤ 3) (c : Cs) (i : Nat) (h1 : c.set = Df.setOf (F i)) (h2 : c.id = 1 + (i : Int)) : ∀ n, ((List.range' i n).map (chD F)).foldl takeC c = { c with set := Df.setOf (F (i + n)), id := 1 + ((i + n : Nat) : Int), rp := c.rp ++ rips c.t i n }
  | 0 => by
    obtain ⟨on, gone, h, t, id, set, pd, rp, fl, out, a, b, d, e⟩ := c
    dsimp only at h1 h2
    subst h1 h2
    simp [rips]
  | n + 1 => by
    rw [List.range'_1_concat, List.map_append, List.foldl_append, takes_g hF c i h1 h2 n]
    show takeC _ (chD F (i + n)) = _
    unfold takeC chD
    dsimp only
    rw [Df.apply_diff (fun j => (hF (i + n) j).1) (fun j => (hF (i + n + 1) j).1)]
    have e : c.rp ++ rips c.t i n ++ [(2 + ((i + n : Nat) : Int), c.t + 15)] = c.rp ++ rips c.t i (n + 1) := by
      unfold rips
      rw [List.range'_1_concat, List.map_append, List.append_assoc]
      rfl
    rw [e]
    obtain ⟨on, gone, h, t, id, set, pd, rp, fl, out, a, b, d, e⟩ := c
    dsimp only
    congr 1
    omega
theorem ripe_wait (c : Cs) : ∀ l : List (Int × Int), (∀ x ∈ l, c.t < x.2) → ripeC c l = { c with rp := l }
  | [], _ => rfl
  | x :: l, h => by
    have := h x (by simp)
    unfold ripeC
    rw [if_neg (by omega)]
theorem g_end (hF : ∀ i j, 0 ≤ F i j ∧ F i j ≤ 3) (i m : Nat) (h t now : Int) (rp : List (Int × Int)) (hm : m ≤ 8) (hi : i ≤ m) (h0 : 0 ≤ h) (h1 : h ≤ 10) (t0 : 0 ≤ t) (t1 : t ≤ now) (n1 : now < 1000) (hr : rp.all goodR = true) (hd : ∀ x ∈ rp, now < x.2) :
    endC (gC F i m h t rp) now = (gC F m m (h + 1) now (rp ++ rips now i (m - i)), 0) := by
  unfold endC
  rw [if_pos (g_ref hF i m h t rp hm hi h0 h1 t0 (by omega) hr), if_pos ⟨by simp [isT]; omega, t1⟩]
  have e : takesC { gC F i m h t rp with h := (gC F i m h t rp).h + 1, t := now } = { { gC F i m h t rp with h := (gC F i m h t rp).h + 1, t := now } with set := Df.setOf (F (i + (m - i))), id := 1 + ((i + (m - i) : Nat) : Int), rp := rp ++ rips now i (m - i) } := takes_g hF { gC F i m h t rp with h := (gC F i m h t rp).h + 1, t := now } i rfl rfl (m - i)
  unfold doneC
  rw [e, show i + (m - i) = m by omega]
  dsimp only
  rw [ripe_wait]
  · unfold gC
    rw [Nat.sub_self]
    rfl
  · intro x hx
    show now < x.2
    rcases List.mem_append.1 hx with hx | hx
    · exact hd x hx
    · obtain ⟨j, _, rfl⟩ := List.mem_map.1 hx
      show now < now + 15
      omega
theorem rips_good (now : Int) (h0 : 0 ≤ now) (i n : Nat) (hi : i + n ≤ 100) : (rips now i n).all goodR = true ∧ (∀ x ∈ rips now i n, now < x.2) := by
  constructor
  · rw [List.all_eq_true]
    intro x hx
    obtain ⟨j, hj, rfl⟩ := List.mem_map.1 hx
    have := List.mem_range'_1.1 hj
    simp [goodR]
    omega
  · intro x hx
    obtain ⟨j, _, rfl⟩ := List.mem_map.1 hx
    show now < now + 15
    omega
theorem rips_length (now : Int) (i n : Nat) : (rips now i n).length = n := by simp [rips]
end
end Go.Proofs.Ytnfigdecgkcgcaa.Kc

