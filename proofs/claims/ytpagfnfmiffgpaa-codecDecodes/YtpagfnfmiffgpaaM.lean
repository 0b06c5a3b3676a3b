/- Plain facts on the bytes of numbers and of packets. -/
import Derived.Test.YtpagfnfmiffgpaaD
namespace Go.Proofs.Ytpagfnfmiffgpaa
open Go.RowKit

/-- the number of bytes, behind a number -/
def numF (acc : Int) (l : List Int) : Int := l.foldl (fun n c => n * 256 + c) acc
theorem pow_succ8 (m : Nat) : (2 : Int) ^ (8 * (m + 1)) = 2 ^ (8 * m) * 256 := by
  rw [show 8 * (m + 1) = 8 * m + 8 by omega, Int.pow_add]; rfl
theorem pow_pos8 (m : Nat) : (0 : Int) < 2 ^ (8 * m) := Int.pow_pos (by decide)
theorem emod_mul256 (n a : Int) (ha : 0 < a) : n % (a * 256) = n % a + a * (n / a % 256) := by
  have h1 := Int.emod_add_mul_ediv n a
  have h2 := Int.emod_add_mul_ediv (n / a) 256
  have h3 := Int.emod_nonneg n (show a ≠ 0 by omega)
  have h4 := Int.emod_lt_of_pos n ha
  have h5 := Int.emod_nonneg (n / a) (show (256 : Int) ≠ 0 by decide)
  have h6 := Int.emod_lt_of_pos (n / a) (show (0 : Int) < 256 by decide)
  generalize n / a / 256 = q at *
  generalize n / a % 256 = r at *
  generalize n % a = s at *
  generalize n / a = t at *
  subst h2
  have e : n = (s + a * r) + (a * 256) * q := by rw [← h1, Int.mul_add, ← Int.mul_assoc]; omega
  have hle : a * r ≤ a * 255 := Int.mul_le_mul_of_nonneg_left (by omega) (by omega)
  have hge : 0 ≤ a * r := Int.mul_nonneg (by omega) h5
  rw [e, Int.add_mul_emod_self_left, Int.emod_eq_of_lt (by omega) (by omega)]
theorem numF_be (n : Int) : ∀ (m : Nat) (acc : Int), numF acc (be n m) = acc * 2 ^ (8 * m) + n % 2 ^ (8 * m) := by
  intro m
  induction m with
  | zero => intro acc; simp [be, numF, Int.emod_one]
  | succ m ih =>
    intro acc
    have h : numF acc (be n (m + 1)) = numF (acc * 256 + n / 2 ^ (8 * m) % 256) (be n m) := rfl
    rw [h, ih, pow_succ8, emod_mul256 _ _ (pow_pos8 m), Int.add_mul, Int.mul_assoc, Int.mul_comm 256, Int.mul_comm (n / 2 ^ (8 * m) % 256)]
    omega
theorem num_be {n : Int} {m : Nat} (h : 0 ≤ n) (h2 : n < 2 ^ (8 * m)) : numF 0 (be n m) = n := by
  rw [numF_be, Int.zero_mul, Int.zero_add, Int.emod_eq_of_lt h h2]
theorem be_inj {m : Nat} {a b : Int} (ha : 0 ≤ a) (hb : 0 ≤ b) (h1 : a < 2 ^ (8 * m)) (h2 : b < 2 ^ (8 * m)) (h : be a m = be b m) : a = b := by
  rw [← num_be ha h1, ← num_be hb h2, h]
theorem be_byte (n : Int) (m : Nat) : ∀ c ∈ be n m, 0 ≤ c ∧ c < 256 := by
  induction m with
  | zero => simp [be]
  | succ m ih =>
    intro c hc
    rcases List.mem_cons.1 hc with rfl | hc
    · omega
    · exact ih c hc

theorem good_bounds {k i v n : Int} {S : List (Int × Int)} {D : List Int} (h : goodN k i v n S D = 0) :
    1 ≤ k ∧ k ≤ 4 ∧ 1 ≤ i ∧ i ≤ 1099511627776 ∧ 0 ≤ v ∧ v < 6 ∧ 0 ≤ n ∧ n ≤ 1125899906842624 := by
  have hf : ∀ {k v n : Int} {a b : Nat}, accB k = false → forB k v n a b = false → v = 0 ∧ n = 0 := by
    intro k v n a b h1 h2
    simp only [forB, h1, Bool.or_eq_false_iff, Bool.and_eq_false_iff] at h2
    simp at h2
    exact h2.1
  rcases goodN_cases k i v n S D with h' | h' | ⟨h1, h2, h' | h' | ⟨h3, h4, h' | h' | h' | ⟨h5 | h5, h' | h' | h' | h'⟩⟩⟩
  all_goals first | (exfalso; omega) | skip
  · have hv : isV v = true := h5.2.1
    simp only [isV, decide_eq_true_eq] at hv
    omega
  · obtain ⟨e1, e2⟩ := hf h5 h'.1
    omega

theorem pws_bounds (S : List (Int × Int)) : ∀ last : Int, -1 ≤ last → prisesFrom last S = true → ∀ p ∈ S, 0 ≤ p.1 ∧ p.1 < 6 ∧ 0 ≤ p.2 ∧ p.2 ≤ 1125899906842624 := by
  induction S with
  | nil => simp
  | cons x t ih =>
    intro last hl h p hp
    simp only [prisesFrom, Bool.and_eq_true, decide_eq_true_eq, isV] at h
    obtain ⟨⟨⟨⟨h1, h2⟩, h3⟩, h4⟩, h5⟩ := h
    rcases List.mem_cons.1 hp with rfl | hp
    · omega
    · exact ih x.1 (by omega) h5 p hp
theorem nums_bounds (D : List Int) : ∀ last : Int, -1 ≤ last → risesFrom last D = true → ∀ p ∈ D, 0 ≤ p ∧ p < 6 := by
  induction D with
  | nil => simp
  | cons x t ih =>
    intro last hl h p hp
    simp only [risesFrom, Bool.and_eq_true, decide_eq_true_eq, isV] at h
    obtain ⟨⟨h1, h2⟩, h3⟩ := h
    rcases List.mem_cons.1 hp with rfl | hp
    · omega
    · exact ih x (by omega) h3 p hp

theorem encPs_inj : ∀ (S S' : List (Int × Int)), (∀ p ∈ S, 0 ≤ p.1 ∧ p.1 < 6 ∧ 0 ≤ p.2 ∧ p.2 ≤ 1125899906842624) → (∀ p ∈ S', 0 ≤ p.1 ∧ p.1 < 6 ∧ 0 ≤ p.2 ∧ p.2 ≤ 1125899906842624) →
    S.length = S'.length → S.flatMap encP = S'.flatMap encP → S = S' := by
  intro S
  induction S with
  | nil => intro S' _ _ hl _; exact (List.eq_nil_of_length_eq_zero hl.symm).symm
  | cons x t ih =>
    intro S' h h' hl he
    match S', hl with
    | y :: t', hl =>
      rw [List.flatMap_cons, List.flatMap_cons] at he
      obtain ⟨e1, e2⟩ := List.append_inj he (by rw [encP_length, encP_length])
      obtain ⟨e3, e4⟩ := List.append_inj e1 (by rw [be_length, be_length])
      have hx := h x (List.mem_cons_self ..)
      have hy := h' y (List.mem_cons_self ..)
      have f1 := be_inj hx.1 hy.1 (by omega) (by omega) e3
      have f2 := be_inj hx.2.2.1 hy.2.2.1 (by omega) (by omega) e4
      rw [ih t' (fun p hp => h p (List.mem_cons_of_mem _ hp)) (fun p hp => h' p (List.mem_cons_of_mem _ hp)) (by simpa using hl) e2, Prod.ext f1 f2]
theorem encDs_inj : ∀ (D D' : List Int), (∀ p ∈ D, 0 ≤ p ∧ p < 6) → (∀ p ∈ D', 0 ≤ p ∧ p < 6) → D.length = D'.length → D.flatMap (be · 1) = D'.flatMap (be · 1) → D = D' := by
  intro S
  induction S with
  | nil => intro S' _ _ hl _; exact (List.eq_nil_of_length_eq_zero hl.symm).symm
  | cons x t ih =>
    intro S' h h' hl he
    match S', hl with
    | y :: t', hl =>
      rw [List.flatMap_cons, List.flatMap_cons] at he
      obtain ⟨e1, e2⟩ := List.append_inj he (by rw [be_length, be_length])
      have hx := h x (List.mem_cons_self ..)
      have hy := h' y (List.mem_cons_self ..)
      have f1 := be_inj hx.1 hy.1 (by omega) (by omega) e1
      rw [ih t' (fun p hp => h p (List.mem_cons_of_mem _ hp)) (fun p hp => h' p (List.mem_cons_of_mem _ hp)) (by simpa using hl) e2, f1]
theorem enc_inj {k i v n k' i' v' n' : Int} {S S' : List (Int × Int)} {D D' : List Int} (h : goodN k i v n S D = 0) (h' : goodN k' i' v' n' S' D' = 0) (he : enc k i v n S D = enc k' i' v' n' S' D') :
    k = k' ∧ i = i' ∧ v = v' ∧ n = n' ∧ S = S' ∧ D = D' := by
  have b := good_bounds h
  have b' := good_bounds h'
  have l := good_lists h
  have l' := good_lists h'
  unfold enc encH at he
  simp only [List.append_assoc] at he
  obtain ⟨e1, he⟩ := List.append_inj he (by rw [be_length, be_length])
  obtain ⟨e2, he⟩ := List.append_inj he (by rw [be_length, be_length])
  obtain ⟨e3, he⟩ := List.append_inj he (by rw [be_length, be_length])
  obtain ⟨e4, he⟩ := List.append_inj he (by rw [be_length, be_length])
  obtain ⟨e5, he⟩ := List.append_inj he (by rw [be_length, be_length])
  have f5 := be_inj (by omega) (by omega) (by omega) (by omega) e5
  have f5' : S.length = S'.length := by omega
  obtain ⟨e6, he⟩ := List.append_inj he (by rw [encPs_length, encPs_length, f5'])
  obtain ⟨e7, he⟩ := List.append_inj he (by rw [be_length, be_length])
  have f7 := be_inj (by omega) (by omega) (by omega) (by omega) e7
  exact ⟨be_inj (by omega) (by omega) (by omega) (by omega) e1, be_inj (by omega) (by omega) (by omega) (by omega) e2, be_inj (by omega) (by omega) (by omega) (by omega) e3, be_inj (by omega) (by omega) (by omega) (by omega) e4,
    encPs_inj S S' (pws_bounds S (-1) (by omega) l.1) (pws_bounds S' (-1) (by omega) l'.1) f5' e6, encDs_inj D D' (nums_bounds D (-1) (by omega) l.2.1) (nums_bounds D' (-1) (by omega) l'.2.1) (by omega) he⟩
theorem enc_byte (k i v n : Int) (S : List (Int × Int)) (D : List Int) : ∀ c ∈ enc k i v n S D, 0 ≤ c ∧ c < 256 := by
  intro c hc
  unfold enc encH at hc
  simp only [List.mem_append, List.mem_flatMap, encP] at hc
  rcases hc with ((((((h | h) | h) | h) | h) | ⟨p, _, h | h⟩) | h) | ⟨p, _, h⟩ <;> exact be_byte _ _ c h
theorem strOfNums_inj {a b : List Int} (ha : ∀ c ∈ a, 0 ≤ c ∧ c < 256) (hb : ∀ c ∈ b, 0 ≤ c ∧ c < 256) (h : strOfNums a = strOfNums b) : a = b := by
  have h2 : a.map (fun n => UInt8.ofNat n.toNat) = b.map (fun n => UInt8.ofNat n.toNat) := congrArg (fun s : ByteArray => s.data.toList) h
  have key : ∀ l : List Int, (∀ c ∈ l, 0 ≤ c ∧ c < 256) → (l.map (fun n => UInt8.ofNat n.toNat)).map (fun u => (u.toNat : Int)) = l := by
    intro l hl
    rw [List.map_map]
    conv => rhs; rw [← List.map_id l]
    refine List.map_congr_left fun c hc => ?_
    have := hl c hc
    simp only [Function.comp, id, UInt8.toNat_ofNat']
    omega
  rw [← key a ha, ← key b hb, h2]
end Go.Proofs.Ytpagfnfmiffgpaa
