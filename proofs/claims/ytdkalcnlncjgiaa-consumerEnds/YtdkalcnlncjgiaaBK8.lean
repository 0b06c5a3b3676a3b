/- Parts of the proof: KHA. -/
import Derived.Test.YtdkalcnlncjgiaaRows
import Derived.Test.YtdkalcnlncjgiaaBK7
import Derived.Test.YtdkalcnlncjgiaaBK53
set_option maxRecDepth 100000
namespace Go.Proofs.Ytdkalcnlncjgiaa.Kc
open Go.RowKit Pv
theorem prises_len : ∀ (l : List (Int × Int)) (last : Int), -1 ≤ last → last ≤ 5 → Cd.prisesFrom last l = true → (l.length : Int) ≤ 5 - last
  | [], last, _, h, _ => by simp; omega
  | x :: l, last, h0, h1, h => by
    unfold Cd.prisesFrom Cd.isV at h
    simp only [Bool.and_eq_true, decide_eq_true_eq] at h
    have := prises_len l x.1 (by omega) (by omega) h.2
    simp only [List.length_cons]
    omega
theorem rises_len : ∀ (l : List Int) (last : Int), -1 ≤ last → last ≤ 5 → Cd.risesFrom last l = true → (l.length : Int) ≤ 5 - last
  | [], last, _, h, _ => by simp; omega
  | x :: l, last, h0, h1, h => by
    unfold Cd.risesFrom Cd.isV at h
    simp only [Bool.and_eq_true, decide_eq_true_eq] at h
    have := rises_len l x (by omega) (by omega) h.2
    simp only [List.length_cons]
    omega
theorem good_rises {k i v n : Int} {S : List (Int × Int)} {D : List Int} (h : Cd.goodN k i v n S D = 0) : Cd.prisesFrom (-1) S = true ∧ Cd.risesFrom (-1) D = true := by
  unfold Cd.goodN at h
  by_cases h1 : k < 1 ∨ 4 < k
  · rw [if_pos h1] at h; exact absurd h (by decide)
  rw [if_neg h1] at h
  by_cases h2 : i < 1 ∨ 1099511627776 < i
  · rw [if_pos h2] at h; exact absurd h (by decide)
  rw [if_neg h2] at h
  by_cases h3 : Cd.accB k = true ∧ (Cd.isV v = false ∨ n < 1 ∨ 1125899906842624 < n)
  · rw [if_pos h3] at h; exact absurd h (by decide)
  rw [if_neg h3] at h
  by_cases h4 : Cd.forB k v n S.length D.length = true
  · rw [if_pos h4] at h; exact absurd h (by decide)
  rw [if_neg h4] at h
  by_cases h5 : Cd.prisesFrom (-1) S = false ∨ Cd.risesFrom (-1) D = false
  · rw [if_pos h5] at h; exact absurd h (by decide)
  · cases a : Cd.prisesFrom (-1) S
    · exact absurd (.inl a) h5
    · cases b : Cd.risesFrom (-1) D
      · exact absurd (.inr b) h5
      · exact ⟨rfl, rfl⟩
theorem infoPk : (Try.prog.info? 46).map (fun i => (i.zero, i.size, i.bytes)) = some (some (.agg #[.int .i64 0, .int .i64 0, .int .i64 0, .int .i64 0, .slice none 0 0, .slice none 0 0]), 6, 80) := by kernel_rfl
/-- packets with one more behind, in a new block -/
theorem KRep.app {P P' : Nat → Prop} {w w' : World} {q : List Pkt} {z : List (Value × Value)} {x : Pkt} {y : Value × Value} (hl : z.length = q.length) (hz : ∀ (i : Nat) (x : Pkt) (y : Value × Value), q[i]? = some x → z[i]? = some y → Rep P w y.1 2 16 (pwC x.S) ∧ Rep P w y.2 1 8 (inC x.D)) (hP : ∀ b, b < w.heap.size → P b → P' b) (hb : Below w.heap.size w w') (hy : Rep P' w' y.1 2 16 (pwC x.S) ∧ Rep P' w' y.2 1 8 (inC x.D)) (hb80 : q.length * 80 ≤ 140737488351232) {g C : Nat} (hC : q.length + 1 ≤ C) (hg : P' g) (hlt : g < w'.heap.size) (hc : ∀ j u, (pdL q z ++ pkL x y)[j]? = some u → w'.cell? ⟨g, j, none⟩ = some u) : KRep P' w' (.slice (some ⟨g, 0, none⟩) (q.length + 1) C) (q ++ [x]) := by
  refine ⟨z ++ [y], by simp [hl], ⟨_, q.length + 1, C, rfl, ?_, by omega, ⟨fun h => (by cases h), hC⟩, fun _ => ⟨g, 0, rfl, hg, hlt, fun j u hu => ?_⟩⟩, fun i a b ha hb' => ?_⟩
  · rw [pdL_length _ _ (by simp [hl])]; simp
  · rw [pdL_app q z x y hl] at hu
    rw [Nat.zero_add]
    exact hc j u hu
  · by_cases hi : i < q.length
    · rw [List.getElem?_append_left hi] at ha
      rw [List.getElem?_append_left (by omega)] at hb'
      have := hz i a b ha hb'
      exact ⟨(this.1.mono hP).over hb, (this.2.mono hP).over hb⟩
    · rw [List.getElem?_append_right (by omega)] at ha hb'
      have e1 := (List.getElem?_eq_some_iff.1 ha).1
      have e2 : i - q.length = 0 := by simpa using e1
      rw [e2] at ha
      rw [hl, e2] at hb'
      cases ha
      cases hb'
      exact hy
attribute [local go_sem ↓] loadC_eq storeC_eq
end Go.Proofs.Ytdkalcnlncjgiaa.Kc

