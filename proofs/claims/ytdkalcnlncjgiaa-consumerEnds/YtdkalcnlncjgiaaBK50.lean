/- Parts of the proof: CM CX. -/
import Derived.Test.YtdkalcnlncjgiaaRows
import Derived.Test.YtdkalcnlncjgiaaBK45
set_option maxRecDepth 100000
namespace Go.Proofs.Ytdkalcnlncjgiaa.Cd
open Go.RowKit

/-- the number of bytes, behind a number -/
def numF (acc : Int) (l : List Int) : Int := l.foldl (fun n c => n * 256 + c) acc
theorem pow_succ8 (m : Nat) : (2 : Int) ^ (8 * (m + 1)) = 2 ^ (8 * m) * 256 := by
  rw [show 8 * (m + 1) = 8 * m + 8 by omega, Int.pow_add]; rfl
theorem pow_pos8 (m : Nat) : (0 : Int) < 2 ^ (8 * m) := Int.pow_pos (by decide)
theorem good_bounds {k i v n : Int} {S : List (Int × Int)} {D : List Int} (h : goodN k i v n S D = 0) :
    1 ≤ k ∧ k ≤ 4 ∧ 1 ≤ i ∧ i ≤ 1099511627776 ∧ 0 ≤ v ∧ v < 6 ∧ 0 ≤ n ∧ n ≤ 1125899906842624 := by
  have hf : ∀ {k v n : Int} {a b : Nat}, accB k = false → forB k v n a b = false → v = 0 ∧ n = 0 := by
    intro k v n a b h1 h2
    simp only [forB, h1, Bool.or_eq_false_iff, Bool.and_eq_false_iff] at h2
    simp at h2
    exact h2.1
  rcases goodN_cases k i v n S D with h' | h' | ⟨h1, h2, h' | h' | ⟨h3, h4, h' | h' | h' | ⟨h5 | h5, h' | h' | h' | h'⟩⟩⟩
  all_goals first | (exfalso; omega) | skip
  · have hv : isV v = true := h5.2.1
    simp only [isV, decide_eq_true_eq] at hv
    omega
  · obtain ⟨e1, e2⟩ := hf h5 h'.1
    omega

theorem pws_bounds (S : List (Int × Int)) : ∀ last : Int, -1 ≤ last → prisesFrom last S = true → ∀ p ∈ S, 0 ≤ p.1 ∧ p.1 < 6 ∧ 0 ≤ p.2 ∧ p.2 ≤ 1125899906842624 := by
  induction S with
  | nil => simp
  | cons x t ih =>
    intro last hl h p hp
    simp only [prisesFrom, Bool.and_eq_true, decide_eq_true_eq, isV] at h
    obtain ⟨⟨⟨⟨h1, h2⟩, h3⟩, h4⟩, h5⟩ := h
    rcases List.mem_cons.1 hp with rfl | hp
    · omega
    · exact ih x.1 (by omega) h5 p hp
theorem nums_bounds (D : List Int) : ∀ last : Int, -1 ≤ last → risesFrom last D = true → ∀ p ∈ D, 0 ≤ p ∧ p < 6 := by
  induction D with
  | nil => simp
  | cons x t ih =>
    intro last hl h p hp
    simp only [risesFrom, Bool.and_eq_true, decide_eq_true_eq, isV] at h
    obtain ⟨⟨h1, h2⟩, h3⟩ := h
    rcases List.mem_cons.1 hp with rfl | hp
    · omega
    · exact ih x (by omega) h3 p hp

end Go.Proofs.Ytdkalcnlncjgiaa.Cd

set_option maxRecDepth 100000
namespace Go.Proofs.Ytdkalcnlncjgiaa.Cd
open Go.RowKit
theorem grown_set (w : World) (b o : Nat) (v : Value) : w.grownBy (w.setCell ⟨b, o, none⟩ v) (some b) :=
  ⟨rfl, rfl, rfl, by simp [World.setCell], fun k _ hk => Below.heap_setCell _ _ _ _ (fun e => hk (by rw [e]))⟩
/-- the next number of m bytes, and what is left behind it -/
def tk (m : Nat) (st : List Int × Bool) : Int × (List Int × Bool) := if st.1.length < m then (0, ([], true)) else (numF 0 (st.1.take m), (st.1.drop m, st.2))
end Go.Proofs.Ytdkalcnlncjgiaa.Cd

