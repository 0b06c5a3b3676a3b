/- Parts of the proof: CDP. -/
import Derived.Test.YtnfigdecgkcgcaaRows
import Derived.Test.YtnfigdecgkcgcaaAK35
import Derived.Test.YtnfigdecgkcgcaaAK36
set_option maxRecDepth 100000
namespace Go.Proofs.Ytnfigdecgkcgcaa.Cd
open Go.RowKit
theorem dp_refused (s : ByteArray) (w : World) (h : (parse (bs s)).2 ≠ ([], false)) : ∀ w', Below w.heap.size w w' → ∃ sa da cs cd sb so db dO,
      refused = .returned (.tuple #[.agg #[.int .i64 (decP (bs s)).1, .int .i64 (decP (bs s)).2.1, .int .i64 (decP (bs s)).2.2.1, .int .i64 (decP (bs s)).2.2.2.1, .slice sa (decP (bs s)).2.2.2.2.1.length cs, .slice da (decP (bs s)).2.2.2.2.2.length cd], .int .i64 (decE (bs s))]) ∧
      Lies w' (decP (bs s)).2.2.2.2.1 (decP (bs s)).2.2.2.2.2 sa da sb so db dO ∧ (Rm w.heap.size sa (decP (bs s)).2.2.2.2.1.length cs sb ∧ Rm w.heap.size da (decP (bs s)).2.2.2.2.2.length cd db) ∧ Below w.heap.size w w' := by
  intro w' hb
  obtain ⟨he1, hp1⟩ := dec_form h
  exact ⟨none, none, 0, 0, 0, 0, 0, 0, by rw [he1, hp1]; rfl, by rw [hp1]; exact lies_nil _, by rw [hp1]; exact rm_nil _, hb⟩
theorem dp_any (s : ByteArray) (w : World) (hs : s.size ≤ maxLen) :
    Calls Try.prog 38 #[.string s] w fun e w' => ∃ sa da cs cd sb so db dO,
      e = .returned (.tuple #[.agg #[.int .i64 (decP (bs s)).1, .int .i64 (decP (bs s)).2.1, .int .i64 (decP (bs s)).2.2.1, .int .i64 (decP (bs s)).2.2.2.1, .slice sa (decP (bs s)).2.2.2.2.1.length cs, .slice da (decP (bs s)).2.2.2.2.2.length cd], .int .i64 (decE (bs s))]) ∧
      Lies w' (decP (bs s)).2.2.2.2.1 (decP (bs s)).2.2.2.2.2 sa da sb so db dO ∧ (Rm w.heap.size sa (decP (bs s)).2.2.2.2.1.length cs sb ∧ Rm w.heap.size da (decP (bs s)).2.2.2.2.2.length cd db) ∧ Below w.heap.size w w' := by
  have hby := bs_byte s
  by_cases h17 : s.size < 17
  · refine dp_short s w (by omega) _ (dp_refused s w fun h => ?_)
    obtain ⟨n', m', _, _, h3⟩ := parse_len hby h
    rw [bs_length] at h3
    omega
  · obtain ⟨n, hn⟩ : ∃ n, (s[15]'(by omega)).toNat = n := ⟨_, rfl⟩
    have hn2 : n ≤ 255 := by have := (s[15]'(by omega)).toNat_lt; omega
    by_cases h8 : s.size < 17 + 8 * n
    · refine dp_mid s w (by omega) (by omega) n hn (by omega) (by omega) _ (dp_refused s w fun h => ?_)
      obtain ⟨n', m', h1, _, h3⟩ := parse_len hby h
      rw [bs_get s 15 (by omega), hn] at h1
      rw [bs_length] at h3
      omega
    · obtain ⟨m, hm⟩ : ∃ m, (s[16 + 8 * n]'(by omega)).toNat = m := ⟨_, rfl⟩
      have hm2 : m ≤ 255 := by have := (s[16 + 8 * n]'(by omega)).toNat_lt; omega
      by_cases hT : s.size = 17 + 8 * n + m
      · exact dp_ok s w hs h17 n hn hn2 h8 m hm hm2 hT
      · refine dp_long s w (by omega) (by omega) n hn (by omega) (by omega) (by omega) m hm (by omega) (by rw [bne_iff_ne]; omega) _ (dp_refused s w fun h => ?_)
        obtain ⟨n', m', h1, h2, h3⟩ := parse_len hby h
        rw [bs_get s 15 (by omega), hn] at h1
        have e : n' = n := by omega
        subst e
        rw [bs_get s (16 + 8 * n') (by omega), hm] at h2
        rw [bs_length] at h3
        omega
end Go.Proofs.Ytnfigdecgkcgcaa.Cd

