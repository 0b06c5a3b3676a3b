/- Undelegate, whatever it answers. -/
import Derived.Test.YtjmhmmphbcohdaaZSW3
set_option maxRecDepth 100000
namespace Go.Proofs.Ytjmhmmphbcohdaa
open Go.RowKit
theorem undel_ref {s : St} {d v n : Int} {y : Wt} (h : refOfE s d v ≠ 0) : undelS s d v n y = (s, refOfE s d v) := if_neg h
section
variable {s : St} {d v n : Int} {y : Wt} (h : refOfE s d v = 0)
include h
theorem undel_1 (h1 : ¬ ((decide (0 < n) && inA n) = true ∧ 0 ≤ y.hei ∧ 0 ≤ y.due)) : undelS s d v n y = (s, 2) := by rw [undelS, if_pos h, if_neg h1]
theorem undel_2 (h1 : (decide (0 < n) && inA n) = true ∧ 0 ≤ y.hei ∧ 0 ≤ y.due) (h2 : ¬ n ≤ s.S d.toNat v.toNat) : undelS s d v n y = (s, 7) := by rw [undelS, if_pos h, if_pos h1, if_neg h2]
theorem undel_3 (h1 : (decide (0 < n) && inA n) = true ∧ 0 ≤ y.hei ∧ 0 ≤ y.due) (h2 : n ≤ s.S d.toNat v.toNat) (h3 : ¬ (s.W.length < 60 ∧ s.next < 1125899906842624)) : undelS s d v n y = (s, 6) := by rw [undelS, if_pos h, if_pos h1, if_pos h2, if_neg h3]
theorem undel_4 (h1 : (decide (0 < n) && inA n) = true ∧ 0 ≤ y.hei ∧ 0 ≤ y.due) (h2 : n ≤ s.S d.toNat v.toNat) (h3 : s.W.length < 60 ∧ s.next < 1125899906842624) (h4 : woE (s.V v.toNat) n ≠ 0) : undelS s d v n y = (s, woE (s.V v.toNat) n) := by rw [undelS, if_pos h, if_pos h1, if_pos h2, if_pos h3, if_neg h4]
theorem undel_5 (h1 : (decide (0 < n) && inA n) = true ∧ 0 ≤ y.hei ∧ 0 ≤ y.due) (h2 : n ≤ s.S d.toNat v.toNat) (h3 : s.W.length < 60 ∧ s.next < 1125899906842624) (h4 : woE (s.V v.toNat) n = 0) (h5 : (unbondR s.b (woN (s.V v.toNat) n)).2 ≠ 0) : undelS s d v n y = (s, (unbondR s.b (woN (s.V v.toNat) n)).2) := by rw [undelS, if_pos h, if_pos h1, if_pos h2, if_pos h3, if_pos h4, if_neg h5]
theorem undel_6 (h1 : (decide (0 < n) && inA n) = true ∧ 0 ≤ y.hei ∧ 0 ≤ y.due) (h2 : n ≤ s.S d.toNat v.toNat) (h3 : s.W.length < 60 ∧ s.next < 1125899906842624) (h4 : woE (s.V v.toNat) n = 0) (h5 : (unbondR s.b (woN (s.V v.toNat) n)).2 = 0) : undelS s d v n y = (outS s d.toNat v.toNat (woN (s.V v.toNat) n) n (unbondR s.b (woN (s.V v.toNat) n)).1 { y with num := s.next, d := d, v := v, amt := woN (s.V v.toNat) n }, 0) := by rw [undelS, if_pos h, if_pos h1, if_pos h2, if_pos h3, if_pos h4, if_pos h5]
end
theorem undel_any (s : St) (ao : Option Addr) (sb so c : Nat) (d v n : Int) (y : Wt) (w : World) (hc : s.W.length ≤ c) (hW : WsAt w ao sb so s.W) :
    Calls Try.prog 13 #[.agg (stC s (.slice ao s.W.length c)), .int .i64 d, .int .i64 v, .int .i64 n, .agg #[.int .i64 y.num, .int .i64 y.d, .int .i64 y.v, .int .i64 y.amt, .int .i64 y.hei, .int .i64 y.due, .int .i64 y.h0, .int .i64 y.h1]] w fun e w' => AnswersC w.heap.size sb w (undelS s d v n y) e w' := by
  by_cases h : refOfE s d v = 0
  · obtain ⟨hg, ⟨v0, v1⟩, d0, d1⟩ := ref_zero h
    obtain ⟨v, rfl⟩ := Int.eq_ofNat_of_zero_le v0
    obtain ⟨d, rfl⟩ := Int.eq_ofNat_of_zero_le d0
    exact undel_yes s ao sb so c d v n y w hc hW _ hg (by omega) (by omega) _ _ _ _ rfl rfl (unbond_any s.b _) (undel_1 h) (undel_2 h) (undel_3 h) (undel_4 h) (undel_5 h) (undel_6 h)
  · exact undel_no s ao sb so c d v n y w hc hW _ h (undel_ref h)
end Go.Proofs.Ytjmhmmphbcohdaa
