/- follow, whatever the order. -/
import Derived.Test.YtjmhmmphbcohdaaZFO0
import Derived.Test.YtjmhmmphbcohdaaZFO1
import Derived.Test.YtjmhmmphbcohdaaZFO2
import Derived.Test.YtjmhmmphbcohdaaZFO3
import Derived.Test.YtjmhmmphbcohdaaZFO4
import Derived.Test.YtjmhmmphbcohdaaZFO5
import Derived.Test.YtjmhmmphbcohdaaZFO6
import Derived.Test.YtjmhmmphbcohdaaZFO7
set_option maxRecDepth 100000
namespace Go.Proofs.Ytjmhmmphbcohdaa
open Go.RowKit
theorem follow_any (s : St) (ao : Option Addr) (sb so c : Nat) (k d v n h : Int) (w : World) (hg : goodS s = true) (hc : s.W.length ≤ c) (hW : WsAt w ao sb so s.W) (hsb : sb ≠ w.heap.size ∧ sb ≠ w.heap.size + 2) :
    Calls Try.prog 6 #[.agg (stC s (.slice ao s.W.length c)), .agg #[.int .i64 k, .int .i64 d, .int .i64 v, .int .i64 n, .int .i64 h]] w (K2 s sb w) := by
  have hk : k % 8 = 0 ∨ k % 8 = 1 ∨ k % 8 = 2 ∨ k % 8 = 3 ∨ k % 8 = 4 ∨ k % 8 = 5 ∨ k % 8 = 6 ∨ k % 8 = 7 := by omega
  rcases hk with hk | hk | hk | hk | hk | hk | hk | hk
  · exact follow_0 s ao sb so c k d v n h w hg hc hW hsb hk
  · exact follow_1 s ao sb so c k d v n h w hg hc hW hsb hk
  · exact follow_2 s ao sb so c k d v n h w hg hc hW hsb hk
  · exact follow_3 s ao sb so c k d v n h w hg hc hW hsb hk
  · exact follow_4 s ao sb so c k d v n h w hg hc hW hsb hk
  · exact follow_5 s ao sb so c k d v n h w hg hc hW hsb hk
  · exact follow_6 s ao sb so c k d v n h w hg hc hW hsb hk
  · exact follow_7 s ao sb so c k d v n h w hg hc hW hsb hk
/-- follow, as the law uses it -/
theorem follow_law (s : St) (ao : Option Addr) (sb so c : Nat) (k d v n h : Int) (w : World) (hg : goodS s = true) (hc : s.W.length ≤ c) (hW : WsAt w ao sb so s.W) :
    Calls Try.prog 6 #[.agg (stC s (.slice ao s.W.length c)), .agg #[.int .i64 k, .int .i64 d, .int .i64 v, .int .i64 n, .int .i64 h]] w fun e w' =>
      ∃ (t : St) (er : Int) (A : Option Addr) (ab a2 C : Nat), Kp s (t, er) ∧ e = .returned (.tuple #[.agg (stC t (.slice A t.W.length C)), .int .i64 er]) ∧ t.W.length ≤ C ∧ WsAt w' A ab a2 t.W ∧ (0 < t.W.length → ab < w'.heap.size ∧ (0 < s.W.length ∧ ab = sb ∨ w.heap.size ≤ ab)) ∧ Below w.heap.size w w' := by
  by_cases h0 : 0 < s.W.length
  · have := hW.lt h0
    refine (follow_any s ao sb so c k d v n h w hg hc hW (by omega)).mono ?_
    rintro e w' ⟨⟨t, er⟩, A, ab, a2, C, kp, rfl, hl⟩
    refine ⟨t, er, A, ab, a2, C, kp, rfl, hl.room, hl.ws, fun h => ⟨(hl.at_ h).1, ?_⟩, hl.below⟩
    rcases (hl.at_ h).2 with h | h
    · exact .inl ⟨h0, h⟩
    · exact .inr h
  · have hW2 : WsAt w ao (w.heap.size + 1) so s.W := ⟨fun h => absurd h h0, hW.len, fun i x hx => absurd (List.getElem?_eq_some_iff.1 hx).1 (by omega)⟩
    refine (follow_any s ao (w.heap.size + 1) so c k d v n h w hg hc hW2 (by omega)).mono ?_
    rintro e w' ⟨⟨t, er⟩, A, ab, a2, C, kp, rfl, hl⟩
    refine ⟨t, er, A, ab, a2, C, kp, rfl, hl.room, hl.ws, fun h => ⟨(hl.at_ h).1, .inr ?_⟩, hl.below⟩
    rcases (hl.at_ h).2 with h | h <;> omega
end Go.Proofs.Ytjmhmmphbcohdaa
