/- Parts of the proof: SCL DF0. -/
import Derived.Test.YtkhlihpghbhppabGreatRows
import Derived.Test.YtkhlihpghbhppabGreatProviderRemovesK9
import Derived.Laws.Cover3
import Derived.ChangeKeysEq
set_option maxRecDepth 100000
namespace Go.Proofs.YtkhlihpghbhppabGreat
open Go.RowKit
theorem eqNil (w : World) (a : Option Addr) (n c : Nat) : (binOp .eql 30 (.slice a n c) (.slice none 0 0)).run Tryz.prog w = .ok (.bool a.isNone) w := by
  simp [binOp, run_equal_slice_nil w 30 53 a n c Tryz.underlying30]
theorem clone_nil (c : Nat) (w : World) : Calls Tryz.prog 34 #[.slice none 0 c] w fun e w' => e = .returned (.slice none 0 0) ∧ w = w' := by
  have hq := fun w => eqNil w none 0 c
  go_enter Tryz.func34, Tryz.ntmps34
  go_wp2
  go_ret
  exact ⟨rfl, rfl⟩
theorem wtL_one (W : List Wt) : ∀ u ∈ wsL W, u.oneCell' = true := by
  intro u hu
  obtain ⟨x, _, hx⟩ := List.mem_flatMap.1 hu
  simp [wtL] at hx
  rcases hx with rfl | rfl | rfl | rfl | rfl | rfl | rfl | rfl <;> rfl
theorem own_nil (w : World) : (w.alloc (.cells #[] 53)).ownsRow w.heap.size 53 8 (.slice (some ⟨w.heap.size, 0, none⟩) 0 0) 0 [] := ⟨rfl, .inr ⟨w.heap.size, 0, #[], rfl, Nat.le_refl _, heap_alloc_new _ _, Nat.le_refl _, Nat.zero_le _, rfl, rfl⟩⟩
theorem ap_clone (w : World) (a : Addr) (c sb so : Nat) (W : List Wt) (hW : WsAt w (some a) sb so W) :
    ∃ A C w', (Builtin.append_ #[30, 30] 30 #[.slice (some ⟨w.heap.size, 0, none⟩) 0 0, .slice (some a) W.length c]).run Tryz.prog (w.alloc (.cells #[] 53)) = .ok (.slice A W.length C) w' ∧ OwnW w.heap.size w' A C W ∧ Below w.heap.size w w' := by
  obtain ⟨i0, hi, hz0, hz1, hz2⟩ := info_parts info44
  have hl := hW.len
  obtain ⟨v', w', hr, ho, hg, -, hat⟩ := run_append_own_at (P := Tryz.prog) (w.alloc (.cells #[] 53)) w.heap.size 30 30 53 i0 _ 8 64 Tryz.underlying30 hi hz0 hz1 hz2 rfl (by omega) _ 0 [] (own_nil w) a W.length c (wsL W) (wsL_length W)
    (fun j u hj => by
      have h0 : 0 < W.length := by
        have := (List.getElem?_eq_some_iff.1 hj).1
        rw [wsL_length] at this
        omega
      have ha := hW.adr h0
      cases ha
      rw [Addr.add_lit]
      exact ws_cells (hW.over ((Below.refl _ w).alloc (Nat.le_refl _) _)) j u hj) (wtL_one W) (by simp only [maxLen]; omega) (by omega) (by simp)
  rw [Nat.zero_add, List.nil_append] at ho
  have hv : ∃ A C, v' = .slice A W.length C := by
    rcases ho.2 with ⟨rfl, h0⟩ | ⟨g, cap, cur, rfl, _⟩
    · rw [h0]; exact ⟨none, 0, rfl⟩
    · exact ⟨_, _, rfl⟩
  obtain ⟨A, C, rfl⟩ := hv
  refine ⟨A, C, w', hr, ho, ?_⟩
  have hb := (Below.refl w.heap.size w).alloc (Nat.le_refl _) (.cells #[] 53)
  exact ⟨hg.os.trans hb.os, hg.tape.trans hb.tape, hg.output.trans hb.output, Nat.le_trans hb.size hg.size, fun k hk => (hg.block k (by simp; omega) (by simp [Value.ownBlock]; omega)).trans (hb.block k hk)⟩
theorem wpList_cl {ops : Array Oper} {rest : List Oper} {o : Oper} {a : Act} {w : World} {Q : Exit → Act → World → Prop} (hg : o.guard = none) (hty : o.type = 30) (p q : Operand)
    (hop : o.op = Op.call { callee := Callee.builtin Builtin.append, args := #[p, q], argTypes := #[30, 30] }) (ad : Addr) (c sb so : Nat) (W : List Wt) (hs : a.eval p = .slice (some ⟨w.heap.size, 0, none⟩) 0 0) (hx : a.eval q = .slice (some ad) W.length c) (hW : WsAt w (some ad) sb so W)
    (hK : ∀ A C w', OwnW w.heap.size w' A C W ∧ Below w.heap.size w w' → wpList Tryz.prog ops Q rest (a.put o.dst (.slice A W.length C)) w') : wpList Tryz.prog ops Q (o :: rest) a (w.alloc (.cells #[] 53)) := by
  refine wpList_plain hg fun _ hK' => ?_
  unfold Oper.wp
  obtain ⟨A, C, w', hr, h1⟩ := ap_clone w ad c sb so W hW
  simp [execOp, hop, resolve, invoke, builtin, hs, hx, hty, hr, Result.andThen]
  exact hK' _ _ (hK _ _ _ h1)
theorem clone_some (a : Addr) (W : List Wt) (c sb so : Nat) (w : World) (hW : WsAt w (some a) sb so W) : Calls Tryz.prog 34 #[.slice (some a) W.length c] w fun e w' => ∃ A C, e = .returned (.slice A W.length C) ∧ OwnW w.heap.size w' A C W ∧ Below w.heap.size w w' := by
  have hq := fun w => eqNil w (some a) W.length c
  go_enter Tryz.func34, Tryz.ntmps34
  go_upto_region 3 with fail
  apply wp_region_lit
  iterate 6 go_step
  refine wpList_cl rfl rfl _ _ rfl a c sb so W rfl rfl hW ?_
  rintro A C w' ⟨h1, h2⟩
  have H1 := hide h1
  have H2 := hide h2
  clear h1 h2
  go_wp2
  go_ret
  exact ⟨A, C, rfl, H1.out, H2.out⟩
/-- a list of waits cloned -/
theorem clone_any (ao : Option Addr) (W : List Wt) (c sb so : Nat) (w : World) (hW : WsAt w ao sb so W) : Calls Tryz.prog 34 #[.slice ao W.length c] w fun e w' => ∃ A C, e = .returned (.slice A W.length C) ∧ OwnW w.heap.size w' A C W ∧ Below w.heap.size w w' := by
  cases ao with
  | some a => exact clone_some a W c sb so w hW
  | none =>
    have h0 : W.length = 0 := by
      rcases Nat.eq_zero_or_pos W.length with h0 | h0
      · exact h0
      · have := hW.adr h0; cases this
    obtain rfl : W = [] := List.length_eq_zero_iff.1 h0
    refine (clone_nil c w).mono ?_
    rintro e w' ⟨rfl, rfl⟩
    exact ⟨none, 0, rfl, ⟨rfl, .inl ⟨rfl, rfl⟩⟩, Below.refl _ _⟩
end Go.Proofs.YtkhlihpghbhppabGreat

set_option maxRecDepth 100000
namespace Go.Proofs.YtkhlihpghbhppabGreat.Df
abbrev Pw := Int × Int
/-- a power is put in its validator's place -/
def putP (P : Nat → Int) (x : Pw) : Nat → Int := if 0 ≤ x.1 ∧ x.1 < 6 then (fun i => if i = x.1.toNat then x.2 else P i) else P
def zeroP : Nat → Int := fun _ => 0
/-- the first one counts -/
def firstP (l : List Pw) : Nat → Int := l.foldr (fun x P => putP P x) zeroP
/-- those of the first n that are wanted, with their powers -/
def those (c : Nat → Bool) (f : Nat → Int) (n : Nat) : List Pw := (List.range n).filterMap fun v => if c v = true then some ((v : Int), f v) else none
def diffL (a b : List Pw) : List Pw := those (fun v => decide (firstP b v ≠ firstP a v)) (firstP b) 6
theorem put_at {P : Nat → Int} {n : Nat} {x : Int} (hn : n < 6) (i : Nat) : putP P ((n : Int), x) i = if i = n then x else P i := by
  unfold putP
  rw [if_pos (by simp; omega)]
  simp
/-- all together, going round -/
def allN (l : List Pw) : Int := l.foldl (fun s x => (s + x.2 + 9223372036854775808) % 18446744073709551616 - 9223372036854775808) 0
theorem all_take (l : List Pw) (k : Nat) (hk : k < l.length) : allN (l.take (k + 1)) = (allN (l.take k) + (l.getD k (0, 0)).2 + 9223372036854775808) % 18446744073709551616 - 9223372036854775808 := by
  unfold allN
  rw [List.take_succ_eq_append_getElem hk, List.foldl_append]
  simp [List.getD, hk]
end Go.Proofs.YtkhlihpghbhppabGreat.Df

