/- Parts of the proof: PTQ. -/
import Derived.Test.YtdkalcnlncjgiaaRows
import Derived.Test.YtdkalcnlncjgiaaBK47
import Derived.BigQuiet
import Derived.WalkSmall
import Derived.Laws.Cover3
import Derived.ChangeKeysEq
set_option maxRecDepth 100000
namespace Go.Proofs.Ytdkalcnlncjgiaa.Pv
open Go.RowKit
theorem infoPwQ : (Try.prog.info? 64).map (fun i => (i.zero, i.size, i.bytes)) = some (some (.agg #[.int .i64 0, .int .i64 0]), 2, 16) := by kernel_rfl
theorem eqNilP (w : World) (a : Option Addr) (n c : Nat) : (binOp .eql 22 (.slice a n c) (.slice none 0 0)).run Try.prog w = .ok (.bool a.isNone) w := by
  simp [binOp, run_equal_slice_nil w 22 64 a n c Try.underlying22]
theorem own_nilP (w : World) : (w.alloc (.cells #[] 64)).ownsRow w.heap.size 64 2 (.slice (some ⟨w.heap.size, 0, none⟩) 0 0) 0 [] := ⟨rfl, .inr ⟨w.heap.size, 0, #[], rfl, Nat.le_refl _, heap_alloc_new _ _, Nat.le_refl _, Nat.zero_le _, rfl, rfl⟩⟩
theorem ap_cloneP {P : Nat → Prop} (w : World) (a : Addr) (c : Nat) (l : List (Int × Int)) (h : Rep P w (.slice (some a) l.length c) 2 16 (pwC l)) :
    ∃ A C w', (Builtin.append_ #[22, 22] 22 #[.slice (some ⟨w.heap.size, 0, none⟩) 0 0, .slice (some a) l.length c]).run Try.prog (w.alloc (.cells #[] 64)) = .ok (.slice A l.length C) w' ∧ w'.ownsRow w.heap.size 64 2 (.slice A l.length C) l.length (pwC l) ∧ Below w.heap.size w w' := by
  obtain ⟨i0, hi, hz0, hz1, hz2⟩ := info_parts infoPwQ
  obtain ⟨A0, C0, e0, hl, -, -, hcl⟩ := (h.over ((Below.refl _ w).alloc (Nat.le_refl _) (.cells #[] 64))).open (pwC_length l) (by decide)
  cases e0
  obtain ⟨v', w', hr, ho, hg, -, hat⟩ := run_append_own_at (P := Try.prog) (w.alloc (.cells #[] 64)) w.heap.size 22 22 64 i0 _ 2 16 Try.underlying22 hi hz0 hz1 hz2 rfl (by omega) _ 0 [] (own_nilP w) a l.length c (pwC l) (pwC_length l)
    (fun j u hj => hcl a rfl j u hj) (one_pws l) (by simp only [maxLen]; omega) (by omega) (by simp)
  rw [Nat.zero_add, List.nil_append] at ho
  have hv : ∃ A C, v' = .slice A l.length C := by
    rcases ho.2 with ⟨rfl, h0⟩ | ⟨g, cap, cur, rfl, _⟩
    · rw [h0]; exact ⟨none, 0, rfl⟩
    · exact ⟨_, _, rfl⟩
  obtain ⟨A, C, rfl⟩ := hv
  refine ⟨A, C, w', hr, ho, ?_⟩
  have hb := (Below.refl w.heap.size w).alloc (Nat.le_refl _) (.cells #[] 64)
  exact ⟨hg.os.trans hb.os, hg.tape.trans hb.tape, hg.output.trans hb.output, Nat.le_trans hb.size hg.size, fun k hk => (hg.block k (by simp; omega) (by simp [Value.ownBlock]; omega)).trans (hb.block k hk)⟩
theorem wpList_clP {P : Nat → Prop} {ops : Array Oper} {rest : List Oper} {o : Oper} {a : Act} {w : World} {Q : Exit → Act → World → Prop} (hg : o.guard = none) (hty : o.type = 22) (p q : Operand)
    (hop : o.op = Op.call { callee := Callee.builtin Builtin.append, args := #[p, q], argTypes := #[22, 22] }) (ad : Addr) (c : Nat) (l : List (Int × Int)) (hs : a.eval p = .slice (some ⟨w.heap.size, 0, none⟩) 0 0) (hx : a.eval q = .slice (some ad) l.length c) (hW : Rep P w (.slice (some ad) l.length c) 2 16 (pwC l))
    (hK : ∀ A C w', w'.ownsRow w.heap.size 64 2 (.slice A l.length C) l.length (pwC l) ∧ Below w.heap.size w w' → wpList Try.prog ops Q rest (a.put o.dst (.slice A l.length C)) w') : wpList Try.prog ops Q (o :: rest) a (w.alloc (.cells #[] 64)) := by
  refine wpList_plain hg fun _ hK' => ?_
  unfold Oper.wp
  obtain ⟨A, C, w', hr, h1⟩ := ap_cloneP w ad c l hW
  simp [execOp, hop, resolve, invoke, builtin, hs, hx, hty, hr, Result.andThen]
  exact hK' _ _ (hK _ _ _ h1)
/-- a set cloned: in a new block -/
theorem cloneP_any (l : List (Int × Int)) (v : Value) (P : Nat → Prop) (w : World) (h : Rep P w v 2 16 (pwC l)) :
    Calls Try.prog 43 #[v] w fun e w' => ∃ u, e = .returned u ∧ Rep (fun b => w.heap.size ≤ b) w' u 2 16 (pwC l) ∧ Below w.heap.size w w' := by
  obtain ⟨A, C, rfl, hl, h0, -, -⟩ := id (h.open (pwC_length l) (by decide))
  cases A with
  | none =>
    obtain ⟨hn, rfl⟩ := h0 rfl
    obtain rfl : l = [] := List.length_eq_zero_iff.1 hn
    have hq := fun w => eqNilP w none 0 0
    clear h h0
    go_enter Try.func43, Try.ntmps43
    go_wp2
    go_ret
    exact ⟨_, rfl, Rep.nil _ _ _ _, Below.refl _ _⟩
  | some a =>
    have hq := fun w => eqNilP w (some a) l.length C
    have HH := hide h
    clear h h0
    go_enter Try.func43, Try.ntmps43
    go_upto_region 3 with fail
    apply wp_region_lit
    iterate 6 go_step
    refine wpList_clP rfl rfl _ _ rfl a C l rfl rfl HH.out ?_
    rintro A' C' w' ⟨h1, h2⟩
    have H1 := hide h1
    have H2 := hide h2
    clear h1 h2
    go_wp2
    go_ret
    exact ⟨_, rfl, Rep.own H1.out (by omega), H2.out⟩
end Go.Proofs.Ytdkalcnlncjgiaa.Pv

