/- Stakes compared part by part: arrays that are alike. A list of waits copied into new memory. -/
import Derived.Test.YtjmhmmphbcohdaaXsa
import Derived.Test.YtjmhmmphbcohdaaXba
import Derived.WalkKit
import Derived.ChangeKeysEq
import Derived.WalkSmall
import Derived.Below
import Derived.Maps.AppendAt
import Derived.Deep.MidRow
import Derived.Deep.DeepCutAuto
set_option maxRecDepth 100000
namespace Go.Proofs.Ytjmhmmphbcohdaa
open Go.RowKit
theorem eqVd (w : World) (t s l : Int) (j d : Bool) : (Op.equalIn 9999 28 (.agg #[.int .i64 t, .int .i64 s, .int .i64 l, .bool j, .bool d]) (.agg #[.int .i64 t, .int .i64 s, .int .i64 l, .bool j, .bool d])).run Try.prog w = .ok true w := by
  go_simp
theorem eqVs (w : World) (V : Nat → Vd) : (Op.equalIn 10000 29 (.agg (vsC V)) (.agg (vsC V))).run Try.prog w = .ok true w := by
  have hi : (Try.prog.info? 28).isSome = true := by kernel_rfl
  obtain ⟨i, hi⟩ := Option.isSome_iff_exists.1 hi
  have hc : Try.prog.cellsOf 28 = 5 := by kernel_rfl
  rw [run_equalIn_array w 9999 _ _ Try.underlying29 hi, hc, show List.range 6 = [0, 1, 2, 3, 4, 5] from rfl]
  have h := eqVd
  simp only [Op.eqItems, vsC]
  go_simp
theorem eqRow (w : World) (a b c d e f : Int) : (Op.equalIn 9999 30 (.agg #[.int .i64 a, .int .i64 b, .int .i64 c, .int .i64 d, .int .i64 e, .int .i64 f]) (.agg #[.int .i64 a, .int .i64 b, .int .i64 c, .int .i64 d, .int .i64 e, .int .i64 f])).run Try.prog w = .ok true w := by
  have hi : (Try.prog.info? 3).isSome = true := by kernel_rfl
  obtain ⟨i, hi⟩ := Option.isSome_iff_exists.1 hi
  have hc : Try.prog.cellsOf 3 = 1 := by kernel_rfl
  rw [run_equalIn_array w 9998 _ _ Try.underlying30 hi, hc, show List.range 6 = [0, 1, 2, 3, 4, 5] from rfl]
  simp only [Op.eqItems]
  go_simp
theorem eqSh (w : World) (S : Nat → Nat → Int) : (Op.equalIn 10000 31 (.agg (shC S)) (.agg (shC S))).run Try.prog w = .ok true w := by
  have hi : (Try.prog.info? 30).isSome = true := by kernel_rfl
  obtain ⟨i, hi⟩ := Option.isSome_iff_exists.1 hi
  have hc : Try.prog.cellsOf 30 = 6 := by kernel_rfl
  rw [run_equalIn_array w 9999 _ _ Try.underlying31 hi, hc, show List.range 4 = [0, 1, 2, 3] from rfl]
  have h := eqRow
  simp only [Op.eqItems, shC]
  go_simp
theorem neVs (w : World) (V : Nat → Vd) : (binOp .neq 29 (.agg (vsC V)) (.agg (vsC V))).run Try.prog w = .ok (.bool false) w := by
  rw [run_neq_struct, eqVs]
  rfl
theorem neSh (w : World) (S : Nat → Nat → Int) : (binOp .neq 31 (.agg (shC S)) (.agg (shC S))).run Try.prog w = .ok (.bool false) w := by
  rw [run_neq_struct, eqSh]
  rfl
theorem eqH (w : World) (a b : Int) : (Op.equalIn 9999 52 (.agg #[.int .i64 a, .int .i64 b]) (.agg #[.int .i64 a, .int .i64 b])).run Try.prog w = .ok true w := by
  have hi : (Try.prog.info? 3).isSome = true := by kernel_rfl
  obtain ⟨i, hi⟩ := Option.isSome_iff_exists.1 hi
  have hc : Try.prog.cellsOf 3 = 1 := by kernel_rfl
  rw [run_equalIn_array w 9998 _ _ Try.underlying52 hi, hc, show List.range 2 = [0, 1] from rfl]
  simp only [Op.eqItems]
  go_simp
theorem neWt (w : World) (x : Wt) : (binOp .neq 54 (.agg (wtC x)) (.agg (wtC x))).run Try.prog w = .ok (.bool false) w := by
  have h := fun w => eqH w x.h0 x.h1
  rw [run_neq_struct]
  unfold wtC
  go_simp
theorem neBk (w : World) (b : Bk) : (binOp .neq 26 (.agg #[.int .i64 b.f0, .int .i64 b.f1, .int .i64 b.f2, .int .i64 b.f3, .int .i64 b.bo, .int .i64 b.wa, .int .i64 b.bu]) (.agg #[.int .i64 b.f0, .int .i64 b.f1, .int .i64 b.f2, .int .i64 b.f3, .int .i64 b.bo, .int .i64 b.wa, .int .i64 b.bu])).run Try.prog w = .ok (.bool false) w := by
  rw [neB]
  simp
end Go.Proofs.Ytjmhmmphbcohdaa
namespace Go.Proofs.Ytjmhmmphbcohdaa
open Go.RowKit
/-- the cells behind an address -/
def srcCells (w : World) (ao : Option Addr) (m : Nat) : List Value := (List.range m).map fun j => (ao.bind fun a => w.cell? (a.add j)).getD undef
/-- what may be copied: nothing, or cells that are there, not too many -/
def Src (w : World) (ao : Option Addr) (n size bytes : Nat) : Prop := n * bytes ≤ 140737488351232 ∧ (n = 0 ∨ ∃ a, ao = some a ∧ ∀ j, j < n * size → ∃ u, w.cell? (a.add j) = some u)
def cpA (w : World) (n : Nat) : Option Addr := if n = 0 then none else some ⟨w.heap.size, 0, none⟩
def cpC (w : World) (n e : Nat) : Nat := if n = 0 then 0 else grownCap w n 0 e
def cpW (w : World) (ao : Option Addr) (n size e : Nat) (z : Value) : World := if n = 0 then w else w.drew.alloc (.cells ((srcCells w ao (n * size)).toArray ++ Builtin.zeroCells z.cells (grownCap w n 0 e - n)) e)
theorem src_hnews {w : World} {a : Addr} {m : Nat} (h : ∀ j, j < m → ∃ u, w.cell? (a.add j) = some u) : ∀ j u, (srcCells w (some a) m)[j]? = some u → w.cell? (a.add j) = some u := by
  intro j u hj
  have hjm : j < m := by
    rcases Nat.lt_or_ge j m with h | h
    · exact h
    · rw [List.getElem?_eq_none (by simp [srcCells]; exact h)] at hj; cases hj
  obtain ⟨v, hv⟩ := h j hjm
  simp [srcCells, hjm, hv] at hj
  rw [hv, hj]
theorem append_copy (t ty e : TypeId) (i : TypeInfo) (z : Value) (size bytes : Nat) (ht : Try.prog.underlying t = some (.slice e)) (hi : Try.prog.info? e = some i) (hz : i.zero = some z) (hsz : i.size = size) (hby : i.bytes = bytes)
    (hb8 : 8 ≤ bytes) (w : World) (ao : Option Addr) (n c : Nat) (h : Src w ao n size bytes) :
    (Builtin.append_ #[t, t] ty #[.slice none 0 0, .slice ao n c]).run Try.prog w = .ok (.slice (cpA w n) n (cpC w n e)) (cpW w ao n size e z) := by
  by_cases h0 : n = 0
  · subst h0
    simp only [cpA, cpC, cpW, if_pos]
    cases ao <;> simp [Builtin.append_, run_underlying ht, sizeOf, typeInfo, hi, Builtin.lenOf, Builtin.firstCells, loadCells, loadCellsFrom]
  · obtain ⟨hb, hs⟩ := h
    rcases hs with hs | ⟨a, rfl, hs⟩
    · exact absurd hs h0
    subst hsz hby
    have hle : n ≤ 140737488351232 := by
      have : n * 1 ≤ n * i.bytes := Nat.mul_le_mul_left n (by omega)
      omega
    have hr := run_append_nil (P := Try.prog) w t ty e i z ht hi hz a n c (srcCells w (some a) (n * i.size)) (by simp [srcCells]) (src_hnews hs) (by omega) (by omega) (by omega)
    rw [hr, cpA, cpC, cpW, if_neg h0, if_neg h0, if_neg h0]
theorem info44 : (Try.prog.info? 54).map (fun i => (i.zero, i.size, i.bytes)) = some (some (.agg #[.int .i64 0, .int .i64 0, .int .i64 0, .int .i64 0, .int .i64 0, .int .i64 0, .int .i64 0, .int .i64 0]), 8, 64) := by kernel_rfl
theorem apW (w : World) (ao : Option Addr) (n c : Nat) (h : Src w ao n 8 64) :
    (Builtin.append_ #[32, 32] 32 #[.slice none 0 0, .slice ao n c]).run Try.prog w = .ok (.slice (cpA w n) n (cpC w n 54)) (cpW w ao n 8 54 (.agg #[.int .i64 0, .int .i64 0, .int .i64 0, .int .i64 0, .int .i64 0, .int .i64 0, .int .i64 0, .int .i64 0])) := by
  obtain ⟨i0, hi, hz0, hz1, hz2⟩ := info_parts info44
  exact append_copy 32 32 54 i0 _ 8 64 Try.underlying32 hi hz0 hz1 hz2 (by omega) w ao n c h
theorem cpW_below (w : World) (ao : Option Addr) (n size e : Nat) (z : Value) : Below w.heap.size w (cpW w ao n size e z) := by
  unfold cpW
  split
  · exact Below.refl _ _
  · exact (Below.refl _ _).drew.alloc (Nat.le_refl _) _
theorem Src.later {w w' : World} {ao : Option Addr} {n size bytes : Nat} (h : Src w ao n size bytes) (hb : Below w.heap.size w w') : Src w' ao n size bytes := by
  refine ⟨h.1, ?_⟩
  rcases h.2 with h0 | ⟨a, rfl, hs⟩
  · exact .inl h0
  · refine .inr ⟨a, rfl, fun j hj => ?_⟩
    obtain ⟨u, hu⟩ := hs j hj
    exact ⟨u, (hb.cell (p := a.add j) (World.block_lt_of_cell? w _ hu)).trans hu⟩
theorem below_drew (w : World) : Below w.heap.size w w.drew := (Below.refl _ _).drew
/-- n elements have been copied behind an address: into new memory; old memory is as it was -/
structure Copied (w : World) (ao : Option Addr) (n size : Nat) (A : Option Addr) (w' : World) : Prop where
  below : Below w.heap.size w w'
  cells : 0 < n → ∃ a g, ao = some a ∧ A = some ⟨g, 0, none⟩ ∧ w.heap.size ≤ g ∧ ∀ j, j < n * size → w'.cell? ⟨g, j, none⟩ = w.cell? (a.add j)
theorem copied_of (w : World) (ao : Option Addr) (n size bytes e : Nat) (z : Value) (h : Src w ao n size bytes) : Copied w ao n size (cpA w n) (cpW w ao n size e z) := by
  refine ⟨cpW_below _ _ _ _ _ _, fun h0 => ?_⟩
  rcases h.2 with hn | ⟨a, rfl, hs⟩
  · omega
  refine ⟨a, w.heap.size, rfl, by rw [cpA, if_neg (by omega)], Nat.le_refl _, fun j hj => ?_⟩
  obtain ⟨u, hu⟩ := hs j hj
  rw [cpW, if_neg (by omega), hu, show (⟨w.heap.size, j, none⟩ : Addr) = ⟨w.drew.heap.size, j, none⟩ from rfl, World.cell?_alloc_at _ _ _ _ rfl]
  rw [Array.getElem?_append_left (by simp [srcCells]; exact hj)]
  simp [srcCells, hj, hu]
theorem wpList_copyW {ops : Array Oper} {rest : List Oper} {o : Oper} {a : Act} {w : World} {Q : Exit → Act → World → Prop} (hg : o.guard = none) (hty : o.type = 32) (s x : Operand)
    (hop : o.op = Op.call { callee := Callee.builtin Builtin.append, args := #[s, x], argTypes := #[32, 32] }) (ao : Option Addr) (n c : Nat) (hs : a.eval s = .slice none 0 0) (hx : a.eval x = .slice ao n c) (h : Src w ao n 8 64)
    (hK : ∀ A C w', Copied w ao n 8 A w' → wpList Try.prog ops Q rest (a.put o.dst (.slice A n C)) w') : wpList Try.prog ops Q (o :: rest) a w := by
  refine wpList_plain hg fun _ hK' => ?_
  unfold Oper.wp
  have hr := apW w ao n c h
  simp [execOp, hop, resolve, invoke, builtin, hs, hx, hty, hr, Result.andThen]
  exact hK' _ _ (hK _ _ _ (copied_of w ao n 8 64 54 _ h))
theorem copy_facts {w w1 : World} {cs : Array Value} {sa A : Option Addr} {n cp C : Nat} (hcp : Copied ((w.alloc (.cells cs 34)).alloc (.cells Z63 34)) sa n 8 A w1) (h61 : cs[61]? = some (.slice sa n cp)) :
    w1.cell? ⟨w.heap.size, 61, none⟩ = some (.slice sa n cp) ∧ w1.frozen? ⟨w.heap.size, 61, none⟩ = false ∧ SAt (w1.setCell ⟨w.heap.size, 61, none⟩ (.slice A n C)) w.heap.size (cs.setIfInBounds 61 (.slice A n C)) ∧ SAt (w1.setCell ⟨w.heap.size, 61, none⟩ (.slice A n C)) (w.heap.size + 1) Z63 := by
  have S1 := ((SAt.new w cs).alloc (.cells Z63 34)).later hcp.below (by simp; omega)
  have R1 : SAt w1 (w.heap.size + 1) Z63 := (SAt.new2 w (.cells cs 34) Z63).later hcp.below (by simp)
  exact ⟨(S1.cell 61).trans h61, S1.free 61, S1.set 61 _, R1.other (by omega) _⟩
theorem ws_src {w : World} {ao : Option Addr} {b o : Nat} {W : List Wt} (h : WsAt w ao b o W) : Src w ao W.length 8 64 := by
  refine ⟨h.len, ?_⟩
  rcases Nat.eq_zero_or_pos W.length with h0 | h0
  · exact .inl h0
  · refine .inr ⟨_, h.adr h0, fun j hj => ?_⟩
    have hi : j / 8 < W.length := by omega
    obtain ⟨c0, c1, c2, c3, c4, c5, c6, c7⟩ := h.cell (j / 8) _ (List.getElem?_eq_getElem hi)
    rw [Addr.add_lit]
    rcases (show j % 8 = 0 ∨ j % 8 = 1 ∨ j % 8 = 2 ∨ j % 8 = 3 ∨ j % 8 = 4 ∨ j % 8 = 5 ∨ j % 8 = 6 ∨ j % 8 = 7 by omega) with e | e | e | e | e | e | e | e
    · rw [show o + j = o + j / 8 * 8 by omega]; exact ⟨_, c0⟩
    · rw [show o + j = o + j / 8 * 8 + 1 by omega]; exact ⟨_, c1⟩
    · rw [show o + j = o + j / 8 * 8 + 2 by omega]; exact ⟨_, c2⟩
    · rw [show o + j = o + j / 8 * 8 + 3 by omega]; exact ⟨_, c3⟩
    · rw [show o + j = o + j / 8 * 8 + 4 by omega]; exact ⟨_, c4⟩
    · rw [show o + j = o + j / 8 * 8 + 5 by omega]; exact ⟨_, c5⟩
    · rw [show o + j = o + j / 8 * 8 + 6 by omega]; exact ⟨_, c6⟩
    · rw [show o + j = o + j / 8 * 8 + 7 by omega]; exact ⟨_, c7⟩
/-- the copied cells are the waits -/
theorem ws_copied {w w' : World} {b o g : Nat} {W : List Wt} {ao : Option Addr} (h : WsAt w ao b o W) (hc : ∀ j, j < W.length * 8 → w'.cell? ⟨g, j, none⟩ = w.cell? ⟨b, o + j, none⟩) : WsAt w' (some ⟨g, 0, none⟩) g 0 W := by
  refine ⟨fun _ => rfl, h.len, fun i x hx => ?_⟩
  have hi := (List.getElem?_eq_some_iff.1 hx).1
  obtain ⟨c0, c1, c2, c3, c4, c5, c6, c7⟩ := h.cell i x hx
  rw [Nat.zero_add]
  refine ⟨?_, ?_, ?_, ?_, ?_, ?_, ?_, ?_⟩
  · rw [hc _ (by omega)]; exact c0
  · rw [hc _ (by omega), show o + (i * 8 + 1) = o + i * 8 + 1 by omega]; exact c1
  · rw [hc _ (by omega), show o + (i * 8 + 2) = o + i * 8 + 2 by omega]; exact c2
  · rw [hc _ (by omega), show o + (i * 8 + 3) = o + i * 8 + 3 by omega]; exact c3
  · rw [hc _ (by omega), show o + (i * 8 + 4) = o + i * 8 + 4 by omega]; exact c4
  · rw [hc _ (by omega), show o + (i * 8 + 5) = o + i * 8 + 5 by omega]; exact c5
  · rw [hc _ (by omega), show o + (i * 8 + 6) = o + i * 8 + 6 by omega]; exact c6
  · rw [hc _ (by omega), show o + (i * 8 + 7) = o + i * 8 + 7 by omega]; exact c7
end Go.Proofs.Ytjmhmmphbcohdaa
