/- Parts of the proof: CO CU. -/
import Derived.Test.YtdkalcnlncjgiaaRows
import Derived.Test.YtdkalcnlncjgiaaBK45
import Derived.ProofKit
import Derived.Deep.SlicePairs
import Derived.Deep.RegionLaw
set_option maxRecDepth 100000
namespace Go.Proofs.Ytdkalcnlncjgiaa.Cd
open Go.ChangeShapes Go.WideShapes Go.ChangeAt Go.RowKit Go.Deep

/-- the two lists of a packet lie in memory -/
structure Lies (w : World) (S : List (Int × Int)) (D : List Int) (sa da : Option Addr) (sb so db dO : Nat) : Prop where
  hls : S.length ≤ maxLen
  hld : D.length ≤ maxLen
  hsa : 0 < S.length → sa = some ⟨sb, so, none⟩
  hda : 0 < D.length → da = some ⟨db, dO, none⟩
  PS : PwsAt w sb so S
  PD : IntsAt w db dO D
theorem Lies.later {w w' : World} {S : List (Int × Int)} {D : List Int} {sa da : Option Addr} {sb so db dO : Nat} (h : Lies w S D sa da sb so db dO) (hb : Below w.heap.size w w') : Lies w' S D sa da sb so db dO :=
  ⟨h.hls, h.hld, h.hsa, h.hda, h.PS.later hb, h.PD.later hb⟩

section
variable {H : Type} {enc : TypeId × Value → H} {W : World}
end
end Go.Proofs.Ytdkalcnlncjgiaa.Cd

set_option maxRecDepth 100000
namespace Go.Proofs.Ytdkalcnlncjgiaa.Cd
open Go.RowKit
theorem info42 : (Try.prog.info? 64).map (fun i => (i.zero, i.size, i.bytes)) = some (some (.agg #[.int .i64 0, .int .i64 0]), 2, 16) := by kernel_rfl
theorem info3 : (Try.prog.info? 3).map (fun i => (i.zero, i.size, i.bytes)) = some (some (.int .i64 0), 1, 8) := by kernel_rfl
/-- the cells behind an address -/
def srcCells (w : World) (ao : Option Addr) (m : Nat) : List Value := (List.range m).map fun j => (ao.bind fun a => w.cell? (a.add j)).getD undef
/-- what may be copied: nothing, or cells that are there, not too many -/
def Src (w : World) (ao : Option Addr) (n size bytes : Nat) : Prop := n * bytes ≤ 140737488351232 ∧ (n = 0 ∨ ∃ a, ao = some a ∧ ∀ j, j < n * size → ∃ u, w.cell? (a.add j) = some u)
def cpA (w : World) (n : Nat) : Option Addr := if n = 0 then none else some ⟨w.heap.size, 0, none⟩
def cpC (w : World) (n e : Nat) : Nat := if n = 0 then 0 else grownCap w n 0 e
def cpW (w : World) (ao : Option Addr) (n size e : Nat) (z : Value) : World := if n = 0 then w else w.drew.alloc (.cells ((srcCells w ao (n * size)).toArray ++ Builtin.zeroCells z.cells (grownCap w n 0 e - n)) e)
theorem src_hnews {w : World} {a : Addr} {m : Nat} (h : ∀ j, j < m → ∃ u, w.cell? (a.add j) = some u) : ∀ j u, (srcCells w (some a) m)[j]? = some u → w.cell? (a.add j) = some u := by
  intro j u hj
  have hjm : j < m := by
    rcases Nat.lt_or_ge j m with h | h
    · exact h
    · rw [List.getElem?_eq_none (by simp [srcCells]; exact h)] at hj; cases hj
  obtain ⟨v, hv⟩ := h j hjm
  simp [srcCells, hjm, hv] at hj
  rw [hv, hj]
theorem append_copy (t ty e : TypeId) (i : TypeInfo) (z : Value) (size bytes : Nat) (ht : Try.prog.underlying t = some (.slice e)) (hi : Try.prog.info? e = some i) (hz : i.zero = some z) (hsz : i.size = size) (hby : i.bytes = bytes)
    (hb8 : 8 ≤ bytes) (w : World) (ao : Option Addr) (n c : Nat) (h : Src w ao n size bytes) :
    (Builtin.append_ #[t, t] ty #[.slice none 0 0, .slice ao n c]).run Try.prog w = .ok (.slice (cpA w n) n (cpC w n e)) (cpW w ao n size e z) := by
  by_cases h0 : n = 0
  · subst h0
    simp only [cpA, cpC, cpW, if_pos]
    cases ao <;> simp [Builtin.append_, run_underlying ht, sizeOf, typeInfo, hi, Builtin.lenOf, Builtin.firstCells, loadCells, loadCellsFrom]
  · obtain ⟨hb, hs⟩ := h
    rcases hs with hs | ⟨a, rfl, hs⟩
    · exact absurd hs h0
    subst hsz hby
    have hle : n ≤ 140737488351232 := by
      have : n * 1 ≤ n * i.bytes := Nat.mul_le_mul_left n (by omega)
      omega
    have hr := run_append_nil (P := Try.prog) w t ty e i z ht hi hz a n c (srcCells w (some a) (n * i.size)) (by simp [srcCells]) (src_hnews hs) (by omega) (by omega) (by omega)
    rw [hr, cpA, cpC, cpW, if_neg h0, if_neg h0, if_neg h0]
theorem ap22 (w : World) (ao : Option Addr) (n c : Nat) (h : Src w ao n 2 16) :
    (Builtin.append_ #[22, 22] 22 #[.slice none 0 0, .slice ao n c]).run Try.prog w = .ok (.slice (cpA w n) n (cpC w n 64)) (cpW w ao n 2 64 (.agg #[.int .i64 0, .int .i64 0])) := by
  obtain ⟨i0, hi, hz0, hz1, hz2⟩ := info_parts info42
  exact append_copy 22 22 64 i0 _ 2 16 Try.underlying22 hi hz0 hz1 hz2 (by omega) w ao n c h
theorem ap23 (w : World) (ao : Option Addr) (n c : Nat) (h : Src w ao n 1 8) :
    (Builtin.append_ #[27, 27] 27 #[.slice none 0 0, .slice ao n c]).run Try.prog w = .ok (.slice (cpA w n) n (cpC w n 3)) (cpW w ao n 1 3 (.int .i64 0)) := by
  obtain ⟨i0, hi, hz0, hz1, hz2⟩ := info_parts info3
  exact append_copy 27 27 3 i0 _ 1 8 Try.underlying27 hi hz0 hz1 hz2 (by omega) w ao n c h
theorem cpW_below (w : World) (ao : Option Addr) (n size e : Nat) (z : Value) : Below w.heap.size w (cpW w ao n size e z) := by
  unfold cpW
  split
  · exact Below.refl _ _
  · exact (Below.refl _ _).drew.alloc (Nat.le_refl _) _
theorem Src.later {w w' : World} {ao : Option Addr} {n size bytes : Nat} (h : Src w ao n size bytes) (hb : Below w.heap.size w w') : Src w' ao n size bytes := by
  refine ⟨h.1, ?_⟩
  rcases h.2 with h0 | ⟨a, rfl, hs⟩
  · exact .inl h0
  · refine .inr ⟨a, rfl, fun j hj => ?_⟩
    obtain ⟨u, hu⟩ := hs j hj
    exact ⟨u, (hb.cell (p := a.add j) (World.block_lt_of_cell? w _ hu)).trans hu⟩
/-- n elements have been copied behind an address: into new memory; old memory is as it was -/
structure Copied (w : World) (ao : Option Addr) (n size : Nat) (A : Option Addr) (C : Nat) (w' : World) : Prop where
  below : Below w.heap.size w w'
  nil : A = none → C = 0
  cap : n ≤ C
  cells : 0 < n → ∃ a g, ao = some a ∧ A = some ⟨g, 0, none⟩ ∧ w.heap.size ≤ g ∧ ∀ j, j < n * size → w'.cell? ⟨g, j, none⟩ = w.cell? (a.add j)
theorem copied_of (w : World) (ao : Option Addr) (n size bytes e : Nat) (z : Value) (h : Src w ao n size bytes) : Copied w ao n size (cpA w n) (cpC w n e) (cpW w ao n size e z) := by
  refine ⟨cpW_below _ _ _ _ _ _, fun h => ?_, ?_, fun h0 => ?_⟩
  · unfold cpA at h; unfold cpC; split at h
    · rename_i h0; rw [if_pos h0]
    · cases h
  · unfold cpC; split
    · omega
    · exact grownCap_ge _ _ _ _
  rcases h.2 with hn | ⟨a, rfl, hs⟩
  · omega
  refine ⟨a, w.heap.size, rfl, by rw [cpA, if_neg (by omega)], Nat.le_refl _, fun j hj => ?_⟩
  obtain ⟨u, hu⟩ := hs j hj
  rw [cpW, if_neg (by omega), hu, show (⟨w.heap.size, j, none⟩ : Addr) = ⟨w.drew.heap.size, j, none⟩ from rfl, World.cell?_alloc_at _ _ _ _ rfl]
  rw [Array.getElem?_append_left (by simp [srcCells]; exact hj)]
  simp [srcCells, hj, hu]
theorem step_copy22 {ops : Array Oper} {o : Oper} {a : Act} {w : World} {K : Act → World → Prop} {Q : Exit → Act → World → Prop} {E : Prop} (hg : o.guard = none) (hty : o.type = 22) (s x : Operand)
    (hop : o.op = Op.call { callee := Callee.builtin Builtin.append, args := #[s, x], argTypes := #[22, 22] }) (ao : Option Addr) (n c : Nat) (hs : a.eval s = .slice none 0 0) (hx : a.eval x = .slice ao n c) (h : Src w ao n 2 16)
    (hK : ∀ A C w', Copied w ao n 2 A C w' → K (a.put o.dst (.slice A n C)) w') :
    if Region.wanted o (yielded ops a.tmps) = true then Oper.wp Try.prog o a w K Q else E := by
  have hw : Region.wanted o (yielded ops a.tmps) = true := by simp [Region.wanted, hg]
  rw [if_pos hw]
  unfold Oper.wp
  have hr := ap22 w ao n c h
  simp [execOp, hop, resolve, invoke, builtin, hs, hx, hty, hr, Result.andThen]
  exact hK _ _ _ (copied_of w ao n 2 16 64 _ h)
theorem step_copy23 {ops : Array Oper} {o : Oper} {a : Act} {w : World} {K : Act → World → Prop} {Q : Exit → Act → World → Prop} {E : Prop} (hg : o.guard = none) (hty : o.type = 27) (s x : Operand)
    (hop : o.op = Op.call { callee := Callee.builtin Builtin.append, args := #[s, x], argTypes := #[27, 27] }) (ao : Option Addr) (n c : Nat) (hs : a.eval s = .slice none 0 0) (hx : a.eval x = .slice ao n c) (h : Src w ao n 1 8)
    (hK : ∀ A C w', Copied w ao n 1 A C w' → K (a.put o.dst (.slice A n C)) w') :
    if Region.wanted o (yielded ops a.tmps) = true then Oper.wp Try.prog o a w K Q else E := by
  have hw : Region.wanted o (yielded ops a.tmps) = true := by simp [Region.wanted, hg]
  rw [if_pos hw]
  unfold Oper.wp
  have hr := ap23 w ao n c h
  simp [execOp, hop, resolve, invoke, builtin, hs, hx, hty, hr, Result.andThen]
  exact hK _ _ _ (copied_of w ao n 1 8 3 _ h)
theorem PkAt.set {w : World} {b : Nat} {k i v n : Int} {s d s' d' : Value} (h : PkAt w b k i v n s d) : PkAt ((w.setCell ⟨b, 4, none⟩ s').setCell ⟨b, 5, none⟩ d') b k i v n s' d' := by
  obtain ⟨h0, h1, h2, h3, h4, h5⟩ := h
  refine ⟨?_, ?_, ?_, ?_, ?_, ?_⟩
  · rw [World.cell?_setCell_other _ _ _ _ (by simp), World.cell?_setCell_other _ _ _ _ (by simp)]; exact h0
  · rw [World.cell?_setCell_other _ _ _ _ (by simp), World.cell?_setCell_other _ _ _ _ (by simp)]; exact h1
  · rw [World.cell?_setCell_other _ _ _ _ (by simp), World.cell?_setCell_other _ _ _ _ (by simp)]; exact h2
  · rw [World.cell?_setCell_other _ _ _ _ (by simp), World.cell?_setCell_other _ _ _ _ (by simp)]; exact h3
  · rw [World.cell?_setCell_other _ _ _ _ (by simp)]; exact World.cell?_setCell_same _ _ _ h4
  · exact World.cell?_setCell_same _ _ _ ((World.cell?_setCell_other _ _ _ _ (by simp)).trans h5)
theorem so {w : World} {b i j : Nat} {v u : Value} (hij : i ≠ j) (h : w.cell? ⟨b, j, none⟩ = some u) : (w.setCell ⟨b, i, none⟩ v).cell? ⟨b, j, none⟩ = some u :=
  (World.cell?_setCell_other _ _ _ _ (fun e => hij (by cases e; rfl))).trans h
theorem ss {w : World} {b i : Nat} {v u : Value} (h : w.cell? ⟨b, i, none⟩ = some u) : (w.setCell ⟨b, i, none⟩ v).cell? ⟨b, i, none⟩ = some v := World.cell?_setCell_same _ _ _ h
/-- six cells of a block, stored one behind the other -/
def set6 (w : World) (b : Nat) (v0 v1 v2 v3 v4 v5 : Value) : World :=
  (((((w.setCell ⟨b, 0, none⟩ v0).setCell ⟨b, 1, none⟩ v1).setCell ⟨b, 2, none⟩ v2).setCell ⟨b, 3, none⟩ v3).setCell ⟨b, 4, none⟩ v4).setCell ⟨b, 5, none⟩ v5
theorem set6_cells {w : World} {b : Nat} (v0 v1 v2 v3 v4 v5 : Value) (h : ∀ o, o < 6 → ∃ u, w.cell? ⟨b, o, none⟩ = some u) :
    (set6 w b v0 v1 v2 v3 v4 v5).cell? ⟨b, 0, none⟩ = some v0 ∧ (set6 w b v0 v1 v2 v3 v4 v5).cell? ⟨b, 1, none⟩ = some v1 ∧ (set6 w b v0 v1 v2 v3 v4 v5).cell? ⟨b, 2, none⟩ = some v2 ∧
    (set6 w b v0 v1 v2 v3 v4 v5).cell? ⟨b, 3, none⟩ = some v3 ∧ (set6 w b v0 v1 v2 v3 v4 v5).cell? ⟨b, 4, none⟩ = some v4 ∧ (set6 w b v0 v1 v2 v3 v4 v5).cell? ⟨b, 5, none⟩ = some v5 := by
  obtain ⟨u0, h0⟩ := h 0 (by omega)
  obtain ⟨u1, h1⟩ := h 1 (by omega)
  obtain ⟨u2, h2⟩ := h 2 (by omega)
  obtain ⟨u3, h3⟩ := h 3 (by omega)
  obtain ⟨u4, h4⟩ := h 4 (by omega)
  obtain ⟨u5, h5⟩ := h 5 (by omega)
  exact ⟨so (by decide) (so (by decide) (so (by decide) (so (by decide) (so (by decide) (ss (h0)))))), so (by decide) (so (by decide) (so (by decide) (so (by decide) (ss (so (by decide) (h1)))))), so (by decide) (so (by decide) (so (by decide) (ss (so (by decide) (so (by decide) (h2)))))), so (by decide) (so (by decide) (ss (so (by decide) (so (by decide) (so (by decide) (h3)))))), so (by decide) (ss (so (by decide) (so (by decide) (so (by decide) (so (by decide) (h4)))))), ss (so (by decide) (so (by decide) (so (by decide) (so (by decide) (so (by decide) (h5))))))⟩
theorem set6_below {B : Nat} {w0 w : World} {b : Nat} (v0 v1 v2 v3 v4 v5 : Value) (h : Below B w0 w) (hB : B ≤ b) : Below B w0 (set6 w b v0 v1 v2 v3 v4 v5) :=
  (((((h.setCell hB _).setCell hB _).setCell hB _).setCell hB _).setCell hB _).setCell hB _
theorem set6_other {w : World} {b : Nat} (v0 v1 v2 v3 v4 v5 : Value) {c : Nat} (hc : c ≠ b) : (set6 w b v0 v1 v2 v3 v4 v5).heap[c]? = w.heap[c]? := by
  unfold set6
  rw [Below.heap_setCell _ _ _ _ hc, Below.heap_setCell _ _ _ _ hc, Below.heap_setCell _ _ _ _ hc, Below.heap_setCell _ _ _ _ hc, Below.heap_setCell _ _ _ _ hc, Below.heap_setCell _ _ _ _ hc]
set_option maxHeartbeats 1000000 in
theorem copy_any (k i v n : Int) (sa da : Option Addr) (ls cs ld cd : Nat) (w : World) (hs : Src w sa ls 2 16) (hd : Src w da ld 1 8) :
    Calls Try.prog 17 #[.agg #[.int .i64 k, .int .i64 i, .int .i64 v, .int .i64 n, .slice sa ls cs, .slice da ld cd]] w fun e w' => ∃ A1 C1 A2 C2 w0 w1 w2,
      e = .returned (.agg #[.int .i64 k, .int .i64 i, .int .i64 v, .int .i64 n, .slice A1 ls C1, .slice A2 ld C2]) ∧ Below w.heap.size w w0 ∧ w0.heap.size = w.heap.size + 2 ∧ Copied w0 sa ls 2 A1 C1 w1 ∧ Copied w1 da ld 1 A2 C2 w2 ∧
      Below w.heap.size w w' ∧ (∀ b, w.heap.size + 2 ≤ b → w'.heap[b]? = w2.heap[b]?) := by
  have HB0 : Hid (∀ o o', Below w.heap.size w ((w.alloc o).alloc o').drew) := fun o o' => ((below_new w o).alloc (by simp) o').drew
  go_enter Try.func17, Try.ntmps17
  go_wp2
  go_region_law (first
    | (refine step_copy22 rfl rfl _ _ rfl sa ls cs rfl rfl (hs.later (HB0.out _ _)) ?_; intro A1 C1 w1 hcp1; have hd1 := (hd.later (HB0.out _ _)).later hcp1.below; have hcf1 := bcell hcp1.below; have hz1 : w.heap.size < w1.heap.size := (by have := hcp1.below.size; simp at this; omega); have hz1' : w.heap.size + 1 < w1.heap.size := (by have := hcp1.below.size; simp at this; omega); have HC1 : Hid _ := hcp1; clear hcp1)
    | (refine step_copy23 rfl rfl _ _ rfl da ld cd rfl rfl hd1 ?_; intro A2 C2 w2 hcp2; have hcf2 := bcell hcp2.below; have hz2 : w.heap.size < w2.heap.size := Nat.lt_of_lt_of_le hz1 hcp2.below.size; have hz2' : w.heap.size + 1 < w2.heap.size := Nat.lt_of_lt_of_le hz1' hcp2.below.size; have HC2 : Hid _ := hcp2; clear hcp2))
  all_goals
    clear hcf1 hcf2
    have PK0 := ((pkAt_new w k i v n (.slice sa ls cs) (.slice da ld cd)).later (B := w.heap.size + 1) (((Below.refl _ _).alloc (by simp) (Obj.cells #[Value.int IntKind.i64 0, Value.int IntKind.i64 0, Value.int IntKind.i64 0, Value.int IntKind.i64 0, Value.slice none 0 0, Value.slice none 0 0] 46)).drew) (Nat.lt_succ_self _))
    have PK2 := (PK0.later HC1.out.below (by simp; omega)).later HC2.out.below hz1
    have PK3 := PK2.set (s' := .slice A1 ls C1) (d' := .slice A2 ld C2)
    have hh : ((w2.setCell ⟨w.heap.size, 4, none⟩ (.slice A1 ls C1)).setCell ⟨w.heap.size, 5, none⟩ (.slice A2 ld C2)).heap[w.heap.size + 1]? = some (.cells #[Value.int IntKind.i64 0, Value.int IntKind.i64 0, Value.int IntKind.i64 0, Value.int IntKind.i64 0, Value.slice none 0 0, Value.slice none 0 0] 46) := by
      rw [Below.heap_setCell _ _ _ _ (by simp), Below.heap_setCell _ _ _ _ (by simp), HC2.out.below.block _ hz1', HC1.out.below.block _ (by simp)]
      have e : w.heap.size + 1 = (w.alloc (Obj.cells #[Value.int IntKind.i64 k, Value.int IntKind.i64 i, Value.int IntKind.i64 v, Value.int IntKind.i64 n, Value.slice sa ls cs, Value.slice da ld cd] 46)).heap.size := by simp
      rw [e]
      exact heap_alloc_new _ _
    have hbw : Below w.heap.size w ((w2.setCell ⟨w.heap.size, 4, none⟩ (.slice A1 ls C1)).setCell ⟨w.heap.size, 5, none⟩ (.slice A2 ld C2)) :=
      ((below_then (below_then (HB0.out _ _) HC1.out.below) HC2.out.below).setCell (Nat.le_refl _) _).setCell (Nat.le_refl _) _
    have hhi : ∀ b, w.heap.size + 2 ≤ b → ((w2.setCell ⟨w.heap.size, 4, none⟩ (.slice A1 ls C1)).setCell ⟨w.heap.size, 5, none⟩ (.slice A2 ld C2)).heap[b]? = w2.heap[b]? := fun b hb => by
      rw [Below.heap_setCell _ _ _ _ (by simp; omega), Below.heap_setCell _ _ _ _ (by simp; omega)]
    generalize ((w2.setCell ⟨w.heap.size, 4, none⟩ (.slice A1 ls C1)).setCell ⟨w.heap.size, 5, none⟩ (.slice A2 ld C2)) = w3 at *
    obtain ⟨c0, c1, c2, c3, c4, c5⟩ := PK3
    have HX : Hid (Below w.heap.size w w3 ∧ ∀ b, w.heap.size + 2 ≤ b → w3.heap[b]? = w2.heap[b]?) := ⟨hbw, hhi⟩
    have z0 : ∀ o, w3.cell? ⟨w.heap.size + 1, o, none⟩ = (#[Value.int IntKind.i64 0, Value.int IntKind.i64 0, Value.int IntKind.i64 0, Value.int IntKind.i64 0, Value.slice none 0 0, Value.slice none 0 0] : Array Value)[o]? := fun o => by simp [World.cell?, hh]
    have z1 : ∀ o, w3.frozen? ⟨w.heap.size + 1, o, none⟩ = false := fun o => by simp [World.frozen?, hh]
    clear hh hbw hhi PK0 PK2
    have hex : ∀ o, o < 6 → ∃ u, w3.cell? ⟨w.heap.size + 1, o, none⟩ = some u := fun o ho => by rw [z0]; exact ⟨_, Array.getElem?_eq_getElem (by simpa using ho)⟩
    have HEX : Hid _ := hex
    clear hex
    go_wp2
    have hD := set6_cells (w := w3) (b := w.heap.size + 1) (.int .i64 k) (.int .i64 i) (.int .i64 v) (.int .i64 n) (.slice A1 ls C1) (.slice A2 ld C2) HEX.out
    show bodyPost Try.prog Try.f17 _ Exit.ret _ (set6 w3 (w.heap.size + 1) (.int .i64 k) (.int .i64 i) (.int .i64 v) (.int .i64 n) (.slice A1 ls C1) (.slice A2 ld C2))
    have hB := set6_below (b := w.heap.size + 1) (.int .i64 k) (.int .i64 i) (.int .i64 v) (.int .i64 n) (.slice A1 ls C1) (.slice A2 ld C2) HX.out.1 (Nat.le_succ _)
    have hO := fun c (hc : w.heap.size + 2 ≤ c) => (set6_other (w := w3) (b := w.heap.size + 1) (.int .i64 k) (.int .i64 i) (.int .i64 v) (.int .i64 n) (.slice A1 ls C1) (.slice A2 ld C2) (show c ≠ w.heap.size + 1 by omega)).trans (HX.out.2 c hc)
    generalize set6 w3 (w.heap.size + 1) (.int .i64 k) (.int .i64 i) (.int .i64 v) (.int .i64 n) (.slice A1 ls C1) (.slice A2 ld C2) = w4 at *
    obtain ⟨d0, d1, d2, d3, d4, d5⟩ := hD
    exact bodyPost_ret (v := .agg #[.int .i64 k, .int .i64 i, .int .i64 v, .int .i64 n, .slice A1 ls C1, .slice A2 ld C2]) (by simp [results, Try.results17, go_sem, d0, d1, d2, d3, d4, d5]) rfl
      ⟨A1, C1, A2, C2, _, w1, w2, rfl, HB0.out _ _, by simp, HC1.out, HC2.out, hB, hO⟩
end Go.Proofs.Ytdkalcnlncjgiaa.Cd

