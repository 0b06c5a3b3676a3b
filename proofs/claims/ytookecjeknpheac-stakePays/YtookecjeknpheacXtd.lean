/- Stakes compared part by part: arrays that are alike. SameStake of stakes that are alike. A list of waits copied into new memory. The reference's NewStake. -/
import Derived.Test.YtookecjeknpheacXsa
import Derived.Test.YtookecjeknpheacXba
import Derived.Test.YtookecjeknpheacXsd
import Derived.Test.YtookecjeknpheacXta
import Derived.WalkKit
import Derived.ChangeKeysEq
import Derived.BigQuiet
import Derived.Deep.QuietTactic
import Derived.WalkSmall
import Derived.Below
import Derived.Maps.AppendAt
import Derived.Deep.MidRow
import Derived.Deep.DeepCutAuto
set_option maxRecDepth 100000
namespace Go.Proofs.Ytookecjeknpheac
open Go.RowKit
theorem eqVd (w : World) (t s l : Int) (j d : Bool) : (Op.equalIn 9999 37 (.agg #[.int .i64 t, .int .i64 s, .int .i64 l, .bool j, .bool d]) (.agg #[.int .i64 t, .int .i64 s, .int .i64 l, .bool j, .bool d])).run Try.prog w = .ok true w := by
  go_simp
theorem eqVs (w : World) (V : Nat → Vd) : (Op.equalIn 10000 38 (.agg (vsC V)) (.agg (vsC V))).run Try.prog w = .ok true w := by
  have hi : (Try.prog.info? 37).isSome = true := by kernel_rfl
  obtain ⟨i, hi⟩ := Option.isSome_iff_exists.1 hi
  have hc : Try.prog.cellsOf 37 = 5 := by kernel_rfl
  rw [run_equalIn_array w 9999 _ _ Try.underlying38 hi, hc, show List.range 6 = [0, 1, 2, 3, 4, 5] from rfl]
  have h := eqVd
  simp only [Op.eqItems, vsC]
  go_simp
theorem eqRow (w : World) (a b c d e f : Int) : (Op.equalIn 9999 39 (.agg #[.int .i64 a, .int .i64 b, .int .i64 c, .int .i64 d, .int .i64 e, .int .i64 f]) (.agg #[.int .i64 a, .int .i64 b, .int .i64 c, .int .i64 d, .int .i64 e, .int .i64 f])).run Try.prog w = .ok true w := by
  have hi : (Try.prog.info? 3).isSome = true := by kernel_rfl
  obtain ⟨i, hi⟩ := Option.isSome_iff_exists.1 hi
  have hc : Try.prog.cellsOf 3 = 1 := by kernel_rfl
  rw [run_equalIn_array w 9998 _ _ Try.underlying39 hi, hc, show List.range 6 = [0, 1, 2, 3, 4, 5] from rfl]
  simp only [Op.eqItems]
  go_simp
theorem eqSh (w : World) (S : Nat → Nat → Int) : (Op.equalIn 10000 40 (.agg (shC S)) (.agg (shC S))).run Try.prog w = .ok true w := by
  have hi : (Try.prog.info? 39).isSome = true := by kernel_rfl
  obtain ⟨i, hi⟩ := Option.isSome_iff_exists.1 hi
  have hc : Try.prog.cellsOf 39 = 6 := by kernel_rfl
  rw [run_equalIn_array w 9999 _ _ Try.underlying40 hi, hc, show List.range 4 = [0, 1, 2, 3] from rfl]
  have h := eqRow
  simp only [Op.eqItems, shC]
  go_simp
theorem neVs (w : World) (V : Nat → Vd) : (binOp .neq 38 (.agg (vsC V)) (.agg (vsC V))).run Try.prog w = .ok (.bool false) w := by
  rw [run_neq_struct, eqVs]
  rfl
theorem neSh (w : World) (S : Nat → Nat → Int) : (binOp .neq 40 (.agg (shC S)) (.agg (shC S))).run Try.prog w = .ok (.bool false) w := by
  rw [run_neq_struct, eqSh]
  rfl
theorem eqH (w : World) (a b : Int) : (Op.equalIn 9999 51 (.agg #[.int .i64 a, .int .i64 b]) (.agg #[.int .i64 a, .int .i64 b])).run Try.prog w = .ok true w := by
  have hi : (Try.prog.info? 3).isSome = true := by kernel_rfl
  obtain ⟨i, hi⟩ := Option.isSome_iff_exists.1 hi
  have hc : Try.prog.cellsOf 3 = 1 := by kernel_rfl
  rw [run_equalIn_array w 9998 _ _ Try.underlying51 hi, hc, show List.range 2 = [0, 1] from rfl]
  simp only [Op.eqItems]
  go_simp
theorem neWt (w : World) (x : Wt) : (binOp .neq 53 (.agg (wtC x)) (.agg (wtC x))).run Try.prog w = .ok (.bool false) w := by
  have h := fun w => eqH w x.h0 x.h1
  rw [run_neq_struct]
  unfold wtC
  go_simp
theorem neBk (w : World) (b : Bk) : (binOp .neq 24 (.agg #[.int .i64 b.f0, .int .i64 b.f1, .int .i64 b.f2, .int .i64 b.f3, .int .i64 b.bo, .int .i64 b.wa, .int .i64 b.bu]) (.agg #[.int .i64 b.f0, .int .i64 b.f1, .int .i64 b.f2, .int .i64 b.f3, .int .i64 b.bo, .int .i64 b.wa, .int .i64 b.bu])).run Try.prog w = .ok (.bool false) w := by
  rw [neB]
  simp
end Go.Proofs.Ytookecjeknpheac
namespace Go.Proofs.Ytookecjeknpheac
open Go.RowKit
set_option maxHeartbeats 4000000 in
theorem same_any (s : St) (aa ba : Option Addr) (ab ao bb bo ca cb : Nat) (w : World) (hA : WsAt w aa ab ao s.W) (hB : WsAt w ba bb bo s.W) :
    Calls Try.prog 19 #[.agg (stC s (.slice aa s.W.length ca)), .agg (stC s (.slice ba s.W.length cb))] w fun e w' => e = .returned (.bool true) ∧ Below w.heap.size w w' := by
  have S0 := (SAt.new w (stC s (.slice aa s.W.length ca))).alloc (.cells (stC s (.slice ba s.W.length cb)) 43)
  have T0 := SAt.new2 w (.cells (stC s (.slice aa s.W.length ca)) 43) (stC s (.slice ba s.W.length cb))
  have HB0 : Hid (Below w.heap.size w ((w.alloc (.cells (stC s (.slice aa s.W.length ca)) 43)).alloc (.cells (stC s (.slice ba s.W.length cb)) 43))) := ((Below.refl _ w).alloc (Nat.le_refl _) _).alloc (by simp) _
  have HA := hide hA
  have HB := hide hB
  have hlen := hA.len
  clear hA hB
  have n1 := fun w => neVs w s.V
  have n2 := fun w => neSh w s.S
  have n3 := fun w => neBk w s.b
  go_enter Try.func19, Try.ntmps19
  go_upto_region 1 with fail
  generalize (w.alloc (.cells (stC s (.slice aa s.W.length ca)) 43)).alloc (.cells (stC s (.slice ba s.W.length cb)) 43) = w0 at *
  obtain ⟨x0, x1, x2, x3, x4, x5, x6, x7, x8⟩ := st_cells S0
  obtain ⟨y0, y1, y2, y3, y4, y5, y6, y7, y8⟩ := st_cells T0
  have r1 := st_vals S0
  have r2 := st_vals T0
  have r3 := st_shares S0
  have r4 := st_shares T0
  go_upto_region 999 with (first
    | (refine wp_load_mid 38 _ rfl _ 7 rfl _ _ r1 Try.underlying38 rfl (by rw [infoVs]; rfl) ?_)
    | (refine wp_load_mid 38 _ rfl _ 7 rfl _ _ r2 Try.underlying38 rfl (by rw [infoVs]; rfl) ?_)
    | (refine wp_load_mid 40 _ rfl _ 37 rfl _ _ r3 Try.underlying40 rfl (by rw [infoSh]; rfl) ?_)
    | (refine wp_load_mid 40 _ rfl _ 37 rfl _ _ r4 Try.underlying40 rfl (by rw [infoSh]; rfl) ?_))
  have HS := hide S0
  have HT := hide T0
  have hadA := HA.out.adr
  have hadB := HB.out.adr
  clear x0 x1 x2 x3 x4 x5 x6 x7 x8 y0 y1 y2 y3 y4 y5 y6 y7 y8 r1 r2 r3 r4 n1 n2 n3 S0 T0
  go_loopw [44] (fun i wl => ∃ k : Nat, k ≤ s.W.length ∧ i = .int .i64 (k : Int) ∧ Hid (∃ n, wl = w0.drewN n)) (fun i _ => s.W.length - (intOf i).toNat)
  case atStart => exact ⟨0, by omega, rfl, 0, rfl⟩
  case round =>
    obtain ⟨k, hk, rfl, HN⟩ := hrel
    by_cases hlt : k < s.W.length
    · obtain ⟨n, hn⟩ := HN.out
      subst hn
      obtain ⟨x, hx, _⟩ := drop_at hlt
      have hBw : Below w.heap.size w (w0.drewN n) := ⟨HB0.out.os, HB0.out.tape, HB0.out.output, HB0.out.size, HB0.out.block⟩
      obtain ⟨c0, c1, c2, c3, c4, c5, c6, c7⟩ := (HA.out.over hBw).cell k x hx
      obtain ⟨d0, d1, d2, d3, d4, d5, d6, d7⟩ := (HB.out.over hBw).cell k x hx
      obtain ⟨_, _, _, _, _, _, _, x7, _⟩ := st_cells (show SAt (w0.drewN n) w.heap.size (stC s (.slice aa s.W.length ca)) from HS.out)
      obtain ⟨_, _, _, _, _, _, _, y7, _⟩ := st_cells (show SAt (w0.drewN n) (w.heap.size + 1) (stC s (.slice ba s.W.length cb)) from HT.out)
      have n4 := fun w => neWt w x
      unfold wtC at n4
      obtain rfl := hadA (by omega)
      obtain rfl := hadB (by omega)
      have hk0 : (0 : Int) ≤ (k : Int) := by omega
      have hk1 : (k : Int) < (s.W.length : Int) := by omega
      clear hadA hadB hx hBw HN
      have HX : Hid (∃ m, w0.drewN n = w0.drewN m) := ⟨n, rfl⟩
      generalize w0.drewN n = wx at *
      go_upto_region 6 with fail
      go_quiet (fail)
      go_wp2
      go_roundw
      case rel =>
        obtain ⟨m, hm⟩ := HX.out
        exact ⟨k + 1, by omega, by go_num, m + nq, by rw [hm]; simp⟩
      case measure => simp [intOf]; omega
    · obtain ⟨n, hn⟩ := HN.out
      subst hn
      go_wp2
      go_ret
      exact ⟨rfl, HB0.out.os, HB0.out.tape, HB0.out.output, HB0.out.size, HB0.out.block⟩
end Go.Proofs.Ytookecjeknpheac
namespace Go.Proofs.Ytookecjeknpheac
open Go.RowKit
/-- the cells behind an address -/
def srcCells (w : World) (ao : Option Addr) (m : Nat) : List Value := (List.range m).map fun j => (ao.bind fun a => w.cell? (a.add j)).getD undef
/-- what may be copied: nothing, or cells that are there, not too many -/
def Src (w : World) (ao : Option Addr) (n size bytes : Nat) : Prop := n * bytes ≤ 140737488351232 ∧ (n = 0 ∨ ∃ a, ao = some a ∧ ∀ j, j < n * size → ∃ u, w.cell? (a.add j) = some u)
def cpA (w : World) (n : Nat) : Option Addr := if n = 0 then none else some ⟨w.heap.size, 0, none⟩
def cpC (w : World) (n e : Nat) : Nat := if n = 0 then 0 else grownCap w n 0 e
def cpW (w : World) (ao : Option Addr) (n size e : Nat) (z : Value) : World := if n = 0 then w else w.drew.alloc (.cells ((srcCells w ao (n * size)).toArray ++ Builtin.zeroCells z.cells (grownCap w n 0 e - n)) e)
theorem src_hnews {w : World} {a : Addr} {m : Nat} (h : ∀ j, j < m → ∃ u, w.cell? (a.add j) = some u) : ∀ j u, (srcCells w (some a) m)[j]? = some u → w.cell? (a.add j) = some u := by
  intro j u hj
  have hjm : j < m := by
    rcases Nat.lt_or_ge j m with h | h
    · exact h
    · rw [List.getElem?_eq_none (by simp [srcCells]; exact h)] at hj; cases hj
  obtain ⟨v, hv⟩ := h j hjm
  simp [srcCells, hjm, hv] at hj
  rw [hv, hj]
theorem append_copy (t ty e : TypeId) (i : TypeInfo) (z : Value) (size bytes : Nat) (ht : Try.prog.underlying t = some (.slice e)) (hi : Try.prog.info? e = some i) (hz : i.zero = some z) (hsz : i.size = size) (hby : i.bytes = bytes)
    (hb8 : 8 ≤ bytes) (w : World) (ao : Option Addr) (n c : Nat) (h : Src w ao n size bytes) :
    (Builtin.append_ #[t, t] ty #[.slice none 0 0, .slice ao n c]).run Try.prog w = .ok (.slice (cpA w n) n (cpC w n e)) (cpW w ao n size e z) := by
  by_cases h0 : n = 0
  · subst h0
    simp only [cpA, cpC, cpW, if_pos]
    cases ao <;> simp [Builtin.append_, run_underlying ht, sizeOf, typeInfo, hi, Builtin.lenOf, Builtin.firstCells, loadCells, loadCellsFrom]
  · obtain ⟨hb, hs⟩ := h
    rcases hs with hs | ⟨a, rfl, hs⟩
    · exact absurd hs h0
    subst hsz hby
    have hle : n ≤ 140737488351232 := by
      have : n * 1 ≤ n * i.bytes := Nat.mul_le_mul_left n (by omega)
      omega
    have hr := run_append_nil (P := Try.prog) w t ty e i z ht hi hz a n c (srcCells w (some a) (n * i.size)) (by simp [srcCells]) (src_hnews hs) (by omega) (by omega) (by omega)
    rw [hr, cpA, cpC, cpW, if_neg h0, if_neg h0, if_neg h0]
theorem info44 : (Try.prog.info? 53).map (fun i => (i.zero, i.size, i.bytes)) = some (some (.agg #[.int .i64 0, .int .i64 0, .int .i64 0, .int .i64 0, .int .i64 0, .int .i64 0, .int .i64 0, .int .i64 0]), 8, 64) := by kernel_rfl
theorem apW (w : World) (ao : Option Addr) (n c : Nat) (h : Src w ao n 8 64) :
    (Builtin.append_ #[41, 41] 41 #[.slice none 0 0, .slice ao n c]).run Try.prog w = .ok (.slice (cpA w n) n (cpC w n 53)) (cpW w ao n 8 53 (.agg #[.int .i64 0, .int .i64 0, .int .i64 0, .int .i64 0, .int .i64 0, .int .i64 0, .int .i64 0, .int .i64 0])) := by
  obtain ⟨i0, hi, hz0, hz1, hz2⟩ := info_parts info44
  exact append_copy 41 41 53 i0 _ 8 64 Try.underlying41 hi hz0 hz1 hz2 (by omega) w ao n c h
theorem cpW_below (w : World) (ao : Option Addr) (n size e : Nat) (z : Value) : Below w.heap.size w (cpW w ao n size e z) := by
  unfold cpW
  split
  · exact Below.refl _ _
  · exact (Below.refl _ _).drew.alloc (Nat.le_refl _) _
theorem Src.later {w w' : World} {ao : Option Addr} {n size bytes : Nat} (h : Src w ao n size bytes) (hb : Below w.heap.size w w') : Src w' ao n size bytes := by
  refine ⟨h.1, ?_⟩
  rcases h.2 with h0 | ⟨a, rfl, hs⟩
  · exact .inl h0
  · refine .inr ⟨a, rfl, fun j hj => ?_⟩
    obtain ⟨u, hu⟩ := hs j hj
    exact ⟨u, (hb.cell (p := a.add j) (World.block_lt_of_cell? w _ hu)).trans hu⟩
theorem below_drew (w : World) : Below w.heap.size w w.drew := (Below.refl _ _).drew
/-- n elements have been copied behind an address: into new memory; old memory is as it was -/
structure Copied (w : World) (ao : Option Addr) (n size : Nat) (A : Option Addr) (w' : World) : Prop where
  below : Below w.heap.size w w'
  cells : 0 < n → ∃ a g, ao = some a ∧ A = some ⟨g, 0, none⟩ ∧ w.heap.size ≤ g ∧ ∀ j, j < n * size → w'.cell? ⟨g, j, none⟩ = w.cell? (a.add j)
theorem copied_of (w : World) (ao : Option Addr) (n size bytes e : Nat) (z : Value) (h : Src w ao n size bytes) : Copied w ao n size (cpA w n) (cpW w ao n size e z) := by
  refine ⟨cpW_below _ _ _ _ _ _, fun h0 => ?_⟩
  rcases h.2 with hn | ⟨a, rfl, hs⟩
  · omega
  refine ⟨a, w.heap.size, rfl, by rw [cpA, if_neg (by omega)], Nat.le_refl _, fun j hj => ?_⟩
  obtain ⟨u, hu⟩ := hs j hj
  rw [cpW, if_neg (by omega), hu, show (⟨w.heap.size, j, none⟩ : Addr) = ⟨w.drew.heap.size, j, none⟩ from rfl, World.cell?_alloc_at _ _ _ _ rfl]
  rw [Array.getElem?_append_left (by simp [srcCells]; exact hj)]
  simp [srcCells, hj, hu]
theorem wpList_copyW {ops : Array Oper} {rest : List Oper} {o : Oper} {a : Act} {w : World} {Q : Exit → Act → World → Prop} (hg : o.guard = none) (hty : o.type = 41) (s x : Operand)
    (hop : o.op = Op.call { callee := Callee.builtin Builtin.append, args := #[s, x], argTypes := #[41, 41] }) (ao : Option Addr) (n c : Nat) (hs : a.eval s = .slice none 0 0) (hx : a.eval x = .slice ao n c) (h : Src w ao n 8 64)
    (hK : ∀ A C w', Copied w ao n 8 A w' → wpList Try.prog ops Q rest (a.put o.dst (.slice A n C)) w') : wpList Try.prog ops Q (o :: rest) a w := by
  refine wpList_plain hg fun _ hK' => ?_
  unfold Oper.wp
  have hr := apW w ao n c h
  simp [execOp, hop, resolve, invoke, builtin, hs, hx, hty, hr, Result.andThen]
  exact hK' _ _ (hK _ _ _ (copied_of w ao n 8 64 53 _ h))
theorem copy_facts {w w1 : World} {cs : Array Value} {sa A : Option Addr} {n cp C : Nat} (hcp : Copied ((w.alloc (.cells cs 43)).alloc (.cells Z63 43)) sa n 8 A w1) (h61 : cs[61]? = some (.slice sa n cp)) :
    w1.cell? ⟨w.heap.size, 61, none⟩ = some (.slice sa n cp) ∧ w1.frozen? ⟨w.heap.size, 61, none⟩ = false ∧ SAt (w1.setCell ⟨w.heap.size, 61, none⟩ (.slice A n C)) w.heap.size (cs.setIfInBounds 61 (.slice A n C)) ∧ SAt (w1.setCell ⟨w.heap.size, 61, none⟩ (.slice A n C)) (w.heap.size + 1) Z63 := by
  have S1 := ((SAt.new w cs).alloc (.cells Z63 43)).later hcp.below (by simp; omega)
  have R1 : SAt w1 (w.heap.size + 1) Z63 := (SAt.new2 w (.cells cs 43) Z63).later hcp.below (by simp)
  exact ⟨(S1.cell 61).trans h61, S1.free 61, S1.set 61 _, R1.other (by omega) _⟩
set_option maxHeartbeats 1000000 in
theorem copy_any (cs : Array Value) (sa : Option Addr) (n cp : Nat) (w : World) (hsz : cs.size = 63) (h61 : cs[61]? = some (.slice sa n cp)) (hone : cs.all (·.oneCell') = true) (hsrc : Src w sa n 8 64) :
    Calls Try.prog 16 #[.agg cs] w fun e w' => ∃ A C w0 w1, e = .returned (.agg (cs.setIfInBounds 61 (.slice A n C))) ∧ Below w.heap.size w w0 ∧ w.heap.size + 2 ≤ w0.heap.size ∧ Copied w0 sa n 8 A w1 ∧ Below w.heap.size w w' ∧ (∀ b, w.heap.size + 2 ≤ b → w'.heap[b]? = w1.heap[b]?) := by
  have h61' : cs[61]'(by omega) = .slice sa n cp := by simpa [Array.getElem?_eq_getElem (show 61 < cs.size by omega)] using h61
  go_enter Try.func16, Try.ntmps16
  go_upto_region 2 with (first
    | (at_builtin; refine wpList_copyW rfl rfl _ _ rfl sa n cp rfl (by simp [Act.eval]) (hsrc.later (((Below.refl _ w).alloc (Nat.le_refl _) _).alloc (by simp) _)) ?_; intro A C w1 hcp; obtain ⟨hx1, hy1, hS2, hR2⟩ := copy_facts (C := C) hcp h61; have hrg := hS2.range; have HR2 : Hid (SAt (w1.setCell ⟨w.heap.size, 61, none⟩ (.slice A n C)) (w.heap.size + 1) Z63) := hR2; have HCP : Hid (Copied _ sa n 8 A w1) := hcp; clear hS2 hR2 hcp))
  have HBw : Hid (Below w.heap.size w w1) := (((Below.refl _ w).alloc (Nat.le_refl _) _).alloc (by simp) _).trans (HCP.out.below.mono (by simp; omega))
  apply wp_region_lit
  refine wpList_load_mid rfl 43 _ rfl w.heap.size 0 rfl _ _ hrg Try.underlying43 rfl (by rw [infoS]; simp [hsz]) ?_
  refine wpList_store_mid rfl 43 _ _ rfl (w.heap.size + 1) 0 (cs.setIfInBounds 61 (.slice A n C)) rfl rfl (HR2.out.there 0 _ (by simp [Z63, hsz])) (by rw [infoS]; simp [hsz]) (all_set hone rfl) ?_
  go_wp2
  have R3 := HR2.out.setAll (ds := cs.setIfInBounds 61 (.slice A n C)) (by simp [Z63, hsz])
  refine bodyPost_ret (v := .agg (cs.setIfInBounds 61 (.slice A n C))) ?_ rfl ⟨A, C, _, w1, rfl, ((Below.refl _ w).alloc (Nat.le_refl _) _).alloc (by simp) _, by simp, HCP.out, below_sets (by omega) _ _ _ (HBw.out.setCell (by simp) _), fun b hb => (heap_sets (by omega) _ _ _).trans (Below.heap_setCell _ _ _ _ (by simp; omega))⟩
  exact results_cell_row rfl _ _ _ _ _ _ _ rfl R3 Try.underlying43 rfl (by rw [infoS]; simp [hsz])
theorem ws_src {w : World} {ao : Option Addr} {b o : Nat} {W : List Wt} (h : WsAt w ao b o W) : Src w ao W.length 8 64 := by
  refine ⟨h.len, ?_⟩
  rcases Nat.eq_zero_or_pos W.length with h0 | h0
  · exact .inl h0
  · refine .inr ⟨_, h.adr h0, fun j hj => ?_⟩
    have hi : j / 8 < W.length := by omega
    obtain ⟨c0, c1, c2, c3, c4, c5, c6, c7⟩ := h.cell (j / 8) _ (List.getElem?_eq_getElem hi)
    rw [Addr.add_lit]
    rcases (show j % 8 = 0 ∨ j % 8 = 1 ∨ j % 8 = 2 ∨ j % 8 = 3 ∨ j % 8 = 4 ∨ j % 8 = 5 ∨ j % 8 = 6 ∨ j % 8 = 7 by omega) with e | e | e | e | e | e | e | e
    · rw [show o + j = o + j / 8 * 8 by omega]; exact ⟨_, c0⟩
    · rw [show o + j = o + j / 8 * 8 + 1 by omega]; exact ⟨_, c1⟩
    · rw [show o + j = o + j / 8 * 8 + 2 by omega]; exact ⟨_, c2⟩
    · rw [show o + j = o + j / 8 * 8 + 3 by omega]; exact ⟨_, c3⟩
    · rw [show o + j = o + j / 8 * 8 + 4 by omega]; exact ⟨_, c4⟩
    · rw [show o + j = o + j / 8 * 8 + 5 by omega]; exact ⟨_, c5⟩
    · rw [show o + j = o + j / 8 * 8 + 6 by omega]; exact ⟨_, c6⟩
    · rw [show o + j = o + j / 8 * 8 + 7 by omega]; exact ⟨_, c7⟩
/-- the copied cells are the waits -/
theorem ws_copied {w w' : World} {b o g : Nat} {W : List Wt} {ao : Option Addr} (h : WsAt w ao b o W) (hc : ∀ j, j < W.length * 8 → w'.cell? ⟨g, j, none⟩ = w.cell? ⟨b, o + j, none⟩) : WsAt w' (some ⟨g, 0, none⟩) g 0 W := by
  refine ⟨fun _ => rfl, h.len, fun i x hx => ?_⟩
  have hi := (List.getElem?_eq_some_iff.1 hx).1
  obtain ⟨c0, c1, c2, c3, c4, c5, c6, c7⟩ := h.cell i x hx
  rw [Nat.zero_add]
  refine ⟨?_, ?_, ?_, ?_, ?_, ?_, ?_, ?_⟩
  · rw [hc _ (by omega)]; exact c0
  · rw [hc _ (by omega), show o + (i * 8 + 1) = o + i * 8 + 1 by omega]; exact c1
  · rw [hc _ (by omega), show o + (i * 8 + 2) = o + i * 8 + 2 by omega]; exact c2
  · rw [hc _ (by omega), show o + (i * 8 + 3) = o + i * 8 + 3 by omega]; exact c3
  · rw [hc _ (by omega), show o + (i * 8 + 4) = o + i * 8 + 4 by omega]; exact c4
  · rw [hc _ (by omega), show o + (i * 8 + 5) = o + i * 8 + 5 by omega]; exact c5
  · rw [hc _ (by omega), show o + (i * 8 + 6) = o + i * 8 + 6 by omega]; exact c6
  · rw [hc _ (by omega), show o + (i * 8 + 7) = o + i * 8 + 7 by omega]; exact c7
theorem copy_st (s : St) (ao : Option Addr) (sb so c : Nat) (w : World) (hW : WsAt w ao sb so s.W) :
    Calls Try.prog 16 #[.agg (stC s (.slice ao s.W.length c))] w fun e w' => ∃ A C g, e = .returned (.agg (stC s (.slice A s.W.length C))) ∧ WsAt w' A g 0 s.W ∧ (0 < s.W.length → w.heap.size ≤ g) ∧ Below w.heap.size w w' := by
  refine (copy_any (stC s (.slice ao s.W.length c)) ao s.W.length c w (stC_size _ _) (stC_61 _ _) (stC_one _ _ _ _) (ws_src hW)).mono ?_
  rintro e w' ⟨A, C, w0, w1, rfl, h0, h2, hcp, hb, hsame⟩
  rcases Nat.eq_zero_or_pos s.W.length with hz | hz
  · refine ⟨A, C, 0, rfl, ⟨fun h => by omega, hW.len, fun i x hx => ?_⟩, fun h => by omega, hb⟩
    have := (List.getElem?_eq_some_iff.1 hx).1
    omega
  · obtain ⟨a, g, ha, rfl, hg, hc⟩ := hcp.cells hz
    have had := hW.adr hz
    rw [had] at ha
    cases ha
    have hlt := hW.lt hz
    refine ⟨some ⟨g, 0, none⟩, C, g, rfl, ws_copied hW fun j hj => ?_, fun _ => Nat.le_trans h0.size hg, hb⟩
    have e1 : w'.cell? ⟨g, j, none⟩ = w1.cell? ⟨g, j, none⟩ := World.cell?_of_block (w := w1) (hsame g (by omega))
    rw [e1, hc j hj, Addr.add_lit, h0.cell (p := ⟨sb, so + j, none⟩) hlt]
end Go.Proofs.Ytookecjeknpheac
namespace Go.Proofs.Ytookecjeknpheac
open Go.RowKit
set_option maxHeartbeats 4000000 in
theorem rnews_any (w : World) : Calls Try.prog 23 #[] w fun e w' => e = .returned (.agg (stC newS (.slice none 0 0))) ∧ Below w.heap.size w w' := by
  have R0 := SAt.new w Z63
  have HB0 : Hid (Below w.heap.size w (w.alloc (.cells Z63 43))) := (Below.refl _ w).alloc (Nat.le_refl _) _
  have hN := rnew_any
  go_enter Try.func23, Try.ntmps23
  go_upto_region 1 with fail
  change Code.wp Try.prog _ _ _ (w.alloc (.cells Z63 43))
  generalize w.alloc (.cells Z63 43) = w0 at *
  apply wp_region_lit
  go_step
  go_step
  refine (hN _).mono ?_
  rintro e w1 ⟨rfl, h1⟩
  have R1 := R0.later h1 R0.lt
  have HB1 := hide (HB0.out.trans (h1.mono HB0.out.size))
  clear h1 R0 HB0 hN
  dsimp only
  go_step
  go_step
  go_step
  go_step
  refine wpList_store_mid rfl 43 _ _ rfl _ 0 (stC newS (.slice none 0 0)) rfl rfl (R1.there 0 _ (by rw [Z63_size, stC_size]; omega)) (by rw [infoS]; rfl) (stC_one _ _ _ _) ?_
  go_wp2
  have R3 := R1.setAll (ds := stC newS (.slice none 0 0)) (by rw [stC_size]; rfl)
  exact bodyPost_ret (v := .agg (stC newS (.slice none 0 0))) (results_stake1 Try.results23 _ _ _ _ rfl R3 rfl) rfl ⟨rfl, below_sets (Nat.le_refl _) _ _ _ HB1.out⟩
end Go.Proofs.Ytookecjeknpheac
