/- Parts of the proof: OR2 OR3 RA1 RB1. -/
import Derived.Test.YtjghbciepinofaaGreatRows
import Derived.Test.YtjghbciepinofaaGreatPEK22
import Derived.Test.YtjghbciepinofaaGreatPEK28
import Derived.Test.YtjghbciepinofaaGreatPEK29
import Derived.WalkKit
import Derived.ChangeKeysEq
import Derived.BigQuiet
import Derived.Deep.QuietTactic
set_option maxRecDepth 100000
namespace Go.Proofs.YtjghbciepinofaaGreat.Od
open Go
section
variable {P : Program} {md : Region.Mode} {ops : Array Oper} {Q : Exit → Act → World → Prop} {S : World → Prop} {c : Nat}
/-- the last call, nothing guards it -/
theorem anyC_go {o : Oper} {n : Nat} {L : Array Bool} {a : Act} {w : World} (hr : Region.ready md ops L = [c]) (ho : ops[c]? = some o) (hg : o.guard = none)
    (h : ∀ K' : Act → World → Prop, (∀ a w, wpAny P md ops Q n (L.setIfInBounds c true) a w → K' a w) → Oper.wp P o a w K' Q) : anyC P md ops Q S c (n + 1) L a w :=
  anyC_last hr ho fun K' hK => by
    have hw : Region.wanted o (yielded ops a.tmps) = true := by simp [Region.wanted, hg]
    rw [if_pos hw]
    exact h K' hK
end
end Go.Proofs.YtjghbciepinofaaGreat.Od

set_option maxRecDepth 100000
namespace Go.Proofs.YtjghbciepinofaaGreat.Od
open Go
section
variable {P : Program} {md : Region.Mode} {ops : Array Oper} {Q : Exit → Act → World → Prop} {S : World → Prop} {c : Nat}
theorem free_first {i : Nat} {oi : Oper} {v : Value} (hi : ops[i]? = some oi) (hsel : ∀ (j : Nat) (o : Oper) cs b, ops[j]? = some o → o.op ≠ .select cs b)
    (hQ : ∀ c a w, Q (.panic c) (a.put oi.dst v) w → Q (.panic c) a w) (hic : i ≠ c) :
    ∀ (n : Nat) (L : Array Bool) (a : Act) (w : World),
      (∀ j oj, ops[j]? = some oj → j ≠ i → L.getD j true = false → (∀ e ∈ oj.after, Region.binds md e = true → e.on ≠ i) → oi.apart ops oj = true) →
      i ∈ Region.ready md ops L → Yields P ops oi v a → S w →
      anyC P md ops Q S c n (L.setIfInBounds i true) (a.put oi.dst v) w → anyC P md ops Q S c (n + 1) L a w := by
  intro n
  induction n with
  | zero =>
    intro L a w _ hr hy hS H
    refine ⟨fun h => (by rw [h] at hr; cases hr), fun j hj => ?_⟩
    by_cases hji : j = i
    · subst hji
      exact hy.wpOp hi ⟨fun e => absurd e hic, fun _ => ⟨hS, H⟩⟩
    · have := ready_mono hj hji
      rw [H.1] at this
      cases this
  | succ n ih =>
    intro L a w hfree hr hy hS H
    refine ⟨fun h => (by rw [h] at hr; cases hr), fun j hj => ?_⟩
    by_cases hji : j = i
    · subst hji
      exact hy.wpOp hi ⟨fun e => absurd e hic, fun _ => ⟨hS, H⟩⟩
    · have hK := H.2 j (ready_mono hj hji)
      obtain ⟨hjun, oj, hoj, hall⟩ := mem_ready.1 hj
      have hnot : ∀ e ∈ oj.after, Region.binds md e = true → e.on ≠ i := fun e he hb heq => by
        have h1 := hall e he hb
        have h0 := (mem_ready.1 hr).1
        rw [heq] at h1
        rcases Nat.lt_or_ge i L.size with h' | h'
        · simp [h'] at h0 h1; rw [h0] at h1; cases h1
        · simp [Array.getElem?_eq_none h'] at h1
      have hfree' : ∀ k ok, ops[k]? = some ok → k ≠ i → (L.setIfInBounds j true).getD k true = false →
          (∀ e ∈ ok.after, Region.binds md e = true → e.on ≠ i) → oi.apart ops ok = true := fun k ok hk hki hun hno => by
        refine hfree k ok hk hki ?_ hno
        by_cases hjk : j = k
        · subst hjk; exact hjun
        · rw [getD_set_ne true hjk] at hun; exact hun
      refine wpOp_mono (fun a' w' h3 => ⟨fun e => ?_, fun e => ?_⟩) (wpOp_put hoj (hfree j oj hoj hji hjun hnot) (fun cs b => hsel i oi cs b hi) (fun cs b => hsel j oj cs b hoj) hQ hy hK)
      · refine wpAny_first hi hsel hQ n (L.setIfInBounds j true) a' w' hfree' (ready_mono hr (Ne.symm hji)) h3.1 ?_
        rw [Array.setIfInBounds_comm _ _ hji]
        exact h3.2.1 e
      · obtain ⟨hS', h5⟩ := h3.2.2 e
        refine ⟨hS', ih (L.setIfInBounds j true) a' w' hfree' (ready_mono hr (Ne.symm hji)) h3.1 hS' ?_⟩
        rw [Array.setIfInBounds_comm _ _ hji]
        exact h5
theorem anyH_sl {i : Nat} {oi : Oper} {v : Value} {n : Nat} {L : Array Bool} {a : Act} {w : World} (dd : Option Tmp) (hi : ops[i]? = some oi) (hd : oi.dst = dd)
    (hs : Region.noSelect ops = true) (hf : Region.free md ops L i = true) (hr : (Region.ready md ops L).contains i = true)
    (hQ : ∀ c a w, Q (.panic c) (a.put dd v) w → Q (.panic c) a w) (hy : YieldsIf P ops S oi v a) (hS : S w)
    (h : wpAnyH P md ops Q S n (L.setIfInBounds i true) (a.put dd v) w) : wpAnyH P md ops Q S (n + 1) L a w := by
  subst hd
  exact wpAnyH_take hi hs hf hr hQ hy hS h
/-- one alone may come up, and nothing guards it -/
theorem anyH_one {i : Nat} {o : Oper} {n : Nat} {L : Array Bool} {a : Act} {w : World} (hr : Region.ready md ops L = [i]) (ho : ops[i]? = some o) (hg : o.guard = none)
    (h : ∀ K' : Act → World → Prop, (∀ a w, S w → wpAnyH P md ops Q S n (L.setIfInBounds i true) a w → K' a w) → Oper.wp P o a w K' Q) : wpAnyH P md ops Q S (n + 1) L a w := by
  refine ⟨fun h0 => (by rw [hr] at h0; cases h0), fun j hj => ?_⟩
  rw [hr, List.mem_singleton] at hj
  subst hj
  refine wpOp_step ho fun K' hK => ?_
  rw [if_pos (show Region.wanted o (yielded ops a.tmps) = true by simp [Region.wanted, hg])]
  exact h K' fun a w hS hA => hK a w ⟨hS, hA⟩
theorem anyH_two {i j : Nat} {oi oj : Oper} {n : Nat} {L : Array Bool} {a : Act} {w : World} (hr : Region.ready md ops L = [i, j]) (hoi : ops[i]? = some oi) (hgi : oi.guard = none) (hoj : ops[j]? = some oj) (hgj : oj.guard = none)
    (h1 : ∀ K' : Act → World → Prop, (∀ a w, S w → wpAnyH P md ops Q S n (L.setIfInBounds i true) a w → K' a w) → Oper.wp P oi a w K' Q)
    (h2 : ∀ K' : Act → World → Prop, (∀ a w, S w → wpAnyH P md ops Q S n (L.setIfInBounds j true) a w → K' a w) → Oper.wp P oj a w K' Q) : wpAnyH P md ops Q S (n + 1) L a w := by
  refine ⟨fun h0 => (by rw [hr] at h0; cases h0), fun k hk => ?_⟩
  rw [hr] at hk
  rcases List.mem_cons.1 hk with rfl | hk
  · refine wpOp_step hoi fun K' hK => ?_
    rw [if_pos (show Region.wanted oi (yielded ops a.tmps) = true by simp [Region.wanted, hgi])]
    exact h1 K' fun a w hS hA => hK a w ⟨hS, hA⟩
  · rw [List.mem_singleton] at hk
    subst hk
    refine wpOp_step hoj fun K' hK => ?_
    rw [if_pos (show Region.wanted oj (yielded ops a.tmps) = true by simp [Region.wanted, hgj])]
    exact h2 K' fun a w hS hA => hK a w ⟨hS, hA⟩
theorem anyH_store {i : Nat} {o : Oper} {n : Nat} {L : Array Bool} {a : Act} {w : World} (hr : Region.ready md ops L = [i]) (ho : ops[i]? = some o) (hg : o.guard = none)
    (ty : TypeId) (x y : Operand) (hop : o.op = .store ty x y) (hd : o.dst = none) (b off : Nat) (cells : Array Value) (hx : a.eval x = .pointer (some ⟨b, off, none⟩)) (hy : a.eval y = .agg cells)
    (ht : w.there b off cells.size) (hi : (P.info? ty).map (·.size) = some cells.size) (h1 : cells.all (·.oneCell') = true) (hS : S (w.setCells b off cells.toList))
    (h : wpAnyH P md ops Q S n (L.setIfInBounds i true) a (w.setCells b off cells.toList)) : wpAnyH P md ops Q S (n + 1) L a w :=
  anyH_one hr ho hg fun _ hK => wp_store_mid ty x y hop b off cells hx hy ht hi h1 (hK _ _ hS (by rw [hd]; exact h))
theorem anyC_free {i : Nat} {oi : Oper} {v : Value} {n : Nat} {L : Array Bool} {a : Act} {w : World} (dd : Option Tmp) (hi : ops[i]? = some oi) (hd : oi.dst = dd)
    (hs : Region.noSelect ops = true) (hf : Region.free md ops L i = true) (hr : (Region.ready md ops L).contains i = true) (hic : i ≠ c)
    (hQ : ∀ c a w, Q (.panic c) (a.put dd v) w → Q (.panic c) a w) (hy : Yields P ops oi v a) (hS : S w)
    (h : anyC P md ops Q S c n (L.setIfInBounds i true) (a.put dd v) w) : anyC P md ops Q S c (n + 1) L a w := by
  subst hd
  exact free_first hi (Region.noSelect_spec hs) hQ hic n L a w (Region.free_spec hi hf) (by simpa using hr) hy hS h
end
end Go.Proofs.YtjghbciepinofaaGreat.Od

set_option maxRecDepth 100000
namespace Go.Proofs.YtjghbciepinofaaGreat
open Go.RowKit
theorem eqVd (w : World) (t s l : Int) (j d : Bool) : (Op.equalIn 9999 26 (.agg #[.int .i64 t, .int .i64 s, .int .i64 l, .bool j, .bool d]) (.agg #[.int .i64 t, .int .i64 s, .int .i64 l, .bool j, .bool d])).run Tryz.prog w = .ok true w := by
  go_simp
theorem eqVs (w : World) (V : Nat → Vd) : (Op.equalIn 10000 27 (.agg (vsC V)) (.agg (vsC V))).run Tryz.prog w = .ok true w := by
  have hi : (Tryz.prog.info? 26).isSome = true := by kernel_rfl
  obtain ⟨i, hi⟩ := Option.isSome_iff_exists.1 hi
  have hc : Tryz.prog.cellsOf 26 = 5 := by kernel_rfl
  rw [run_equalIn_array w 9999 _ _ Tryz.underlying27 hi, hc, show List.range 6 = [0, 1, 2, 3, 4, 5] from rfl]
  have h := eqVd
  simp only [Op.eqItems, vsC]
  go_simp
theorem eqRow (w : World) (a b c d e f : Int) : (Op.equalIn 9999 28 (.agg #[.int .i64 a, .int .i64 b, .int .i64 c, .int .i64 d, .int .i64 e, .int .i64 f]) (.agg #[.int .i64 a, .int .i64 b, .int .i64 c, .int .i64 d, .int .i64 e, .int .i64 f])).run Tryz.prog w = .ok true w := by
  have hi : (Tryz.prog.info? 3).isSome = true := by kernel_rfl
  obtain ⟨i, hi⟩ := Option.isSome_iff_exists.1 hi
  have hc : Tryz.prog.cellsOf 3 = 1 := by kernel_rfl
  rw [run_equalIn_array w 9998 _ _ Tryz.underlying28 hi, hc, show List.range 6 = [0, 1, 2, 3, 4, 5] from rfl]
  simp only [Op.eqItems]
  go_simp
theorem eqSh (w : World) (S : Nat → Nat → Int) : (Op.equalIn 10000 29 (.agg (shC S)) (.agg (shC S))).run Tryz.prog w = .ok true w := by
  have hi : (Tryz.prog.info? 28).isSome = true := by kernel_rfl
  obtain ⟨i, hi⟩ := Option.isSome_iff_exists.1 hi
  have hc : Tryz.prog.cellsOf 28 = 6 := by kernel_rfl
  rw [run_equalIn_array w 9999 _ _ Tryz.underlying29 hi, hc, show List.range 4 = [0, 1, 2, 3] from rfl]
  have h := eqRow
  simp only [Op.eqItems, shC]
  go_simp
theorem neVs (w : World) (V : Nat → Vd) : (binOp .neq 27 (.agg (vsC V)) (.agg (vsC V))).run Tryz.prog w = .ok (.bool false) w := by
  rw [run_neq_struct, eqVs]
  rfl
theorem neSh (w : World) (S : Nat → Nat → Int) : (binOp .neq 29 (.agg (shC S)) (.agg (shC S))).run Tryz.prog w = .ok (.bool false) w := by
  rw [run_neq_struct, eqSh]
  rfl
theorem eqH (w : World) (a b : Int) : (Op.equalIn 9999 125 (.agg #[.int .i64 a, .int .i64 b]) (.agg #[.int .i64 a, .int .i64 b])).run Tryz.prog w = .ok true w := by
  have hi : (Tryz.prog.info? 3).isSome = true := by kernel_rfl
  obtain ⟨i, hi⟩ := Option.isSome_iff_exists.1 hi
  have hc : Tryz.prog.cellsOf 3 = 1 := by kernel_rfl
  rw [run_equalIn_array w 9998 _ _ Tryz.underlying125 hi, hc, show List.range 2 = [0, 1] from rfl]
  simp only [Op.eqItems]
  go_simp
theorem neWt (w : World) (x : Wt) : (binOp .neq 127 (.agg (wtC x)) (.agg (wtC x))).run Tryz.prog w = .ok (.bool false) w := by
  have h := fun w => eqH w x.h0 x.h1
  rw [run_neq_struct]
  unfold wtC
  go_simp
theorem neBk (w : World) (b : Bk) : (binOp .neq 24 (.agg #[.int .i64 b.f0, .int .i64 b.f1, .int .i64 b.f2, .int .i64 b.f3, .int .i64 b.bo, .int .i64 b.wa, .int .i64 b.bu]) (.agg #[.int .i64 b.f0, .int .i64 b.f1, .int .i64 b.f2, .int .i64 b.f3, .int .i64 b.bo, .int .i64 b.wa, .int .i64 b.bu])).run Tryz.prog w = .ok (.bool false) w := by
  rw [neB]
  simp
end Go.Proofs.YtjghbciepinofaaGreat

set_option maxRecDepth 100000
namespace Go.Proofs.YtjghbciepinofaaGreat
open Go.RowKit
set_option maxHeartbeats 4000000 in
theorem same_any (s : St) (aa ba : Option Addr) (ab ao bb bo ca cb : Nat) (w : World) (hA : WsAt w aa ab ao s.W) (hB : WsAt w ba bb bo s.W) :
    Calls Tryz.prog 54 #[.agg (stC s (.slice aa s.W.length ca)), .agg (stC s (.slice ba s.W.length cb))] w fun e w' => e = .returned (.bool true) ∧ Below w.heap.size w w' := by
  have S0 := (SAt.new w (stC s (.slice aa s.W.length ca))).alloc (.cells (stC s (.slice ba s.W.length cb)) 32)
  have T0 := SAt.new2 w (.cells (stC s (.slice aa s.W.length ca)) 32) (stC s (.slice ba s.W.length cb))
  have HB0 : Hid (Below w.heap.size w ((w.alloc (.cells (stC s (.slice aa s.W.length ca)) 32)).alloc (.cells (stC s (.slice ba s.W.length cb)) 32))) := ((Below.refl _ w).alloc (Nat.le_refl _) _).alloc (by simp) _
  have HA := hide hA
  have HB := hide hB
  have hlen := hA.len
  clear hA hB
  have n1 := fun w => neVs w s.V
  have n2 := fun w => neSh w s.S
  have n3 := fun w => neBk w s.b
  go_enter Tryz.func54, Tryz.ntmps54
  go_upto_region 1 with fail
  generalize (w.alloc (.cells (stC s (.slice aa s.W.length ca)) 32)).alloc (.cells (stC s (.slice ba s.W.length cb)) 32) = w0 at *
  obtain ⟨x0, x1, x2, x3, x4, x5, x6, x7, x8⟩ := st_cells S0
  obtain ⟨y0, y1, y2, y3, y4, y5, y6, y7, y8⟩ := st_cells T0
  have r1 := st_vals S0
  have r2 := st_vals T0
  have r3 := st_shares S0
  have r4 := st_shares T0
  go_upto_region 999 with (first
    | (refine wp_load_mid 27 _ rfl _ 7 rfl _ _ r1 Tryz.underlying27 rfl (by rw [infoVs]; rfl) ?_)
    | (refine wp_load_mid 27 _ rfl _ 7 rfl _ _ r2 Tryz.underlying27 rfl (by rw [infoVs]; rfl) ?_)
    | (refine wp_load_mid 29 _ rfl _ 37 rfl _ _ r3 Tryz.underlying29 rfl (by rw [infoSh]; rfl) ?_)
    | (refine wp_load_mid 29 _ rfl _ 37 rfl _ _ r4 Tryz.underlying29 rfl (by rw [infoSh]; rfl) ?_))
  have HS := hide S0
  have HT := hide T0
  have hadA := HA.out.adr
  have hadB := HB.out.adr
  clear x0 x1 x2 x3 x4 x5 x6 x7 x8 y0 y1 y2 y3 y4 y5 y6 y7 y8 r1 r2 r3 r4 n1 n2 n3 S0 T0
  go_loopw [44] (fun i wl => ∃ k : Nat, k ≤ s.W.length ∧ i = .int .i64 (k : Int) ∧ Hid (∃ n, wl = w0.drewN n)) (fun i _ => s.W.length - (intOf i).toNat)
  case atStart => exact ⟨0, by omega, rfl, 0, rfl⟩
  case round =>
    obtain ⟨k, hk, rfl, HN⟩ := hrel
    by_cases hlt : k < s.W.length
    · obtain ⟨n, hn⟩ := HN.out
      subst hn
      obtain ⟨x, hx, _⟩ := drop_at hlt
      have hBw : Below w.heap.size w (w0.drewN n) := ⟨HB0.out.os, HB0.out.tape, HB0.out.output, HB0.out.size, HB0.out.block⟩
      obtain ⟨c0, c1, c2, c3, c4, c5, c6, c7⟩ := (HA.out.over hBw).cell k x hx
      obtain ⟨d0, d1, d2, d3, d4, d5, d6, d7⟩ := (HB.out.over hBw).cell k x hx
      obtain ⟨_, _, _, _, _, _, _, x7, _⟩ := st_cells (show SAt (w0.drewN n) w.heap.size (stC s (.slice aa s.W.length ca)) from HS.out)
      obtain ⟨_, _, _, _, _, _, _, y7, _⟩ := st_cells (show SAt (w0.drewN n) (w.heap.size + 1) (stC s (.slice ba s.W.length cb)) from HT.out)
      have n4 := fun w => neWt w x
      unfold wtC at n4
      obtain rfl := hadA (by omega)
      obtain rfl := hadB (by omega)
      have hk0 : (0 : Int) ≤ (k : Int) := by omega
      have hk1 : (k : Int) < (s.W.length : Int) := by omega
      clear hadA hadB hx hBw HN
      have HX : Hid (∃ m, w0.drewN n = w0.drewN m) := ⟨n, rfl⟩
      generalize w0.drewN n = wx at *
      go_upto_region 6 with fail
      go_quiet (fail)
      go_wp2
      go_roundw
      case rel =>
        obtain ⟨m, hm⟩ := HX.out
        exact ⟨k + 1, by omega, by go_num, m + nq, by rw [hm]; simp⟩
      case measure => simp [intOf]; omega
    · obtain ⟨n, hn⟩ := HN.out
      subst hn
      go_wp2
      go_ret
      exact ⟨rfl, HB0.out.os, HB0.out.tape, HB0.out.output, HB0.out.size, HB0.out.block⟩
end Go.Proofs.YtjghbciepinofaaGreat

