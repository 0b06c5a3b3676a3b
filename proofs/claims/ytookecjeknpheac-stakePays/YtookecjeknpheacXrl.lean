/- Release. Release: the walk. The reference's Release. -/
import Derived.Test.YtookecjeknpheacXsl
import Derived.Test.YtookecjeknpheacXru
set_option maxRecDepth 100000
namespace Go.Proofs.Ytookecjeknpheac
open Go.RowKit
/-- a hold is given up -/
def relX (c : Nat) (h : Int) (x : Wt) : Wt := if c = 0 then (if x.h0 ≤ h then { x with h0 := 0 } else x) else (if x.h1 ≤ h then { x with h1 := 0 } else x)
def relW (c : Nat) (h : Int) (W : List Wt) : List Wt := W.map (relX c h)
theorem map_step (F : Wt → Wt) {W : List Wt} {k : Nat} {x : Wt} (hx : W[k]? = some x) : (W.take (k + 1)).map F ++ W.drop (k + 1) = ((W.take k).map F ++ W.drop k).set k (F x) ∧ ((W.take k).map F ++ W.drop k)[k]? = some x ∧ ((W.take k).map F ++ W.drop k).length = W.length := by
  obtain ⟨hk, he⟩ := List.getElem?_eq_some_iff.1 hx
  have hl : ((W.take k).map F).length = k := by rw [List.length_map, List.length_take]; omega
  have hd : W.drop k = x :: W.drop (k + 1) := by rw [← he]; exact List.drop_eq_getElem_cons hk
  refine ⟨?_, ?_, ?_⟩
  · rw [take_snoc hx, hd, List.map_append, List.set_append_right _ _ (by omega), hl, Nat.sub_self, List.append_assoc]
    rfl
  · rw [List.getElem?_append_right (by omega), hl, Nat.sub_self, hd]
    rfl
  · rw [List.length_append, List.length_map, ← List.length_append, List.take_append_drop]
theorem wsL_setg : ∀ (W : List Wt) (k : Nat) (x x' : Wt) (j : Nat) (v : Value), W[k]? = some x → j < 8 → wtL x' = (wtL x).set j v → wsL (W.set k x') = (wsL W).set (k * 8 + j) v
  | [], k, x, x', j, v, h, _, _ => by simp at h
  | z :: W, 0, x, x', j, v, h, hj, he => by
    simp at h
    subst h
    show wtL x' ++ wsL W = (wtL z ++ wsL W).set _ _
    rw [List.set_append_left _ _ (by rw [wtL_length]; omega), he]
    simp
  | z :: W, k + 1, x, x', j, v, h, hj, he => by
    have ih := wsL_setg W k x x' j v (by simpa using h) hj he
    show wtL z ++ wsL (W.set k _) = (wtL z ++ wsL W).set _ _
    rw [List.set_append_right _ _ (by rw [wtL_length]; omega), wtL_length, ih]
    congr 2
    omega
theorem OwnW.put {B : Nat} {w : World} {g C : Nat} {W : List Wt} (h : OwnW B w (some ⟨g, 0, none⟩) C W) {k : Nat} {x : Wt} (hx : W[k]? = some x) (x' : Wt) (j : Nat) (v : Value) (hj : j < 8) (he : wtL x' = (wtL x).set j v) : OwnW B (w.setCell ⟨g, k * 8 + j, none⟩ v) (some ⟨g, 0, none⟩) C (W.set k x') := by
  have h1 := (World.ownsRow.stored h (k * 8 + j) v).1
  unfold OwnW
  rw [wsL_setg W k x x' j v hx hj he, List.length_set]
  exact h1
theorem OwnW.holds {B : Nat} {w : World} {A : Option Addr} {C : Nat} {W : List Wt} (h : OwnW B w A C W) (h0 : 0 < W.length) : ∃ g, A = some ⟨g, 0, none⟩ ∧ B ≤ g ∧ g < w.heap.size ∧ ∀ k x, W[k]? = some x → (w.cell? ⟨g, k * 8 + 6, none⟩ = some (.int .i64 x.h0) ∧ w.cell? ⟨g, k * 8 + 7, none⟩ = some (.int .i64 x.h1) ∧ w.frozen? ⟨g, k * 8 + 6, none⟩ = false ∧ w.frozen? ⟨g, k * 8 + 7, none⟩ = false) := by
  have h' := h
  rcases h.2 with ⟨hv, hn⟩ | ⟨g, cap, cur, hv, hb, hg, hrest⟩
  · omega
  · cases hv
    refine ⟨g, rfl, hb, (Array.getElem?_eq_some_iff.1 hg).1, fun k x hx => ?_⟩
    have c : ∀ j v, (wtL x)[j]? = some v → j < 8 → w.cell? ⟨g, k * 8 + j, none⟩ = some v := fun j v hj hl => by
      have := World.ownsRow.cells h' (g := g) rfl (k * 8 + j) v ((wsL_get W k x j hx hl).trans hj)
      rwa [Addr.add_lit, Nat.zero_add] at this
    exact ⟨c 6 _ rfl (by omega), c 7 _ rfl (by omega), World.ownsRow.frozenAt h' _, World.ownsRow.frozenAt h' _⟩
end Go.Proofs.Ytookecjeknpheac
namespace Go.Proofs.Ytookecjeknpheac
open Go.RowKit
theorem stake_end1 {f : Func} {p : Tmp} (hres : f.results = #[.cell p 43]) {g : Nat} {wq : World} {zs : Array Value} (R : SAt wq g zs) (hz : zs.size = 63) (s' : St) (sl : Value) (Q : Ending → World → Prop) (hQ : Q (.returned (.agg (stC s' sl))) (wq.setCells g 0 (stC s' sl).toList)) (act : Act)
    (h8 : act.tmps.getD p undef = .pointer (some ⟨g, 0, none⟩)) (hd : act.defers = []) :
    bodyPost Try.prog f Q Exit.ret act (wq.setCells g 0 (stC s' sl).toList) := by
  have R3 := R.setAll (ds := stC s' sl) (by rw [hz]; rfl)
  refine bodyPost_ret (v := .agg (stC s' sl)) ?_ hd hQ
  exact results_cell_row hres _ _ _ _ _ _ _ h8 R3 Try.underlying43 rfl (by rw [infoS]; rfl)
set_option maxHeartbeats 4000000 in
theorem srelease_out (s : St) (ao : Option Addr) (sb so c : Nat) (i h : Int) (w : World) (hW : WsAt w ao sb so s.W) (hi : i < 0 ∨ 2 ≤ i) :
    Calls Try.prog 30 #[.agg (stC s (.slice ao s.W.length c)), .int .i64 i, .int .i64 h] w fun e w' => e = .returned (.agg (stC s (.slice ao s.W.length c))) ∧ Below w.heap.size w w' := by
  have SS := (SAt.new w (stC s (.slice ao s.W.length c))).alloc (.cells Z63 43)
  have RR := SAt.new2 w (.cells (stC s (.slice ao s.W.length c)) 43) Z63
  have HB : Hid (Below w.heap.size w ((w.alloc (.cells (stC s (.slice ao s.W.length c)) 43)).alloc (.cells Z63 43))) := ((Below.refl _ w).alloc (Nat.le_refl _) _).alloc (by simp) _
  have HW := hide hW
  clear hW
  go_enter Try.func30, Try.ntmps30
  go_upto_region 1 with fail
  change Code.wp Try.prog _ _ _ ((w.alloc (.cells (stC s (.slice ao s.W.length c)) 43)).alloc (.cells Z63 43))
  generalize (w.alloc (.cells (stC s (.slice ao s.W.length c)) 43)).alloc (.cells Z63 43) = w0 at *
  have hz0 : w.heap.size + 1 < w0.heap.size := RR.lt
  have hz0a : w.heap.size < w0.heap.size := by omega
  clear HW
  go_upto_region 3 with ((fail_if_success (go_not_at_region 2)); apply wp_region_lit; refine wpList_load_mid rfl 43 _ rfl _ 0 rfl _ _ SS.range Try.underlying43 rfl (by rw [infoS]; rfl) ?_; refine wpList_store_mid rfl 43 _ _ rfl _ 0 (stC s (.slice ao s.W.length c)) rfl rfl (RR.there 0 _ (by rw [Z63_size, stC_size]; omega)) (by rw [infoS]; rfl) (stC_one _ _ _ _) ?_)
  all_goals first
    | exact stake_end1 Try.results30 RR rfl s _ _ ⟨rfl, below_sets (by omega) _ _ _ HB.out⟩ _ rfl rfl
    | (exfalso; omega)
/-- where the loop stands -/
structure RRl (s : St) (F : Wt → Wt) (B : Nat) (w : World) (A : Option Addr) (C k : Nat) (wl : World) : Prop where
  own : OwnW B wl A C ((s.W.take k).map F ++ s.W.drop k)
  S : SAt wl w.heap.size (stC s (.slice A s.W.length C))
  R : SAt wl (w.heap.size + 1) Z63
  below : Below w.heap.size w wl
set_option maxHeartbeats 8000000 in
theorem srelease_0 (s : St) (ao : Option Addr) (sb so c : Nat) (h : Int) (w : World) (hW : WsAt w ao sb so s.W) (h60 : s.W.length * 64 ≤ 140737488351232) :
    Calls Try.prog 30 #[.agg (stC s (.slice ao s.W.length c)), .int .i64 0, .int .i64 h] w fun e w' => ∃ A C, e = .returned (.agg (stC s (.slice A s.W.length C))) ∧ OwnW w.heap.size w' A C (relW 0 h s.W) ∧ Below w.heap.size w w' := by
  have SS := (SAt.new w (stC s (.slice ao s.W.length c))).alloc (.cells Z63 43)
  have RR := SAt.new2 w (.cells (stC s (.slice ao s.W.length c)) 43) Z63
  have HB : Hid (Below w.heap.size w ((w.alloc (.cells (stC s (.slice ao s.W.length c)) 43)).alloc (.cells Z63 43))) := ((Below.refl _ w).alloc (Nat.le_refl _) _).alloc (by simp) _
  have HW := hide hW
  clear hW
  go_enter Try.func30, Try.ntmps30
  go_upto_region 1 with fail
  change Code.wp Try.prog _ _ _ ((w.alloc (.cells (stC s (.slice ao s.W.length c)) 43)).alloc (.cells Z63 43))
  generalize (w.alloc (.cells (stC s (.slice ao s.W.length c)) 43)).alloc (.cells Z63 43) = w0 at *
  have hz0 : w.heap.size + 1 < w0.heap.size := RR.lt
  have hz0a : w.heap.size < w0.heap.size := by omega
  have x7 := (st_cells SS).2.2.2.2.2.2.2.1
  have hC := clone_any ao s.W c sb so w0 (HW.out.over HB.out)
  go_upto_region 4 with (go_at_call 63; refine hC.mono ?_; rintro e w1 ⟨A, C, rfl, hO, h1⟩; have S1 := SS.later h1 SS.lt; have R1 := RR.later h1 RR.lt; have HB1 := hide (HB.out.trans (h1.mono (by omega))); have HO1 := hide hO; have f61 := S1.free 61; have hz1 := S1.lt; clear x7; have x7 := (st_cells S1).2.2.2.2.2.2.2.1; clear h1 hO)
  have S2 := S1.set 61 (.slice A s.W.length C)
  rw [set_sl] at S2
  have hbt := (But.refl w.heap.size w1).set 61 (.slice A s.W.length C)
  have R2 := hbt.stake (by omega) R1
  have HO2 : Hid (OwnW w0.heap.size (w1.setCell ⟨w.heap.size, 61, none⟩ (.slice A s.W.length C)) A C s.W) := own_of HO1.out fun k hk => hbt.block _ (by have := (World.ownsRow.lt HO1.out k hk).1; omega)
  have HB2 := hide (HB1.out.trans (hbt.below (Nat.le_refl _)))
  generalize w1.setCell ⟨w.heap.size, 61, none⟩ (.slice A s.W.length C) = w2 at *
  clear x7 f61 S1 R1 HO1 HB1 hbt SS RR HB hC
  have x7 := (st_cells S2).2.2.2.2.2.2.2.1
  have hz2 : w.heap.size < w2.heap.size := S2.lt
  have HR0 : Hid (RRl s (relX 0 h) w0.heap.size w A C 0 w2) := ⟨HO2.out, S2, R2, HB2.out⟩
  clear S2 R2 HO2 HB2
  go_upto_region 5 with fail
  go_loopw [23] (fun i wl => ∃ (k : Nat), k ≤ s.W.length ∧ i = .int .i64 (k : Int) ∧ Hid (RRl s (relX 0 h) w0.heap.size w A C k wl)) (fun i _ => s.W.length - (intOf i).toNat)
  case atStart => exact ⟨0, Nat.zero_le _, rfl, HR0⟩
  case round =>
    obtain ⟨k, hk, rfl, HR⟩ := hrel
    clear HR0 x7
    have hwr := HR.out.S.lt
    by_cases hlt : k < s.W.length
    · obtain ⟨x, hx, _⟩ := drop_at hlt
      obtain ⟨e1, e2, e3⟩ := map_step (relX 0 h) hx
      obtain ⟨g, rfl, hgB, hgs, hcl⟩ := HR.out.own.holds (by omega)
      obtain ⟨c6, c7, f6, f7⟩ := hcl k x e2
      have hcap := HR.out.own.cap
      rw [e3] at hcap
      have x7 := (st_cells HR.out.S).2.2.2.2.2.2.2.1
      have HE1 := hide e1
      have HE2 := hide e2
      clear hcl e1 e2 hx
      by_cases hh : x.h0 ≤ h
      · have HX : Hid (relX 0 h x = { x with h0 := 0 }) := by show _ = _; unfold relX; simp [hh]
        go_wp2
        refine ⟨⟨k + 1, by omega, by go_num, ?_⟩, by simp [intOf]; omega⟩
        have hbt := (But.refl g wr).set (k * 8 + 6) (.int .i64 0)
        exact ⟨by rw [HE1.out, HX.out]; exact HR.out.own.put HE2.out _ 6 _ (by omega) rfl, hbt.stake (by omega) HR.out.S, hbt.stake (by omega) HR.out.R, HR.out.below.trans (hbt.below (by omega))⟩
      · have HX : Hid (relX 0 h x = x) := by show _ = _; unfold relX; simp [hh]
        have HR1 : Hid (RRl s (relX 0 h) w0.heap.size w (some ⟨g, 0, none⟩) C (k + 1) wr) := ⟨by rw [HE1.out, HX.out, set_same HE2.out]; exact HR.out.own, HR.out.S, HR.out.R, HR.out.below⟩
        go_wp2
        exact ⟨⟨k + 1, by omega, by go_num, HR1⟩, by simp [intOf]; omega⟩
    · obtain rfl : k = s.W.length := by omega
      have hO := HR.out.own
      rw [List.take_length, List.drop_length, List.append_nil] at hO
      have HO := hide hO
      have S3 := HR.out.S
      have R3 := HR.out.R
      have HB3 := hide HR.out.below
      clear hO HR
      go_upto_region 11 with fail
      apply wp_region_lit
      refine wpList_load_mid rfl 43 _ rfl _ 0 rfl _ _ S3.range Try.underlying43 rfl (by rw [infoS]; rfl) ?_
      refine wpList_store_mid rfl 43 _ _ rfl _ 0 (stC s (.slice A s.W.length C)) rfl rfl (R3.there 0 _ (by rw [Z63_size, stC_size]; omega)) (by rw [infoS]; rfl) (stC_one _ _ _ _) ?_
      go_wp2
      exact stake_end1 Try.results30 R3 rfl s _ _ ⟨A, C, rfl, own_base (own_of HO.out fun k' hk => heap_sets (by have := (World.ownsRow.lt HO.out k' hk).1; omega) _ _ _) (by omega), below_sets (by omega) _ _ _ HB3.out⟩ _ rfl rfl
set_option maxHeartbeats 8000000 in
theorem srelease_1 (s : St) (ao : Option Addr) (sb so c : Nat) (h : Int) (w : World) (hW : WsAt w ao sb so s.W) (h60 : s.W.length * 64 ≤ 140737488351232) :
    Calls Try.prog 30 #[.agg (stC s (.slice ao s.W.length c)), .int .i64 1, .int .i64 h] w fun e w' => ∃ A C, e = .returned (.agg (stC s (.slice A s.W.length C))) ∧ OwnW w.heap.size w' A C (relW 1 h s.W) ∧ Below w.heap.size w w' := by
  have SS := (SAt.new w (stC s (.slice ao s.W.length c))).alloc (.cells Z63 43)
  have RR := SAt.new2 w (.cells (stC s (.slice ao s.W.length c)) 43) Z63
  have HB : Hid (Below w.heap.size w ((w.alloc (.cells (stC s (.slice ao s.W.length c)) 43)).alloc (.cells Z63 43))) := ((Below.refl _ w).alloc (Nat.le_refl _) _).alloc (by simp) _
  have HW := hide hW
  clear hW
  go_enter Try.func30, Try.ntmps30
  go_upto_region 1 with fail
  change Code.wp Try.prog _ _ _ ((w.alloc (.cells (stC s (.slice ao s.W.length c)) 43)).alloc (.cells Z63 43))
  generalize (w.alloc (.cells (stC s (.slice ao s.W.length c)) 43)).alloc (.cells Z63 43) = w0 at *
  have hz0 : w.heap.size + 1 < w0.heap.size := RR.lt
  have hz0a : w.heap.size < w0.heap.size := by omega
  have x7 := (st_cells SS).2.2.2.2.2.2.2.1
  have hC := clone_any ao s.W c sb so w0 (HW.out.over HB.out)
  go_upto_region 4 with (go_at_call 63; refine hC.mono ?_; rintro e w1 ⟨A, C, rfl, hO, h1⟩; have S1 := SS.later h1 SS.lt; have R1 := RR.later h1 RR.lt; have HB1 := hide (HB.out.trans (h1.mono (by omega))); have HO1 := hide hO; have f61 := S1.free 61; have hz1 := S1.lt; clear x7; have x7 := (st_cells S1).2.2.2.2.2.2.2.1; clear h1 hO)
  have S2 := S1.set 61 (.slice A s.W.length C)
  rw [set_sl] at S2
  have hbt := (But.refl w.heap.size w1).set 61 (.slice A s.W.length C)
  have R2 := hbt.stake (by omega) R1
  have HO2 : Hid (OwnW w0.heap.size (w1.setCell ⟨w.heap.size, 61, none⟩ (.slice A s.W.length C)) A C s.W) := own_of HO1.out fun k hk => hbt.block _ (by have := (World.ownsRow.lt HO1.out k hk).1; omega)
  have HB2 := hide (HB1.out.trans (hbt.below (Nat.le_refl _)))
  generalize w1.setCell ⟨w.heap.size, 61, none⟩ (.slice A s.W.length C) = w2 at *
  clear x7 f61 S1 R1 HO1 HB1 hbt SS RR HB hC
  have x7 := (st_cells S2).2.2.2.2.2.2.2.1
  have hz2 : w.heap.size < w2.heap.size := S2.lt
  have HR0 : Hid (RRl s (relX 1 h) w0.heap.size w A C 0 w2) := ⟨HO2.out, S2, R2, HB2.out⟩
  clear S2 R2 HO2 HB2
  go_upto_region 5 with fail
  go_loopw [23] (fun i wl => ∃ (k : Nat), k ≤ s.W.length ∧ i = .int .i64 (k : Int) ∧ Hid (RRl s (relX 1 h) w0.heap.size w A C k wl)) (fun i _ => s.W.length - (intOf i).toNat)
  case atStart => exact ⟨0, Nat.zero_le _, rfl, HR0⟩
  case round =>
    obtain ⟨k, hk, rfl, HR⟩ := hrel
    clear HR0 x7
    have hwr := HR.out.S.lt
    by_cases hlt : k < s.W.length
    · obtain ⟨x, hx, _⟩ := drop_at hlt
      obtain ⟨e1, e2, e3⟩ := map_step (relX 1 h) hx
      obtain ⟨g, rfl, hgB, hgs, hcl⟩ := HR.out.own.holds (by omega)
      obtain ⟨c6, c7, f6, f7⟩ := hcl k x e2
      have hcap := HR.out.own.cap
      rw [e3] at hcap
      have x7 := (st_cells HR.out.S).2.2.2.2.2.2.2.1
      have HE1 := hide e1
      have HE2 := hide e2
      clear hcl e1 e2 hx
      by_cases hh : x.h1 ≤ h
      · have HX : Hid (relX 1 h x = { x with h1 := 0 }) := by show _ = _; unfold relX; simp [hh]
        go_wp2
        refine ⟨⟨k + 1, by omega, by go_num, ?_⟩, by simp [intOf]; omega⟩
        have hbt := (But.refl g wr).set (k * 8 + 7) (.int .i64 0)
        exact ⟨by rw [HE1.out, HX.out]; exact HR.out.own.put HE2.out _ 7 _ (by omega) rfl, hbt.stake (by omega) HR.out.S, hbt.stake (by omega) HR.out.R, HR.out.below.trans (hbt.below (by omega))⟩
      · have HX : Hid (relX 1 h x = x) := by show _ = _; unfold relX; simp [hh]
        have HR1 : Hid (RRl s (relX 1 h) w0.heap.size w (some ⟨g, 0, none⟩) C (k + 1) wr) := ⟨by rw [HE1.out, HX.out, set_same HE2.out]; exact HR.out.own, HR.out.S, HR.out.R, HR.out.below⟩
        go_wp2
        exact ⟨⟨k + 1, by omega, by go_num, HR1⟩, by simp [intOf]; omega⟩
    · obtain rfl : k = s.W.length := by omega
      have hO := HR.out.own
      rw [List.take_length, List.drop_length, List.append_nil] at hO
      have HO := hide hO
      have S3 := HR.out.S
      have R3 := HR.out.R
      have HB3 := hide HR.out.below
      clear hO HR
      go_upto_region 11 with fail
      apply wp_region_lit
      refine wpList_load_mid rfl 43 _ rfl _ 0 rfl _ _ S3.range Try.underlying43 rfl (by rw [infoS]; rfl) ?_
      refine wpList_store_mid rfl 43 _ _ rfl _ 0 (stC s (.slice A s.W.length C)) rfl rfl (R3.there 0 _ (by rw [Z63_size, stC_size]; omega)) (by rw [infoS]; rfl) (stC_one _ _ _ _) ?_
      go_wp2
      exact stake_end1 Try.results30 R3 rfl s _ _ ⟨A, C, rfl, own_base (own_of HO.out fun k' hk => heap_sets (by have := (World.ownsRow.lt HO.out k' hk).1; omega) _ _ _) (by omega), below_sets (by omega) _ _ _ HB3.out⟩ _ rfl rfl
end Go.Proofs.Ytookecjeknpheac
namespace Go.Proofs.Ytookecjeknpheac
open Go.RowKit
theorem ixH0 (w : World) (a b : Int) : (Instr.index 51 (.agg #[.int .i64 a, .int .i64 b]) (.int .i64 0)).run Try.prog w = .ok (.int .i64 a) w := by kernel_rfl
theorem ixH1 (w : World) (a b : Int) : (Instr.index 51 (.agg #[.int .i64 a, .int .i64 b]) (.int .i64 1)).run Try.prog w = .ok (.int .i64 b) w := by kernel_rfl
/-- where the loops stand -/
structure RQl (s : St) (L : List Wt) (B ob : Nat) (w : World) (A : Option Addr) (C : Nat) (wl : World) : Prop where
  own : OwnW B wl A C L
  R : SAt wl (w.heap.size + 1) Z63
  O : SAt wl ob (stC s (.slice A s.W.length C))
  below : Below w.heap.size w wl
theorem RQl.over {s : St} {L : List Wt} {B ob : Nat} {w : World} {A : Option Addr} {C : Nat} {wl w' : World} (H : RQl s L B ob w A C wl) (hb : Below wl.heap.size wl w') : RQl s L B ob w A C w' :=
  ⟨H.own.over hb, H.R.later hb H.R.lt, H.O.later hb H.O.lt, H.below.trans (hb.mono H.below.size)⟩
set_option maxHeartbeats 8000000 in
theorem rrelease_0 (s : St) (ao : Option Addr) (sb so c : Nat)  (h : Int) (w : World) (hW : WsAt w ao sb so s.W) :
    Calls Try.prog 31 #[.agg (stC s (.slice ao s.W.length c)), .int .i64 0, .int .i64 h] w fun e w' => ∃ A C, e = .returned (.agg (stC s (.slice A s.W.length C))) ∧ OwnW w.heap.size w' A C (s.W.map (relX 0 h)) ∧ Below w.heap.size w w' := by
  have SS := (SAt.new w (stC s (.slice ao s.W.length c))).alloc (.cells Z63 43)
  have RR := SAt.new2 w (.cells (stC s (.slice ao s.W.length c)) 43) Z63
  have HB : Hid (Below w.heap.size w ((w.alloc (.cells (stC s (.slice ao s.W.length c)) 43)).alloc (.cells Z63 43))) := ((Below.refl _ w).alloc (Nat.le_refl _) _).alloc (by simp) _
  have HW := hide hW
  have hlen := hW.len
  clear hW
  go_enter Try.func31, Try.ntmps31
  go_upto_region 1 with fail
  change Code.wp Try.prog _ _ _ ((w.alloc (.cells (stC s (.slice ao s.W.length c)) 43)).alloc (.cells Z63 43))
  generalize (w.alloc (.cells (stC s (.slice ao s.W.length c)) 43)).alloc (.cells Z63 43) = w0 at *
  have hz0 : w.heap.size + 1 < w0.heap.size := RR.lt
  apply wp_region_lit
  refine wpList_load_mid rfl 43 _ rfl _ 0 rfl _ _ SS.range Try.underlying43 rfl (by rw [infoS]; rfl) ?_
  go_step
  go_step
  refine (copy_st3 s ao sb so c _ (by exact HW.out.over HB.out)).mono ?_
  rintro e w6 ⟨A, C, rfl, hO6, h6⟩
  dsimp only
  have R6 := RR.later h6 RR.lt
  have HB6 := hide (HB.out.trans (h6.mono (by omega)))
  have hz6 : w.heap.size + 1 < w6.heap.size := R6.lt
  have h56 : w0.heap.size ≤ w6.heap.size := h6.size
  have HOB : Hid (∀ k, A = some ⟨k, 0, none⟩ → w0.heap.size + 2 ≤ k ∧ k < w6.heap.size) := fun k hk => World.ownsRow.lt hO6 k (by rw [hk]; rfl)
  iterate 4 go_step
  refine wpList_store_mid rfl 43 _ _ rfl _ 0 (stC s (.slice A s.W.length C)) rfl rfl ((SAt.new w6 Z63).there 0 _ (by rw [Z63_size, stC_size]; omega)) (by rw [infoS]; rfl) (stC_one _ _ _ _) ?_
  change wpList Try.prog _ _ _ _ ((w6.alloc (.cells Z63 43)).setCells w6.heap.size 0 (stC s (.slice A s.W.length C)).toList)
  have O7 := (SAt.new w6 Z63).setAll (ds := (stC s (.slice A s.W.length C))) rfl
  have R7 : SAt ((w6.alloc (.cells Z63 43)).setCells w6.heap.size 0 (stC s (.slice A s.W.length C)).toList) (w.heap.size + 1) Z63 := (heap_sets (by omega) _ _ _).trans (R6.alloc _)
  have HB7 := hide (below_sets (b := w6.heap.size) (by omega) (stC s (.slice A s.W.length C)).toList 0 _ (HB6.out.alloc (by omega) (.cells Z63 43)))
  have HO7 : Hid (OwnW (w0.heap.size + 2) ((w6.alloc (.cells Z63 43)).setCells w6.heap.size 0 (stC s (.slice A s.W.length C)).toList) A C s.W) := hO6.to fun k _ hk => (heap_sets (by omega) _ _ _).trans (Below.heap_alloc w6 _ k hk)
  generalize (w6.alloc (.cells Z63 43)).setCells w6.heap.size 0 (stC s (.slice A s.W.length C)).toList = w7 at *
  have hz7 : w6.heap.size < w7.heap.size := O7.lt
  have HR0 : Hid (RQl s ((s.W.take 0).map (relX 0 h) ++ s.W.drop 0) (w0.heap.size + 2) w6.heap.size w A C w7) := ⟨HO7.out, R7, O7, HB7.out⟩
  have x7 := (st_cells O7).2.2.2.2.2.2.2.1
  clear SS RR HB R6 HB6 h6 hO6 O7 R7 HO7 HB7 HW
  go_upto_region 3 with fail
  go_loopw [17] (fun i wl => ∃ (k : Nat), k ≤ s.W.length ∧ i = .int .i64 (k : Int) ∧ Hid (RQl s ((s.W.take k).map (relX 0 h) ++ s.W.drop k) (w0.heap.size + 2) w6.heap.size w A C wl)) (fun i _ => s.W.length - (intOf i).toNat)
  case atStart => exact ⟨0, Nat.zero_le _, rfl, HR0⟩
  case round =>
    obtain ⟨k, hk, rfl, HR⟩ := hrel
    clear HR0 x7
    have hwr := HR.out.O.lt
    by_cases hlt : k < s.W.length
    · obtain ⟨x, hx, _⟩ := drop_at hlt
      obtain ⟨e1, e2, e3⟩ := map_step ((relX 0 h)) hx
      obtain ⟨g, rfl, hgB, hgs, _⟩ := HR.out.own.holds (by omega)
      have hob := HOB.out g rfl
      obtain ⟨c0, c1, c2, c3, c4, c5, c6, c7⟩ := (HR.out.own.wsg (by rw [e3]; exact hlen)).cell k x e2
      simp only [Nat.zero_add] at c0 c1 c2 c3 c4 c5 c6 c7
      have hcap := HR.out.own.cap
      rw [e3] at hcap
      have HE1 := hide e1
      have HE2 := hide e2
      clear e1 e2 hx
      have Yq : YAt (wr.alloc (.cells #[.int .i64 x.num, .int .i64 x.d, .int .i64 x.v, .int .i64 x.amt, .int .i64 x.hei, .int .i64 x.due, .int .i64 x.h0, .int .i64 x.h1] 53)) wr.heap.size x := heap_alloc_new _ _
      have HQ := hide (HR.out.over ((Below.refl _ wr).alloc (Nat.le_refl _) (.cells #[.int .i64 x.num, .int .i64 x.d, .int .i64 x.v, .int .i64 x.amt, .int .i64 x.hei, .int .i64 x.due, .int .i64 x.h0, .int .i64 x.h1] 53)))
      go_upto_region 5 with fail
      generalize wr.alloc (.cells #[.int .i64 x.num, .int .i64 x.d, .int .i64 x.v, .int .i64 x.amt, .int .i64 x.hei, .int .i64 x.due, .int .i64 x.h0, .int .i64 x.h1] 53) = wq at *
      clear c0 c1 c2 c3 c4 c5 c6 c7 HR
      have c6 := Yq.cells.2.2.2.2.2.2.1
      have c7 := Yq.cells.2.2.2.2.2.2.2
      have hzq := Yq.lt
      have hi0 := fun w => ixH0 w x.h0 x.h1
      have hi1 := fun w => ixH1 w x.h0 x.h1
      generalize hL : (s.W.take k).map (relX 0 h) ++ s.W.drop k = Lk at *
      clear hL
      have HQ0 : Hid (RQl s (Lk.set k (if 1 ≤ 0 then (relX 0 h) x else x)) (w0.heap.size + 2) w6.heap.size w (some ⟨g, 0, none⟩) C wq) := by show RQl _ _ _ _ _ _ _ _; rw [if_neg (by omega), set_same HE2.out]; exact HQ.out
      go_upto_region 6 with fail
      go_loopw [24] (fun i wl => ∃ (j : Nat), j ≤ 2 ∧ i = .int .i64 (j : Int) ∧ Hid (RQl s (Lk.set k (if 1 ≤ j then (relX 0 h) x else x)) (w0.heap.size + 2) w6.heap.size w (some ⟨g, 0, none⟩) C wl)) (fun i _ => 2 - (intOf i).toNat)
      case atStart => exact ⟨0, by omega, rfl, HQ0⟩
      case round =>
        obtain ⟨j, hj, rfl, HI⟩ := hrel
        clear HQ0
        have x7 := (st_cells HI.out.O).2.2.2.2.2.2.2.1
        have hzo := HI.out.O.lt
        rcases (show j = 0 ∨ j = 1 ∨ j = 2 by omega) with rfl | rfl | rfl
        · rw [if_neg (by omega), set_same HE2.out] at HI
          obtain ⟨g', hg', _, hgs', hcl⟩ := HI.out.own.holds (by have := (List.getElem?_eq_some_iff.1 HE2.out).1; omega)
          cases hg'
          obtain ⟨d6, d7, f6, f7⟩ := hcl k x HE2.out
          clear hcl
          by_cases hh : x.h0 ≤ h
          · have HX : Hid ((relX 0 h) x = { x with h0 := 0 }) := by show _ = _; unfold relX; simp [hh]
            go_wp2
            refine ⟨⟨1, by omega, by go_num, ?_⟩, by simp [intOf]⟩
            show RQl _ _ _ _ _ _ _ _
            rw [if_pos (by omega), HX.out]
            have hbt := (But.refl g wr).set (k * 8 + 6) (.int .i64 0)
            exact ⟨HI.out.own.put HE2.out _ 6 _ (by omega) rfl, hbt.stake (by omega) HI.out.R, hbt.stake (by omega) HI.out.O, HI.out.below.trans (hbt.below (by omega))⟩
          · have HX : Hid ((relX 0 h) x = x) := by show _ = _; unfold relX; simp [hh]
            have HI1 : Hid (RQl s (Lk.set k (if 1 ≤ 1 then (relX 0 h) x else x)) (w0.heap.size + 2) w6.heap.size w (some ⟨g, 0, none⟩) C wr) := by show RQl _ _ _ _ _ _ _ _; rw [if_pos (by omega), HX.out, set_same HE2.out]; exact HI.out
            go_wp2
            exact ⟨⟨1, by omega, by go_num, HI1⟩, by simp [intOf]⟩
        · have HI1 := hide HI.out
          clear HI
          go_wp2
          exact ⟨⟨2, by omega, by go_num, by show RQl _ _ _ _ _ _ _ _; have hq := HI1.out; rw [if_pos (by omega)] at hq ⊢; exact hq⟩, by simp [intOf]⟩
        · rw [if_pos (by omega), ← HE1.out] at HI
          go_wp2
          exact ⟨⟨k + 1, by omega, by go_num, HI⟩, by simp [intOf]; omega⟩
    · obtain rfl : k = s.W.length := by omega
      have hO := HR.out.own
      rw [List.take_length, List.drop_length, List.append_nil] at hO
      have HO := hide hO
      have S3 := HR.out.O
      have R3 := HR.out.R
      have HB3 := hide HR.out.below
      clear hO HR
      go_upto_region 12 with fail
      apply wp_region_lit
      refine wpList_load_mid rfl 43 _ rfl _ 0 rfl _ _ S3.range Try.underlying43 rfl (by rw [infoS]; rfl) ?_
      refine wpList_store_mid rfl 43 _ _ rfl _ 0 (stC s (.slice A s.W.length C)) rfl rfl (R3.there 0 _ (by rw [Z63_size, stC_size]; omega)) (by rw [infoS]; rfl) (stC_one _ _ _ _) ?_
      go_wp2
      exact stake_end1 Try.results31 R3 rfl s _ _ ⟨A, C, rfl, own_base (own_of HO.out fun k' hk => heap_sets (by have := (World.ownsRow.lt HO.out k' hk).1; omega) _ _ _) (by omega), below_sets (by omega) _ _ _ HB3.out⟩ _ rfl rfl
set_option maxHeartbeats 8000000 in
theorem rrelease_1 (s : St) (ao : Option Addr) (sb so c : Nat)  (h : Int) (w : World) (hW : WsAt w ao sb so s.W) :
    Calls Try.prog 31 #[.agg (stC s (.slice ao s.W.length c)), .int .i64 1, .int .i64 h] w fun e w' => ∃ A C, e = .returned (.agg (stC s (.slice A s.W.length C))) ∧ OwnW w.heap.size w' A C (s.W.map (relX 1 h)) ∧ Below w.heap.size w w' := by
  have SS := (SAt.new w (stC s (.slice ao s.W.length c))).alloc (.cells Z63 43)
  have RR := SAt.new2 w (.cells (stC s (.slice ao s.W.length c)) 43) Z63
  have HB : Hid (Below w.heap.size w ((w.alloc (.cells (stC s (.slice ao s.W.length c)) 43)).alloc (.cells Z63 43))) := ((Below.refl _ w).alloc (Nat.le_refl _) _).alloc (by simp) _
  have HW := hide hW
  have hlen := hW.len
  clear hW
  go_enter Try.func31, Try.ntmps31
  go_upto_region 1 with fail
  change Code.wp Try.prog _ _ _ ((w.alloc (.cells (stC s (.slice ao s.W.length c)) 43)).alloc (.cells Z63 43))
  generalize (w.alloc (.cells (stC s (.slice ao s.W.length c)) 43)).alloc (.cells Z63 43) = w0 at *
  have hz0 : w.heap.size + 1 < w0.heap.size := RR.lt
  apply wp_region_lit
  refine wpList_load_mid rfl 43 _ rfl _ 0 rfl _ _ SS.range Try.underlying43 rfl (by rw [infoS]; rfl) ?_
  go_step
  go_step
  refine (copy_st3 s ao sb so c _ (by exact HW.out.over HB.out)).mono ?_
  rintro e w6 ⟨A, C, rfl, hO6, h6⟩
  dsimp only
  have R6 := RR.later h6 RR.lt
  have HB6 := hide (HB.out.trans (h6.mono (by omega)))
  have hz6 : w.heap.size + 1 < w6.heap.size := R6.lt
  have h56 : w0.heap.size ≤ w6.heap.size := h6.size
  have HOB : Hid (∀ k, A = some ⟨k, 0, none⟩ → w0.heap.size + 2 ≤ k ∧ k < w6.heap.size) := fun k hk => World.ownsRow.lt hO6 k (by rw [hk]; rfl)
  iterate 4 go_step
  refine wpList_store_mid rfl 43 _ _ rfl _ 0 (stC s (.slice A s.W.length C)) rfl rfl ((SAt.new w6 Z63).there 0 _ (by rw [Z63_size, stC_size]; omega)) (by rw [infoS]; rfl) (stC_one _ _ _ _) ?_
  change wpList Try.prog _ _ _ _ ((w6.alloc (.cells Z63 43)).setCells w6.heap.size 0 (stC s (.slice A s.W.length C)).toList)
  have O7 := (SAt.new w6 Z63).setAll (ds := (stC s (.slice A s.W.length C))) rfl
  have R7 : SAt ((w6.alloc (.cells Z63 43)).setCells w6.heap.size 0 (stC s (.slice A s.W.length C)).toList) (w.heap.size + 1) Z63 := (heap_sets (by omega) _ _ _).trans (R6.alloc _)
  have HB7 := hide (below_sets (b := w6.heap.size) (by omega) (stC s (.slice A s.W.length C)).toList 0 _ (HB6.out.alloc (by omega) (.cells Z63 43)))
  have HO7 : Hid (OwnW (w0.heap.size + 2) ((w6.alloc (.cells Z63 43)).setCells w6.heap.size 0 (stC s (.slice A s.W.length C)).toList) A C s.W) := hO6.to fun k _ hk => (heap_sets (by omega) _ _ _).trans (Below.heap_alloc w6 _ k hk)
  generalize (w6.alloc (.cells Z63 43)).setCells w6.heap.size 0 (stC s (.slice A s.W.length C)).toList = w7 at *
  have hz7 : w6.heap.size < w7.heap.size := O7.lt
  have HR0 : Hid (RQl s ((s.W.take 0).map (relX 1 h) ++ s.W.drop 0) (w0.heap.size + 2) w6.heap.size w A C w7) := ⟨HO7.out, R7, O7, HB7.out⟩
  have x7 := (st_cells O7).2.2.2.2.2.2.2.1
  clear SS RR HB R6 HB6 h6 hO6 O7 R7 HO7 HB7 HW
  go_upto_region 3 with fail
  go_loopw [17] (fun i wl => ∃ (k : Nat), k ≤ s.W.length ∧ i = .int .i64 (k : Int) ∧ Hid (RQl s ((s.W.take k).map (relX 1 h) ++ s.W.drop k) (w0.heap.size + 2) w6.heap.size w A C wl)) (fun i _ => s.W.length - (intOf i).toNat)
  case atStart => exact ⟨0, Nat.zero_le _, rfl, HR0⟩
  case round =>
    obtain ⟨k, hk, rfl, HR⟩ := hrel
    clear HR0 x7
    have hwr := HR.out.O.lt
    by_cases hlt : k < s.W.length
    · obtain ⟨x, hx, _⟩ := drop_at hlt
      obtain ⟨e1, e2, e3⟩ := map_step ((relX 1 h)) hx
      obtain ⟨g, rfl, hgB, hgs, _⟩ := HR.out.own.holds (by omega)
      have hob := HOB.out g rfl
      obtain ⟨c0, c1, c2, c3, c4, c5, c6, c7⟩ := (HR.out.own.wsg (by rw [e3]; exact hlen)).cell k x e2
      simp only [Nat.zero_add] at c0 c1 c2 c3 c4 c5 c6 c7
      have hcap := HR.out.own.cap
      rw [e3] at hcap
      have HE1 := hide e1
      have HE2 := hide e2
      clear e1 e2 hx
      have Yq : YAt (wr.alloc (.cells #[.int .i64 x.num, .int .i64 x.d, .int .i64 x.v, .int .i64 x.amt, .int .i64 x.hei, .int .i64 x.due, .int .i64 x.h0, .int .i64 x.h1] 53)) wr.heap.size x := heap_alloc_new _ _
      have HQ := hide (HR.out.over ((Below.refl _ wr).alloc (Nat.le_refl _) (.cells #[.int .i64 x.num, .int .i64 x.d, .int .i64 x.v, .int .i64 x.amt, .int .i64 x.hei, .int .i64 x.due, .int .i64 x.h0, .int .i64 x.h1] 53)))
      go_upto_region 5 with fail
      generalize wr.alloc (.cells #[.int .i64 x.num, .int .i64 x.d, .int .i64 x.v, .int .i64 x.amt, .int .i64 x.hei, .int .i64 x.due, .int .i64 x.h0, .int .i64 x.h1] 53) = wq at *
      clear c0 c1 c2 c3 c4 c5 c6 c7 HR
      have c6 := Yq.cells.2.2.2.2.2.2.1
      have c7 := Yq.cells.2.2.2.2.2.2.2
      have hzq := Yq.lt
      have hi0 := fun w => ixH0 w x.h0 x.h1
      have hi1 := fun w => ixH1 w x.h0 x.h1
      generalize hL : (s.W.take k).map (relX 1 h) ++ s.W.drop k = Lk at *
      clear hL
      have HQ0 : Hid (RQl s (Lk.set k (if 2 ≤ 0 then (relX 1 h) x else x)) (w0.heap.size + 2) w6.heap.size w (some ⟨g, 0, none⟩) C wq) := by show RQl _ _ _ _ _ _ _ _; rw [if_neg (by omega), set_same HE2.out]; exact HQ.out
      go_upto_region 6 with fail
      go_loopw [24] (fun i wl => ∃ (j : Nat), j ≤ 2 ∧ i = .int .i64 (j : Int) ∧ Hid (RQl s (Lk.set k (if 2 ≤ j then (relX 1 h) x else x)) (w0.heap.size + 2) w6.heap.size w (some ⟨g, 0, none⟩) C wl)) (fun i _ => 2 - (intOf i).toNat)
      case atStart => exact ⟨0, by omega, rfl, HQ0⟩
      case round =>
        obtain ⟨j, hj, rfl, HI⟩ := hrel
        clear HQ0
        have x7 := (st_cells HI.out.O).2.2.2.2.2.2.2.1
        have hzo := HI.out.O.lt
        rcases (show j = 0 ∨ j = 1 ∨ j = 2 by omega) with rfl | rfl | rfl
        · have HI1 := hide HI.out
          clear HI
          go_wp2
          exact ⟨⟨1, by omega, by go_num, by show RQl _ _ _ _ _ _ _ _; have hq := HI1.out; rw [if_neg (by omega)] at hq ⊢; exact hq⟩, by simp [intOf]⟩
        · rw [if_neg (by omega), set_same HE2.out] at HI
          obtain ⟨g', hg', _, hgs', hcl⟩ := HI.out.own.holds (by have := (List.getElem?_eq_some_iff.1 HE2.out).1; omega)
          cases hg'
          obtain ⟨d6, d7, f6, f7⟩ := hcl k x HE2.out
          clear hcl
          by_cases hh : x.h1 ≤ h
          · have HX : Hid ((relX 1 h) x = { x with h1 := 0 }) := by show _ = _; unfold relX; simp [hh]
            go_wp2
            refine ⟨⟨2, by omega, by go_num, ?_⟩, by simp [intOf]⟩
            show RQl _ _ _ _ _ _ _ _
            rw [if_pos (by omega), HX.out]
            have hbt := (But.refl g wr).set (k * 8 + 7) (.int .i64 0)
            exact ⟨HI.out.own.put HE2.out _ 7 _ (by omega) rfl, hbt.stake (by omega) HI.out.R, hbt.stake (by omega) HI.out.O, HI.out.below.trans (hbt.below (by omega))⟩
          · have HX : Hid ((relX 1 h) x = x) := by show _ = _; unfold relX; simp [hh]
            have HI1 : Hid (RQl s (Lk.set k (if 2 ≤ 2 then (relX 1 h) x else x)) (w0.heap.size + 2) w6.heap.size w (some ⟨g, 0, none⟩) C wr) := by show RQl _ _ _ _ _ _ _ _; rw [if_pos (by omega), HX.out, set_same HE2.out]; exact HI.out
            go_wp2
            exact ⟨⟨2, by omega, by go_num, HI1⟩, by simp [intOf]⟩
        · rw [if_pos (by omega), ← HE1.out] at HI
          go_wp2
          exact ⟨⟨k + 1, by omega, by go_num, HI⟩, by simp [intOf]; omega⟩
    · obtain rfl : k = s.W.length := by omega
      have hO := HR.out.own
      rw [List.take_length, List.drop_length, List.append_nil] at hO
      have HO := hide hO
      have S3 := HR.out.O
      have R3 := HR.out.R
      have HB3 := hide HR.out.below
      clear hO HR
      go_upto_region 12 with fail
      apply wp_region_lit
      refine wpList_load_mid rfl 43 _ rfl _ 0 rfl _ _ S3.range Try.underlying43 rfl (by rw [infoS]; rfl) ?_
      refine wpList_store_mid rfl 43 _ _ rfl _ 0 (stC s (.slice A s.W.length C)) rfl rfl (R3.there 0 _ (by rw [Z63_size, stC_size]; omega)) (by rw [infoS]; rfl) (stC_one _ _ _ _) ?_
      go_wp2
      exact stake_end1 Try.results31 R3 rfl s _ _ ⟨A, C, rfl, own_base (own_of HO.out fun k' hk => heap_sets (by have := (World.ownsRow.lt HO.out k' hk).1; omega) _ _ _) (by omega), below_sets (by omega) _ _ _ HB3.out⟩ _ rfl rfl
set_option maxHeartbeats 8000000 in
theorem rrelease_out (s : St) (ao : Option Addr) (sb so c : Nat) (i : Int) (hi : i < 0 ∨ 2 ≤ i) (h : Int) (w : World) (hW : WsAt w ao sb so s.W) :
    Calls Try.prog 31 #[.agg (stC s (.slice ao s.W.length c)), .int .i64 i, .int .i64 h] w fun e w' => ∃ A C, e = .returned (.agg (stC s (.slice A s.W.length C))) ∧ OwnW w.heap.size w' A C (s.W.map id) ∧ Below w.heap.size w w' := by
  have SS := (SAt.new w (stC s (.slice ao s.W.length c))).alloc (.cells Z63 43)
  have RR := SAt.new2 w (.cells (stC s (.slice ao s.W.length c)) 43) Z63
  have HB : Hid (Below w.heap.size w ((w.alloc (.cells (stC s (.slice ao s.W.length c)) 43)).alloc (.cells Z63 43))) := ((Below.refl _ w).alloc (Nat.le_refl _) _).alloc (by simp) _
  have HW := hide hW
  have hlen := hW.len
  clear hW
  go_enter Try.func31, Try.ntmps31
  go_upto_region 1 with fail
  change Code.wp Try.prog _ _ _ ((w.alloc (.cells (stC s (.slice ao s.W.length c)) 43)).alloc (.cells Z63 43))
  generalize (w.alloc (.cells (stC s (.slice ao s.W.length c)) 43)).alloc (.cells Z63 43) = w0 at *
  have hz0 : w.heap.size + 1 < w0.heap.size := RR.lt
  apply wp_region_lit
  refine wpList_load_mid rfl 43 _ rfl _ 0 rfl _ _ SS.range Try.underlying43 rfl (by rw [infoS]; rfl) ?_
  go_step
  go_step
  refine (copy_st3 s ao sb so c _ (by exact HW.out.over HB.out)).mono ?_
  rintro e w6 ⟨A, C, rfl, hO6, h6⟩
  dsimp only
  have R6 := RR.later h6 RR.lt
  have HB6 := hide (HB.out.trans (h6.mono (by omega)))
  have hz6 : w.heap.size + 1 < w6.heap.size := R6.lt
  have h56 : w0.heap.size ≤ w6.heap.size := h6.size
  have HOB : Hid (∀ k, A = some ⟨k, 0, none⟩ → w0.heap.size + 2 ≤ k ∧ k < w6.heap.size) := fun k hk => World.ownsRow.lt hO6 k (by rw [hk]; rfl)
  iterate 4 go_step
  refine wpList_store_mid rfl 43 _ _ rfl _ 0 (stC s (.slice A s.W.length C)) rfl rfl ((SAt.new w6 Z63).there 0 _ (by rw [Z63_size, stC_size]; omega)) (by rw [infoS]; rfl) (stC_one _ _ _ _) ?_
  change wpList Try.prog _ _ _ _ ((w6.alloc (.cells Z63 43)).setCells w6.heap.size 0 (stC s (.slice A s.W.length C)).toList)
  have O7 := (SAt.new w6 Z63).setAll (ds := (stC s (.slice A s.W.length C))) rfl
  have R7 : SAt ((w6.alloc (.cells Z63 43)).setCells w6.heap.size 0 (stC s (.slice A s.W.length C)).toList) (w.heap.size + 1) Z63 := (heap_sets (by omega) _ _ _).trans (R6.alloc _)
  have HB7 := hide (below_sets (b := w6.heap.size) (by omega) (stC s (.slice A s.W.length C)).toList 0 _ (HB6.out.alloc (by omega) (.cells Z63 43)))
  have HO7 : Hid (OwnW (w0.heap.size + 2) ((w6.alloc (.cells Z63 43)).setCells w6.heap.size 0 (stC s (.slice A s.W.length C)).toList) A C s.W) := hO6.to fun k _ hk => (heap_sets (by omega) _ _ _).trans (Below.heap_alloc w6 _ k hk)
  generalize (w6.alloc (.cells Z63 43)).setCells w6.heap.size 0 (stC s (.slice A s.W.length C)).toList = w7 at *
  have hz7 : w6.heap.size < w7.heap.size := O7.lt
  have HR0 : Hid (RQl s ((s.W.take 0).map id ++ s.W.drop 0) (w0.heap.size + 2) w6.heap.size w A C w7) := ⟨HO7.out, R7, O7, HB7.out⟩
  have x7 := (st_cells O7).2.2.2.2.2.2.2.1
  clear SS RR HB R6 HB6 h6 hO6 O7 R7 HO7 HB7 HW
  go_upto_region 3 with fail
  go_loopw [17] (fun i wl => ∃ (k : Nat), k ≤ s.W.length ∧ i = .int .i64 (k : Int) ∧ Hid (RQl s ((s.W.take k).map id ++ s.W.drop k) (w0.heap.size + 2) w6.heap.size w A C wl)) (fun i _ => s.W.length - (intOf i).toNat)
  case atStart => exact ⟨0, Nat.zero_le _, rfl, HR0⟩
  case round =>
    obtain ⟨k, hk, rfl, HR⟩ := hrel
    clear HR0 x7
    have hwr := HR.out.O.lt
    by_cases hlt : k < s.W.length
    · obtain ⟨x, hx, _⟩ := drop_at hlt
      obtain ⟨e1, e2, e3⟩ := map_step (id) hx
      obtain ⟨g, rfl, hgB, hgs, _⟩ := HR.out.own.holds (by omega)
      have hob := HOB.out g rfl
      obtain ⟨c0, c1, c2, c3, c4, c5, c6, c7⟩ := (HR.out.own.wsg (by rw [e3]; exact hlen)).cell k x e2
      simp only [Nat.zero_add] at c0 c1 c2 c3 c4 c5 c6 c7
      have hcap := HR.out.own.cap
      rw [e3] at hcap
      have HE1 := hide e1
      have HE2 := hide e2
      clear e1 e2 hx
      have Yq : YAt (wr.alloc (.cells #[.int .i64 x.num, .int .i64 x.d, .int .i64 x.v, .int .i64 x.amt, .int .i64 x.hei, .int .i64 x.due, .int .i64 x.h0, .int .i64 x.h1] 53)) wr.heap.size x := heap_alloc_new _ _
      have HQ := hide (HR.out.over ((Below.refl _ wr).alloc (Nat.le_refl _) (.cells #[.int .i64 x.num, .int .i64 x.d, .int .i64 x.v, .int .i64 x.amt, .int .i64 x.hei, .int .i64 x.due, .int .i64 x.h0, .int .i64 x.h1] 53)))
      go_upto_region 5 with fail
      generalize wr.alloc (.cells #[.int .i64 x.num, .int .i64 x.d, .int .i64 x.v, .int .i64 x.amt, .int .i64 x.hei, .int .i64 x.due, .int .i64 x.h0, .int .i64 x.h1] 53) = wq at *
      clear c0 c1 c2 c3 c4 c5 c6 c7 HR
      have c6 := Yq.cells.2.2.2.2.2.2.1
      have c7 := Yq.cells.2.2.2.2.2.2.2
      have hzq := Yq.lt
      have hi0 := fun w => ixH0 w x.h0 x.h1
      have hi1 := fun w => ixH1 w x.h0 x.h1
      generalize hL : (s.W.take k).map id ++ s.W.drop k = Lk at *
      clear hL
      have HQ0 : Hid (RQl s (Lk.set k x) (w0.heap.size + 2) w6.heap.size w (some ⟨g, 0, none⟩) C wq) := by show RQl _ _ _ _ _ _ _ _; rw [set_same HE2.out]; exact HQ.out
      go_upto_region 6 with fail
      go_loopw [24] (fun i wl => ∃ (j : Nat), j ≤ 2 ∧ i = .int .i64 (j : Int) ∧ Hid (RQl s (Lk.set k x) (w0.heap.size + 2) w6.heap.size w (some ⟨g, 0, none⟩) C wl)) (fun i _ => 2 - (intOf i).toNat)
      case atStart => exact ⟨0, by omega, rfl, HQ0⟩
      case round =>
        obtain ⟨j, hj, rfl, HI⟩ := hrel
        clear HQ0
        have x7 := (st_cells HI.out.O).2.2.2.2.2.2.2.1
        have hzo := HI.out.O.lt
        rcases (show j = 0 ∨ j = 1 ∨ j = 2 by omega) with rfl | rfl | rfl
        · have HI1 := hide HI.out
          clear HI
          go_wp2
          exact ⟨⟨1, by omega, by go_num, by exact HI1⟩, by simp [intOf]⟩
        · have HI1 := hide HI.out
          clear HI
          go_wp2
          exact ⟨⟨2, by omega, by go_num, by exact HI1⟩, by simp [intOf]⟩
        · rw [show Lk.set k x = Lk.set k (id x) from rfl, ← HE1.out] at HI
          go_wp2
          exact ⟨⟨k + 1, by omega, by go_num, HI⟩, by simp [intOf]; omega⟩
    · obtain rfl : k = s.W.length := by omega
      have hO := HR.out.own
      rw [List.take_length, List.drop_length, List.append_nil] at hO
      have HO := hide hO
      have S3 := HR.out.O
      have R3 := HR.out.R
      have HB3 := hide HR.out.below
      clear hO HR
      go_upto_region 12 with fail
      apply wp_region_lit
      refine wpList_load_mid rfl 43 _ rfl _ 0 rfl _ _ S3.range Try.underlying43 rfl (by rw [infoS]; rfl) ?_
      refine wpList_store_mid rfl 43 _ _ rfl _ 0 (stC s (.slice A s.W.length C)) rfl rfl (R3.there 0 _ (by rw [Z63_size, stC_size]; omega)) (by rw [infoS]; rfl) (stC_one _ _ _ _) ?_
      go_wp2
      exact stake_end1 Try.results31 R3 rfl s _ _ ⟨A, C, rfl, own_base (own_of HO.out fun k' hk => heap_sets (by have := (World.ownsRow.lt HO.out k' hk).1; omega) _ _ _) (by omega), below_sets (by omega) _ _ _ HB3.out⟩ _ rfl rfl
end Go.Proofs.Ytookecjeknpheac
