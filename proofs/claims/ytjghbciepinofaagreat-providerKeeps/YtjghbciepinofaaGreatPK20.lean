/- Parts of the proof: SRL2 DF2. -/
import Derived.Test.YtjghbciepinofaaGreatRows
import Derived.Test.YtjghbciepinofaaGreatPK11
import Derived.Test.YtjghbciepinofaaGreatPK18
import Derived.Maps.AppendAt
set_option maxRecDepth 100000
namespace Go.Proofs.YtjghbciepinofaaGreat
open Go.RowKit
theorem stake_end1 {f : Func} {p : Tmp} (hres : f.results = #[.cell p 32]) {g : Nat} {wq : World} {zs : Array Value} (R : SAt wq g zs) (hz : zs.size = 63) (s' : St) (sl : Value) (Q : Ending → World → Prop) (hQ : Q (.returned (.agg (stC s' sl))) (wq.setCells g 0 (stC s' sl).toList)) (act : Act)
    (h8 : act.tmps.getD p undef = .pointer (some ⟨g, 0, none⟩)) (hd : act.defers = []) :
    bodyPost Tryz.prog f Q Exit.ret act (wq.setCells g 0 (stC s' sl).toList) := by
  have R3 := R.setAll (ds := stC s' sl) (by rw [hz]; rfl)
  refine bodyPost_ret (v := .agg (stC s' sl)) ?_ hd hQ
  exact results_cell_row hres _ _ _ _ _ _ _ h8 R3 Tryz.underlying32 rfl (by rw [infoS]; rfl)
/-- where the loop stands -/
structure RRl (s : St) (F : Wt → Wt) (B : Nat) (w : World) (A : Option Addr) (C k : Nat) (wl : World) : Prop where
  own : OwnW B wl A C ((s.W.take k).map F ++ s.W.drop k)
  S : SAt wl w.heap.size (stC s (.slice A s.W.length C))
  R : SAt wl (w.heap.size + 1) Z63
  below : Below w.heap.size w wl
set_option maxHeartbeats 8000000 in
theorem srelease_0 (s : St) (ao : Option Addr) (sb so c : Nat) (h : Int) (w : World) (hW : WsAt w ao sb so s.W) (h60 : s.W.length * 64 ≤ 140737488351232) :
    Calls Tryz.prog 110 #[.agg (stC s (.slice ao s.W.length c)), .int .i64 0, .int .i64 h] w fun e w' => ∃ A C, e = .returned (.agg (stC s (.slice A s.W.length C))) ∧ OwnW w.heap.size w' A C (relW 0 h s.W) ∧ Below w.heap.size w w' := by
  have SS := (SAt.new w (stC s (.slice ao s.W.length c))).alloc (.cells Z63 32)
  have RR := SAt.new2 w (.cells (stC s (.slice ao s.W.length c)) 32) Z63
  have HB : Hid (Below w.heap.size w ((w.alloc (.cells (stC s (.slice ao s.W.length c)) 32)).alloc (.cells Z63 32))) := ((Below.refl _ w).alloc (Nat.le_refl _) _).alloc (by simp) _
  have HW := hide hW
  clear hW
  go_enter Tryz.func110, Tryz.ntmps110
  go_upto_region 1 with fail
  change Code.wp Tryz.prog _ _ _ ((w.alloc (.cells (stC s (.slice ao s.W.length c)) 32)).alloc (.cells Z63 32))
  generalize (w.alloc (.cells (stC s (.slice ao s.W.length c)) 32)).alloc (.cells Z63 32) = w0 at *
  have hz0 : w.heap.size + 1 < w0.heap.size := RR.lt
  have hz0a : w.heap.size < w0.heap.size := by omega
  have x7 := (st_cells SS).2.2.2.2.2.2.2.1
  have hC := clone_any ao s.W c sb so w0 (HW.out.over HB.out)
  go_upto_region 4 with (go_at_call 146; refine hC.mono ?_; rintro e w1 ⟨A, C, rfl, hO, h1⟩; have S1 := SS.later h1 SS.lt; have R1 := RR.later h1 RR.lt; have HB1 := hide (HB.out.trans (h1.mono (by omega))); have HO1 := hide hO; have f61 := S1.free 61; have hz1 := S1.lt; clear x7; have x7 := (st_cells S1).2.2.2.2.2.2.2.1; clear h1 hO)
  have S2 := S1.set 61 (.slice A s.W.length C)
  rw [set_sl] at S2
  have hbt := (But.refl w.heap.size w1).set 61 (.slice A s.W.length C)
  have R2 := hbt.stake (by omega) R1
  have HO2 : Hid (OwnW w0.heap.size (w1.setCell ⟨w.heap.size, 61, none⟩ (.slice A s.W.length C)) A C s.W) := own_of HO1.out fun k hk => hbt.block _ (by have := (World.ownsRow.lt HO1.out k hk).1; omega)
  have HB2 := hide (HB1.out.trans (hbt.below (Nat.le_refl _)))
  generalize w1.setCell ⟨w.heap.size, 61, none⟩ (.slice A s.W.length C) = w2 at *
  clear x7 f61 S1 R1 HO1 HB1 hbt SS RR HB hC
  have x7 := (st_cells S2).2.2.2.2.2.2.2.1
  have hz2 : w.heap.size < w2.heap.size := S2.lt
  have HR0 : Hid (RRl s (relX 0 h) w0.heap.size w A C 0 w2) := ⟨HO2.out, S2, R2, HB2.out⟩
  clear S2 R2 HO2 HB2
  go_upto_region 5 with fail
  go_loopw [23] (fun i wl => ∃ (k : Nat), k ≤ s.W.length ∧ i = .int .i64 (k : Int) ∧ Hid (RRl s (relX 0 h) w0.heap.size w A C k wl)) (fun i _ => s.W.length - (intOf i).toNat)
  case atStart => exact ⟨0, Nat.zero_le _, rfl, HR0⟩
  case round =>
    obtain ⟨k, hk, rfl, HR⟩ := hrel
    clear HR0 x7
    have hwr := HR.out.S.lt
    by_cases hlt : k < s.W.length
    · obtain ⟨x, hx, _⟩ := drop_at hlt
      obtain ⟨e1, e2, e3⟩ := map_step (relX 0 h) hx
      obtain ⟨g, rfl, hgB, hgs, hcl⟩ := HR.out.own.holds (by omega)
      obtain ⟨c6, c7, f6, f7⟩ := hcl k x e2
      have hcap := HR.out.own.cap
      rw [e3] at hcap
      have x7 := (st_cells HR.out.S).2.2.2.2.2.2.2.1
      have HE1 := hide e1
      have HE2 := hide e2
      clear hcl e1 e2 hx
      by_cases hh : x.h0 ≤ h
      · have HX : Hid (relX 0 h x = { x with h0 := 0 }) := by show _ = _; unfold relX; simp [hh]
        go_wp2
        refine ⟨⟨k + 1, by omega, by go_num, ?_⟩, by simp [intOf]; omega⟩
        have hbt := (But.refl g wr).set (k * 8 + 6) (.int .i64 0)
        exact ⟨by rw [HE1.out, HX.out]; exact HR.out.own.put HE2.out _ 6 _ (by omega) rfl, hbt.stake (by omega) HR.out.S, hbt.stake (by omega) HR.out.R, HR.out.below.trans (hbt.below (by omega))⟩
      · have HX : Hid (relX 0 h x = x) := by show _ = _; unfold relX; simp [hh]
        have HR1 : Hid (RRl s (relX 0 h) w0.heap.size w (some ⟨g, 0, none⟩) C (k + 1) wr) := ⟨by rw [HE1.out, HX.out, set_same HE2.out]; exact HR.out.own, HR.out.S, HR.out.R, HR.out.below⟩
        go_wp2
        exact ⟨⟨k + 1, by omega, by go_num, HR1⟩, by simp [intOf]; omega⟩
    · obtain rfl : k = s.W.length := by omega
      have hO := HR.out.own
      rw [List.take_length, List.drop_length, List.append_nil] at hO
      have HO := hide hO
      have S3 := HR.out.S
      have R3 := HR.out.R
      have HB3 := hide HR.out.below
      clear hO HR
      go_upto_region 11 with fail
      apply wp_region_lit
      refine wpList_load_mid rfl 32 _ rfl _ 0 rfl _ _ S3.range Tryz.underlying32 rfl (by rw [infoS]; rfl) ?_
      refine wpList_store_mid rfl 32 _ _ rfl _ 0 (stC s (.slice A s.W.length C)) rfl rfl (R3.there 0 _ (by rw [Z63_size, stC_size]; omega)) (by rw [infoS]; rfl) (stC_one _ _ _ _) ?_
      go_wp2
      exact stake_end1 Tryz.results110 R3 rfl s _ _ ⟨A, C, rfl, own_base (own_of HO.out fun k' hk => heap_sets (by have := (World.ownsRow.lt HO.out k' hk).1; omega) _ _ _) (by omega), below_sets (by omega) _ _ _ HB3.out⟩ _ rfl rfl
set_option maxHeartbeats 8000000 in
theorem srelease_1 (s : St) (ao : Option Addr) (sb so c : Nat) (h : Int) (w : World) (hW : WsAt w ao sb so s.W) (h60 : s.W.length * 64 ≤ 140737488351232) :
    Calls Tryz.prog 110 #[.agg (stC s (.slice ao s.W.length c)), .int .i64 1, .int .i64 h] w fun e w' => ∃ A C, e = .returned (.agg (stC s (.slice A s.W.length C))) ∧ OwnW w.heap.size w' A C (relW 1 h s.W) ∧ Below w.heap.size w w' := by
  have SS := (SAt.new w (stC s (.slice ao s.W.length c))).alloc (.cells Z63 32)
  have RR := SAt.new2 w (.cells (stC s (.slice ao s.W.length c)) 32) Z63
  have HB : Hid (Below w.heap.size w ((w.alloc (.cells (stC s (.slice ao s.W.length c)) 32)).alloc (.cells Z63 32))) := ((Below.refl _ w).alloc (Nat.le_refl _) _).alloc (by simp) _
  have HW := hide hW
  clear hW
  go_enter Tryz.func110, Tryz.ntmps110
  go_upto_region 1 with fail
  change Code.wp Tryz.prog _ _ _ ((w.alloc (.cells (stC s (.slice ao s.W.length c)) 32)).alloc (.cells Z63 32))
  generalize (w.alloc (.cells (stC s (.slice ao s.W.length c)) 32)).alloc (.cells Z63 32) = w0 at *
  have hz0 : w.heap.size + 1 < w0.heap.size := RR.lt
  have hz0a : w.heap.size < w0.heap.size := by omega
  have x7 := (st_cells SS).2.2.2.2.2.2.2.1
  have hC := clone_any ao s.W c sb so w0 (HW.out.over HB.out)
  go_upto_region 4 with (go_at_call 146; refine hC.mono ?_; rintro e w1 ⟨A, C, rfl, hO, h1⟩; have S1 := SS.later h1 SS.lt; have R1 := RR.later h1 RR.lt; have HB1 := hide (HB.out.trans (h1.mono (by omega))); have HO1 := hide hO; have f61 := S1.free 61; have hz1 := S1.lt; clear x7; have x7 := (st_cells S1).2.2.2.2.2.2.2.1; clear h1 hO)
  have S2 := S1.set 61 (.slice A s.W.length C)
  rw [set_sl] at S2
  have hbt := (But.refl w.heap.size w1).set 61 (.slice A s.W.length C)
  have R2 := hbt.stake (by omega) R1
  have HO2 : Hid (OwnW w0.heap.size (w1.setCell ⟨w.heap.size, 61, none⟩ (.slice A s.W.length C)) A C s.W) := own_of HO1.out fun k hk => hbt.block _ (by have := (World.ownsRow.lt HO1.out k hk).1; omega)
  have HB2 := hide (HB1.out.trans (hbt.below (Nat.le_refl _)))
  generalize w1.setCell ⟨w.heap.size, 61, none⟩ (.slice A s.W.length C) = w2 at *
  clear x7 f61 S1 R1 HO1 HB1 hbt SS RR HB hC
  have x7 := (st_cells S2).2.2.2.2.2.2.2.1
  have hz2 : w.heap.size < w2.heap.size := S2.lt
  have HR0 : Hid (RRl s (relX 1 h) w0.heap.size w A C 0 w2) := ⟨HO2.out, S2, R2, HB2.out⟩
  clear S2 R2 HO2 HB2
  go_upto_region 5 with fail
  go_loopw [23] (fun i wl => ∃ (k : Nat), k ≤ s.W.length ∧ i = .int .i64 (k : Int) ∧ Hid (RRl s (relX 1 h) w0.heap.size w A C k wl)) (fun i _ => s.W.length - (intOf i).toNat)
  case atStart => exact ⟨0, Nat.zero_le _, rfl, HR0⟩
  case round =>
    obtain ⟨k, hk, rfl, HR⟩ := hrel
    clear HR0 x7
    have hwr := HR.out.S.lt
    by_cases hlt : k < s.W.length
    · obtain ⟨x, hx, _⟩ := drop_at hlt
      obtain ⟨e1, e2, e3⟩ := map_step (relX 1 h) hx
      obtain ⟨g, rfl, hgB, hgs, hcl⟩ := HR.out.own.holds (by omega)
      obtain ⟨c6, c7, f6, f7⟩ := hcl k x e2
      have hcap := HR.out.own.cap
      rw [e3] at hcap
      have x7 := (st_cells HR.out.S).2.2.2.2.2.2.2.1
      have HE1 := hide e1
      have HE2 := hide e2
      clear hcl e1 e2 hx
      by_cases hh : x.h1 ≤ h
      · have HX : Hid (relX 1 h x = { x with h1 := 0 }) := by show _ = _; unfold relX; simp [hh]
        go_wp2
        refine ⟨⟨k + 1, by omega, by go_num, ?_⟩, by simp [intOf]; omega⟩
        have hbt := (But.refl g wr).set (k * 8 + 7) (.int .i64 0)
        exact ⟨by rw [HE1.out, HX.out]; exact HR.out.own.put HE2.out _ 7 _ (by omega) rfl, hbt.stake (by omega) HR.out.S, hbt.stake (by omega) HR.out.R, HR.out.below.trans (hbt.below (by omega))⟩
      · have HX : Hid (relX 1 h x = x) := by show _ = _; unfold relX; simp [hh]
        have HR1 : Hid (RRl s (relX 1 h) w0.heap.size w (some ⟨g, 0, none⟩) C (k + 1) wr) := ⟨by rw [HE1.out, HX.out, set_same HE2.out]; exact HR.out.own, HR.out.S, HR.out.R, HR.out.below⟩
        go_wp2
        exact ⟨⟨k + 1, by omega, by go_num, HR1⟩, by simp [intOf]; omega⟩
    · obtain rfl : k = s.W.length := by omega
      have hO := HR.out.own
      rw [List.take_length, List.drop_length, List.append_nil] at hO
      have HO := hide hO
      have S3 := HR.out.S
      have R3 := HR.out.R
      have HB3 := hide HR.out.below
      clear hO HR
      go_upto_region 11 with fail
      apply wp_region_lit
      refine wpList_load_mid rfl 32 _ rfl _ 0 rfl _ _ S3.range Tryz.underlying32 rfl (by rw [infoS]; rfl) ?_
      refine wpList_store_mid rfl 32 _ _ rfl _ 0 (stC s (.slice A s.W.length C)) rfl rfl (R3.there 0 _ (by rw [Z63_size, stC_size]; omega)) (by rw [infoS]; rfl) (stC_one _ _ _ _) ?_
      go_wp2
      exact stake_end1 Tryz.results110 R3 rfl s _ _ ⟨A, C, rfl, own_base (own_of HO.out fun k' hk => heap_sets (by have := (World.ownsRow.lt HO.out k' hk).1; omega) _ _ _) (by omega), below_sets (by omega) _ _ _ HB3.out⟩ _ rfl rfl
end Go.Proofs.YtjghbciepinofaaGreat

set_option maxRecDepth 100000
namespace Go.Proofs.YtjghbciepinofaaGreat.Df
open Go.RowKit
theorem own_mono {w : World} {B B' : Nat} {v : Value} {l : List Pw} (h : Pows w B v l) (hb : B' ≤ B) : Pows w B' v l := by
  refine ⟨h.1, ?_⟩
  rcases h.2 with hn | ⟨g, cap, cur, hv, h2, h3⟩
  · exact .inl hn
  · exact .inr ⟨g, cap, cur, hv, Nat.le_trans hb h2, h3⟩
theorem ix0 (c0 c1 c2 c3 c4 c5 : Value) (w : World) : (Instr.index 28 (.agg #[c0, c1, c2, c3, c4, c5]) (.int .i64 0)).run Tryz.prog w = .ok c0 w := by kernel_rfl
theorem ix1 (c0 c1 c2 c3 c4 c5 : Value) (w : World) : (Instr.index 28 (.agg #[c0, c1, c2, c3, c4, c5]) (.int .i64 1)).run Tryz.prog w = .ok c1 w := by kernel_rfl
theorem ix2 (c0 c1 c2 c3 c4 c5 : Value) (w : World) : (Instr.index 28 (.agg #[c0, c1, c2, c3, c4, c5]) (.int .i64 2)).run Tryz.prog w = .ok c2 w := by kernel_rfl
theorem ix3 (c0 c1 c2 c3 c4 c5 : Value) (w : World) : (Instr.index 28 (.agg #[c0, c1, c2, c3, c4, c5]) (.int .i64 3)).run Tryz.prog w = .ok c3 w := by kernel_rfl
theorem ix4 (c0 c1 c2 c3 c4 c5 : Value) (w : World) : (Instr.index 28 (.agg #[c0, c1, c2, c3, c4, c5]) (.int .i64 4)).run Tryz.prog w = .ok c4 w := by kernel_rfl
theorem ix5 (c0 c1 c2 c3 c4 c5 : Value) (w : World) : (Instr.index 28 (.agg #[c0, c1, c2, c3, c4, c5]) (.int .i64 5)).run Tryz.prog w = .ok c5 w := by kernel_rfl
theorem ixAll (P : Nat → Int) {k : Nat} (hk : k < 6) (w : World) : (Instr.index 28 (.agg #[.int .i64 (P 0), .int .i64 (P 1), .int .i64 (P 2), .int .i64 (P 3), .int .i64 (P 4), .int .i64 (P 5)]) (.int .i64 (k : Int))).run Tryz.prog w = .ok (.int .i64 (P k)) w := by
  rcases (show k = 0 ∨ k = 1 ∨ k = 2 ∨ k = 3 ∨ k = 4 ∨ k = 5 by omega) with rfl | rfl | rfl | rfl | rfl | rfl
  · exact ix0 _ _ _ _ _ _ w
  · exact ix1 _ _ _ _ _ _ w
  · exact ix2 _ _ _ _ _ _ w
  · exact ix3 _ _ _ _ _ _ w
  · exact ix4 _ _ _ _ _ _ w
  · exact ix5 _ _ _ _ _ _ w
set_option maxHeartbeats 4000000 in
theorem diff_any (a b : List Pw) (ao bo : Option Addr) (ca cb ab aof bb bof : Nat) (w : World) (ha : PIn w a ao ab aof) (hb : PIn w b bo bb bof) :
    Calls Tryz.prog 71 #[.slice ao a.length ca, .slice bo b.length cb] w fun e w' => ∃ v, e = .returned v ∧ Pows w' w.heap.size v (diffL a b) ∧ Below w.heap.size w w' := by
  obtain ⟨i0, hi, hz0, hz1, hz2⟩ := info_parts infoPw
  have HA := hide ha
  have HB := hide hb
  have HF1 := hide (first_any a ao ca ab aof w ha)
  have HF2 := hide (fun w h => first_any b bo cb bb bof w h)
  unfold diffL
  generalize firstP a = P at *
  generalize firstP b = R at *
  clear ha hb
  go_enter Tryz.func71, Tryz.ntmps71
  go_upto_region 3 with (first
    | (go_at_call 115; have _m := m1; refine (HF2.out _ (HB.out.over HB1.out)).mono ?_; rintro e w2 ⟨rfl, hb2⟩; have HB2 := hide (HB1.out.trans (hb2.mono HB1.out.size)); clear hb2)
    | (go_at_call 115; refine HF1.out.mono ?_; rintro e w1 ⟨rfl, hb1⟩; have HB1 := hide hb1; have m1 : True := trivial; clear hb1))
  have Q6 := (QAt.new w2 P).alloc (.cells #[.int .i64 (R 0), .int .i64 (R 1), .int .i64 (R 2), .int .i64 (R 3), .int .i64 (R 4), .int .i64 (R 5)] 28)
  have Q7 := QAt.new (w2.alloc (.cells #[.int .i64 (P 0), .int .i64 (P 1), .int .i64 (P 2), .int .i64 (P 3), .int .i64 (P 4), .int .i64 (P 5)] 28)) R
  rw [show (w2.alloc (.cells #[.int .i64 (P 0), .int .i64 (P 1), .int .i64 (P 2), .int .i64 (P 3), .int .i64 (P 4), .int .i64 (P 5)] 28)).heap.size = w2.heap.size + 1 by simp] at Q7
  have BW := (HB2.out.alloc HB2.out.size (.cells #[.int .i64 (P 0), .int .i64 (P 1), .int .i64 (P 2), .int .i64 (P 3), .int .i64 (P 4), .int .i64 (P 5)] 28)).alloc (Nat.le_trans HB2.out.size (by simp)) (.cells #[.int .i64 (R 0), .int .i64 (R 1), .int .i64 (R 2), .int .i64 (R 3), .int .i64 (R 4), .int .i64 (R 5)] 28)
  have hwb : w.heap.size ≤ w2.heap.size := HB2.out.size
  clear HF1 HF2 HA HB HB1 HB2
  generalize w2.heap.size = b6 at *
  generalize (w2.alloc (.cells #[.int .i64 (P 0), .int .i64 (P 1), .int .i64 (P 2), .int .i64 (P 3), .int .i64 (P 4), .int .i64 (P 5)] 28)).alloc (.cells #[.int .i64 (R 0), .int .i64 (R 1), .int .i64 (R 2), .int .i64 (R 3), .int .i64 (R 4), .int .i64 (R 5)] 28) = w3 at *
  obtain ⟨⟨c0, c1, c2, c3, c4, c5⟩, -⟩ := Q7.facts
  have z6 : b6 < w3.heap.size := Q6.lt
  have HX := hide (And.intro Q6 BW)
  clear Q6 Q7 BW
  go_upto_region 4 with fail
  clear c0 c1 c2 c3 c4 c5
  go_loopw [5, 15] (fun v i wl => ∃ k : Nat, k ≤ 6 ∧ i = .int .i64 (k : Int) ∧ Pows wl w3.heap.size v (those (fun v => decide (R v ≠ P v)) R k) ∧ Hid (Below w3.heap.size w3 wl)) (fun _ i _ => (6 - intOf i).toNat)
  case atStart => exact ⟨0, by omega, rfl, Pows.nil _ _, Below.refl _ _⟩
  case round =>
    obtain ⟨k, hk, rfl, hown, HB⟩ := hrel
    have hsz : w3.heap.size ≤ wr.heap.size := HB.out.size
    by_cases hk6 : k < 6
    · have hkk : (k : Int) < 6 := by omega
      have hix := fun w => ixAll R hk6 w
      have cP := (HX.out.1.later HB.out z6).one hk6
      have HC := hide (those_succ (fun v => decide (R v ≠ P v)) R k)
      have hlen := those_len (fun v => decide (R v ≠ P v)) R k
      generalize R k = rk at *
      generalize P k = pk at *
      by_cases hne : rk = pk
      · subst hne
        go_wp2
        exact ⟨⟨k + 1, by omega, by go_num, by rw [HC.out, if_neg (by simp)]; exact hown, HB.out⟩, by simp [intOf]; omega⟩
      · have hne' : (rk != pk) = true := by simpa using hne
        go_wp2_with (at_builtin; refine wpList_append_own_at _ rfl _ _ 33 rfl w3.heap.size 74 i0 (.agg #[.int .i64 0, .int .i64 0]) 2 16 Tryz.underlying33 hi hz0 hz1 hz2 rfl (by decide) _ _ _ rfl (World.ownsRow.alloc hown _) ⟨wr.heap.size, 0, none⟩ 1 1 [.int .i64 (k : Int), .int .i64 rk] rfl rfl (pw_news _ _ _ _) (by intro u hu; simp at hu; rcases hu with rfl | rfl <;> rfl) (by unfold maxLen; omega) (by omega) (by simp; omega) ?_; intro v' w1 hown' hgrow _ hat)
        have hb : Below w3.heap.size w3 w1 := Pows.grow hown HB.out hgrow (Nat.le_refl _) hsz
        refine ⟨⟨k + 1, by omega, by go_num, ?_, hb⟩, by simp [intOf]; omega⟩
        rw [HC.out, if_pos (by simpa using hne)]
        exact Pows.append hown' rfl
    · obtain rfl : k = 6 := by omega
      go_wp2
      go_ret
      exact ⟨_, rfl, own_mono hown (by have := HX.out.2.size; omega), HX.out.2.trans (HB.out.mono HX.out.2.size)⟩
set_option maxHeartbeats 4000000 in
theorem apply_any (a d : List Pw) (ao bo : Option Addr) (ca cb ab aof bb bof : Nat) (w : World) (ha : PIn w a ao ab aof) (hd : PIn w d bo bb bof) :
    Calls Tryz.prog 15 #[.slice ao a.length ca, .slice bo d.length cb] w fun e w' => ∃ v, e = .returned v ∧ Pows w' w.heap.size v (applyL a d) ∧ Below w.heap.size w w' := by
  obtain ⟨i0, hi, hz0, hz1, hz2⟩ := info_parts infoPw
  have hla := ha.len
  have hld := hd.len
  have HA := hide ha
  have HD := hide hd
  have Q0 := QAt.new w zeroP
  dsimp only [zeroP] at Q0
  have B0 : Below w.heap.size w (w.alloc (.cells #[.int .i64 0, .int .i64 0, .int .i64 0, .int .i64 0, .int .i64 0, .int .i64 0] 28)) := (Below.refl _ w).alloc (Nat.le_refl _) _
  have hb5 : w.heap.size ≤ w.heap.size := Nat.le_refl _
  clear ha hd
  go_enter Tryz.func15, Tryz.ntmps15
  go_upto_region 2 with fail
  have HX : Hid (QAt (w.alloc (.cells #[.int .i64 0, .int .i64 0, .int .i64 0, .int .i64 0, .int .i64 0, .int .i64 0] 28)) w.heap.size zeroP ∧ _) := ⟨Q0, B0⟩
  clear Q0 B0
  obtain ⟨b5, eb5⟩ : ∃ b5, w.heap.size = b5 := ⟨_, rfl⟩
  have hb5 : w.heap.size ≤ b5 := Nat.le_of_eq eb5
  rw [show (Value.pointer (some ⟨w.heap.size, 0, none⟩)) = .pointer (some ⟨b5, 0, none⟩) by rw [eb5]] 
  generalize w.alloc (.cells #[.int .i64 0, .int .i64 0, .int .i64 0, .int .i64 0, .int .i64 0, .int .i64 0] 28) = w0 at *
  have HX2 : Hid (QAt w0 b5 zeroP ∧ Below w.heap.size w w0) := by have := HX.out; rw [eb5] at this; rw [eb5]; exact this
  clear HX eb5
  go_upto_region 3 with fail
  go_loopw [15] (fun i wl => ∃ k : Nat, k ≤ a.length ∧ i = .int .i64 (k : Int) ∧ Hid (QAt wl b5 (lastP (zeroP) (a.take k)) ∧ Below w.heap.size w wl)) (fun i _ => a.length - (intOf i).toNat)
  case atStart => exact ⟨0, Nat.zero_le _, rfl, HX2.out.1, HX2.out.2⟩
  case round =>
    obtain ⟨k, hk, rfl, HR⟩ := hrel
    by_cases hlt : k < a.length
    · have hkI : (k : Int) < (a.length : Int) := by omega
      obtain ⟨c0, c1⟩ := (HA.out.later HR.out.2 HA.out.ltB).cells k hlt
      have HS := hide (foldl_take (zeroP) a k hlt)
      have eao := HA.out.adr (by omega)
      subst eao
      generalize a.getD k (0, 0) = x at *
      obtain ⟨v, n⟩ := x
      dsimp only at c0 c1
      have Q1 := HR.out.1.alloc (.cells #[.int .i64 v, .int .i64 n] 74)
      have HQ1 := hide (And.intro Q1 (HR.out.2.alloc HR.out.2.size (.cells #[.int .i64 v, .int .i64 n] 74)))
      clear Q1
      go_wp2_with (go_at_call 41; refine (put_any b5 v n _ _ HQ1.out.1).mono ?_; rintro e w1 ⟨rfl, hq, hg⟩; have HQ := hide hq; have HG := hide hg; clear hq hg)
      refine ⟨⟨k + 1, by omega, by go_num, by rw [HS.out]; exact HQ.out, HQ1.out.2.trans (grown_below HG.out hb5 HQ1.out.2.size)⟩, by simp [intOf]; omega⟩
    · obtain rfl : k = a.length := by omega
      have hT : a.take a.length = a := List.take_length
      rw [hT] at HR
      have HR2 := hide HR.out
      clear HR hT HX2 HA
      go_upto_region 8 with fail
      go_loopw [24] (fun i wl => ∃ k : Nat, k ≤ d.length ∧ i = .int .i64 (k : Int) ∧ Hid (QAt wl b5 (lastP (lastP zeroP a) (d.take k)) ∧ Below w.heap.size w wl)) (fun i _ => d.length - (intOf i).toNat)
      case atStart => exact ⟨0, Nat.zero_le _, rfl, HR2.out.1, HR2.out.2⟩
      case round =>
        obtain ⟨k, hk, rfl, HR⟩ := hrel
        by_cases hlt : k < d.length
        · have hkI : (k : Int) < (d.length : Int) := by omega
          obtain ⟨c0, c1⟩ := (HD.out.later HR.out.2 HD.out.ltB).cells k hlt
          have HS := hide (foldl_take (lastP zeroP a) d k hlt)
          have eao := HD.out.adr (by omega)
          subst eao
          generalize d.getD k (0, 0) = x at *
          obtain ⟨v, n⟩ := x
          dsimp only at c0 c1
          have Q1 := HR.out.1.alloc (.cells #[.int .i64 v, .int .i64 n] 74)
          have HQ1 := hide (And.intro Q1 (HR.out.2.alloc HR.out.2.size (.cells #[.int .i64 v, .int .i64 n] 74)))
          clear Q1
          go_wp2_with (go_at_call 41; refine (put_any b5 v n _ _ HQ1.out.1).mono ?_; rintro e w1 ⟨rfl, hq, hg⟩; have HQ := hide hq; have HG := hide hg; clear hq hg)
          refine ⟨⟨k + 1, by omega, by go_num, by rw [HS.out]; exact HQ.out, HQ1.out.2.trans (grown_below HG.out hb5 HQ1.out.2.size)⟩, by simp [intOf]; omega⟩
        · obtain rfl : k = d.length := by omega
          have hT : d.take d.length = d := List.take_length
          rw [hT] at HR
          have HR3 := hide HR.out
          clear HR hT HR2 HD
          have e1 : applyL a d = those (fun v => decide (0 < lastP (lastP zeroP a) d v)) (lastP (lastP zeroP a) d) 6 := rfl
          obtain ⟨P, hP⟩ : ∃ P, lastP (lastP zeroP a) d = P := ⟨_, rfl⟩
          rw [hP] at e1 HR3
          have HE := hide e1
          clear e1 hP
          obtain ⟨⟨c0, c1, c2, c3, c4, c5⟩, -⟩ := HR3.out.1.facts
          obtain ⟨wz, rfl⟩ : ∃ wz, wz = wr := ⟨_, rfl⟩
          go_upto_region 14 with fail
          go_loopw [10, 32] (fun v i wl => ∃ k : Nat, k ≤ 6 ∧ i = .int .i64 (k : Int) ∧ Pows wl wz.heap.size v (those (fun v => decide (0 < P v)) P k) ∧ Hid (Below wz.heap.size wz wl)) (fun _ i _ => (6 - intOf i).toNat)
          case atStart => exact ⟨0, by omega, rfl, Pows.nil _ _, Below.refl _ _⟩
          case round =>
            obtain ⟨k, hk, rfl, hown, HB⟩ := hrel
            have hsz : wz.heap.size ≤ wr.heap.size := HB.out.size
            by_cases hk6 : k < 6
            · have hkk : (k : Int) < 6 := by omega
              have hix := fun w => ixAll P hk6 w
              have HC := hide (those_succ (fun v => decide (0 < P v)) P k)
              have hlen := those_len (fun v => decide (0 < P v)) P k
              generalize P k = pk at *
              by_cases hne : 0 < pk
              · go_wp2_with (at_builtin; refine wpList_append_own_at _ rfl _ _ 33 rfl wz.heap.size 74 i0 (.agg #[.int .i64 0, .int .i64 0]) 2 16 Tryz.underlying33 hi hz0 hz1 hz2 rfl (by decide) _ _ _ rfl (World.ownsRow.alloc hown _) ⟨wr.heap.size, 0, none⟩ 1 1 [.int .i64 (k : Int), .int .i64 pk] rfl rfl (pw_news _ _ _ _) (by intro u hu; simp at hu; rcases hu with rfl | rfl <;> rfl) (by unfold maxLen; omega) (by omega) (by simp; omega) ?_; intro v' w1 hown' hgrow _ hat)
                have hb : Below wz.heap.size wz w1 := Pows.grow hown HB.out hgrow (Nat.le_refl _) hsz
                refine ⟨⟨k + 1, by omega, by go_num, ?_, hb⟩, by simp [intOf]; omega⟩
                rw [HC.out, if_pos (by simpa using hne)]
                exact Pows.append hown' rfl
              · go_wp2
                exact ⟨⟨k + 1, by omega, by go_num, by rw [HC.out, if_neg (by simpa using hne)]; exact hown, HB.out⟩, by simp [intOf]; omega⟩
            · obtain rfl : k = 6 := by omega
              go_wp2
              go_ret
              exact ⟨_, rfl, by rw [HE.out]; exact own_mono hown HR3.out.2.size, HR3.out.2.trans (HB.out.mono HR3.out.2.size)⟩
set_option maxHeartbeats 2000000 in
theorem all_any (l : List Pw) (ao : Option Addr) (c b off : Nat) (w : World) (hl : PIn w l ao b off) :
    Calls Tryz.prog 29 #[.slice ao l.length c] w fun e w' => e = .returned (.int .i64 (allN l)) ∧ Below w.heap.size w w' := by
  have hlen := hl.len
  have HL := hide hl
  clear hl
  go_enter Tryz.func29, Tryz.ntmps29
  go_upto_region 3 with fail
  go_loopw [3, 8] (fun s i wl => ∃ k : Nat, k ≤ l.length ∧ i = .int .i64 (k : Int) ∧ s = .int .i64 (allN (l.take k)) ∧ Hid (Below w.heap.size w wl)) (fun _ i _ => l.length - (intOf i).toNat)
  case atStart => exact ⟨0, Nat.zero_le _, rfl, rfl, Below.refl _ _⟩
  case round =>
    obtain ⟨k, hk, rfl, rfl, HR⟩ := hrel
    by_cases hlt : k < l.length
    · have hkI : (k : Int) < (l.length : Int) := by omega
      obtain ⟨c0, c1⟩ := (HL.out.over HR.out).cells k hlt
      have HS := hide (all_take l k hlt)
      have eao := HL.out.adr (by omega)
      subst eao
      generalize l.getD k (0, 0) = x at *
      obtain ⟨v, n⟩ := x
      dsimp only at c0 c1 HS
      generalize allN (l.take k) = s0 at *
      obtain ⟨s1, hs1⟩ : ∃ s1, allN (l.take (k + 1)) = s1 := ⟨_, rfl⟩
      rw [hs1] at HS
      have HS1 := hide hs1
      have hw : wrap64 (s0 + n) = s1 := by rw [HS.out]; unfold wrap64; rfl
      clear HS hs1
      go_wp2
      exact ⟨⟨k + 1, by omega, by go_num, by rw [HS1.out, hw], HR.out.alloc HR.out.size _⟩, by simp [intOf]; omega⟩
    · obtain rfl : k = l.length := by omega
      have HT : Hid (l.take l.length = l) := List.take_length
      go_wp2
      go_ret
      exact ⟨by rw [HT.out]; rfl, HR.out⟩
end Go.Proofs.YtjghbciepinofaaGreat.Df

