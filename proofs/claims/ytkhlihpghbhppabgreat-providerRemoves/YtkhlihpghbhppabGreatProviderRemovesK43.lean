/- Parts of the proof: SRL2 DF2. -/
import Derived.Test.YtkhlihpghbhppabGreatRows
import Derived.Test.YtkhlihpghbhppabGreatProviderRemovesK42
import Derived.Test.YtkhlihpghbhppabGreatProviderRemovesK51
import Derived.Maps.AppendAt
set_option maxRecDepth 100000
namespace Go.Proofs.YtkhlihpghbhppabGreat
open Go.RowKit
theorem stake_end1 {f : Func} {p : Tmp} (hres : f.results = #[.cell p 32]) {g : Nat} {wq : World} {zs : Array Value} (R : SAt wq g zs) (hz : zs.size = 63) (s' : St) (sl : Value) (Q : Ending → World → Prop) (hQ : Q (.returned (.agg (stC s' sl))) (wq.setCells g 0 (stC s' sl).toList)) (act : Act)
    (h8 : act.tmps.getD p undef = .pointer (some ⟨g, 0, none⟩)) (hd : act.defers = []) :
    bodyPost Tryz.prog f Q Exit.ret act (wq.setCells g 0 (stC s' sl).toList) := by
  have R3 := R.setAll (ds := stC s' sl) (by rw [hz]; rfl)
  refine bodyPost_ret (v := .agg (stC s' sl)) ?_ hd hQ
  exact results_cell_row hres _ _ _ _ _ _ _ h8 R3 Tryz.underlying32 rfl (by rw [infoS]; rfl)
/-- where the loop stands -/
structure RRl (s : St) (F : Wt → Wt) (B : Nat) (w : World) (A : Option Addr) (C k : Nat) (wl : World) : Prop where
  own : OwnW B wl A C ((s.W.take k).map F ++ s.W.drop k)
  S : SAt wl w.heap.size (stC s (.slice A s.W.length C))
  R : SAt wl (w.heap.size + 1) Z63
  below : Below w.heap.size w wl
set_option maxHeartbeats 8000000 in
theorem srelease_0 (s : St) (ao : Option Addr) (sb so c : Nat) (h : Int) (w : World) (hW : WsAt w ao sb so s.W) (h60 : s.W.length * 64 ≤ 140737488351232) :
    Calls Tryz.prog 13 #[.agg (stC s (.slice ao s.W.length c)), .int .i64 0, .int .i64 h] w fun e w' => ∃ A C, e = .returned (.agg (stC s (.slice A s.W.length C))) ∧ OwnW w.heap.size w' A C (relW 0 h s.W) ∧ Below w.heap.size w w' := by
  have SS := (SAt.new w (stC s (.slice ao s.W.length c))).alloc (.cells Z63 32)
  have RR := SAt.new2 w (.cells (stC s (.slice ao s.W.length c)) 32) Z63
  have HB : Hid (Below w.heap.size w ((w.alloc (.cells (stC s (.slice ao s.W.length c)) 32)).alloc (.cells Z63 32))) := ((Below.refl _ w).alloc (Nat.le_refl _) _).alloc (by simp) _
  have HW := hide hW
  clear hW
  go_enter Tryz.func13, Tryz.ntmps13
  go_upto_region 1 with fail
  change Code.wp Tryz.prog _ _ _ ((w.alloc (.cells (stC s (.slice ao s.W.length c)) 32)).alloc (.cells Z63 32))
  generalize (w.alloc (.cells (stC s (.slice ao s.W.length c)) 32)).alloc (.cells Z63 32) = w0 at *
  have hz0 : w.heap.size + 1 < w0.heap.size := RR.lt
  have hz0a : w.heap.size < w0.heap.size := by omega
  have x7 := (st_cells SS).2.2.2.2.2.2.2.1
  have hC := clone_any ao s.W c sb so w0 (HW.out.over HB.out)
  go_upto_region 4 with (go_at_call 34; refine hC.mono ?_; rintro e w1 ⟨A, C, rfl, hO, h1⟩; have S1 := SS.later h1 SS.lt; have R1 := RR.later h1 RR.lt; have HB1 := hide (HB.out.trans (h1.mono (by omega))); have HO1 := hide hO; have f61 := S1.free 61; have hz1 := S1.lt; clear x7; have x7 := (st_cells S1).2.2.2.2.2.2.2.1; clear h1 hO)
  have S2 := S1.set 61 (.slice A s.W.length C)
  rw [set_sl] at S2
  have hbt := (But.refl w.heap.size w1).set 61 (.slice A s.W.length C)
  have R2 := hbt.stake (by omega) R1
  have HO2 : Hid (OwnW w0.heap.size (w1.setCell ⟨w.heap.size, 61, none⟩ (.slice A s.W.length C)) A C s.W) := own_of HO1.out fun k hk => hbt.block _ (by have := (World.ownsRow.lt HO1.out k hk).1; omega)
  have HB2 := hide (HB1.out.trans (hbt.below (Nat.le_refl _)))
  generalize w1.setCell ⟨w.heap.size, 61, none⟩ (.slice A s.W.length C) = w2 at *
  clear x7 f61 S1 R1 HO1 HB1 hbt SS RR HB hC
  have x7 := (st_cells S2).2.2.2.2.2.2.2.1
  have hz2 : w.heap.size < w2.heap.size := S2.lt
  have HR0 : Hid (RRl s (relX 0 h) w0.heap.size w A C 0 w2) := ⟨HO2.out, S2, R2, HB2.out⟩
  clear S2 R2 HO2 HB2
  go_upto_region 5 with fail
  go_loopw [23] (fun i wl => ∃ (k : Nat), k ≤ s.W.length ∧ i = .int .i64 (k : Int) ∧ Hid (RRl s (relX 0 h) w0.heap.size w A C k wl)) (fun i _ => s.W.length - (intOf i).toNat)
  case atStart => exact ⟨0, Nat.zero_le _, rfl, HR0⟩
  case round =>
    obtain ⟨k, hk, rfl, HR⟩ := hrel
    clear HR0 x7
    have hwr := HR.out.S.lt
    by_cases hlt : k < s.W.length
    · obtain ⟨x, hx, _⟩ := drop_at hlt
      obtain ⟨e1, e2, e3⟩ := map_step (relX 0 h) hx
      obtain ⟨g, rfl, hgB, hgs, hcl⟩ := HR.out.own.holds (by omega)
      obtain ⟨c6, c7, f6, f7⟩ := hcl k x e2
      have hcap := HR.out.own.cap
      rw [e3] at hcap
      have x7 := (st_cells HR.out.S).2.2.2.2.2.2.2.1
      have HE1 := hide e1
      have HE2 := hide e2
      clear hcl e1 e2 hx
      by_cases hh : x.h0 ≤ h
      · have HX : Hid (relX 0 h x = { x with h0 := 0 }) := by show _ = _; unfold relX; simp [hh]
        go_wp2
        refine ⟨⟨k + 1, by omega, by go_num, ?_⟩, by simp [intOf]; omega⟩
        have hbt := (But.refl g wr).set (k * 8 + 6) (.int .i64 0)
        exact ⟨by rw [HE1.out, HX.out]; exact HR.out.own.put HE2.out _ 6 _ (by omega) rfl, hbt.stake (by omega) HR.out.S, hbt.stake (by omega) HR.out.R, HR.out.below.trans (hbt.below (by omega))⟩
      · have HX : Hid (relX 0 h x = x) := by show _ = _; unfold relX; simp [hh]
        have HR1 : Hid (RRl s (relX 0 h) w0.heap.size w (some ⟨g, 0, none⟩) C (k + 1) wr) := ⟨by rw [HE1.out, HX.out, set_same HE2.out]; exact HR.out.own, HR.out.S, HR.out.R, HR.out.below⟩
        go_wp2
        exact ⟨⟨k + 1, by omega, by go_num, HR1⟩, by simp [intOf]; omega⟩
    · obtain rfl : k = s.W.length := by omega
      have hO := HR.out.own
      rw [List.take_length, List.drop_length, List.append_nil] at hO
      have HO := hide hO
      have S3 := HR.out.S
      have R3 := HR.out.R
      have HB3 := hide HR.out.below
      clear hO HR
      go_upto_region 11 with fail
      apply wp_region_lit
      refine wpList_load_mid rfl 32 _ rfl _ 0 rfl _ _ S3.range Tryz.underlying32 rfl (by rw [infoS]; rfl) ?_
      refine wpList_store_mid rfl 32 _ _ rfl _ 0 (stC s (.slice A s.W.length C)) rfl rfl (R3.there 0 _ (by rw [Z63_size, stC_size]; omega)) (by rw [infoS]; rfl) (stC_one _ _ _ _) ?_
      go_wp2
      exact stake_end1 Tryz.results13 R3 rfl s _ _ ⟨A, C, rfl, own_base (own_of HO.out fun k' hk => heap_sets (by have := (World.ownsRow.lt HO.out k' hk).1; omega) _ _ _) (by omega), below_sets (by omega) _ _ _ HB3.out⟩ _ rfl rfl
set_option maxHeartbeats 8000000 in
theorem srelease_1 (s : St) (ao : Option Addr) (sb so c : Nat) (h : Int) (w : World) (hW : WsAt w ao sb so s.W) (h60 : s.W.length * 64 ≤ 140737488351232) :
    Calls Tryz.prog 13 #[.agg (stC s (.slice ao s.W.length c)), .int .i64 1, .int .i64 h] w fun e w' => ∃ A C, e = .returned (.agg (stC s (.slice A s.W.length C))) ∧ OwnW w.heap.size w' A C (relW 1 h s.W) ∧ Below w.heap.size w w' := by
  have SS := (SAt.new w (stC s (.slice ao s.W.length c))).alloc (.cells Z63 32)
  have RR := SAt.new2 w (.cells (stC s (.slice ao s.W.length c)) 32) Z63
  have HB : Hid (Below w.heap.size w ((w.alloc (.cells (stC s (.slice ao s.W.length c)) 32)).alloc (.cells Z63 32))) := ((Below.refl _ w).alloc (Nat.le_refl _) _).alloc (by simp) _
  have HW := hide hW
  clear hW
  go_enter Tryz.func13, Tryz.ntmps13
  go_upto_region 1 with fail
  change Code.wp Tryz.prog _ _ _ ((w.alloc (.cells (stC s (.slice ao s.W.length c)) 32)).alloc (.cells Z63 32))
  generalize (w.alloc (.cells (stC s (.slice ao s.W.length c)) 32)).alloc (.cells Z63 32) = w0 at *
  have hz0 : w.heap.size + 1 < w0.heap.size := RR.lt
  have hz0a : w.heap.size < w0.heap.size := by omega
  have x7 := (st_cells SS).2.2.2.2.2.2.2.1
  have hC := clone_any ao s.W c sb so w0 (HW.out.over HB.out)
  go_upto_region 4 with (go_at_call 34; refine hC.mono ?_; rintro e w1 ⟨A, C, rfl, hO, h1⟩; have S1 := SS.later h1 SS.lt; have R1 := RR.later h1 RR.lt; have HB1 := hide (HB.out.trans (h1.mono (by omega))); have HO1 := hide hO; have f61 := S1.free 61; have hz1 := S1.lt; clear x7; have x7 := (st_cells S1).2.2.2.2.2.2.2.1; clear h1 hO)
  have S2 := S1.set 61 (.slice A s.W.length C)
  rw [set_sl] at S2
  have hbt := (But.refl w.heap.size w1).set 61 (.slice A s.W.length C)
  have R2 := hbt.stake (by omega) R1
  have HO2 : Hid (OwnW w0.heap.size (w1.setCell ⟨w.heap.size, 61, none⟩ (.slice A s.W.length C)) A C s.W) := own_of HO1.out fun k hk => hbt.block _ (by have := (World.ownsRow.lt HO1.out k hk).1; omega)
  have HB2 := hide (HB1.out.trans (hbt.below (Nat.le_refl _)))
  generalize w1.setCell ⟨w.heap.size, 61, none⟩ (.slice A s.W.length C) = w2 at *
  clear x7 f61 S1 R1 HO1 HB1 hbt SS RR HB hC
  have x7 := (st_cells S2).2.2.2.2.2.2.2.1
  have hz2 : w.heap.size < w2.heap.size := S2.lt
  have HR0 : Hid (RRl s (relX 1 h) w0.heap.size w A C 0 w2) := ⟨HO2.out, S2, R2, HB2.out⟩
  clear S2 R2 HO2 HB2
  go_upto_region 5 with fail
  go_loopw [23] (fun i wl => ∃ (k : Nat), k ≤ s.W.length ∧ i = .int .i64 (k : Int) ∧ Hid (RRl s (relX 1 h) w0.heap.size w A C k wl)) (fun i _ => s.W.length - (intOf i).toNat)
  case atStart => exact ⟨0, Nat.zero_le _, rfl, HR0⟩
  case round =>
    obtain ⟨k, hk, rfl, HR⟩ := hrel
    clear HR0 x7
    have hwr := HR.out.S.lt
    by_cases hlt : k < s.W.length
    · obtain ⟨x, hx, _⟩ := drop_at hlt
      obtain ⟨e1, e2, e3⟩ := map_step (relX 1 h) hx
      obtain ⟨g, rfl, hgB, hgs, hcl⟩ := HR.out.own.holds (by omega)
      obtain ⟨c6, c7, f6, f7⟩ := hcl k x e2
      have hcap := HR.out.own.cap
      rw [e3] at hcap
      have x7 := (st_cells HR.out.S).2.2.2.2.2.2.2.1
      have HE1 := hide e1
      have HE2 := hide e2
      clear hcl e1 e2 hx
      by_cases hh : x.h1 ≤ h
      · have HX : Hid (relX 1 h x = { x with h1 := 0 }) := by show _ = _; unfold relX; simp [hh]
        go_wp2
        refine ⟨⟨k + 1, by omega, by go_num, ?_⟩, by simp [intOf]; omega⟩
        have hbt := (But.refl g wr).set (k * 8 + 7) (.int .i64 0)
        exact ⟨by rw [HE1.out, HX.out]; exact HR.out.own.put HE2.out _ 7 _ (by omega) rfl, hbt.stake (by omega) HR.out.S, hbt.stake (by omega) HR.out.R, HR.out.below.trans (hbt.below (by omega))⟩
      · have HX : Hid (relX 1 h x = x) := by show _ = _; unfold relX; simp [hh]
        have HR1 : Hid (RRl s (relX 1 h) w0.heap.size w (some ⟨g, 0, none⟩) C (k + 1) wr) := ⟨by rw [HE1.out, HX.out, set_same HE2.out]; exact HR.out.own, HR.out.S, HR.out.R, HR.out.below⟩
        go_wp2
        exact ⟨⟨k + 1, by omega, by go_num, HR1⟩, by simp [intOf]; omega⟩
    · obtain rfl : k = s.W.length := by omega
      have hO := HR.out.own
      rw [List.take_length, List.drop_length, List.append_nil] at hO
      have HO := hide hO
      have S3 := HR.out.S
      have R3 := HR.out.R
      have HB3 := hide HR.out.below
      clear hO HR
      go_upto_region 11 with fail
      apply wp_region_lit
      refine wpList_load_mid rfl 32 _ rfl _ 0 rfl _ _ S3.range Tryz.underlying32 rfl (by rw [infoS]; rfl) ?_
      refine wpList_store_mid rfl 32 _ _ rfl _ 0 (stC s (.slice A s.W.length C)) rfl rfl (R3.there 0 _ (by rw [Z63_size, stC_size]; omega)) (by rw [infoS]; rfl) (stC_one _ _ _ _) ?_
      go_wp2
      exact stake_end1 Tryz.results13 R3 rfl s _ _ ⟨A, C, rfl, own_base (own_of HO.out fun k' hk => heap_sets (by have := (World.ownsRow.lt HO.out k' hk).1; omega) _ _ _) (by omega), below_sets (by omega) _ _ _ HB3.out⟩ _ rfl rfl
end Go.Proofs.YtkhlihpghbhppabGreat

set_option maxRecDepth 100000
namespace Go.Proofs.YtkhlihpghbhppabGreat.Df
open Go.RowKit
set_option maxHeartbeats 2000000 in
theorem all_any (l : List Pw) (ao : Option Addr) (c b off : Nat) (w : World) (hl : PIn w l ao b off) :
    Calls Tryz.prog 29 #[.slice ao l.length c] w fun e w' => e = .returned (.int .i64 (allN l)) ∧ Below w.heap.size w w' := by
  have hlen := hl.len
  have HL := hide hl
  clear hl
  go_enter Tryz.func29, Tryz.ntmps29
  go_upto_region 3 with fail
  go_loopw [3, 8] (fun s i wl => ∃ k : Nat, k ≤ l.length ∧ i = .int .i64 (k : Int) ∧ s = .int .i64 (allN (l.take k)) ∧ Hid (Below w.heap.size w wl)) (fun _ i _ => l.length - (intOf i).toNat)
  case atStart => exact ⟨0, Nat.zero_le _, rfl, rfl, Below.refl _ _⟩
  case round =>
    obtain ⟨k, hk, rfl, rfl, HR⟩ := hrel
    by_cases hlt : k < l.length
    · have hkI : (k : Int) < (l.length : Int) := by omega
      obtain ⟨c0, c1⟩ := (HL.out.over HR.out).cells k hlt
      have HS := hide (all_take l k hlt)
      have eao := HL.out.adr (by omega)
      subst eao
      generalize l.getD k (0, 0) = x at *
      obtain ⟨v, n⟩ := x
      dsimp only at c0 c1 HS
      generalize allN (l.take k) = s0 at *
      obtain ⟨s1, hs1⟩ : ∃ s1, allN (l.take (k + 1)) = s1 := ⟨_, rfl⟩
      rw [hs1] at HS
      have HS1 := hide hs1
      have hw : wrap64 (s0 + n) = s1 := by rw [HS.out]; unfold wrap64; rfl
      clear HS hs1
      go_wp2
      exact ⟨⟨k + 1, by omega, by go_num, by rw [HS1.out, hw], HR.out.alloc HR.out.size _⟩, by simp [intOf]; omega⟩
    · obtain rfl : k = l.length := by omega
      have HT : Hid (l.take l.length = l) := List.take_length
      go_wp2
      go_ret
      exact ⟨by rw [HT.out]; rfl, HR.out⟩
end Go.Proofs.YtkhlihpghbhppabGreat.Df

