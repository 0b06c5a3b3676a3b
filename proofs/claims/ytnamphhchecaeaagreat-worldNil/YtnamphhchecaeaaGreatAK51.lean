/- Parts of the proof: WN. -/
import Derived.Test.YtnamphhchecaeaaGreatRows
import Derived.Test.YtnamphhchecaeaaGreatAK40
import Derived.Test.YtnamphhchecaeaaGreatAK50
set_option maxRecDepth 100000
namespace Go.Proofs.YtnamphhchecaeaaGreat.Wd
open Go.RowKit Pv Kc
def lk0 : Lk := ⟨false, false, 0, [], false, [], ⟨[], [], 0, false⟩, 0, 0, 0, 0⟩
def st0 : St := ⟨⟨0, 0, 0, 0, 0, 0, 0⟩, fun _ => ⟨0, 0, 0, false, false⟩, fun _ _ => 0, [], 0⟩
def pr0 : Pr := ⟨0, 0, st0, [], fun _ => lk0, 0, 0, []⟩
def prV0 : PrV := ⟨.slice none 0 0, .slice none 0 0, fun _ => ⟨.slice none 0 0, .slice none 0 0, .slice none 0 0, .slice none 0 0⟩, .slice none 0 0⟩
def cs0 : Cs := ⟨false, false, 0, 0, 0, [], [], [], fun _ => false, ⟨[], [], 0, false⟩, 0, 0, 0, 0⟩
def csV0 : CsV := ⟨.slice none 0 0, .slice none 0 0, .slice none 0 0, .slice none 0 0, .slice none 0 0⟩
theorem cs0_zero : Z22 = csC cs0 csV0 := rfl
theorem cs0_in (w : World) : CIn (fun _ => False) w cs0 csV0 := ⟨Rep.nil _ _ _ _, KRep.nil _ _, Rep.nil _ _ _ _, RepC.nil _ _ _ _, RepC.nil _ _ _ _⟩
theorem lk0_in (w : World) : LkIn (fun _ => False) w lk0 ⟨.slice none 0 0, .slice none 0 0, .slice none 0 0, .slice none 0 0⟩ := ⟨Rep.nil _ _ _ _, Rep.nil _ _ _ _, Rep.nil _ _ _ _, Rep.nil _ _ _ _⟩
theorem pr0_in (w : World) : PIn (fun _ => False) w pr0 prV0 := ⟨Rep.nil _ _ _ _, Rep.nil _ _ _ _, fun c _ => lk0_in w, ⟨[], rfl, Rep.nil _ _ _ _, fun i x y h => by cases h⟩⟩
theorem infoPv' : (Tryz.prog.info? 56).map (·.size) = some 97 := by kernel_rfl
theorem Z97_size' : Tryz.zeroCells56.size = 97 := by kernel_rfl
theorem pr0_one : (prC pr0 prV0).all (·.oneCell') = true := by kernel_rfl
def storeV (a v : Value) : Sem Unit := Instr.storeAt 56 a v
theorem storeV_eq (a v : Value) : Instr.storeAt 56 a v = storeV a v := rfl
theorem results_pv {fn : Func} {p : Tmp} (h : fn.results = #[.cell p 56]) (tmps : Array Value) (w : World) (g : Nat) (cs : Array Value)
    (hp : tmps.getD p undef = .pointer (some ⟨g, 0, none⟩)) (hg : CAt 56 w g cs) (hsz : cs.size = 97) :
    (results fn tmps).run Tryz.prog w = .ok (.agg cs) w :=
  results_cell_row h _ _ g 56 cs (0, 0) _ hp hg Tryz.underlying56 rfl (by rw [infoPv', hsz])
theorem wclock_nil (w : World) : Calls Tryz.prog 5 #[.pointer none] w fun e w' => e = .returned (.int .i64 0) ∧ w' = w := by
  go_enter Tryz.func5, Tryz.ntmps5
  go_wp2
  go_ret
  exact ⟨rfl, rfl⟩
theorem wdo_nil (k c d v n : Int) (b f : Bool) (w : World) : Calls Tryz.prog 4 #[.pointer none, .agg #[.int .i64 k, .int .i64 c, .int .i64 d, .int .i64 v, .int .i64 n, .bool b, .bool f]] w fun e w' => e = .returned (.agg #[.int .i64 4, .int .i64 0]) ∧ Below w.heap.size w w' := by
  go_enter Tryz.func4, Tryz.ntmps4
  go_wp2
  exact bodyPost_ret (v := .agg #[.int .i64 4, .int .i64 0]) (results_cell_row Tryz.results4 _ _ (w.heap.size + 1) 27 #[.int .i64 4, .int .i64 0] (0, 0) _ rfl (CAt.new2 _ _ _ _) Tryz.underlying27 rfl (by kernel_rfl)) rfl ⟨rfl, ((Below.refl _ w).alloc (Nat.le_refl _) _).alloc (by simp) _⟩
attribute [local go_sem ↓] storeV_eq storeC_eq
theorem wprov_nil (w : World) : Calls Tryz.prog 7 #[.pointer none] w fun e w' => e = .returned (.agg (prC pr0 prV0)) ∧ Below w.heap.size w w' := by
  have R0 : CAt 56 (w.alloc (.cells Tryz.zeroCells56 56)) w.heap.size Tryz.zeroCells56 := CAt.new _ w _
  have HB0 : Hid (Below w.heap.size w (w.alloc (.cells Tryz.zeroCells56 56))) := (Below.refl _ w).alloc (Nat.le_refl _) _
  go_enter Tryz.func7, Tryz.ntmps7
  go_upto_region 2 with fail
  generalize w.alloc (.cells Tryz.zeroCells56 56) = w0 at *
  apply wp_region_lit
  go_step
  go_step
  apply_assumption
  refine wpList_store_mid rfl 56 _ _ rfl _ 0 (prC pr0 prV0) rfl rfl (R0.there 0 _ (by rw [Z97_size', prC_size]; omega)) (by rw [infoPv']; rfl) pr0_one ?_
  go_wp2
  have R3 := R0.setAll (ds := prC pr0 prV0) (by rw [Z97_size']; rfl)
  exact bodyPost_ret (v := .agg (prC pr0 prV0)) (results_pv Tryz.results7 _ _ _ _ rfl R3 rfl) rfl ⟨rfl, below_sets (Nat.le_refl _) _ _ _ HB0.out⟩
theorem wcons_nil (i : Int) (w : World) : Calls Tryz.prog 9 #[.pointer none, .int .i64 i] w fun e w' => e = .returned (.agg (csC cs0 csV0)) ∧ Below w.heap.size w w' := by
  have R0 : CAt 63 (w.alloc (.cells Z22 63)) w.heap.size Z22 := CAt.new _ w _
  have HB0 : Hid (Below w.heap.size w (w.alloc (.cells Z22 63))) := (Below.refl _ w).alloc (Nat.le_refl _) _
  have s0 := cs_store R0 Z22_size (csC_size cs0 csV0) (cs_one (cs0_in w))
  rw [← cs0_zero] at s0
  go_enter Tryz.func9, Tryz.ntmps9
  go_upto_region 2 with fail
  change Code.wp Tryz.prog _ _ _ (w.alloc (.cells Z22 63))
  generalize w.alloc (.cells Z22 63) = w0 at *
  unfold Z22 at s0
  go_wp2
  have R3 := R0.setAll (ds := csC cs0 csV0) (by rw [Z22_size]; rfl)
  exact bodyPost_ret (v := .agg (csC cs0 csV0)) (results_cs1 Tryz.results9 _ _ _ _ rfl R3 rfl) rfl ⟨rfl, below_sets (Nat.le_refl _) _ _ _ HB0.out⟩
theorem lwnil_any (k c d v n i : Int) (b f : Bool) (w : World) : Calls Tryz.prog 3 #[.agg #[.int .i64 k, .int .i64 c, .int .i64 d, .int .i64 v, .int .i64 n, .bool b, .bool f], .int .i64 i] w fun e w' => e = .returned (.bool true) ∧ Below w.heap.size w w' := by
  have HPV := hide wprov_nil
  have HCS := hide (wcons_nil i)
  have HSP := hide (fun (wx : World) => samep_any pr0 prV0 prV0 _ _ wx (pr0_in wx) (pr0_in wx))
  have HSC := hide (fun (wx : World) => samec_any cs0 csV0 csV0 _ _ wx (cs0_in wx) (cs0_in wx))
  have HDO := hide (wdo_nil k c d v n b f)
  have HCL := hide wclock_nil
  go_enter Tryz.func3, Tryz.ntmps3
  go_upto_region 2 with fail
  have HB0 := hide ((Below.refl _ w).alloc (Nat.le_refl _) (.cells #[.int .i64 k, .int .i64 c, .int .i64 d, .int .i64 v, .int .i64 n, .bool b, .bool f] 23))
  go_wp2_with (first
    | (go_at_call 4; refine (HDO.out _).mono ?_; rintro e w1 ⟨rfl, hb1⟩; have HB1 := hide (HB0.out.trans (hb1.mono HB0.out.size)); clear hb1)
    | (go_at_call 5; refine (HCL.out _).mono ?_; rintro e w2 ⟨rfl, rfl⟩)
    | (go_at_call 7; refine (HPV.out _).mono ?_; rintro e w3 ⟨rfl, hb3⟩; have HB3 := hide (HB1.out.trans (hb3.mono HB1.out.size)); clear hb3)
    | (go_at_call 6; refine (HSP.out _).mono ?_; rintro e w4 ⟨rfl, hb4⟩; have HB4 := hide (HB3.out.trans (hb4.mono HB3.out.size)); clear hb4)
    | (go_at_call 9; refine (HCS.out _).mono ?_; rintro e w5 ⟨rfl, hb5⟩; have HB5 := hide (HB4.out.trans (hb5.mono HB4.out.size)); clear hb5)
    | (go_at_call 8; refine (HSC.out _).mono ?_; rintro e w6 ⟨rfl, hb6⟩; have HB6 := hide (HB5.out.trans (hb6.mono HB5.out.size)); clear hb6))
  go_ret
  exact ⟨rfl, HB6.out⟩
end Go.Proofs.YtnamphhchecaeaaGreat.Wd

