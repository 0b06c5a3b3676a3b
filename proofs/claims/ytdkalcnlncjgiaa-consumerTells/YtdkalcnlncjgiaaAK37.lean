/- Parts of the proof: KLT. -/
import Derived.Test.YtdkalcnlncjgiaaRows
import Derived.Test.YtdkalcnlncjgiaaAK11
import Derived.Test.YtdkalcnlncjgiaaAK31
import Derived.Test.YtdkalcnlncjgiaaAK33
import Derived.Test.YtdkalcnlncjgiaaAK36
set_option maxRecDepth 100000
namespace Go.Proofs.Ytdkalcnlncjgiaa.Kc
open Go.RowKit Pv
attribute [local go_sem ↓] loadC_eq storeC_eq
set_option maxHeartbeats 8000000 in
theorem lctells_any (c : Cs) (v : CsV) (x i now : Int) (P0 : Nat → Prop) (w : World) (hp0 : CIn P0 w c v) (h80 : c.pd.length * 80 ≤ 140737488351232) (h16 : c.rp.length * 16 ≤ 140737488351232) :
    Calls Try.prog 4 #[.agg (csC c v), .int .i64 x, .int .i64 i, .int .i64 now] w fun e w' => e = .returned (.bool true) ∧ Below w.heap.size w w' := by
  have h16' : c.rp.length * 16 ≤ 168884986026393 := by omega
  have HP : Hid (CIn (fun b => b < w.heap.size) w c v) := hp0.mono fun b hl _ => hl
  have HCP := hide (fun (wx : World) (h : CIn (fun b => b < w.heap.size) wx c v) => rcopyc_any c v _ wx h h80 h16')
  have HCI := hide (fun (B L : Nat) (wx : World) (u : CsV) (h : CCp B L wx c u) => h.cin h80 h16')
  have HDN := hide (fun (u : CsV) (Q : Nat → Prop) (wx : World) (h : CIn Q wx c u) => cdown_any c u Q wx x now h)
  have HRD := hide (fun (wx : World) (h : CIn (fun b => b < w.heap.size) wx c v) => rdown_any c v x now _ wx h h80 h16')
  have HDB := hide (fun (u : CsV) (Q : Nat → Prop) (wx : World) (h : CIn Q wx c u) => cdouble_any c u Q wx x i now h)
  have HRB := hide (fun (wx : World) (h : CIn (fun b => b < w.heap.size) wx c v) => rdouble_any c v x i now _ wx h h80 h16')
  have HSM := hide (fun (d : Cs) (u u' : CsV) (Q Q' : Nat → Prop) (wx : World) (h : CIn Q wx d u) (h' : CIn Q' wx d u') => samec_any d u u' Q Q' wx h h')
  have HCO := hide (fun (wx : World) => lconsumes_any wx)
  clear hp0 h80 h16 h16'
  generalize downC c x now = D at *
  obtain ⟨d, er⟩ := D
  generalize doubleC c x i now = D at *
  obtain ⟨f, er2⟩ := D
  go_enter Try.func4, Try.ntmps4
  go_upto_region 1 with fail
  have C1 := CAt.new 33 w (csC c v)
  have B1 : Below w.heap.size w (w.alloc (.cells (csC c v) 33)) := (Below.refl _ w).alloc (Nat.le_refl _) _
  generalize w.alloc (.cells (csC c v) 33) = w1 at *
  have l1 := cs_load C1 (csC_size _ _)
  have HX1 := hide (show _ ∧ _ ∧ _ from ⟨C1, B1, HP.out.over B1⟩)
  clear C1 B1
  go_upto_region 2 with (first
    | (go_at_call 5; refine (HCP.out _ HX1.out.2.2).mono ?_; rintro e w2 ⟨v2, L, rfl, N2, hb2⟩; have HI2 := hide (HCI.out _ _ _ _ N2); have HB2 := hide hb2; clear N2 hb2 l1)
    | (go_at_call 12; refine (HDN.out _ _ _ HI2.out).mono ?_; rintro e w3 ⟨v3, rfl, I3, hb3⟩; dsimp only at I3; dsimp only; have sA := laid_store I3; unfold Z22 at sA; have HI3 := hide I3; have HB3 := hide (HB2.out.trans (hb3.mono HB2.out.size)); clear I3 hb3))
  clear sA
  have C4 := laid_cat w3 d v3
  have b4 := laid_below w3 d v3
  generalize laidW w3 d v3 = w4 at *
  have HX4 := hide (show _ ∧ _ ∧ _ ∧ _ ∧ _ from ⟨HX1.out.1.over (HB3.out.trans (b4.mono HB3.out.size)), HX1.out.2.1.trans ((HB3.out.trans (b4.mono HB3.out.size)).mono HX1.out.2.1.size), HX1.out.2.2.over (HB3.out.trans (b4.mono HB3.out.size)), C4, HI3.out.over b4⟩)
  have l4 := cs_load HX4.out.1 (csC_size _ _)
  have hz3 : w.heap.size < w3.heap.size := Nat.lt_of_lt_of_le HX1.out.1.lt HB3.out.size
  clear C4 b4 HX1 HI2 HI3 HB2 HB3
  go_upto_region 3 with (go_at_call 13; refine (HRD.out _ HX4.out.2.2.1).mono ?_; rintro e w5 ⟨v5, rfl, I5, hb5⟩; dsimp only at I5; dsimp only; have sA := laid_store I5; unfold Z22 at sA; have HI5 := hide I5; have HB5 := hide hb5; clear I5 hb5 l4)
  clear sA
  have C6 := laid_cat w5 d v5
  have b6 := laid_below w5 d v5
  generalize laidW w5 d v5 = w6 at *
  have b46 := HB5.out.trans (b6.mono HB5.out.size)
  have HX6 := hide (show _ ∧ _ ∧ _ ∧ _ ∧ _ ∧ _ ∧ _ from ⟨HX4.out.1.over b46, HX4.out.2.1.trans (b46.mono HX4.out.2.1.size), HX4.out.2.2.1.over b46, HX4.out.2.2.2.1.over b46, HX4.out.2.2.2.2.over b46, C6, HI5.out.over b6⟩)
  have hz5 : w3.heap.size < w5.heap.size := Nat.lt_of_lt_of_le HX4.out.2.2.2.1.lt HB5.out.size
  clear C6 b6 b46 HX4 HI5 HB5
  have l6 := cs_load HX6.out.2.2.2.1 (csC_size _ _)
  have k6 := cs_load HX6.out.2.2.2.2.2.1 (csC_size _ _)
  go_upto_region 5 with (go_at_call 8; refine (HSM.out _ _ _ _ _ _ HX6.out.2.2.2.2.1 HX6.out.2.2.2.2.2.2).mono ?_; rintro e w7 ⟨rfl, hb7⟩; have HX7 := hide (show _ ∧ _ ∧ _ ∧ _ ∧ _ from ⟨HX6.out.1.over hb7, HX6.out.2.1.trans (hb7.mono HX6.out.2.1.size), HX6.out.2.2.1.over hb7, HX6.out.2.2.2.1.over hb7, HX6.out.2.2.2.2.2.1.over hb7⟩); clear hb7 l6 k6)
  clear HX6
  have l7 := cs_load HX7.out.1 (csC_size _ _)
  have hz7 : w5.heap.size < w7.heap.size := HX7.out.2.2.2.2.lt
  go_upto_region 6 with (first
    | (go_at_call 5; refine (HCP.out _ HX7.out.2.2.1).mono ?_; rintro e w8 ⟨v8, L8, rfl, N8, hb8⟩; have HI8 := hide (HCI.out _ _ _ _ N8); have HB8 := hide hb8; clear N8 hb8 l7)
    | (go_at_call 14; refine (HDB.out _ _ _ HI8.out).mono ?_; rintro e w9 ⟨v9, rfl, I9, hb9⟩; dsimp only at I9; dsimp only; have HB9 := hide (HB8.out.trans (hb9.mono HB8.out.size)); have s9 := cs_store (HX7.out.2.2.2.1.over HB9.out) (csC_size _ _) (csC_size f v9) (cs_one I9); have HI9 := hide I9; have hz8 : w7.heap.size ≤ w8.heap.size := HB8.out.size; clear I9 hb9))
  clear s9
  have C10 := (HX7.out.2.2.2.1.over HB9.out).setAll (ds := csC f v9) rfl
  have K10 := (HX7.out.1.over HB9.out).others (c := w3.heap.size) (o := 0) (by omega) (csC f v9).toList
  have G10 := (HX7.out.2.2.2.2.over HB9.out).others (c := w3.heap.size) (o := 0) (by omega) (csC f v9).toList
  have P10 := (HX7.out.2.2.1.over HB9.out).sets (g := w3.heap.size) (by omega) 0 (csC f v9).toList
  have I10 := HI9.out.sets (g := w3.heap.size) (by intro h; rcases h with ⟨h, _⟩ | h <;> omega) 0 (csC f v9).toList
  have B10 := below_sets (B := w.heap.size) (b := w3.heap.size) (by omega) (csC f v9).toList 0 w9 (HX7.out.2.1.trans (HB9.out.mono HX7.out.2.1.size))
  generalize w9.setCells w3.heap.size 0 (csC f v9).toList = w10 at *
  have l10 := cs_load K10 (csC_size _ _)
  have HX10 := hide (show _ ∧ _ ∧ _ ∧ _ ∧ _ from ⟨C10, G10, P10, I10, B10⟩)
  have hz10 : w5.heap.size < w10.heap.size := G10.lt
  clear C10 K10 G10 P10 I10 B10 HX7 HI9 HB9 HB8 HI8
  go_upto_region 7 with (go_at_call 15; refine (HRB.out _ HX10.out.2.2.1).mono ?_; rintro e w11 ⟨v11, rfl, I11, hb11⟩; dsimp only at I11; dsimp only; have s11 := cs_store (HX10.out.2.1.over hb11) (csC_size _ _) (csC_size f v11) (cs_one I11); have HI11 := hide I11; have HB11 := hide hb11; clear I11 hb11 l10)
  clear s11
  have C12 := (HX10.out.1.over HB11.out).others (c := w5.heap.size) (o := 0) (by omega) (csC f v11).toList
  have D12 := (HX10.out.2.1.over HB11.out).setAll (ds := csC f v11) rfl
  have I12 := (HX10.out.2.2.2.1.over HB11.out).sets (g := w5.heap.size) (by intro h; rcases h with ⟨h, _⟩ | h <;> omega) 0 (csC f v11).toList
  have J12 := HI11.out.sets (g := w5.heap.size) (by intro h; rcases h with ⟨h, _⟩ | h <;> omega) 0 (csC f v11).toList
  have B12 := below_sets (B := w.heap.size) (b := w5.heap.size) (by omega) (csC f v11).toList 0 w11 (HX10.out.2.2.2.2.trans (HB11.out.mono HX10.out.2.2.2.2.size))
  generalize w11.setCells w5.heap.size 0 (csC f v11).toList = w12 at *
  have l12 := cs_load C12 (csC_size _ _)
  have k12 := cs_load D12 (csC_size _ _)
  have HX12 := hide (show _ ∧ _ ∧ _ from ⟨I12, J12, B12⟩)
  clear C12 D12 I12 J12 B12 HX10 HI11 HB11
  go_wp2_with (first
    | (go_at_call 8; refine (HSM.out _ _ _ _ _ _ HX12.out.1 HX12.out.2.1).mono ?_; rintro e w13 ⟨rfl, hb13⟩; have HB13 := hide (HX12.out.2.2.trans (hb13.mono HX12.out.2.2.size)); clear hb13 l12 k12)
    | (go_at_call 11; refine (HCO.out _).mono ?_; rintro e w14 ⟨rfl, hb14⟩; have HB14 := hide (HB13.out.trans (hb14.mono HB13.out.size)); clear hb14))
  go_ret
  exact ⟨rfl, HB14.out⟩
end Go.Proofs.Ytdkalcnlncjgiaa.Kc

