/- Parts of the proof: CT KRE. -/
import Derived.Test.YtjghbciepinofaaGreatRows
import Derived.Test.YtjghbciepinofaaGreatPEK9
import Derived.Test.YtjghbciepinofaaGreatPEK26
import Derived.Deep.RegionHeld3
set_option maxRecDepth 100000
namespace Go.Proofs.YtjghbciepinofaaGreat.Cd
open Go.RowKit
theorem bytesOf_at (v ni : Int) (n : Nat) (w : World) (hni : ni = (n : Int)) (hv : 0 ≤ v) (hv2 : v ≤ 9223372036854775807) (hn : n ≤ 7) :
    Calls Tryz.prog 102 #[.int .i64 v, .int .i64 ni] w fun e w' => e = .returned (.string (strOfNums (be v n))) ∧ Below w.heap.size w w' := by
  subst hni; exact bytesOf_any v n w hv hv2 hn
theorem below_drew_iff (B : Nat) (w1 w : World) : Below B w1 w.drew ↔ Below B w1 w := ⟨fun h => ⟨h.os, h.tape, h.output, h.size, h.block⟩, fun h => h.drew⟩
attribute [local simp] below_drew_iff
theorem bytesOf_keep (b B : Nat) (w1 : World) (k i v n : Int) (s : Value) (hB : b < B) (hz : B ≤ w1.heap.size) (x ni : Int) (m : Nat) (hni : ni = (m : Int)) (hx : 0 ≤ x) (hx2 : x ≤ 9223372036854775807) (hm : m ≤ 7) (w : World)
    (hS : w.cell? ⟨b, 0, none⟩ = some (.int .i64 k) ∧ w.cell? ⟨b, 1, none⟩ = some (.int .i64 i) ∧ w.cell? ⟨b, 2, none⟩ = some (.int .i64 v) ∧ w.cell? ⟨b, 3, none⟩ = some (.int .i64 n) ∧ w.cell? ⟨b, 4, none⟩ = some s ∧ Below B w1 w) :
    Calls Tryz.prog 102 #[.int .i64 x, .int .i64 ni] w fun e w' => e = .returned (.string (strOfNums (be x m))) ∧
      (w'.cell? ⟨b, 0, none⟩ = some (.int .i64 k) ∧ w'.cell? ⟨b, 1, none⟩ = some (.int .i64 i) ∧ w'.cell? ⟨b, 2, none⟩ = some (.int .i64 v) ∧ w'.cell? ⟨b, 3, none⟩ = some (.int .i64 n) ∧ w'.cell? ⟨b, 4, none⟩ = some s ∧ Below B w1 w') := by
  refine (bytesOf_at x ni m w hni hx hx2 hm).mono ?_
  rintro e w' ⟨rfl, hb⟩
  obtain ⟨h0, h1, h2, h3, h4, h5⟩ := hS
  have hlt : b < w.heap.size := Nat.lt_of_lt_of_le hB (Nat.le_trans hz h5.size)
  exact ⟨rfl, (hb.cell (p := ⟨b, 0, none⟩) hlt).trans h0, (hb.cell (p := ⟨b, 1, none⟩) hlt).trans h1, (hb.cell (p := ⟨b, 2, none⟩) hlt).trans h2, (hb.cell (p := ⟨b, 3, none⟩) hlt).trans h3, (hb.cell (p := ⟨b, 4, none⟩) hlt).trans h4,
    h5.trans (hb.mono (Nat.le_trans hz h5.size))⟩

theorem bytesOf_keep2 (b B : Nat) (w1 : World) (y z : Int) (hz : B ≤ w1.heap.size) (x ni : Int) (m : Nat) (hni : ni = (m : Int)) (hx : 0 ≤ x) (hx2 : x ≤ 9223372036854775807) (hm : m ≤ 7) (w : World)
    (hS : w.cell? ⟨b, 0, none⟩ = some (.int .i64 y) ∧ w.cell? ⟨b, 1, none⟩ = some (.int .i64 z) ∧ Below B w1 w) :
    Calls Tryz.prog 102 #[.int .i64 x, .int .i64 ni] w fun e w' => e = .returned (.string (strOfNums (be x m))) ∧
      (w'.cell? ⟨b, 0, none⟩ = some (.int .i64 y) ∧ w'.cell? ⟨b, 1, none⟩ = some (.int .i64 z) ∧ Below B w1 w') := by
  refine (bytesOf_at x ni m w hni hx hx2 hm).mono ?_
  rintro e w' ⟨rfl, hb⟩
  obtain ⟨h0, h1, h5⟩ := hS
  have hlt : b < w.heap.size := World.block_lt_of_cell? w _ h0
  exact ⟨rfl, (hb.cell (p := ⟨b, 0, none⟩) hlt).trans h0, (hb.cell (p := ⟨b, 1, none⟩) hlt).trans h1, h5.trans (hb.mono (Nat.le_trans hz h5.size))⟩
theorem getD_mem {α : Type} {l : List α} {m : Nat} (d : α) (h : m < l.length) : l.getD m d ∈ l := by
  simp [List.getD, h]

set_option maxHeartbeats 1000000 in
theorem ep_ok (k i v n : Int) (S : List (Int × Int)) (D : List Int) (sa da : Option Addr) (cs cd sb so db dO : Nat) (w : World) (L : Lies w S D sa da sb so db dO) (hg : goodN k i v n S D = 0) :
    Calls Tryz.prog 52 #[.agg #[.int .i64 k, .int .i64 i, .int .i64 v, .int .i64 n, .slice sa S.length cs, .slice da D.length cd]] w fun e w' => e = .returned (.tuple #[.string (strOfNums (enc k i v n S D)), .int .i64 0]) ∧ Below w.heap.size w w' := by
  obtain ⟨hps, hrs, hS6, hD6⟩ := good_lists hg
  have hpb := pws_bounds S (-1) (by omega) hps
  have hnb := nums_bounds D (-1) (by omega) hrs
  have HPB : Hid _ := hpb
  have HNB : Hid _ := hnb
  obtain ⟨b1, b2, b3, b4, b5, b6, b7, b8⟩ := good_bounds hg
  have hgood := gp_any k i v n S D sa da cs cd sb so db dO _ (L.later (below_new w (.cells #[.int .i64 k, .int .i64 i, .int .i64 v, .int .i64 n, .slice sa S.length cs, .slice da D.length cd] 49)))
  rw [hg] at hgood
  have HSB : Hid ((0 < S.length → sb < w.heap.size + 1) ∧ (0 < D.length → db < w.heap.size + 1)) := ⟨fun h => Nat.lt_succ_of_lt (L.PS.lt h), fun h => Nat.lt_succ_of_lt (L.PD.lt h)⟩
  clear hg hps hrs hpb hnb
  go_enter Tryz.func52, Tryz.ntmps52
  go_wp2_with fail
  refine hgood.mono ?_
  rintro e w1 ⟨rfl, hb1⟩
  clear hgood
  have PK1 : PkAt w1 w.heap.size k i v n (.slice sa S.length cs) (.slice da D.length cd) := (pkAt_new _ _ _ _ _ _ _).later hb1 (by simp)
  have HB1 : Hid (Below w.heap.size w w1) := below_step hb1
  have L1 := L.later HB1.out
  have hz1 : w.heap.size + 1 ≤ w1.heap.size := (by have := hb1.size; simpa using this)
  clear hb1 L
  obtain ⟨c0, c1, c2, c3, c4, c5⟩ := id PK1
  have g1 : ¬ 9223372036854775807 < (strOfNums (be k 1)).size + (strOfNums (be i 6)).size := by simp only [strOfNums_size, be_length]; omega
  have g2 : ¬ 9223372036854775807 < (strOfNums (be k 1)).size + (strOfNums (be i 6)).size + (strOfNums (be v 1)).size := by simp only [strOfNums_size, be_length]; omega
  have g3 : ¬ 9223372036854775807 < (strOfNums (be k 1)).size + (strOfNums (be i 6)).size + (strOfNums (be v 1)).size + (strOfNums (be n 7)).size := by simp only [strOfNums_size, be_length]; omega
  have g4 : ¬ 9223372036854775807 < (strOfNums (be k 1)).size + (strOfNums (be i 6)).size + (strOfNums (be v 1)).size + (strOfNums (be n 7)).size + (strOfNums (be (S.length : Int) 1)).size := by simp only [strOfNums_size, be_length]; omega
  go_wp2_with fail
  have hbw : Below (w.heap.size + 1) w1 w1 := Below.refl _ _
  go_region_held3 (fun w' => w'.cell? ⟨w.heap.size, 0, none⟩ = some (.int .i64 k) ∧ w'.cell? ⟨w.heap.size, 1, none⟩ = some (.int .i64 i) ∧ w'.cell? ⟨w.heap.size, 2, none⟩ = some (.int .i64 v) ∧ w'.cell? ⟨w.heap.size, 3, none⟩ = some (.int .i64 n) ∧ w'.cell? ⟨w.heap.size, 4, none⟩ = some (.slice sa S.length cs) ∧ Below (w.heap.size + 1) w1 w') (go_keep)
    (first
      | (go_at_call_of 102 (Value.int .i64 k); refine (bytesOf_keep w.heap.size (w.heap.size + 1) w1 k i v n (.slice sa S.length cs) (Nat.lt_succ_self _) hz1 k _ 1 rfl (by omega) (by omega) (by omega) _ ?_).mono ?_; (simp [*]); rintro e wA ⟨rfl, hA⟩)
      | (go_at_call_of 102 (Value.int .i64 i); refine (bytesOf_keep w.heap.size (w.heap.size + 1) w1 k i v n (.slice sa S.length cs) (Nat.lt_succ_self _) hz1 i _ 6 rfl (by omega) (by omega) (by omega) _ ?_).mono ?_; (simp [*]); rintro e wB ⟨rfl, hB⟩)
      | (go_at_call_of 102 (Value.int .i64 v); refine (bytesOf_keep w.heap.size (w.heap.size + 1) w1 k i v n (.slice sa S.length cs) (Nat.lt_succ_self _) hz1 v _ 1 rfl (by omega) (by omega) (by omega) _ ?_).mono ?_; (simp [*]); rintro e wC ⟨rfl, hC⟩)
      | (go_at_call_of 102 (Value.int .i64 n); refine (bytesOf_keep w.heap.size (w.heap.size + 1) w1 k i v n (.slice sa S.length cs) (Nat.lt_succ_self _) hz1 n _ 7 rfl (by omega) (by omega) (by omega) _ ?_).mono ?_; (simp [*]); rintro e wD ⟨rfl, hD⟩)
      | (go_at_call_of 102 (Value.int .i64 (S.length : Int)); refine (bytesOf_keep w.heap.size (w.heap.size + 1) w1 k i v n (.slice sa S.length cs) (Nat.lt_succ_self _) hz1 (S.length : Int) _ 1 rfl (by omega) (by omega) (by omega) _ ?_).mono ?_; (simp [*]); rintro e wE ⟨rfl, hE⟩))
  clear g1 g2 g3 g4 hbw hA hB hC hD
  obtain ⟨d0, d1, d2, d3, d4, hbw⟩ := id hE
  have HBW : Hid (Below (w.heap.size + 1) w1 wE) := hbw
  clear c0 c1 c2 c3 c4 c5 hbw hE
  go_wp2_with fail
  clear d0 d1 d2 d3 d4
  go_loopw [5, 38] (fun s j wl => ∃ m : Nat, m ≤ S.length ∧ j = .int .i64 m ∧ s = .string (strOfNums (encH k i v n S.length ++ (S.take m).flatMap encP)) ∧ Hid (Below (w.heap.size + 1) w1 wl)) (fun _ j _ => S.length - (intOf j).toNat)
  case atStart => exact ⟨0, Nat.zero_le _, rfl, by simp [str_append, encH], HBW⟩
  case round =>
    obtain ⟨m, hm, rfl, rfl, HB⟩ := hrel
    clear HBW
    have hzr : w.heap.size + 1 ≤ wr.heap.size := Nat.le_trans hz1 HB.out.size
    have hXl : (encH k i v n S.length ++ (S.take m).flatMap encP).length ≤ 64 := by rw [List.length_append, encH_length, encPs_length]; have := take_len S m; omega
    by_cases hlt : m < S.length
    · have hcell := L1.PS.laterB HB.out HSB.out.1 m hlt
      have htk := take_flat encP S (0, 0) m hlt
      have hbd := HPB.out _ (getD_mem (0, 0) hlt)
      obtain ⟨y, hy⟩ : ∃ y, S.getD m (0, 0) = y := ⟨_, rfl⟩
      rw [hy] at hcell htk hbd
      obtain ⟨y, z⟩ := y
      obtain ⟨hc0, hc1⟩ := hcell
      dsimp only at hc0 hc1
      obtain ⟨q1, q2, q3, q4⟩ := hbd
      dsimp only at q1 q2 q3 q4
      have e := L1.hsa (by omega)
      subst e
      have HX : Hid (encH k i v n S.length ++ (S.take (m + 1)).flatMap encP = encH k i v n S.length ++ (S.take m).flatMap encP ++ (be y 1 ++ be z 7)) := by show _ = _; rw [htk, ← List.append_assoc]; rfl
      clear htk hy
      generalize encH k i v n S.length ++ (S.take m).flatMap encP = X at *
      have g1 : ¬ 9223372036854775807 < (strOfNums (be y 1)).size + (strOfNums (be z 7)).size := by simp only [strOfNums_size, be_length]; omega
      have g2 : ¬ 9223372036854775807 < (strOfNums X).size + ((strOfNums (be y 1)).size + (strOfNums (be z 7)).size) := by simp only [strOfNums_size, be_length]; omega
      go_wp2_with fail
      have hp0 : (wr.alloc (Obj.cells #[Value.int IntKind.i64 y, Value.int IntKind.i64 z] 74)).cell? ⟨wr.heap.size, 0, none⟩ = some (.int .i64 y) := by simp [World.cell?_alloc_at]
      have hp1 : (wr.alloc (Obj.cells #[Value.int IntKind.i64 y, Value.int IntKind.i64 z] 74)).cell? ⟨wr.heap.size, 1, none⟩ = some (.int .i64 z) := by simp [World.cell?_alloc_at]
      have hpb : Below (w.heap.size + 1) w1 (wr.alloc (Obj.cells #[Value.int IntKind.i64 y, Value.int IntKind.i64 z] 74)) := HB.out.alloc hzr _
      clear hc0 hc1
      go_region_held3 (fun w' => w'.cell? ⟨wr.heap.size, 0, none⟩ = some (.int .i64 y) ∧ w'.cell? ⟨wr.heap.size, 1, none⟩ = some (.int .i64 z) ∧ Below (w.heap.size + 1) w1 w') (go_keep)
        (first
          | (go_at_call_of 102 (Value.int .i64 y); refine (bytesOf_keep2 wr.heap.size (w.heap.size + 1) w1 y z hz1 y _ 1 rfl (by omega) (by omega) (by omega) _ ?_).mono ?_; (simp [*]); rintro e wF ⟨rfl, hF⟩)
          | (go_at_call_of 102 (Value.int .i64 z); refine (bytesOf_keep2 wr.heap.size (w.heap.size + 1) w1 y z hz1 z _ 7 rfl (by omega) (by omega) (by omega) _ ?_).mono ?_; (simp [*]); rintro e wG ⟨rfl, hG⟩))
      have HBG : Hid (Below (w.heap.size + 1) w1 wG) := hG.2.2
      clear hF hG hp0 hp1 hpb g1 g2
      go_wp2
      go_roundw
      case rel => exact ⟨m + 1, by omega, by go_num, by rw [str_append, str_append, HX.out], HBG⟩
      case measure => simp [intOf]; omega
    · have hmS : m = S.length := by omega
      subst hmS
      rw [List.take_length] at *
      have PK2 := PK1.later HB.out (Nat.lt_succ_self _)
      obtain ⟨d0, d1, d2, d3, d4, d5⟩ := PK2
      have g1 : ¬ 9223372036854775807 < (strOfNums (encH k i v n S.length ++ S.flatMap encP)).size + (strOfNums (be (D.length : Int) 1)).size := by simp only [strOfNums_size, be_length]; omega
      clear hXl
      go_wp2_with fail
      refine (bytesOf_at _ _ 1 _ rfl (by omega) (by omega) (by omega)).mono ?_
      rintro e w2 ⟨rfl, hb2⟩
      have HB2 : Hid (Below (w.heap.size + 1) w1 w2) := HB.out.trans (hb2.mono hzr)
      clear d0 d1 d2 d3 d4 d5 hb2
      have PK2 := PK1.later HB2.out (Nat.lt_succ_self _)
      obtain ⟨d0, d1, d2, d3, d4, d5⟩ := PK2
      go_wp2_with fail
      clear d0 d1 d2 d3 d4 d5 g1
      go_loopw [5, 61] (fun s j wl => ∃ m : Nat, m ≤ D.length ∧ j = .int .i64 m ∧ s = .string (strOfNums (encH k i v n S.length ++ S.flatMap encP ++ be D.length 1 ++ (D.take m).flatMap (be · 1))) ∧ Hid (Below (w.heap.size + 1) w1 wl)) (fun _ j _ => D.length - (intOf j).toNat)
      case atStart => exact ⟨0, Nat.zero_le _, rfl, by rw [str_append]; simp, HB2⟩
      case round =>
        obtain ⟨m, hm, rfl, rfl, HB3⟩ := hrel
        clear HB2
        have hzr : w.heap.size + 1 ≤ wr.heap.size := Nat.le_trans hz1 HB3.out.size
        have hXl : (encH k i v n S.length ++ S.flatMap encP ++ be D.length 1 ++ (D.take m).flatMap (be · 1)).length ≤ 80 := by rw [List.length_append, List.length_append, List.length_append, encH_length, encPs_length, encDs_length, be_length]; have := take_len D m; omega
        by_cases hlt : m < D.length
        · have hcell := L1.PD.laterB HB3.out HSB.out.2 m hlt
          have htk := take_flat (be · 1) D 0 m hlt
          have hbd := HNB.out _ (getD_mem 0 hlt)
          obtain ⟨y, hy⟩ : ∃ y, D.getD m 0 = y := ⟨_, rfl⟩
          rw [hy] at hcell htk hbd
          obtain ⟨q1, q2⟩ := hbd
          have e := L1.hda (by omega)
          subst e
          have HX : Hid (encH k i v n S.length ++ S.flatMap encP ++ be D.length 1 ++ (D.take (m + 1)).flatMap (be · 1) = encH k i v n S.length ++ S.flatMap encP ++ be D.length 1 ++ (D.take m).flatMap (be · 1) ++ be y 1) := by show _ = _; rw [htk, ← List.append_assoc]
          clear htk hy
          generalize encH k i v n S.length ++ S.flatMap encP ++ be D.length 1 ++ (D.take m).flatMap (be · 1) = X at *
          have g2 : ¬ 9223372036854775807 < (strOfNums X).size + (strOfNums (be y 1)).size := by simp only [strOfNums_size, be_length]; omega
          go_wp2_with fail
          refine (bytesOf_at _ _ 1 _ rfl (by omega) (by omega) (by omega)).mono ?_
          rintro e w3 ⟨rfl, hb3⟩
          have HB4 : Hid (Below (w.heap.size + 1) w1 w3) := HB3.out.trans (hb3.mono hzr)
          clear hb3 hcell
          go_wp2
          go_roundw
          case rel => exact ⟨m + 1, by omega, by go_num, by rw [str_append, HX.out], HB4⟩
          case measure => simp [intOf]; omega
        · have hmD : m = D.length := by omega
          subst hmD
          have HE : Hid (enc k i v n S D = encH k i v n S.length ++ S.flatMap encP ++ be D.length 1 ++ (D.take D.length).flatMap (be · 1)) := by rw [List.take_length]; rfl
          have HF : Hid (Below w.heap.size w wr) := HB1.out.trans (HB3.out.mono (Nat.le_succ _))
          go_wp2
          go_ret2
          exact ⟨by rw [HE.out]; rfl, HF.out⟩
end Go.Proofs.YtjghbciepinofaaGreat.Cd

set_option maxRecDepth 100000
namespace Go.Proofs.YtjghbciepinofaaGreat.Cd
open Go.RowKit
theorem ep_bad (k i v n : Int) (S : List (Int × Int)) (D : List Int) (sa da : Option Addr) (cs cd sb so db dO : Nat) (w : World) (L : Lies w S D sa da sb so db dO) (hg : goodN k i v n S D ≠ 0) :
    Calls Tryz.prog 52 #[.agg #[.int .i64 k, .int .i64 i, .int .i64 v, .int .i64 n, .slice sa S.length cs, .slice da D.length cd]] w fun e w' => e = .returned (.tuple #[.string ⟨#[]⟩, .int .i64 (goodN k i v n S D)]) ∧ Below w.heap.size w w' := by
  have hgood := gp_any k i v n S D sa da cs cd sb so db dO _ (L.later (below_new w (.cells #[.int .i64 k, .int .i64 i, .int .i64 v, .int .i64 n, .slice sa S.length cs, .slice da D.length cd] 49)))
  have HB : Hid (Below w.heap.size w (w.alloc (.cells #[.int .i64 k, .int .i64 i, .int .i64 v, .int .i64 n, .slice sa S.length cs, .slice da D.length cd] 49))) := below_new w _
  generalize goodN k i v n S D = G at *
  have hG : (G != 0) = true := by simpa using hg
  clear L hg
  go_enter Tryz.func52, Tryz.ntmps52
  go_wp2_with (go_at_call 94; refine hgood.mono ?_; rintro e w1 ⟨rfl, hb1⟩)
  go_ret2
  exact ⟨rfl, HB.out.trans (hb1.mono HB.out.size)⟩
theorem ep_any (k i v n : Int) (S : List (Int × Int)) (D : List Int) (sa da : Option Addr) (cs cd sb so db dO : Nat) (w : World) (L : Lies w S D sa da sb so db dO) :
    Calls Tryz.prog 52 #[.agg #[.int .i64 k, .int .i64 i, .int .i64 v, .int .i64 n, .slice sa S.length cs, .slice da D.length cd]] w fun e w' => e = .returned (.tuple #[.string (encS k i v n S D), .int .i64 (goodN k i v n S D)]) ∧ Below w.heap.size w w' := by
  by_cases h : goodN k i v n S D = 0
  · rw [encS, if_pos h, h]; exact ep_ok k i v n S D sa da cs cd sb so db dO w L h
  · rw [encS, if_neg h]; exact ep_bad k i v n S D sa da cs cd sb so db dO w L h
end Go.Proofs.YtjghbciepinofaaGreat.Cd

