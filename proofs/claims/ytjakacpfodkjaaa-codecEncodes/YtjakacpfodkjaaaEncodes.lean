/- CodecEncodes: for every packet, Good and Encode answer exactly what the document says. No condition: every packet that can be read as data. -/
import Derived.Test.YtjakacpfodkjaaaT
import Derived.Test.YtjakacpfodkjaaaU
import Derived.Test.YtjakacpfodkjaaaOS
import Derived.WalkKit
import Derived.ProofKit
import Derived.OpenShut
import Derived.ChangeOld
import Derived.Below
namespace Go.Proofs.Ytjakacpfodkjaaa
open Go.RowKit
set_option maxHeartbeats 1000000 in
theorem ep_bad (k i v n : Int) (S : List (Int × Int)) (D : List Int) (sa da : Option Addr) (cs cd sb so db dO : Nat) (w : World) (L : Lies w S D sa da sb so db dO) (hg : goodN k i v n S D ≠ 0) :
    Calls Try.prog 11 #[.agg #[.int .i64 k, .int .i64 i, .int .i64 v, .int .i64 n, .slice sa S.length cs, .slice da D.length cd]] w fun e w' => e = .returned (.tuple #[.string ⟨#[]⟩, .int .i64 (goodN k i v n S D)]) ∧ Below w.heap.size w w' := by
  have hgood := gp_any k i v n S D sa da cs cd sb so db dO _ (L.later (below_new w (.cells #[.int .i64 k, .int .i64 i, .int .i64 v, .int .i64 n, .slice sa S.length cs, .slice da D.length cd] 25)))
  generalize goodN k i v n S D = G at *
  have hG : (G != 0) = true := by simpa using hg
  clear hg L
  go_enter Try.func11, Try.ntmps11
  go_wp2_with (go_at_call 13; refine hgood.mono ?_; rintro e w1 ⟨rfl, hb⟩)
  go_ret2
  exact ⟨rfl, below_step hb⟩
theorem ep_any (k i v n : Int) (S : List (Int × Int)) (D : List Int) (sa da : Option Addr) (cs cd sb so db dO : Nat) (w : World) (L : Lies w S D sa da sb so db dO) :
    Calls Try.prog 11 #[.agg #[.int .i64 k, .int .i64 i, .int .i64 v, .int .i64 n, .slice sa S.length cs, .slice da D.length cd]] w fun e w' => e = .returned (.tuple #[.string (encS k i v n S D), .int .i64 (goodN k i v n S D)]) ∧ Below w.heap.size w w' := by
  by_cases h : goodN k i v n S D = 0
  · rw [encS, if_pos h, h]; exact ep_ok k i v n S D sa da cs cd sb so db dO w L h
  · rw [encS, if_neg h]; exact ep_bad k i v n S D sa da cs cd sb so db dO w L h

theorem calls_keep {f : FuncId} {args : Array Value} {w W : World} {R : Ending → World → Prop} (b B : Nat) (k i v n : Int) (s d : Value) (hB : b < B) (hz : B ≤ W.heap.size)
    (h : Calls Try.prog f args w fun e w' => R e w' ∧ Below w.heap.size w w')
    (hS : w.cell? ⟨b, 0, none⟩ = some (.int .i64 k) ∧ w.cell? ⟨b, 1, none⟩ = some (.int .i64 i) ∧ w.cell? ⟨b, 2, none⟩ = some (.int .i64 v) ∧ w.cell? ⟨b, 3, none⟩ = some (.int .i64 n) ∧ w.cell? ⟨b, 4, none⟩ = some s ∧ w.cell? ⟨b, 5, none⟩ = some d ∧ Below B W w) :
    Calls Try.prog f args w fun e w' => R e w' ∧
      (w'.cell? ⟨b, 0, none⟩ = some (.int .i64 k) ∧ w'.cell? ⟨b, 1, none⟩ = some (.int .i64 i) ∧ w'.cell? ⟨b, 2, none⟩ = some (.int .i64 v) ∧ w'.cell? ⟨b, 3, none⟩ = some (.int .i64 n) ∧ w'.cell? ⟨b, 4, none⟩ = some s ∧ w'.cell? ⟨b, 5, none⟩ = some d ∧ Below B W w') := by
  refine h.mono ?_
  rintro e w' ⟨hR, hb⟩
  obtain ⟨h0, h1, h2, h3, h4, h5, h6⟩ := hS
  have hlt : b < w.heap.size := Nat.lt_of_lt_of_le hB (Nat.le_trans hz h6.size)
  exact ⟨hR, (hb.cell (p := ⟨b, 0, none⟩) hlt).trans h0, (hb.cell (p := ⟨b, 1, none⟩) hlt).trans h1, (hb.cell (p := ⟨b, 2, none⟩) hlt).trans h2, (hb.cell (p := ⟨b, 3, none⟩) hlt).trans h3, (hb.cell (p := ⟨b, 4, none⟩) hlt).trans h4, (hb.cell (p := ⟨b, 5, none⟩) hlt).trans h5,
    h6.trans (hb.mono (Nat.le_trans hz h6.size))⟩
theorem Lies.laterB {B : Nat} {w w' : World} {S : List (Int × Int)} {D : List Int} {sa da : Option Addr} {sb so db dO : Nat} (h : Lies w S D sa da sb so db dO) (hb : Below B w w') (hS : (0 < S.length → sb < B) ∧ (0 < D.length → db < B)) : Lies w' S D sa da sb so db dO :=
  ⟨h.hls, h.hld, h.hsa, h.hda, h.PS.laterB hb hS.1, h.PD.laterB hb hS.2⟩
section
variable (k i v n : Int) (S : List (Int × Int)) (D : List Int) (sa da : Option Addr) (cs cd sb so db dO : Nat) (b B : Nat) (w W : World) (hB : b < B) (hz : B ≤ W.heap.size)
theorem copy_keep (L : Lies W S D sa da sb so db dO) (hSB : (0 < S.length → sb < B) ∧ (0 < D.length → db < B)) (hb1 : S.length * 16 ≤ 140737488351232) (hb2 : D.length * 8 ≤ 140737488351232) (hB : b < B) (hz : B ≤ W.heap.size)
    (hS : w.cell? ⟨b, 0, none⟩ = some (.int .i64 k) ∧ w.cell? ⟨b, 1, none⟩ = some (.int .i64 i) ∧ w.cell? ⟨b, 2, none⟩ = some (.int .i64 v) ∧ w.cell? ⟨b, 3, none⟩ = some (.int .i64 n) ∧ w.cell? ⟨b, 4, none⟩ = some (.slice sa S.length cs) ∧ w.cell? ⟨b, 5, none⟩ = some (.slice da D.length cd) ∧ Below B W w) :
    Calls Try.prog 10 #[.agg #[.int .i64 k, .int .i64 i, .int .i64 v, .int .i64 n, .slice sa S.length cs, .slice da D.length cd]] w fun e w' => (∃ A1 C1 A2 C2 b1 b2,
      e = .returned (.agg #[.int .i64 k, .int .i64 i, .int .i64 v, .int .i64 n, .slice A1 S.length C1, .slice A2 D.length C2]) ∧ Lies w' S D A1 A2 b1 0 b2 0) ∧
      (w'.cell? ⟨b, 0, none⟩ = some (.int .i64 k) ∧ w'.cell? ⟨b, 1, none⟩ = some (.int .i64 i) ∧ w'.cell? ⟨b, 2, none⟩ = some (.int .i64 v) ∧ w'.cell? ⟨b, 3, none⟩ = some (.int .i64 n) ∧ w'.cell? ⟨b, 4, none⟩ = some (.slice sa S.length cs) ∧ w'.cell? ⟨b, 5, none⟩ = some (.slice da D.length cd) ∧ Below B W w') :=
  calls_keep b B k i v n _ _ hB hz ((copy_lies k i v n S D sa da cs cd sb so db dO w (L.laterB hS.2.2.2.2.2.2 hSB) hb1 hb2).mono fun _ _ ⟨A1, C1, A2, C2, b1, b2, he, hL, hb⟩ => ⟨⟨A1, C1, A2, C2, b1, b2, he, hL⟩, hb⟩) hS
theorem gp_keep (L : Lies W S D sa da sb so db dO) (hSB : (0 < S.length → sb < B) ∧ (0 < D.length → db < B)) (hB : b < B) (hz : B ≤ W.heap.size)
    (hS : w.cell? ⟨b, 0, none⟩ = some (.int .i64 k) ∧ w.cell? ⟨b, 1, none⟩ = some (.int .i64 i) ∧ w.cell? ⟨b, 2, none⟩ = some (.int .i64 v) ∧ w.cell? ⟨b, 3, none⟩ = some (.int .i64 n) ∧ w.cell? ⟨b, 4, none⟩ = some (.slice sa S.length cs) ∧ w.cell? ⟨b, 5, none⟩ = some (.slice da D.length cd) ∧ Below B W w) :
    Calls Try.prog 13 #[.agg #[.int .i64 k, .int .i64 i, .int .i64 v, .int .i64 n, .slice sa S.length cs, .slice da D.length cd]] w fun e w' => e = .returned (.int .i64 (goodN k i v n S D)) ∧
      (w'.cell? ⟨b, 0, none⟩ = some (.int .i64 k) ∧ w'.cell? ⟨b, 1, none⟩ = some (.int .i64 i) ∧ w'.cell? ⟨b, 2, none⟩ = some (.int .i64 v) ∧ w'.cell? ⟨b, 3, none⟩ = some (.int .i64 n) ∧ w'.cell? ⟨b, 4, none⟩ = some (.slice sa S.length cs) ∧ w'.cell? ⟨b, 5, none⟩ = some (.slice da D.length cd) ∧ Below B W w') :=
  calls_keep b B k i v n _ _ hB hz (gp_any k i v n S D sa da cs cd sb so db dO w (L.laterB hS.2.2.2.2.2.2 hSB)) hS
end
theorem below_drew_iff' (B : Nat) (w1 w : World) : Below B w1 w.drew ↔ Below B w1 w := below_drew_iff B w1 w
attribute [local simp] below_drew_iff'
set_option maxHeartbeats 2000000 in
theorem encodes_walk (k i v n : Int) (S : List (Int × Int)) (D : List Int) (sa da : Option Addr) (cs cd sb so db dO : Nat) (w : World) (L : Lies w S D sa da sb so db dO) (hb1 : S.length * 16 ≤ 140737488351232) (hb2 : D.length * 8 ≤ 140737488351232) :
    Calls Try.prog 3 #[.agg #[.int .i64 k, .int .i64 i, .int .i64 v, .int .i64 n, .slice sa S.length cs, .slice da D.length cd]] w fun e w' => e = .returned (.bool true) ∧ Below w.heap.size w w' := by
  have HSB : Hid ((0 < S.length → sb < w.heap.size + 1) ∧ (0 < D.length → db < w.heap.size + 1)) := ⟨fun h => Nat.lt_succ_of_lt (L.PS.lt h), fun h => Nat.lt_succ_of_lt (L.PD.lt h)⟩
  have HLB : Hid (S.length * 16 ≤ 140737488351232 ∧ D.length * 8 ≤ 140737488351232) := ⟨hb1, hb2⟩
  clear hb1 hb2
  have PK := pkAt_new w k i v n (.slice sa S.length cs) (.slice da D.length cd)
  have hbn := below_new w (.cells #[.int .i64 k, .int .i64 i, .int .i64 v, .int .i64 n, .slice sa S.length cs, .slice da D.length cd] 25)
  have L0 := L.later hbn
  have HBN : Hid _ := hbn
  clear hbn L
  go_enter Try.func3, Try.ntmps3
  go_wp2_with fail
  refine (copy_lies k i v n S D sa da cs cd sb so db dO _ L0 HLB.out.1 HLB.out.2).mono ?_
  rintro e w1 ⟨A1, C1, A2, C2, b1, b2, rfl, LA, hb1⟩
  have PK1 := PK.later hb1 (by simp)
  have L1 := L0.later hb1
  have HB1 : Hid (Below w.heap.size w w1) := below_then HBN.out hb1
  have hz1 : w.heap.size + 1 ≤ w1.heap.size := by have := hb1.size; simpa using this
  clear hb1 PK L0 HBN
  obtain ⟨c0, c1, c2, c3, c4, c5⟩ := id PK1
  go_wp2_with fail
  refine (encode_any k i v n S D A1 A2 C1 C2 b1 0 b2 0 _ LA).mono ?_
  rintro e w2 ⟨rfl, hb2⟩
  clear c0 c1 c2 c3 c4 c5
  have PK2 := PK1.later hb2 hz1
  have L2 := L1.later hb2
  have HB2 : Hid (Below w.heap.size w w2) := below_then HB1.out hb2
  have hz2 : w.heap.size + 1 ≤ w2.heap.size := Nat.le_trans hz1 hb2.size
  clear hb2 PK1 L1 HB1 LA hz1
  obtain ⟨c0, c1, c2, c3, c4, c5⟩ := id PK2
  go_wp2_with fail
  refine (ep_any k i v n S D sa da cs cd sb so db dO _ L2).mono ?_
  rintro e w3 ⟨rfl, hb3⟩
  clear c0 c1 c2 c3 c4 c5
  have PK3 := PK2.later hb3 hz2
  have L3 := L2.later hb3
  have HB3 : Hid (Below w.heap.size w w3) := below_then HB2.out hb3
  have hz3 : w.heap.size + 1 ≤ w3.heap.size := Nat.le_trans hz2 hb3.size
  clear hb3 PK2 L2 HB2 hz2
  obtain ⟨c0, c1, c2, c3, c4, c5⟩ := id PK3
  have hbw : Below (w.heap.size + 1) w3 w3 := Below.refl _ _
  go_wp2_with fail
  go_region_held3 (fun w' => w'.cell? ⟨w.heap.size, 0, none⟩ = some (.int .i64 k) ∧ w'.cell? ⟨w.heap.size, 1, none⟩ = some (.int .i64 i) ∧ w'.cell? ⟨w.heap.size, 2, none⟩ = some (.int .i64 v) ∧ w'.cell? ⟨w.heap.size, 3, none⟩ = some (.int .i64 n) ∧ w'.cell? ⟨w.heap.size, 4, none⟩ = some (.slice sa S.length cs) ∧ w'.cell? ⟨w.heap.size, 5, none⟩ = some (.slice da D.length cd) ∧ Below (w.heap.size + 1) w3 w') (go_keep)
    (first
      | (go_at_call 10; refine (copy_keep k i v n S D sa da cs cd sb so db dO w.heap.size (w.heap.size + 1) _ w3 L3 HSB.out HLB.out.1 HLB.out.2 (Nat.lt_succ_self _) hz3 ?_).mono ?_; (simp [*]); rintro e wA ⟨⟨X1, Y1, X2, Y2, x1, x2, rfl, LX⟩, hA⟩)
      | (go_at_call 12; refine (calls_keep w.heap.size (w.heap.size + 1) k i v n (.slice sa S.length cs) (.slice da D.length cd) (Nat.lt_succ_self _) hz3 (good_any k i v n S D X1 X2 Y1 Y2 x1 0 x2 0 _ LX.hls LX.hld LX.hsa LX.hda LX.PS LX.PD) ?_).mono ?_; (simp [*]); rintro e wB ⟨rfl, hB⟩)
      | (go_at_call 13; refine (gp_keep k i v n S D sa da cs cd sb so db dO w.heap.size (w.heap.size + 1) _ w3 L3 HSB.out (Nat.lt_succ_self _) hz3 ?_).mono ?_; (simp [*]); rintro e wC ⟨rfl, hC⟩)
      | (go_at_call 14; refine (calls_keep w.heap.size (w.heap.size + 1) k i v n (.slice sa S.length cs) (.slice da D.length cd) (Nat.lt_succ_self _) hz3 (codes14 _) ?_).mono ?_; (simp [*]); rintro e wD ⟨rfl, hD⟩))
  have HF : Hid (Below w.heap.size w wD) := HB3.out.trans (hD.2.2.2.2.2.2.mono (Nat.le_succ _))
  clear hA hB hC hD
  go_wp2
  go_ret
  exact ⟨rfl, HF.out⟩

section
open Go.ChangeShapes Go.WideShapes Go.ChangeAt Go.RowKit
theorem own3 : ownKnob Try.prog.godebug = none := by kernel_rfl
theorem laidOut3 : laidOutB Try.prog = true := by kernel_rfl
set_option maxRecDepth 100000 in
theorem encodes_lifted (os : Os) (started : os.Started) (H : Type) (enc : TypeId × Value → H) :
    ReturnsInHanded {} Try.checked os 3 .any (Rows.codecEncodesSpec.pre6 enc Try.prog Try.f3 Rows.codecEncodesRow.domain false) (Rows.codecEncodesSpec.post enc Try.prog Try.f3 false true false false) := by
  refine returnsInHanded_of_change_sized (C := Try.checked) own3 started (by kernel_rfl) Try.func3
    (ChangeSpec.witness6 (enc := enc) (C := Try.checked) false ⟨#[], #[.agg #[.int .i64 0, .int .i64 0, .int .i64 0, .int .i64 0, .slice none 0 0, .slice none 0 0]], []⟩ 8 (by kernel_rfl) (by kernel_rfl) (by kernel_rfl) (by kernel_rfl)) ?_
  intro W base args ds gs before hval0 hW hcnd hsz0 hholds
  have hval : ∀ (j : Nat) t v, Try.f3.params[j]? = some t → args[j]? = some v → Value.okWide Try.prog W .any base t v := hval0
  have hW' := hW
  obtain ⟨p, q, hA0, hV, rfl, hfz, hnd⟩ := hW
  have hA : DataW.TrodAll enc Try.prog W 0 (fun _ => true) true Try.f3.params.toList args.toList ds p := hA0
  have hsz : (DataW.weightsEach Try.prog (Try.f3.params.toList ++ Rows.codecEncodesSpec.plain.varTypes Try.prog) (ds ++ gs)).all (· ≤ reachBytes) = true := hsz0
  rw [Try.params3] at hA hval hsz
  obtain ⟨v0, vs0, d0, ds0, p0, q0, hargs, rfl, rfl, h0, r0⟩ := trodAll_cons hA
  obtain ⟨rfl, rfl, rfl⟩ := trodAll_nil r0
  obtain rfl : args = #[v0] := by cases args; simp_all
  obtain ⟨rfl, rfl⟩ := trodVars_none hV
  have lt0 : ∀ x ∈ p0, x.block < W.heap.size := by obtain ⟨m, hm⟩ := h0; exact DataW.trod_lt m _ _ _ hm
  have hw0 : ∀ x ∈ DataW.weights Try.prog 25 d0, x ≤ reachBytes := fun x hx => by
    have := List.all_eq_true.1 hsz x (DataW.weights_mem_each (j := 0) (t := 25) (d := d0) rfl rfl x hx)
    simpa using this
  obtain ⟨k, i, x, n, S, D, sa, da, cs, cd, sb, so, db, dO, e0, L, g1, g2⟩ := open_packet2 (hval 0 25 v0 rfl rfl) h0 hw0
  clear hA0 hval0 hsz0
  have hwalk := encodes_walk k i x n S D sa da cs cd sb so db dO W L g1 g2
  rw [← e0] at hwalk
  refine hwalk.mono fun e W' ⟨he, bel⟩ => ?_
  subst he
  exact ⟨_, rfl, _, _, _, [], _, [], hW', trodAll_mk1 (shut_bool Try.underlying4 _), (trodAll_cons_mk (Below.trod laidOut3 (by kernel_rfl) (of_decide_eq_true (by kernel_rfl)) h0 bel lt0) trodAll_mk0), rfl, bel.frame _, fun h => by cases h⟩

theorem encodes_over : Rows.codecEncodesRow.holds Try.pinned (OpenSpec.ofChange Rows.codecEncodesSpec) :=
  OpenClaim.holds_of_wide 3 Try.f3 rfl rfl rfl rfl rfl rfl rfl ⟨rfl, rfl, rfl, rfl, rfl⟩ rfl rfl rfl rfl rfl (by kernel_rfl) Try.func3 (by kernel_rfl)
    (of_decide_eq_true (by kernel_rfl)) (by unfold Func.isWrapper; first | (rw [if_pos (by decide +kernel)]; kernel_rfl) | (rw [if_neg (by decide +kernel)]; exact ⟨rfl, rfl⟩))
    (fun os started H enc _ => encodes_lifted os started H enc)
end
theorem codecEncodes_holds : Rows.CodecEncodesSaid := encodes_over
#print axioms codecEncodes_holds
end Go.Proofs.Ytjakacpfodkjaaa
