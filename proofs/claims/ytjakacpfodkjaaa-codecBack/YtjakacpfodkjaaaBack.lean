/- CodecBack: for every packet, its bytes are read as it was, and not with something behind. No condition: every packet that can be read as data. -/
import Derived.Test.YtjakacpfodkjaaaE
import Derived.Test.YtjakacpfodkjaaaK
import Derived.Test.YtjakacpfodkjaaaR
import Derived.WalkKit
import Derived.ProofKit
import Derived.OpenShut
import Derived.ChangeOld
import Derived.Below
namespace Go.Proofs.Ytjakacpfodkjaaa
open Go.RowKit
theorem str_x (l : List Int) : strOfNums l ++ ⟨#[120]⟩ = strOfNums (l ++ [120]) := by
  rw [← str_append]; rfl
set_option maxHeartbeats 1000000 in
theorem back_walk (k i v n : Int) (S : List (Int × Int)) (D : List Int) (sa da : Option Addr) (cs cd sb so db dO : Nat) (w : World) (L : Lies w S D sa da sb so db dO) :
    Calls Try.prog 5 #[.agg #[.int .i64 k, .int .i64 i, .int .i64 v, .int .i64 n, .slice sa S.length cs, .slice da D.length cd]] w fun e w' => e = .returned (.bool true) ∧ Below w.heap.size w w' := by
  have hbn := below_new w (.cells #[.int .i64 k, .int .i64 i, .int .i64 v, .int .i64 n, .slice sa S.length cs, .slice da D.length cd] 25)
  have PK := pkAt_new w k i v n (.slice sa S.length cs) (.slice da D.length cd)
  have L0 := L.later hbn
  have HBN : Hid _ := hbn
  have hen := encode_any k i v n S D sa da cs cd sb so db dO _ L0
  clear hbn L
  by_cases hg : goodN k i v n S D = 0
  · have hE : encS k i v n S D = strOfNums (enc k i v n S D) := by rw [encS, if_pos hg]
    have hby := enc_byte k i v n S D
    have hlen := enc_length k i v n S D
    obtain ⟨_, _, q3, q4⟩ := good_lists hg
    obtain ⟨d1, d2⟩ := dec_enc hg
    have d3 := dec_more hg (X := [120]) (by simp)
    have hdec := fun (w : World) => decode_any (strOfNums (enc k i v n S D)) w (by rw [strOfNums_size, hlen]; unfold maxLen; omega)
    rw [bs_strOfNums _ hby, d1, d2] at hdec
    have hdec2 := fun (w : World) => decode_any (strOfNums (enc k i v n S D ++ [120])) w (by rw [strOfNums_size, List.length_append, hlen]; unfold maxLen; simp; omega)
    rw [bs_strOfNums (enc k i v n S D ++ [120]) (by intro c hc; rcases List.mem_append.1 hc with h | h; exact hby c h; simp at h; omega), d3] at hdec2
    rw [hE, hg] at hen
    have hsx := str_x (enc k i v n S D)
    have hsz : (strOfNums (enc k i v n S D)).size ≤ 100 := by rw [strOfNums_size, hlen]; omega
    have HSX : Hid _ := hsx
    generalize decP (enc k i v n S D ++ [120]) = R at *
    obtain ⟨rk, ri, rv, rn, rS, rD⟩ := R
    dsimp only at hdec hdec2
    clear hsx hE hby hlen q3 q4 d1 d2 d3
    generalize strOfNums (enc k i v n S D ++ [120]) = s2 at *
    generalize strOfNums (enc k i v n S D) = s at *
    have HD1 : Hid _ := hdec
    have HD2 : Hid _ := hdec2
    clear hdec hdec2
    go_enter Try.func5, Try.ntmps5
    go_wp2_with fail
    refine hen.mono ?_
    rintro e w1 ⟨rfl, hb1⟩
    have PK1 := PK.later hb1 (by simp)
    have L1 := L0.later hb1
    have HB1 : Hid (Below w.heap.size w w1) := below_then HBN.out hb1
    have hz1 : w.heap.size < w1.heap.size := by have := hb1.size; simp at this; omega
    clear hb1 PK L0 HBN hen
    go_wp2_with fail
    refine (codes18 _).mono ?_
    rintro e w2 ⟨rfl, hb2⟩
    have PK2 := PK1.later hb2 hz1
    have L2 := L1.later hb2
    have HB2 : Hid (Below w.heap.size w w2) := below_then HB1.out hb2
    have hz2 : w.heap.size < w2.heap.size := Nat.lt_of_lt_of_le hz1 hb2.size
    clear hb2 PK1 L1 HB1 hz1
    go_wp2_with fail
    refine (HD1.out _).mono ?_
    rintro e w3 ⟨ra, rb, rc, rd, re, rf, rg, rh, rfl, LR, hb3⟩
    have PK3 := (PK2.later hb3 hz2).later (below_new w3 (.cells #[.int .i64 k, .int .i64 i, .int .i64 v, .int .i64 n, .slice ra S.length rc, .slice rb D.length rd] 25)) (Nat.lt_of_lt_of_le hz2 hb3.size)
    have L3 := (L2.later hb3).later (below_new w3 (.cells #[.int .i64 k, .int .i64 i, .int .i64 v, .int .i64 n, .slice ra S.length rc, .slice rb D.length rd] 25))
    have LR3 := LR.later (below_new w3 (.cells #[.int .i64 k, .int .i64 i, .int .i64 v, .int .i64 n, .slice ra S.length rc, .slice rb D.length rd] 25))
    have PR3 := pkAt_new w3 k i v n (.slice ra S.length rc) (.slice rb D.length rd)
    have HB3 : Hid (Below w.heap.size w w3) := below_then HB2.out hb3
    have hz3 : w.heap.size < w3.heap.size := Nat.lt_of_lt_of_le hz2 hb3.size
    clear hb3 PK2 L2 HB2 hz2 LR
    go_wp2_with fail
    rw [HSX.out]
    refine (HD2.out _).mono ?_
    rintro e w4 ⟨ta, tb, tc, td, te, tf, tg, th, rfl, LT, hb4⟩
    have PK4 := PK3.later hb4 (by simp; omega)
    have PR4 := PR3.later hb4 (by simp)
    have L4 := L3.later hb4
    have LR4 := LR3.later hb4
    have HB4 : Hid (Below w.heap.size w w4) := below_then HB3.out (below_step hb4)
    have hz4 : w3.heap.size < w4.heap.size := by have := hb4.size; simp at this; omega
    have hz4' : w.heap.size < w4.heap.size := by omega
    clear hb4 PK3 L3 LR3 PR3 HB3 LT
    obtain ⟨c0, c1, c2, c3, c4, c5⟩ := id PK4
    obtain ⟨x0, x1, x2, x3, x4, x5⟩ := id PR4
    go_wp2_with fail
    have M := L4.later (below_new w4 (.cells #[.int .i64 rk, .int .i64 ri, .int .i64 rv, .int .i64 rn, .slice ta rS.length tc, .slice tb rD.length td] 25))
    have MR := LR4.later (below_new w4 (.cells #[.int .i64 rk, .int .i64 ri, .int .i64 rv, .int .i64 rn, .slice ta rS.length tc, .slice tb rD.length td] 25))
    have hsame := same19 k i v n k i v n S S D D sa da ra rb cs cd sb so db dO rc rd re rf rg rh _ M.hls M.hld M.hsa M.hda M.PS M.PD MR.hls MR.hld MR.hsa MR.hda MR.PS MR.PD
    rw [decide_eq_true ⟨rfl, rfl, rfl, rfl, rfl, rfl⟩] at hsame
    refine hsame.mono ?_
    rintro e w5 ⟨rfl, hb5⟩
    have HB5 : Hid (Below w.heap.size w w5) := below_then HB4.out (below_step hb5)
    clear hb5 hsame M MR L4 LR4 PK4 PR4 c0 c1 c2 c3 c4 c5 x0 x1 x2 x3 x4 x5
    go_wp2
    go_ret
    exact ⟨rfl, HB5.out⟩
  · have hE : encS k i v n S D = ⟨#[]⟩ := by rw [encS, if_neg hg]
    rw [hE] at hen
    have hgood := fun (w : World) (L : Lies w S D sa da sb so db dO) => good_any k i v n S D sa da cs cd sb so db dO w L.hls L.hld L.hsa L.hda L.PS L.PD
    have HGD : Hid _ := hgood
    clear hgood
    generalize goodN k i v n S D = G at *
    have hG : (G != 0) = true := by simpa using hg
    clear hg hE
    go_enter Try.func5, Try.ntmps5
    go_wp2_with fail
    refine hen.mono ?_
    rintro e w1 ⟨rfl, hb1⟩
    have PK1 := PK.later hb1 (by simp)
    have L1 := L0.later hb1
    have HB1 : Hid (Below w.heap.size w w1) := below_then HBN.out hb1
    clear hb1 PK L0 HBN hen
    obtain ⟨c0, c1, c2, c3, c4, c5⟩ := id PK1
    go_wp2_with fail
    refine (HGD.out _ L1).mono ?_
    rintro e w2 ⟨rfl, hb2⟩
    have HB2 : Hid (Below w.heap.size w w2) := below_then HB1.out hb2
    clear hb2 c0 c1 c2 c3 c4 c5 L1 PK1
    go_wp2_with (go_at_call 18; refine (codes18 _).mono ?_; rintro e w3 ⟨rfl, hb3⟩)
    go_ret
    exact ⟨rfl, below_then HB2.out hb3⟩

section
open Go.ChangeShapes Go.WideShapes Go.ChangeAt Go.RowKit
theorem own5 : ownKnob Try.prog.godebug = none := by kernel_rfl
theorem laidOut5 : laidOutB Try.prog = true := by kernel_rfl
set_option maxRecDepth 100000 in
theorem back_lifted (os : Os) (started : os.Started) (H : Type) (enc : TypeId × Value → H) :
    ReturnsInHanded {} Try.checked os 5 .any (Rows.codecBackSpec.pre6 enc Try.prog Try.f5 Rows.codecBackRow.domain false) (Rows.codecBackSpec.post enc Try.prog Try.f5 false true false false) := by
  refine returnsInHanded_of_change (C := Try.checked) own5 started (by kernel_rfl) Try.func5
    (ChangeSpec.witness6 (enc := enc) (C := Try.checked) false ⟨#[], #[.agg #[.int .i64 0, .int .i64 0, .int .i64 0, .int .i64 0, .slice none 0 0, .slice none 0 0]], []⟩ 8 (by kernel_rfl) (by kernel_rfl) (by kernel_rfl) (by kernel_rfl)) ?_
  intro W base args ds gs before hval0 hW hcnd _
  have hval : ∀ (j : Nat) t v, Try.f5.params[j]? = some t → args[j]? = some v → Value.okWide Try.prog W .any base t v := hval0
  have hW' := hW
  obtain ⟨p, q, hA0, hV, rfl, hfz, hnd⟩ := hW
  have hA : DataW.TrodAll enc Try.prog W 0 (fun _ => true) true Try.f5.params.toList args.toList ds p := hA0
  rw [Try.params5] at hA hval
  obtain ⟨v0, vs0, d0, ds0, p0, q0, hargs, rfl, rfl, h0, r0⟩ := trodAll_cons hA
  obtain ⟨rfl, rfl, rfl⟩ := trodAll_nil r0
  obtain rfl : args = #[v0] := by cases args; simp_all
  obtain ⟨rfl, rfl⟩ := trodVars_none hV
  have lt0 : ∀ x ∈ p0, x.block < W.heap.size := by obtain ⟨m, hm⟩ := h0; exact DataW.trod_lt m _ _ _ hm
  obtain ⟨k, i, x, n, S, D, sa, da, cs, cd, sb, so, db, dO, e0, L⟩ := open_packet (hval 0 25 v0 rfl rfl) h0
  clear hA0 hval0
  have hwalk := back_walk k i x n S D sa da cs cd sb so db dO W L
  rw [← e0] at hwalk
  refine hwalk.mono fun e W' ⟨he, bel⟩ => ?_
  subst he
  exact ⟨_, rfl, _, _, _, [], _, [], hW', trodAll_mk1 (shut_bool Try.underlying4 _), (trodAll_cons_mk (Below.trod laidOut5 (by kernel_rfl) (of_decide_eq_true (by kernel_rfl)) h0 bel lt0) trodAll_mk0), rfl, bel.frame _, fun h => by cases h⟩

theorem back_over : Rows.codecBackRow.holds Try.pinned (OpenSpec.ofChange Rows.codecBackSpec) :=
  OpenClaim.holds_of_wide 5 Try.f5 rfl rfl rfl rfl rfl rfl rfl ⟨rfl, rfl, rfl, rfl, rfl⟩ rfl rfl rfl rfl rfl (by kernel_rfl) Try.func5 (by kernel_rfl)
    (of_decide_eq_true (by kernel_rfl)) (by unfold Func.isWrapper; first | (rw [if_pos (by decide +kernel)]; kernel_rfl) | (rw [if_neg (by decide +kernel)]; exact ⟨rfl, rfl⟩))
    (fun os started H enc _ => back_lifted os started H enc)
end
theorem codecBack_holds : Rows.CodecBackSaid := back_over
#print axioms codecBack_holds
end Go.Proofs.Ytjakacpfodkjaaa
