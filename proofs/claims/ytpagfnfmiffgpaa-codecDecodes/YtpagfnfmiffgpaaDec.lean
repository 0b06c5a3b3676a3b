/- CodecDecodes: for all bytes, Decode answers exactly what the document says, errors too. No condition: every text. -/
import Derived.Test.YtpagfnfmiffgpaaE
import Derived.Test.YtpagfnfmiffgpaaDP
import Derived.WalkKit
import Derived.ProofKit
import Derived.OpenShut
import Derived.ShutString
import Derived.ChangeOld
import Derived.Below
namespace Go.Proofs.Ytpagfnfmiffgpaa
open Go.RowKit
set_option maxHeartbeats 1000000 in
theorem decodes_walk (s : ByteArray) (w : World) (hs : s.size ≤ maxLen) :
    Calls Try.prog 4 #[.string s] w fun e w' => e = .returned (.bool true) ∧ Below w.heap.size w w' := by
  have hdec := fun (w : World) => decode_any s w hs
  have hdp := fun (w : World) => dp_any s w hs
  generalize decE (bs s) = E at *
  generalize decP (bs s) = R at *
  obtain ⟨k, i, v, n, S, D⟩ := R
  dsimp only at hdec hdp
  have HD1 : Hid _ := hdec
  have HD2 : Hid _ := hdp
  clear hdec hdp
  go_enter Try.func4, Try.ntmps4
  go_wp2_with fail
  refine (HD1.out _).mono ?_
  rintro e w1 ⟨sa, da, cs, cd, sb, so, db, dO, rfl, L, hb1⟩
  have LB := L.later (below_new w1 (Obj.cells #[Value.int IntKind.i64 k, Value.int IntKind.i64 i, Value.int IntKind.i64 v, Value.int IntKind.i64 n, Value.slice sa S.length cs, Value.slice da D.length cd] 25))
  have PKB := pkAt_new w1 k i v n (.slice sa S.length cs) (.slice da D.length cd)
  have HB1 : Hid (Below w.heap.size w w1) := hb1
  clear hb1 L
  go_wp2_with fail
  refine (HD2.out _).mono ?_
  rintro e w2 ⟨ra, rb, rc, rd, re, rf, rg, rh, rfl, LR, hb2⟩
  have PK2 := PKB.later hb2 (by simp)
  have L2 := LB.later hb2
  have hz2 : w1.heap.size < w2.heap.size := by have := hb2.size; simp at this; omega
  have HB2 : Hid (Below w.heap.size w w2) := below_then HB1.out (below_step hb2)
  clear hb2 PKB LB
  have M := L2.later (below_new w2 (Obj.cells #[Value.int IntKind.i64 k, Value.int IntKind.i64 i, Value.int IntKind.i64 v, Value.int IntKind.i64 n, Value.slice ra S.length rc, Value.slice rb D.length rd] 25))
  have MR := LR.later (below_new w2 (Obj.cells #[Value.int IntKind.i64 k, Value.int IntKind.i64 i, Value.int IntKind.i64 v, Value.int IntKind.i64 n, Value.slice ra S.length rc, Value.slice rb D.length rd] 25))
  have hsame := same17 k i v n k i v n S S D D sa da ra rb cs cd sb so db dO rc rd re rf rg rh _ M.hls M.hld M.hsa M.hda M.PS M.PD MR.hls MR.hld MR.hsa MR.hda MR.PS MR.PD
  rw [decide_eq_true ⟨rfl, rfl, rfl, rfl, rfl, rfl⟩] at hsame
  clear M MR L2 LR
  obtain ⟨c0, c1, c2, c3, c4, c5⟩ := id PK2
  go_wp2_with fail
  refine hsame.mono ?_
  rintro e w3 ⟨rfl, hb3⟩
  have HB3 : Hid (Below w.heap.size w w3) := below_then HB2.out (below_step hb3)
  clear hb3 hsame c0 c1 c2 c3 c4 c5 PK2
  go_wp2_with (go_at_call 14; refine (codes14 _).mono ?_; rintro e w4 ⟨rfl, hb4⟩)
  go_ret
  exact ⟨rfl, below_then HB3.out hb4⟩

section
open Go.ChangeShapes Go.WideShapes Go.ChangeAt Go.RowKit
open Go.ChangeMaps (open_string shut_string)
theorem own4 : ownKnob Try.prog.godebug = none := by kernel_rfl
theorem laidOut4 : laidOutB Try.prog = true := by kernel_rfl
set_option maxRecDepth 100000 in
theorem decodes_lifted (os : Os) (started : os.Started) (H : Type) (enc : TypeId × Value → H) :
    ReturnsInHanded {} Try.checked os 4 .any (Rows.codecDecodesSpec.pre6 enc Try.prog Try.f4 Rows.codecDecodesRow.domain false) (Rows.codecDecodesSpec.post enc Try.prog Try.f4 false true false false) := by
  refine returnsInHanded_of_change (C := Try.checked) own4 started (by kernel_rfl) Try.func4
    (ChangeSpec.witness6 (enc := enc) (C := Try.checked) false ⟨#[], #[.string ⟨#[]⟩], []⟩ 8 (by kernel_rfl) (by kernel_rfl) (by kernel_rfl) (by kernel_rfl)) ?_
  intro W base args ds gs before hval0 hW hcnd _
  have hval : ∀ (j : Nat) t v, Try.f4.params[j]? = some t → args[j]? = some v → Value.okWide Try.prog W .any base t v := hval0
  have hW' := hW
  obtain ⟨p, q, hA0, hV, rfl, hfz, hnd⟩ := hW
  have hA : DataW.TrodAll enc Try.prog W 0 (fun _ => true) true Try.f4.params.toList args.toList ds p := hA0
  rw [Try.params4] at hA hval
  obtain ⟨v0, vs0, d0, ds0, p0, q0, hargs, rfl, rfl, h0, r0⟩ := trodAll_cons hA
  obtain ⟨rfl, rfl, rfl⟩ := trodAll_nil r0
  obtain rfl : args = #[v0] := by cases args; simp_all
  obtain ⟨rfl, rfl⟩ := trodVars_none hV
  obtain ⟨s, rfl, rfl, rfl, hs⟩ := open_string Try.underlying9 (hval 0 9 v0 rfl rfl) h0
  clear hA0 hval0
  refine (decodes_walk s W hs).mono fun e W' ⟨he, bel⟩ => ?_
  subst he
  exact ⟨_, rfl, _, _, _, [], _, [], hW', trodAll_mk1 (shut_bool Try.underlying4 _), (trodAll_cons_mk (shut_string Try.underlying9 hs) trodAll_mk0), rfl, bel.frame _, fun h => by cases h⟩

theorem decodes_over : Rows.codecDecodesRow.holds Try.pinned (OpenSpec.ofChange Rows.codecDecodesSpec) :=
  OpenClaim.holds_of_wide 4 Try.f4 rfl rfl rfl rfl rfl rfl rfl ⟨rfl, rfl, rfl, rfl, rfl⟩ rfl rfl rfl rfl rfl (by kernel_rfl) Try.func4 (by kernel_rfl)
    (of_decide_eq_true (by kernel_rfl)) (by unfold Func.isWrapper; first | (rw [if_pos (by decide +kernel)]; kernel_rfl) | (rw [if_neg (by decide +kernel)]; exact ⟨rfl, rfl⟩))
    (fun os started H enc _ => decodes_lifted os started H enc)
end
theorem codecDecodes_holds : Rows.CodecDecodesSaid := decodes_over
#print axioms codecDecodes_holds
end Go.Proofs.Ytpagfnfmiffgpaa
