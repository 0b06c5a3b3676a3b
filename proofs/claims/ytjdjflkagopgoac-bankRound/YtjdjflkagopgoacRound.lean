/- BankRound: for every bank, what is bonded, unbonded and paid again is as it was. No condition. -/
import Derived.Test.YtjdjflkagopgoacR
import Derived.Test.YtjdjflkagopgoacP
import Derived.Test.YtjdjflkagopgoacO
import Derived.WalkKit
import Derived.ProofKit
import Derived.OpenShut
import Derived.ChangeOld
import Derived.Below
namespace Go.Proofs.Ytjdjflkagopgoac
open Go.RowKit
theorem round_walk (b : Bk) (d n : Int) (w : World) : Calls Try.prog 4 #[.agg #[.int .i64 b.f0, .int .i64 b.f1, .int .i64 b.f2, .int .i64 b.f3, .int .i64 b.bo, .int .i64 b.wa, .int .i64 b.bu], .int .i64 d, .int .i64 n] w fun e w' => e = .returned (.bool true) ∧ Below w.heap.size w w' := by
  by_cases h : (bondR b d n).2 = 0
  · obtain ⟨h1, h2⟩ := round_back h
    have hB := bond_any b d n
    have hU := unbond_any (bondR b d n).1 n
    have hP := pay_any (unbondR (bondR b d n).1 n).1 d n
    rw [h] at hB
    rw [h1] at hU
    rw [h2] at hP
    refine round_yes b _ _ d n w hB hU hP ?_
    intro w
    rw [eqB]
    simp
  · exact round_no b _ d n _ w h (bond_any b d n)
section
open Go.ChangeShapes Go.WideShapes Go.ChangeAt Go.RowKit
theorem ownbankRound : ownKnob Try.prog.godebug = none := by kernel_rfl
theorem laidOutbankRound : laidOutB Try.prog = true := by kernel_rfl
set_option maxRecDepth 100000 in
theorem bankRound_lifted (os : Os) (started : os.Started) (H : Type) (enc : TypeId × Value → H) :
    ReturnsInHanded {} Try.checked os 4 .any (Rows.bankRoundSpec.pre6 enc Try.prog Try.f4 Rows.bankRoundRow.domain false) (Rows.bankRoundSpec.post enc Try.prog Try.f4 false true false false) := by
  refine returnsInHanded_of_change (C := Try.checked) ownbankRound started (by kernel_rfl) Try.func4
    (ChangeSpec.witness6 (enc := enc) (C := Try.checked) false ⟨#[], #[.agg #[.int .i64 0, .int .i64 0, .int .i64 0, .int .i64 0, .int .i64 0, .int .i64 0, .int .i64 0], .int .i64 0, .int .i64 0], []⟩ 8 (by kernel_rfl) (by kernel_rfl) (by kernel_rfl) (by kernel_rfl)) ?_
  intro W base args ds gs before hval0 hW hcnd _
  have hval : ∀ (j : Nat) t v, Try.f4.params[j]? = some t → args[j]? = some v → Value.okWide Try.prog W .any base t v := hval0
  have hW' := hW
  obtain ⟨p, q, hA0, hV, rfl, hfz, hnd⟩ := hW
  have hA : DataW.TrodAll enc Try.prog W 0 (fun _ => true) true Try.f4.params.toList args.toList ds p := hA0
  rw [Try.params4] at hA hval
  obtain ⟨v0, vs0, d0, ds0, p0, q0, hargs, rfl, rfl, h0, r0⟩ := trodAll_cons hA
  obtain ⟨v1, vs1, d1, ds1, p1, q1, rfl, rfl, rfl, h1, r1⟩ := trodAll_cons r0
  obtain ⟨v2, vs2, d2, ds2, p2, q2, rfl, rfl, rfl, h2, r2⟩ := trodAll_cons r1
  obtain ⟨rfl, rfl, rfl⟩ := trodAll_nil r2
  obtain rfl : args = #[v0, v1, v2] := by cases args; simp_all
  obtain ⟨rfl, rfl⟩ := trodVars_none hV
  have lt0 : ∀ x ∈ p0, x.block < W.heap.size := by obtain ⟨m, hm⟩ := h0; exact DataW.trod_lt m _ _ _ hm
  have lt1 : ∀ x ∈ p1, x.block < W.heap.size := by obtain ⟨m, hm⟩ := h1; exact DataW.trod_lt m _ _ _ hm
  have lt2 : ∀ x ∈ p2, x.block < W.heap.size := by obtain ⟨m, hm⟩ := h2; exact DataW.trod_lt m _ _ _ hm
  obtain ⟨b0, b1, b2, b3, b4, b5, b6, e0⟩ := open_bank (hval 0 24 v0 rfl rfl) h0
  obtain ⟨x1, e1⟩ := open_num (hval 1 3 v1 rfl rfl) h1
  obtain ⟨x2, e2⟩ := open_num (hval 2 3 v2 rfl rfl) h2
  clear hA0 hval0
  have hwalk := round_walk ⟨b0, b1, b2, b3, b4, b5, b6⟩ x1 x2 W
  simp only [← e0, ← e1, ← e2] at hwalk
  refine hwalk.mono fun e W' ⟨he, bel⟩ => ?_
  subst he
  exact ⟨_, rfl, _, _, _, [], _, [], hW', trodAll_mk1 (shut_bool Try.underlying4 _), (trodAll_cons_mk (Below.trod laidOutbankRound (by kernel_rfl) (of_decide_eq_true (by kernel_rfl)) h0 bel lt0) (trodAll_cons_mk (Below.trod laidOutbankRound (by kernel_rfl) (of_decide_eq_true (by kernel_rfl)) h1 bel lt1) (trodAll_cons_mk (Below.trod laidOutbankRound (by kernel_rfl) (of_decide_eq_true (by kernel_rfl)) h2 bel lt2) trodAll_mk0))), rfl, bel.frame _, fun h => by cases h⟩
theorem bankRound_over : Rows.bankRoundRow.holds Try.pinned (OpenSpec.ofChange Rows.bankRoundSpec) :=
  OpenClaim.holds_of_wide 4 Try.f4 rfl rfl rfl rfl rfl rfl rfl ⟨rfl, rfl, rfl, rfl, rfl⟩ rfl rfl rfl rfl rfl (by kernel_rfl) Try.func4 (by kernel_rfl)
    (of_decide_eq_true (by kernel_rfl)) (by unfold Func.isWrapper; first | (rw [if_pos (by decide +kernel)]; kernel_rfl) | (rw [if_neg (by decide +kernel)]; exact ⟨rfl, rfl⟩))
    (fun os started H enc _ => bankRound_lifted os started H enc)
end
theorem bankRound_holds : Rows.BankRoundSaid := bankRound_over
#print axioms bankRound_holds
end Go.Proofs.Ytjdjflkagopgoac
