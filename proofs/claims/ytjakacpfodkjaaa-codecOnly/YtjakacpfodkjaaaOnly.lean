/- CodecOnly: for all bytes, what is read as a packet has just these bytes. No condition: every text. -/
import Derived.Test.YtjakacpfodkjaaaE
import Derived.Test.YtjakacpfodkjaaaK
import Derived.WalkKit
import Derived.ProofKit
import Derived.OpenShut
import Derived.ShutString
import Derived.ChangeOld
import Derived.Below
namespace Go.Proofs.Ytjakacpfodkjaaa
open Go.RowKit
set_option maxHeartbeats 1000000 in
theorem only_walk (s : ByteArray) (w : World) (hs : s.size ≤ maxLen) :
    Calls Try.prog 6 #[.string s] w fun e w' => e = .returned (.bool true) ∧ Below w.heap.size w w' := by
  have hdec := fun (w : World) => decode_any s w hs
  have h0 : decE (bs s) ≠ 0 → decP (bs s) = (0, 0, 0, 0, [], []) := decP_zero
  have h1 := @decE_read (bs s) (bs_byte s)
  generalize decE (bs s) = E at *
  generalize decP (bs s) = R at *
  obtain ⟨k, i, v, n, S, D⟩ := R
  dsimp only at hdec h1
  have HDEC : Hid _ := hdec
  clear hdec
  by_cases hE : E = 0
  · subst hE
    obtain ⟨hg, he⟩ := h1 rfl
    have hen : encS k i v n S D = s := by rw [encS, if_pos hg, he, strOfNums_bs]
    have HEN : Hid _ := hen
    have HG : Hid _ := hg
    clear h0 h1 hg he hen
    go_enter Try.func6, Try.ntmps6
    go_wp2_with fail
    refine (HDEC.out _).mono ?_
    rintro e w1 ⟨sa, da, cs, cd, sb, so, db, dO, rfl, L, hb1⟩
    have LB := L.later (below_new w1 (Obj.cells #[Value.int IntKind.i64 k, Value.int IntKind.i64 i, Value.int IntKind.i64 v, Value.int IntKind.i64 n, Value.slice sa S.length cs, Value.slice da D.length cd] 25))
    have PKB := pkAt_new w1 k i v n (.slice sa S.length cs) (.slice da D.length cd)
    have HB1 : Hid (Below w.heap.size w w1) := hb1
    clear hb1 L
    go_wp2_with fail
    refine (codes18 _).mono ?_
    rintro e w2 ⟨rfl, hb2⟩
    have PK2 := PKB.later hb2 (by simp)
    have L2 := LB.later hb2
    have HB2 : Hid (Below w.heap.size w w2) := below_then HB1.out (below_step hb2)
    clear hb2 PKB LB
    obtain ⟨c0, c1, c2, c3, c4, c5⟩ := id PK2
    have hen := encode_any k i v n S D sa da cs cd sb so db dO w2 L2
    rw [HEN.out, HG.out] at hen
    clear L2
    go_wp2_with (go_at_call 9; refine hen.mono ?_; rintro e w3 ⟨rfl, hb3⟩)
    go_ret
    exact ⟨rfl, below_then HB2.out hb3⟩
  · have hR := h0 hE
    simp only [Prod.mk.injEq] at hR
    obtain ⟨rfl, rfl, rfl, rfl, rfl, rfl⟩ := hR
    have hne : (E != 0) = true := by simpa using hE
    clear h0 h1 hE
    go_enter Try.func6, Try.ntmps6
    go_wp2_with fail
    refine (HDEC.out _).mono ?_
    rintro e w1 ⟨sa, da, cs, cd, sb, so, db, dO, rfl, L, hb1⟩
    have LB := L.later (below_new w1 (Obj.cells #[Value.int IntKind.i64 0, Value.int IntKind.i64 0, Value.int IntKind.i64 0, Value.int IntKind.i64 0, Value.slice sa 0 cs, Value.slice da 0 cd] 25))
    have HB1 : Hid (Below w.heap.size w w1) := hb1
    clear hb1 L
    have hsame := same19 0 0 0 0 0 0 0 0 [] [] [] [] sa da none none cs cd sb so db dO 0 0 0 0 0 0 _ LB.hls LB.hld LB.hsa LB.hda LB.PS LB.PD (by simp) (by simp) (by simp) (by simp) (fun i hi => absurd hi (by simp)) (fun i hi => absurd hi (by simp))
    have HS : Calls Try.prog 19 #[.agg #[.int .i64 0, .int .i64 0, .int .i64 0, .int .i64 0, .slice sa 0 cs, .slice da 0 cd], .agg #[.int .i64 0, .int .i64 0, .int .i64 0, .int .i64 0, .slice none 0 0, .slice none 0 0]] (w1.alloc (Obj.cells #[Value.int IntKind.i64 0, Value.int IntKind.i64 0, Value.int IntKind.i64 0, Value.int IntKind.i64 0, Value.slice sa 0 cs, Value.slice da 0 cd] 25)) fun e w' => e = .returned (.bool true) ∧ Below (w1.alloc (Obj.cells #[Value.int IntKind.i64 0, Value.int IntKind.i64 0, Value.int IntKind.i64 0, Value.int IntKind.i64 0, Value.slice sa 0 cs, Value.slice da 0 cd] 25)).heap.size (w1.alloc (Obj.cells #[Value.int IntKind.i64 0, Value.int IntKind.i64 0, Value.int IntKind.i64 0, Value.int IntKind.i64 0, Value.slice sa 0 cs, Value.slice da 0 cd] 25)) w' := hsame.mono fun _ _ h => ⟨h.1.trans (by simp), h.2⟩
    clear hsame LB
    go_wp2_with fail
    refine HS.mono ?_
    rintro e w2 ⟨rfl, hb2⟩
    have HB2 : Hid (Below w.heap.size w w2) := below_then HB1.out (below_step hb2)
    clear hb2
    go_wp2_with (go_at_call 18; refine (codes18 _).mono ?_; rintro e w3 ⟨rfl, hb3⟩)
    go_ret
    exact ⟨rfl, below_then HB2.out hb3⟩

section
open Go.ChangeShapes Go.WideShapes Go.ChangeAt Go.RowKit
open Go.ChangeMaps (open_string shut_string)
theorem own6 : ownKnob Try.prog.godebug = none := by kernel_rfl
theorem laidOut6 : laidOutB Try.prog = true := by kernel_rfl
set_option maxRecDepth 100000 in
theorem only_lifted (os : Os) (started : os.Started) (H : Type) (enc : TypeId × Value → H) :
    ReturnsInHanded {} Try.checked os 6 .any (Rows.codecOnlySpec.pre6 enc Try.prog Try.f6 Rows.codecOnlyRow.domain false) (Rows.codecOnlySpec.post enc Try.prog Try.f6 false true false false) := by
  refine returnsInHanded_of_change (C := Try.checked) own6 started (by kernel_rfl) Try.func6
    (ChangeSpec.witness6 (enc := enc) (C := Try.checked) false ⟨#[], #[.string ⟨#[]⟩], []⟩ 8 (by kernel_rfl) (by kernel_rfl) (by kernel_rfl) (by kernel_rfl)) ?_
  intro W base args ds gs before hval0 hW hcnd _
  have hval : ∀ (j : Nat) t v, Try.f6.params[j]? = some t → args[j]? = some v → Value.okWide Try.prog W .any base t v := hval0
  have hW' := hW
  obtain ⟨p, q, hA0, hV, rfl, hfz, hnd⟩ := hW
  have hA : DataW.TrodAll enc Try.prog W 0 (fun _ => true) true Try.f6.params.toList args.toList ds p := hA0
  rw [Try.params6] at hA hval
  obtain ⟨v0, vs0, d0, ds0, p0, q0, hargs, rfl, rfl, h0, r0⟩ := trodAll_cons hA
  obtain ⟨rfl, rfl, rfl⟩ := trodAll_nil r0
  obtain rfl : args = #[v0] := by cases args; simp_all
  obtain ⟨rfl, rfl⟩ := trodVars_none hV
  obtain ⟨s, rfl, rfl, rfl, hs⟩ := open_string Try.underlying9 (hval 0 9 v0 rfl rfl) h0
  clear hA0 hval0
  refine (only_walk s W hs).mono fun e W' ⟨he, bel⟩ => ?_
  subst he
  exact ⟨_, rfl, _, _, _, [], _, [], hW', trodAll_mk1 (shut_bool Try.underlying4 _), (trodAll_cons_mk (shut_string Try.underlying9 hs) trodAll_mk0), rfl, bel.frame _, fun h => by cases h⟩

theorem only_over : Rows.codecOnlyRow.holds Try.pinned (OpenSpec.ofChange Rows.codecOnlySpec) :=
  OpenClaim.holds_of_wide 6 Try.f6 rfl rfl rfl rfl rfl rfl rfl ⟨rfl, rfl, rfl, rfl, rfl⟩ rfl rfl rfl rfl rfl (by kernel_rfl) Try.func6 (by kernel_rfl)
    (of_decide_eq_true (by kernel_rfl)) (by unfold Func.isWrapper; first | (rw [if_pos (by decide +kernel)]; kernel_rfl) | (rw [if_neg (by decide +kernel)]; exact ⟨rfl, rfl⟩))
    (fun os started H enc _ => only_lifted os started H enc)
end
theorem codecOnly_holds : Rows.CodecOnlySaid := only_over
#print axioms codecOnly_holds
end Go.Proofs.Ytjakacpfodkjaaa
