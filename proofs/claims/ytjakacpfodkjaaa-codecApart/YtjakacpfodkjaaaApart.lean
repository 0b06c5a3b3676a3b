/- CodecApart: for all pairs of packets, right ones have the same bytes just if they are alike. No condition: every pair of packets that can be read as data, also where they share memory. -/
import Derived.Test.YtjakacpfodkjaaaE
import Derived.Test.YtjakacpfodkjaaaN
import Derived.WalkKit
import Derived.ProofKit
import Derived.OpenShut
import Derived.ChangeOld
import Derived.Below
namespace Go.Proofs.Ytjakacpfodkjaaa
open Go.RowKit
set_option maxHeartbeats 1000000 in
theorem apart_walk (k i v n k' i' v' n' : Int) (S S' : List (Int × Int)) (D D' : List Int) (sa da sa' da' : Option Addr) (cs cd sb so db dO cs' cd' sb' so' db' dO' : Nat) (w : World)
    (L : Lies w S D sa da sb so db dO) (L' : Lies w S' D' sa' da' sb' so' db' dO') :
    Calls Try.prog 8 #[.agg #[.int .i64 k, .int .i64 i, .int .i64 v, .int .i64 n, .slice sa S.length cs, .slice da D.length cd], .agg #[.int .i64 k', .int .i64 i', .int .i64 v', .int .i64 n', .slice sa' S'.length cs', .slice da' D'.length cd']] w
      fun e w' => e = .returned (.bool true) ∧ Below w.heap.size w w' := by
  have hb2 : ∀ o o', Below w.heap.size w ((w.alloc o).alloc o') := fun o o' => (below_new w o).alloc (by simp) o'
  have HB0 : Hid (∀ o o', Below w.heap.size w ((w.alloc o).alloc o')) := hb2
  clear hb2
  go_enter Try.func8, Try.ntmps8
  go_wp2_with fail
  refine (encode_any k i v n S D sa da cs cd sb so db dO _ (L.later (HB0.out _ _))).mono ?_
  rintro e w1 ⟨rfl, hb1⟩
  obtain ⟨hc1, hf1⟩ := bcell hb1
  have HB1 : Hid (Below w.heap.size w w1) := below_then (HB0.out _ _) hb1
  have hz1 : w.heap.size < w1.heap.size := by have := hb1.size; simp at this; omega
  have hz1' : w.heap.size + 1 < w1.heap.size := by have := hb1.size; simp at this; omega
  have M := L.later HB1.out
  have M' := L'.later HB1.out
  clear hb1 L L'
  go_wp2_with fail
  refine (encode_any k' i' v' n' S' D' sa' da' cs' cd' sb' so' db' dO' _ M').mono ?_
  rintro e w2 ⟨rfl, hb2⟩
  obtain ⟨hc2, hf2⟩ := bcell hb2
  have HB2 : Hid (Below w.heap.size w w2) := below_then HB1.out hb2
  have N := M.later hb2
  have N' := M'.later hb2
  clear hb2 M M'
  have hG := @encS_inj k i v n k' i' v' n' S S' D D'
  have HG : Hid _ := hG
  clear hG
  generalize goodN k i v n S D = g at *
  generalize goodN k' i' v' n' S' D' = g' at *
  generalize encS k i v n S D = s at *
  generalize encS k' i' v' n' S' D' = s' at *
  by_cases h1 : g = 0
  · by_cases h2 : g' = 0
    · subst h1; subst h2
      have hss := HG.out rfl rfl
      have hsame := same19 k i v n k' i' v' n' S S' D D' sa da sa' da' cs cd sb so db dO cs' cd' sb' so' db' dO' w2 N.hls N.hld N.hsa N.hda N.PS N.PD N'.hls N'.hld N'.hsa N'.hda N'.PS N'.PD
      clear N N' HG
      by_cases hP : s = s'
      · rw [decide_eq_true (hss.1 hP)] at hsame
        subst hP
        clear hss
        have HS := hsame
        clear hsame
        go_wp2_with (first | (go_at_call 19; refine HS.mono ?_; rintro e w3 ⟨rfl, hb3⟩; have HB3 := below_then HB2.out hb3; clear hb3) | (go_at_call 18; refine (codes18 _).mono ?_; rintro e w4 ⟨rfl, hb4⟩))
        go_ret
        exact ⟨rfl, below_then HB3 hb4⟩
      · rw [decide_eq_false (fun h => hP (hss.2 h))] at hsame
        have hb := str_ne hP
        clear hss hP
        have HS := hsame
        clear hsame
        go_wp2_with (first | (go_at_call 19; refine HS.mono ?_; rintro e w3 ⟨rfl, hb3⟩; have HB3 := below_then HB2.out hb3; clear hb3) | (go_at_call 18; refine (codes18 _).mono ?_; rintro e w4 ⟨rfl, hb4⟩))
        go_ret
        exact ⟨rfl, below_then HB3 hb4⟩
    · have hb : (g' != 0) = true := by simpa using h2
      subst h1
      clear h2 N N' HG
      go_wp2_with (go_at_call 18; refine (codes18 _).mono ?_; rintro e w4 ⟨rfl, hb4⟩)
      go_ret
      exact ⟨rfl, below_then HB2.out hb4⟩
  · have hb : (g != 0) = true := by simpa using h1
    clear h1 N N' HG
    go_wp2_with (go_at_call 18; refine (codes18 _).mono ?_; rintro e w4 ⟨rfl, hb4⟩)
    go_ret
    exact ⟨rfl, below_then HB2.out hb4⟩

section
open Go.ChangeShapes Go.WideShapes Go.ChangeAt Go.RowKit
theorem own8 : ownKnob Try.prog.godebug = none := by kernel_rfl
theorem laidOut8 : laidOutB Try.prog = true := by kernel_rfl
set_option maxRecDepth 100000 in
theorem apart_lifted (os : Os) (started : os.Started) (H : Type) (enc : TypeId × Value → H) :
    ReturnsInHanded {} Try.checked os 8 .any (Rows.codecApartSpec.pre6 enc Try.prog Try.f8 Rows.codecApartRow.domain false) (Rows.codecApartSpec.post enc Try.prog Try.f8 false true false false) := by
  refine returnsInHanded_of_change (C := Try.checked) own8 started (by kernel_rfl) Try.func8
    (ChangeSpec.witness6 (enc := enc) (C := Try.checked) false ⟨#[], #[.agg #[.int .i64 0, .int .i64 0, .int .i64 0, .int .i64 0, .slice none 0 0, .slice none 0 0], .agg #[.int .i64 0, .int .i64 0, .int .i64 0, .int .i64 0, .slice none 0 0, .slice none 0 0]], []⟩ 8 (by kernel_rfl) (by kernel_rfl) (by kernel_rfl) (by kernel_rfl)) ?_
  intro W base args ds gs before hval0 hW hcnd _
  have hval : ∀ (j : Nat) t v, Try.f8.params[j]? = some t → args[j]? = some v → Value.okWide Try.prog W .any base t v := hval0
  have hW' := hW
  obtain ⟨p, q, hA0, hV, rfl, hfz, hnd⟩ := hW
  have hA : DataW.TrodAll enc Try.prog W 0 (fun _ => true) true Try.f8.params.toList args.toList ds p := hA0
  rw [Try.params8] at hA hval
  obtain ⟨v0, vs0, d0, ds0, p0, q0, hargs, rfl, rfl, h0, r0⟩ := trodAll_cons hA
  obtain ⟨v1, vs1, d1, ds1, p1, q1, rfl, rfl, rfl, h1, r1⟩ := trodAll_cons r0
  obtain ⟨rfl, rfl, rfl⟩ := trodAll_nil r1
  obtain rfl : args = #[v0, v1] := by cases args; simp_all
  obtain ⟨rfl, rfl⟩ := trodVars_none hV
  have lt0 : ∀ x ∈ p0, x.block < W.heap.size := by obtain ⟨m, hm⟩ := h0; exact DataW.trod_lt m _ _ _ hm
  have lt1 : ∀ x ∈ p1, x.block < W.heap.size := by obtain ⟨m, hm⟩ := h1; exact DataW.trod_lt m _ _ _ hm
  obtain ⟨k, i, x, n, S, D, sa, da, cs, cd, sb, so, db, dO, e0, L⟩ := open_packet (hval 0 25 v0 rfl rfl) h0
  obtain ⟨k', i', x', n', S', D', sa', da', cs', cd', sb', so', db', dO', e1, L'⟩ := open_packet (hval 1 25 v1 rfl rfl) h1
  clear hA0 hval0
  have hwalk := apart_walk k i x n k' i' x' n' S S' D D' sa da sa' da' cs cd sb so db dO cs' cd' sb' so' db' dO' W L L'
  rw [← e0, ← e1] at hwalk
  refine hwalk.mono fun e W' ⟨he, bel⟩ => ?_
  subst he
  exact ⟨_, rfl, _, _, _, [], _, [], hW', trodAll_mk1 (shut_bool Try.underlying4 _), (trodAll_cons_mk (Below.trod laidOut8 (by kernel_rfl) (of_decide_eq_true (by kernel_rfl)) h0 bel lt0) (trodAll_cons_mk (Below.trod laidOut8 (by kernel_rfl) (of_decide_eq_true (by kernel_rfl)) h1 bel lt1) trodAll_mk0)), rfl, bel.frame _, fun h => by cases h⟩

theorem apart_over : Rows.codecApartRow.holds Try.pinned (OpenSpec.ofChange Rows.codecApartSpec) :=
  OpenClaim.holds_of_wide 8 Try.f8 rfl rfl rfl rfl rfl rfl rfl ⟨rfl, rfl, rfl, rfl, rfl⟩ rfl rfl rfl rfl rfl (by kernel_rfl) Try.func8 (by kernel_rfl)
    (of_decide_eq_true (by kernel_rfl)) (by unfold Func.isWrapper; first | (rw [if_pos (by decide +kernel)]; kernel_rfl) | (rw [if_neg (by decide +kernel)]; exact ⟨rfl, rfl⟩))
    (fun os started H enc _ => apart_lifted os started H enc)
end
theorem codecApart_holds : Rows.CodecApartSaid := apart_over
#print axioms codecApart_holds
end Go.Proofs.Ytjakacpfodkjaaa
