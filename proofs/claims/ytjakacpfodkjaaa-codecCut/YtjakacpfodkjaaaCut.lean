/- CodecCut: for every packet, a beginning of its bytes, that is not all of them, is no packet. No condition: every packet that can be read as data, every number. -/
import Derived.Test.YtjakacpfodkjaaaK
import Derived.WalkKit
import Derived.ProofKit
import Derived.OpenShut
import Derived.ChangeOld
import Derived.Below
namespace Go.Proofs.Ytjakacpfodkjaaa
open Go.RowKit
set_option maxHeartbeats 400000 in
theorem pick_any (k n : Int) (w : World) (_hk1 : -9223372036854775808 ≤ k) (_hk2 : k ≤ 9223372036854775807) (hn1 : 1 ≤ n) (hn2 : n ≤ 1000) :
    Calls Try.prog 20 #[.int .i64 k, .int .i64 n] w fun e w' => ∃ r : Nat, e = .returned (.int .i64 r) ∧ (r : Int) < n ∧ w = w' := by
  have hb1 := Int.tmod_lt_of_pos k (show 0 < n by omega)
  have hb2 := Int.lt_tmod_of_pos k (show 0 < n by omega)
  by_cases h : k.tmod n < 0
  · obtain ⟨r, hr⟩ := Int.eq_ofNat_of_zero_le (show 0 ≤ k.tmod n + n by omega)
    have HR : Hid (k.tmod n + n = (r : Int)) := hr
    have hrn : (r : Int) < n := by omega
    clear hr
    go_enter Try.func20, Try.ntmps20
    go_wp2
    go_ret
    exact ⟨r, by rw [← HR.out]; rfl, hrn, rfl⟩
  · obtain ⟨r, hr⟩ := Int.eq_ofNat_of_zero_le (show 0 ≤ k.tmod n by omega)
    have HR : Hid (k.tmod n = (r : Int)) := hr
    have hrn : (r : Int) < n := by omega
    clear hr
    go_enter Try.func20, Try.ntmps20
    go_wp2
    go_ret
    exact ⟨r, by rw [← HR.out]; rfl, hrn, rfl⟩
theorem bs_take (s : ByteArray) (m : Nat) : bs (s.extract 0 m) = (bs s).take m := by
  unfold bs
  rw [ByteArray.data_extract, Array.toList_extract, List.extract_eq_take_drop, ← List.map_take]
  simp
set_option maxHeartbeats 1000000 in
theorem cut_walk (k i v n : Int) (S : List (Int × Int)) (D : List Int) (sa da : Option Addr) (cs cd sb so db dO : Nat) (a : Int) (w : World) (L : Lies w S D sa da sb so db dO) (hw : (Lit.int .i64 a).wf = true) :
    Calls Try.prog 7 #[.agg #[.int .i64 k, .int .i64 i, .int .i64 v, .int .i64 n, .slice sa S.length cs, .slice da D.length cd], .int .i64 a] w fun e w' => e = .returned (.bool true) ∧ Below w.heap.size w w' := by
  have ha : -9223372036854775808 ≤ a ∧ a ≤ 9223372036854775807 := by simpa [Lit.wf, IntKind.min, IntKind.max, IntKind.signed, IntKind.bits] using hw
  obtain ⟨ha1, ha2⟩ := ha
  have hbn := below_new w (.cells #[.int .i64 k, .int .i64 i, .int .i64 v, .int .i64 n, .slice sa S.length cs, .slice da D.length cd] 25)
  have L0 := L.later hbn
  have HBN : Hid _ := hbn
  have hen := encode_any k i v n S D sa da cs cd sb so db dO _ L0
  clear hbn L hw
  by_cases hg : goodN k i v n S D = 0
  · have hE : encS k i v n S D = strOfNums (enc k i v n S D) := by rw [encS, if_pos hg]
    have hby := enc_byte k i v n S D
    have hlen := enc_length k i v n S D
    obtain ⟨_, _, q3, q4⟩ := good_lists hg
    have hsz : (strOfNums (enc k i v n S D)).size = 17 + 8 * S.length + D.length := by rw [strOfNums_size, hlen]
    have hdec : ∀ (r : Nat) (w : World), r < (strOfNums (enc k i v n S D)).size → Calls Try.prog 15 #[.string ((strOfNums (enc k i v n S D)).extract 0 r)] w fun e w' => ∃ (y0 y1 y2 y3 : Int) (y4 y5 : Option Addr) (z0 z1 z2 z3 : Nat), e = .returned (.tuple #[.agg #[.int .i64 y0, .int .i64 y1, .int .i64 y2, .int .i64 y3, .slice y4 z0 z1, .slice y5 z2 z3], .int .i64 1]) ∧ Below w.heap.size w w' := by
      intro r w hr
      have hc : decE (bs ((strOfNums (enc k i v n S D)).extract 0 r)) = 1 := by
        rw [bs_take, bs_strOfNums _ hby]
        refine dec_cut hg (t := (enc k i v n S D).drop r) ?_ (List.take_append_drop _ _)
        intro h
        have := congrArg List.length h
        rw [strOfNums_size] at hr
        rw [List.length_drop] at this
        simp at this
        omega
      have hd := decode_any ((strOfNums (enc k i v n S D)).extract 0 r) w (by
        have h1 := bs_take (strOfNums (enc k i v n S D)) r
        have h2 := congrArg List.length h1
        rw [bs_length, List.length_take, bs_length] at h2
        unfold maxLen; omega)
      rw [hc] at hd
      exact hd.mono fun e w' ⟨_, _, _, _, _, _, _, _, he, _, hb⟩ => ⟨_, _, _, _, _, _, _, _, _, _, he, hb⟩
    rw [hE, hg] at hen
    generalize strOfNums (enc k i v n S D) = s at *
    have hs1 : 17 ≤ s.size := by omega
    have hs2 : s.size ≤ 1000 := by omega
    have hne : s.toList.isEmpty = false := by
      rw [ByteArray.toList_eq, List.isEmpty_eq_false_iff]
      intro h
      have := congrArg List.length h
      simp at this
      have h2 : s.size = 0 := by rw [this]; rfl
      omega
    have HD : Hid _ := hdec
    clear hE hby hlen q3 q4 hsz hdec
    go_enter Try.func7, Try.ntmps7
    go_wp2_with fail
    refine hen.mono ?_
    rintro e w1 ⟨rfl, hb1⟩
    have HB1 : Hid (Below w.heap.size w w1) := below_then HBN.out hb1
    clear hb1 L0 HBN hen
    go_wp2_with fail
    refine (codes18 _).mono ?_
    rintro e w2 ⟨rfl, hb2⟩
    have HB2 : Hid (Below w.heap.size w w2) := below_then HB1.out hb2
    clear hb2 HB1
    go_wp2_with fail
    refine (pick_any a _ _ ha1 ha2 (by omega) (by omega)).mono ?_
    rintro e w3 ⟨r, rfl, hr, rfl⟩
    have hr' : r < s.size := by omega
    go_wp2_with fail
    refine (HD.out r _ hr').mono ?_
    rintro e w4 ⟨y0, y1, y2, y3, y4, y5, z0, z1, z2, z3, rfl, hb4⟩
    have HB4 : Hid (Below w.heap.size w w4) := below_then HB2.out hb4
    have hs4 := HB4.out.size
    clear hb4 HB2
    go_wp2
    go_ret
    exact ⟨rfl, HB4.out.alloc hs4 _⟩
  · have hE : encS k i v n S D = ⟨#[]⟩ := by rw [encS, if_neg hg]
    rw [hE] at hen
    generalize goodN k i v n S D = G at *
    have hG : (G != 0) = true := by simpa using hg
    clear hg hE
    go_enter Try.func7, Try.ntmps7
    go_wp2_with fail
    refine hen.mono ?_
    rintro e w1 ⟨rfl, hb1⟩
    have HB1 : Hid (Below w.heap.size w w1) := below_then HBN.out hb1
    clear hb1 L0 HBN hen
    go_wp2_with (go_at_call 18; refine (codes18 _).mono ?_; rintro e w3 ⟨rfl, hb3⟩)
    go_ret
    exact ⟨rfl, below_then HB1.out hb3⟩

section
open Go.ChangeShapes Go.WideShapes Go.ChangeAt Go.RowKit
theorem own7 : ownKnob Try.prog.godebug = none := by kernel_rfl
theorem laidOut7 : laidOutB Try.prog = true := by kernel_rfl
set_option maxRecDepth 100000 in
theorem cut_lifted (os : Os) (started : os.Started) (H : Type) (enc : TypeId × Value → H) :
    ReturnsInHanded {} Try.checked os 7 .any (Rows.codecCutSpec.pre6 enc Try.prog Try.f7 Rows.codecCutRow.domain false) (Rows.codecCutSpec.post enc Try.prog Try.f7 false true false false) := by
  refine returnsInHanded_of_change (C := Try.checked) own7 started (by kernel_rfl) Try.func7
    (ChangeSpec.witness6 (enc := enc) (C := Try.checked) false ⟨#[], #[.agg #[.int .i64 0, .int .i64 0, .int .i64 0, .int .i64 0, .slice none 0 0, .slice none 0 0], .int .i64 0], []⟩ 8 (by kernel_rfl) (by kernel_rfl) (by kernel_rfl) (by kernel_rfl)) ?_
  intro W base args ds gs before hval0 hW hcnd _
  have hval : ∀ (j : Nat) t v, Try.f7.params[j]? = some t → args[j]? = some v → Value.okWide Try.prog W .any base t v := hval0
  have hW' := hW
  obtain ⟨p, q, hA0, hV, rfl, hfz, hnd⟩ := hW
  have hA : DataW.TrodAll enc Try.prog W 0 (fun _ => true) true Try.f7.params.toList args.toList ds p := hA0
  rw [Try.params7] at hA hval
  obtain ⟨v0, vs0, d0, ds0, p0, q0, hargs, rfl, rfl, h0, r0⟩ := trodAll_cons hA
  obtain ⟨v1, vs1, d1, ds1, p1, q1, rfl, rfl, rfl, h1, r1⟩ := trodAll_cons r0
  obtain ⟨rfl, rfl, rfl⟩ := trodAll_nil r1
  obtain rfl : args = #[v0, v1] := by cases args; simp_all
  obtain ⟨rfl, rfl⟩ := trodVars_none hV
  have lt0 : ∀ x ∈ p0, x.block < W.heap.size := by obtain ⟨m, hm⟩ := h0; exact DataW.trod_lt m _ _ _ hm
  obtain ⟨k, i, x, n, S, D, sa, da, cs, cd, sb, so, db, dO, e0, L⟩ := open_packet (hval 0 25 v0 rfl rfl) h0
  obtain ⟨a1, rfl, rfl, rfl, w1⟩ := open_int Try.underlying3 (hval 1 3 v1 rfl rfl) h1
  clear hA0 hval0
  have hwalk := cut_walk k i x n S D sa da cs cd sb so db dO a1 W L w1
  rw [← e0] at hwalk
  refine hwalk.mono fun e W' ⟨he, bel⟩ => ?_
  subst he
  exact ⟨_, rfl, _, _, _, [], _, [], hW', trodAll_mk1 (shut_bool Try.underlying4 _), (trodAll_cons_mk (Below.trod laidOut7 (by kernel_rfl) (of_decide_eq_true (by kernel_rfl)) h0 bel lt0) (trodAll_cons_mk (shut_int Try.underlying3 w1) trodAll_mk0)), rfl, bel.frame _, fun h => by cases h⟩

theorem cut_over : Rows.codecCutRow.holds Try.pinned (OpenSpec.ofChange Rows.codecCutSpec) :=
  OpenClaim.holds_of_wide 7 Try.f7 rfl rfl rfl rfl rfl rfl rfl ⟨rfl, rfl, rfl, rfl, rfl⟩ rfl rfl rfl rfl rfl (by kernel_rfl) Try.func7 (by kernel_rfl)
    (of_decide_eq_true (by kernel_rfl)) (by unfold Func.isWrapper; first | (rw [if_pos (by decide +kernel)]; kernel_rfl) | (rw [if_neg (by decide +kernel)]; exact ⟨rfl, rfl⟩))
    (fun os started H enc _ => cut_lifted os started H enc)
end
theorem codecCut_holds : Rows.CodecCutSaid := cut_over
#print axioms codecCut_holds
end Go.Proofs.Ytjakacpfodkjaaa
