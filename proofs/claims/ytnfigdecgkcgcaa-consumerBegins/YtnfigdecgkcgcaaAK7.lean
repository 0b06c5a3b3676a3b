/- Parts of the proof: KRB. -/
import Derived.Test.YtnfigdecgkcgcaaRows
import Derived.Test.YtnfigdecgkcgcaaAK6
set_option maxRecDepth 100000
namespace Go.Proofs.Ytnfigdecgkcgcaa.Kc
open Go.RowKit Pv
set_option maxHeartbeats 2000000 in
theorem lpowers_rep (l : List (Int × Int)) (v : Value) (P : Nat → Prop) (w : World) (h : Rep P w v 2 16 (pwC l)) :
    Calls Try.prog 25 #[v] w fun e w' => ∃ u, e = .returned u ∧ Rep (fun b => w.heap.size ≤ b) w' u 2 16 (pwC l) ∧ Below w.heap.size w w' := by
  obtain ⟨i0, hi, hz0, hz1, hz2⟩ := info_parts infoPw2
  obtain ⟨A, C, rfl, hs, hn, -, -⟩ := h.open (pwC_length _) (by decide)
  have hc := h.cellsOf rfl
  have bT : 0 + l.length ≤ maxLen := by unfold maxLen; omega
  have HC := hide hc
  clear hc h
  go_enter Try.func25, Try.ntmps25
  go_wp2_with (at_builtin; refine wpList_app rfl _ _ 22 rfl w.heap.size 61 i0 _ 2 16 Try.underlying22 hi hz0 hz1 hz2 rfl (by decide) (.slice none 0 0) 0 [] rfl (World.ownsRow_nil _ _ _ _) A l.length C (pwC l) rfl (pwC_length _) hn HC.out (one_pws _) bT (by omega) (Nat.le_refl _) ?_; intro A1 C1 w1 ho hg1; rw [Nat.zero_add, List.nil_append] at ho; have HO := hide ho; have HG := hide hg1; clear ho hg1)
  go_ret
  exact ⟨_, rfl, Rep.own HO.out hs, (Below.refl _ w).grown HG.out (Nat.le_refl _) (fun k hk => by cases hk)⟩
attribute [local go_sem ↓] loadC_eq storeC_eq
set_option maxHeartbeats 2000000 in
theorem rcbegin_any (l : List (Int × Int)) (v : Value) (id now : Int) (P : Nat → Prop) (w : World) (h : Rep P w v 2 16 (pwC l)) :
    Calls Try.prog 26 #[v, .int .i64 id, .int .i64 now] w (AnsC1 P w (beginC l id now) 1) := by
  obtain ⟨i0, hi, hz0, hz1, hz2⟩ := info_parts infoPw2
  have HH := hide h
  obtain ⟨A, C, rfl, hs, hn, -, -⟩ := h.open (pwC_length _) (by decide)
  have bT : 0 + l.length ≤ maxLen := by unfold maxLen; omega
  clear h
  go_enter Try.func26, Try.ntmps26
  go_upto_region 1 with fail
  change Code.wp Try.prog _ _ _ (w.alloc (.cells Z22 33))
  have R0 : CAt 33 (w.alloc (.cells Z22 33)) w.heap.size Z22 := CAt.new _ w _
  have B0 : Below w.heap.size w (w.alloc (.cells Z22 33)) := (Below.refl _ w).alloc (Nat.le_refl _) _
  have hsz : (w.alloc (.cells Z22 33)).heap.size = w.heap.size + 1 := by simp
  generalize w.alloc (.cells Z22 33) = w0 at *
  have hc := (HH.out.over B0).cellsOf rfl
  have hn0 : ¬ New P w 1 w.heap.size := by have := new_no (P := P) (w := w) (k := 1) (j := 0) (by omega); simpa using this
  have HX := hide (show _ ∧ _ ∧ _ ∧ _ ∧ _ from ⟨R0, B0, hsz, hn0, hc⟩)
  clear R0 B0 hsz hn0 hc
  go_wp2_with (at_builtin; refine wpList_app rfl _ _ 22 rfl w0.heap.size 61 i0 _ 2 16 Try.underlying22 hi hz0 hz1 hz2 rfl (by decide) (.slice none 0 0) 0 [] rfl (World.ownsRow_nil _ _ _ _) A l.length C (pwC l) rfl (pwC_length _) hn HX.out.2.2.2.2 (one_pws _) bT (by omega) (Nat.le_refl _) ?_; intro A1 C1 w1 ho hg1; rw [Nat.zero_add, List.nil_append] at ho; have hb1 : Below w0.heap.size w0 w1 := (Below.refl _ w0).grown hg1 (Nat.le_refl _) (fun k hk => by cases hk); have R1 := HX.out.1.over hb1; have B1 := HX.out.2.1.trans (hb1.mono HX.out.2.1.size); have hu' : Rep (New P w 1) w1 (.slice A1 l.length C1) 2 16 (pwC l) := (Rep.own ho hs).mono (fun b _ hb => .inr (by have := HX.out.2.2.1; omega)); rw [Nat.zero_add]; have hci : CIn (New P w 1) w1 (beginC l id now) ⟨.slice A1 l.length C1, .slice none 0 0, .slice none 0 0, .slice none 0 0, .slice none 0 0⟩ := ⟨hu', KRep.nil _ _, Rep.nil _ _ _ _, RepC.nil _ _ _ _, RepC.nil _ _ _ _⟩; have s1 := cs_store R1 Z22_size (csC_size (beginC l id now) ⟨.slice A1 l.length C1, .slice none 0 0, .slice none 0 0, .slice none 0 0, .slice none 0 0⟩) (cs_one hci); rw [csC_begin] at s1; have HY := hide (show _ ∧ _ ∧ _ from ⟨R1, B1, hci⟩); clear R1 B1 hci ho hg1 hu' hb1)
  exact cs_end1 Try.results26 HY.out.1 Z22_size HY.out.2.1 (Nat.le_refl _) (beginC l id now) _ HX.out.2.2.2.1 HY.out.2.2 _ rfl rfl
end Go.Proofs.Ytnfigdecgkcgcaa.Kc

