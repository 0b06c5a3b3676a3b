/- Parts of the proof: KRM. -/
import Derived.Test.YtdkalcnlncjgiaaRows
import Derived.Test.YtdkalcnlncjgiaaBK6
import Derived.Test.YtdkalcnlncjgiaaBK18
set_option maxRecDepth 100000
namespace Go.Proofs.Ytdkalcnlncjgiaa.Kc
open Go.RowKit Pv
attribute [local go_sem ↓] loadC_eq storeC_eq
set_option maxHeartbeats 4000000 in
theorem rcremove_any (c : Cs) (v : CsV) (P : Nat → Prop) (w : World) (hp : CIn P w c v) (h80 : c.pd.length * 80 ≤ 140737488351232) (h16 : c.rp.length * 16 ≤ 168884986026393) :
    Calls Try.prog 10 #[.agg (csC c v)] w (AnsC1 P w (removeC c) 2) := by
  have HD : Hid (removeC c = if c.on = true then { c with on := false, gone := true, out := { c.out with cl := true } } else c) := rfl
  generalize removeC c = D at *
  have HN := hide (fun (wx : World) (hb : Below w.heap.size w wx) => hp.ofNew hb 2)
  have HCP : Hid (∀ (wx : World), Below w.heap.size w wx → Calls Try.prog 5 #[.agg (csC c v)] wx fun e w' => ∃ v', e = .returned (.agg (csC c v')) ∧ CIn (fun b => wx.heap.size + 2 ≤ b) w' c v' ∧ Below wx.heap.size wx w') := fun wx hb => (rcopyc_any c v P wx (hp.over hb) h80 h16).mono fun e w' ⟨v', L, h1, h2, h3⟩ => ⟨v', h1, h2.cin h80 h16, h3⟩
  have hone := cs_one hp
  clear hp h80 h16
  go_enter Try.func10, Try.ntmps10
  go_upto_region 1 with fail
  change Code.wp Try.prog _ _ _ ((w.alloc (.cells (csC c v) 33)).alloc (.cells Z22 33))
  have C0 : CAt 33 ((w.alloc (.cells (csC c v) 33)).alloc (.cells Z22 33)) w.heap.size (csC c v) := (CAt.new _ w _).alloc _
  have R0 : CAt 33 ((w.alloc (.cells (csC c v) 33)).alloc (.cells Z22 33)) (w.heap.size + 1) Z22 := CAt.new2 _ w _ _
  have B0 : Below w.heap.size w ((w.alloc (.cells (csC c v) 33)).alloc (.cells Z22 33)) := ((Below.refl _ w).alloc (Nat.le_refl _) _).alloc (by simp) _
  generalize (w.alloc (.cells (csC c v) 33)).alloc (.cells Z22 33) = w0 at *
  obtain ⟨⟨a0, -, -, -, -⟩, -⟩ := cs_facts C0
  cases hon : c.on
  · have e : D = c := by rw [HD.out, hon]; simp
    subst e
    rw [hon] at a0
    have l0 := cs_load C0 (csC_size _ _)
    have s0 := cs_store R0 Z22_size (csC_size D v) hone
    have HX := hide (show _ ∧ _ from ⟨R0, B0⟩)
    clear C0 R0 B0 hone
    go_wp2
    exact cs_end1 Try.results10 HX.out.1 Z22_size HX.out.2 (Nat.le_succ _) D v (new_no (by omega)) (HN.out _ HX.out.2) _ rfl rfl
  · have e : D = { c with on := false, gone := true, out := { c.out with cl := true } } := by rw [HD.out, if_pos hon]
    rw [hon] at a0
    have l0 := cs_load C0 (csC_size _ _)
    have hz0 : w.heap.size + 2 ≤ w0.heap.size := R0.lt
    have HX := hide (show _ ∧ _ ∧ _ from ⟨C0, R0, B0⟩)
    clear C0 R0 B0 hone
    go_upto_region 3 with (go_at_call 5; refine (HCP.out _ HX.out.2.2).mono ?_; rintro e w1 ⟨v1, rfl, I1, hb1⟩; have s1 := cs_store (HX.out.1.over hb1) (csC_size _ _) (csC_size c v1) (cs_one I1); have HI1 := hide I1; have HB1 := hide hb1; clear I1 hb1)
    have hb1 := HB1.out
    have C1 : CAt 33 (w1.setCells w.heap.size 0 (csC c v1).toList) w.heap.size (csC c v1) := (HX.out.1.over hb1).setAll rfl
    have R1 : CAt 33 (w1.setCells w.heap.size 0 (csC c v1).toList) (w.heap.size + 1) Z22 := (HX.out.2.1.over hb1).others (by omega) _
    have B1 : Below w.heap.size w (w1.setCells w.heap.size 0 (csC c v1).toList) := below_sets (Nat.le_refl _) _ _ _ (HX.out.2.2.trans (hb1.mono HX.out.2.2.size))
    have N1 : CIn (fun b => w.heap.size + 2 ≤ b) (w1.setCells w.heap.size 0 (csC c v1).toList) c v1 := (HI1.out.mono (P' := fun b => w.heap.size + 2 ≤ b) fun b _ h => by omega).sets (by show ¬ _ ≤ _; omega) _ _
    clear s1 l0 a0 hb1
    generalize w1.setCells w.heap.size 0 (csC c v1).toList = w2 at *
    obtain ⟨⟨a0, a1, -, -, -⟩, -, ⟨-, -, -, a17⟩⟩ := cs_facts C1
    have f0 := C1.free 0
    have f1 := C1.free 1
    have f17 := C1.free 17
    have C3 := ((C1.set 0 (.bool false)).set 1 (.bool true)).set 17 (.bool true)
    rw [set_on, set_gone, set_cl] at C3
    have R3 := ((R1.other (c := w.heap.size) (o := 0) (by omega) (.bool false)).other (c := w.heap.size) (o := 1) (by omega) (.bool true)).other (c := w.heap.size) (o := 17) (by omega) (.bool true)
    have B3 := ((B1.setCell (p := ⟨w.heap.size, 0, none⟩) (Nat.le_refl _) (.bool false)).setCell (p := ⟨w.heap.size, 1, none⟩) (Nat.le_refl _) (.bool true)).setCell (p := ⟨w.heap.size, 17, none⟩) (Nat.le_refl _) (.bool true)
    have N3 := (((N1.set1 (g := w.heap.size) (by show ¬ _ ≤ _; omega) 0 (.bool false)).set1 (g := w.heap.size) (by show ¬ _ ≤ _; omega) 1 (.bool true)).set1 (g := w.heap.size) (by show ¬ _ ≤ _; omega) 17 (.bool true)).mono (P' := New P w 2) fun b _ h => .inr h
    have N4 : CIn (New P w 2) (((w2.setCell ⟨w.heap.size, 0, none⟩ (.bool false)).setCell ⟨w.heap.size, 1, none⟩ (.bool true)).setCell ⟨w.heap.size, 17, none⟩ (.bool true)) { c with on := false, gone := true, out := { c.out with cl := true } } v1 := ⟨N3.set, N3.pd, N3.rp, N3.said, N3.due⟩
    have hone' := cs_one N4
    have l3 := cs_load C3 (csC_size _ _)
    have s3 := cs_store R3 Z22_size (csC_size { c with on := false, gone := true, out := { c.out with cl := true } } v1) hone'
    have HY := hide (show _ ∧ _ ∧ _ from ⟨R3, B3, N4⟩)
    rw [← e] at HY l3 s3
    clear e HD
    clear C1 R1 B1 N1 C3 R3 B3 N3 N4 hone'
    go_upto_region 4 with fail
    clear a0 a1 a17 f0 f1 f17
    generalize ((w2.setCell ⟨w.heap.size, 0, none⟩ (.bool false)).setCell ⟨w.heap.size, 1, none⟩ (.bool true)).setCell ⟨w.heap.size, 17, none⟩ (.bool true) = w3 at *
    go_wp2
    exact cs_end1 Try.results10 HY.out.1 Z22_size HY.out.2.1 (Nat.le_succ _) D v1 (new_no (by omega)) HY.out.2.2 _ rfl rfl
end Go.Proofs.Ytdkalcnlncjgiaa.Kc

