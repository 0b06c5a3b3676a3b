/- Parts of the proof: KSA. -/
import Derived.Test.YtdkalcnlncjgiaaRows
import Derived.Test.YtdkalcnlncjgiaaBK4
import Derived.Test.YtdkalcnlncjgiaaBK5
import Derived.Test.YtdkalcnlncjgiaaBK51
set_option maxRecDepth 100000
namespace Go.Proofs.Ytdkalcnlncjgiaa.Kc
open Go.RowKit Pv
/-- a line's cells in a consumer -/
theorem CAt.line {w : World} {g : Nat} {c : Cs} {v : CsV} (h : CAt 33 w g (csC c v)) (x : Ln.Line) (u1 u2 : Value) : CAt 33 ((((w.setCell ⟨g, 14, none⟩ u1).setCell ⟨g, 15, none⟩ u2).setCell ⟨g, 16, none⟩ (.int .i64 x.g)).setCell ⟨g, 17, none⟩ (.bool x.cl)) g (csC { c with out := x } { v with said := u1, due := u2 }) := (((h.set 14 u1).set 15 u2).set 16 (.int .i64 x.g)).set 17 (.bool x.cl)
theorem new_not {P : Nat → Prop} {w : World} {g : Nat} (hP : ¬ P g) (hg : g < w.heap.size) : ¬ New P w 0 g := fun h => by
  rcases h with ⟨h, _⟩ | h
  · exact hP h
  · omega
theorem RepC.set1 {P : Nat → Prop} {w : World} {v : Value} {sz bts : Nat} {cs : List Value} (h : RepC P w v sz bts cs) {g : Nat} (hg : ¬ P g) (o : Nat) (x : Value) : RepC P (w.setCell ⟨g, o, none⟩ x) v sz bts cs := h.keep fun b hb _ => Below.heap_setCell w ⟨g, o, none⟩ x b (show b ≠ g from fun e => hg (by rw [← e]; exact hb))
/-- a call through a pointer to a consumer -/
def TurnsC (w : World) (g : Nat) (P : Nat → Prop) (c' : Cs) (er : Value) (e : Ending) (w' : World) : Prop := ∃ v', e = .returned er ∧ CAt 33 w' g (csC c' v') ∧ CIn (New P w 0) w' c' v' ∧ Alt g w w'
set_option maxHeartbeats 2000000 in
theorem csay_any (g : Nat) (c : Cs) (v : CsV) (k i x n now : Int) (P : Nat → Prop) (w : World) (h : CAt 33 w g (csC c v)) (hp : CIn P w c v) (hg : ¬ P g) (hn0 : 0 ≤ now) (hn1 : now ≤ 1099511627776) :
    Calls Try.prog 33 #[.pointer (some ⟨g, 0, none⟩), .agg #[.int .i64 k, .int .i64 i, .int .i64 x, .int .i64 n, .slice none 0 0, .slice none 0 0], .int .i64 now] w (TurnsC w g P (sayC c k i x n now).1 (.int .i64 (sayC c k i x n now).2)) := by
  have HD : Hid (sayC c k i x n now = if Cd.goodN k i x n [] [] = 0 then ({ c with out := Ln.sayL c.out (Cd.encS k i x n [] []) (now + 40) }, Ln.sayE c.out (now + 40)) else (c, Cd.goodN k i x n [] [])) := rfl
  generalize sayC c k i x n now = D at *
  have HEN := hide (fun (wx : World) => Cd.encode_any k i x n [] [] none none 0 0 0 0 0 0 wx ⟨by simp, by simp, by simp, by simp, fun i hi => absurd hi (by simp), fun i hi => absurd hi (by simp)⟩)
  generalize Cd.encS k i x n [] [] = s at *
  generalize Cd.goodN k i x n [] [] = E at *
  have HP := hide hp
  have HC := hide h
  have HSY := hide (fun (wx : World) (hb : Below w.heap.size w wx) => say_rep c.out s (now + 40) v.said v.due P wx (hp.said.over hb) (hp.due.over hb))
  have hgl := h.lt
  clear hp h
  by_cases hE : E = 0
  · subst hE
    have e := HD.out.trans (if_pos rfl)
    subst e
    clear HD
    go_enter Try.func33, Try.ntmps33
    go_upto_region 4 with (go_at_call 48; refine (HEN.out _).mono ?_; rintro e w1 ⟨rfl, hb1⟩)
    have hb0 : Below w.heap.size w w1 := ((Below.refl _ w).alloc (Nat.le_refl _) _).trans (hb1.mono (by simp))
    obtain ⟨-, -, ⟨a14, a15, a16, a17⟩⟩ := cs_facts (HC.out.over hb0)
    have HB0 := hide hb0
    clear hb1 hb0
    generalize (Ln.sayL c.out s (now + 40)) = L' at *
    generalize (Ln.sayE c.out (now + 40)) = E' at *
    go_upto_region 5 with (go_at_call 49; refine (HSY.out _ HB0.out).mono ?_; rintro e w2 ⟨u1, u2, rfl, r1, r2, hb2⟩; have C2 := (HC.out.over HB0.out).over hb2; have ⟨A1, n1, D1, D1', e1, _, _⟩ := id r1; have ⟨A2, n2, D2, D2', e2, _, _⟩ := id r2; subst e1 e2; clear a14 a15 a16 a17; obtain ⟨-, -, ⟨a14, a15, a16, a17⟩⟩ := cs_facts C2; have f14 := C2.free 14; have f15 := C2.free 15; have f16 := C2.free 16; have f17 := C2.free 17)
    have hb3 : Below w.heap.size w w2 := HB0.out.trans (hb2.mono HB0.out.size)
    have hlt2 : g < w2.heap.size := C2.lt
    have C3 := CAt.line C2 L' (.slice A1 n1 D1) (.slice A2 n2 D2)
    have hng := new_not hg hgl
    have r1' : RepC (New P w 0) w2 (.slice A1 n1 D1) 1 16 (txC L'.S) := r1.mono fun b _ hb => by
      rcases hb with ⟨hb, hl⟩ | hb
      · by_cases hw : b < w.heap.size
        · exact .inl ⟨hb, hw⟩
        · exact .inr (by omega)
      · exact .inr (by have := HB0.out.size; omega)
    have r2' : RepC (New P w 0) w2 (.slice A2 n2 D2) 1 8 (inC L'.D) := r2.mono fun b _ hb => by
      rcases hb with ⟨hb, hl⟩ | hb
      · by_cases hw : b < w.heap.size
        · exact .inl ⟨hb, hw⟩
        · exact .inr (by omega)
      · exact .inr (by have := HB0.out.size; omega)
    have N2 := HP.out.ofNew hb3 0
    have N3 : CIn (New P w 0) w2 { c with out := L' } { v with said := .slice A1 n1 D1, due := .slice A2 n2 D2 } := ⟨N2.set, N2.pd, N2.rp, r1', r2'⟩
    have N4 := (((N3.set1 hng 14 (.slice A1 n1 D1)).set1 hng 15 (.slice A2 n2 D2)).set1 hng 16 (.int .i64 L'.g)).set1 hng 17 (.bool L'.cl)
    have AL : Alt g w ((((w2.setCell ⟨g, 14, none⟩ (.slice A1 n1 D1)).setCell ⟨g, 15, none⟩ (.slice A2 n2 D2)).setCell ⟨g, 16, none⟩ (.int .i64 L'.g)).setCell ⟨g, 17, none⟩ (.bool L'.cl)) := ((((Alt.of hb3).set 14 _).set 15 _).set 16 _).set 17 _
    have HZ := hide (show _ ∧ _ ∧ _ from ⟨C3, N4, AL⟩)
    clear C3 N4 AL N3 N2 r1' r2' r1 r2 C2 a14 a15 a16 a17 f14 f15 f16 f17 hb2
    go_wp2
    go_ret
    exact ⟨_, rfl, HZ.out.1, HZ.out.2.1, HZ.out.2.2⟩
  · have e := HD.out.trans (if_neg hE)
    subst e
    have hE' : (E != 0) = true := by simpa using hE
    clear HD
    go_enter Try.func33, Try.ntmps33
    go_wp2_with (go_at_call 48; refine (HEN.out _).mono ?_; rintro e w1 ⟨rfl, hb1⟩)
    go_ret
    have hb0 : Below w.heap.size w w1 := ((Below.refl _ w).alloc (Nat.le_refl _) _).trans (hb1.mono (by simp))
    exact ⟨v, rfl, HC.out.over hb0, HP.out.ofNew hb0 0, Alt.of hb0⟩
attribute [local go_sem ↓] loadC_eq storeC_eq
theorem csC_begin (l : List (Int × Int)) (id now : Int) (u : Value) : csC (beginC l id now) ⟨u, .slice none 0 0, .slice none 0 0, .slice none 0 0, .slice none 0 0⟩ = #[.bool true, .bool false, .int .i64 0, .int .i64 now, .int .i64 id, u, .slice none 0 0, .slice none 0 0, .bool false, .bool false, .bool false, .bool false, .bool false, .bool false, .slice none 0 0, .slice none 0 0, .int .i64 0, .bool false, .int .i64 0, .int .i64 0, .int .i64 0, .int .i64 0] := rfl
set_option maxHeartbeats 2000000 in
theorem cbegin_any (l : List (Int × Int)) (v : Value) (id now : Int) (P : Nat → Prop) (w : World) (h : Rep P w v 2 16 (pwC l)) :
    Calls Try.prog 29 #[v, .int .i64 id, .int .i64 now] w (AnsC1 P w (beginC l id now) 1) := by
  have HCL := hide (fun (wx : World) (hb : Below w.heap.size w wx) => cloneP_any l v P wx (h.over hb))
  clear h
  go_enter Try.func29, Try.ntmps29
  go_upto_region 1 with fail
  change Code.wp Try.prog _ _ _ (w.alloc (.cells Z22 33))
  have R0 : CAt 33 (w.alloc (.cells Z22 33)) w.heap.size Z22 := CAt.new _ w _
  have B0 : Below w.heap.size w (w.alloc (.cells Z22 33)) := (Below.refl _ w).alloc (Nat.le_refl _) _
  have hsz : (w.alloc (.cells Z22 33)).heap.size = w.heap.size + 1 := by simp
  generalize w.alloc (.cells Z22 33) = w0 at *
  have hn0 : ¬ New P w 1 w.heap.size := by have := new_no (P := P) (w := w) (k := 1) (j := 0) (by omega); simpa using this
  have HX := hide (show _ ∧ _ ∧ _ ∧ _ from ⟨R0, B0, hsz, hn0⟩)
  clear R0 B0 hsz hn0
  go_wp2_with (go_at_call 43; go_loud (refine (HCL.out _ HX.out.2.1).mono ?_; rintro e w1 ⟨u, rfl, hu, hb1⟩; have hu0 := hu; obtain ⟨Au, nu, Cu, eu, _⟩ := hu0; subst eu; have R1 := HX.out.1.over hb1; have B1 := HX.out.2.1.trans (hb1.mono HX.out.2.1.size); have hu' : Rep (New P w 1) w1 (.slice Au nu Cu) 2 16 (pwC l) := hu.mono (fun b _ hb => .inr (by have := HX.out.2.2.1; omega)); have hci : CIn (New P w 1) w1 (beginC l id now) ⟨.slice Au nu Cu, .slice none 0 0, .slice none 0 0, .slice none 0 0, .slice none 0 0⟩ := ⟨hu', KRep.nil _ _, Rep.nil _ _ _ _, RepC.nil _ _ _ _, RepC.nil _ _ _ _⟩; have s1 := cs_store R1 Z22_size (csC_size (beginC l id now) ⟨.slice Au nu Cu, .slice none 0 0, .slice none 0 0, .slice none 0 0, .slice none 0 0⟩) (cs_one hci); rw [csC_begin] at s1; have HY := hide (show _ ∧ _ ∧ _ from ⟨R1, B1, hci⟩); clear R1 B1 hci hu hu' hb1))
  exact cs_end1 Try.results29 HY.out.1 Z22_size HY.out.2.1 (Nat.le_refl _) (beginC l id now) _ HX.out.2.2.2 HY.out.2.2 _ rfl rfl
set_option maxHeartbeats 2000000 in
theorem cremove_any (c : Cs) (v : CsV) (P : Nat → Prop) (w : World) (hp : CIn P w c v) :
    Calls Try.prog 9 #[.agg (csC c v)] w (AnsC1 P w (removeC c) 2) := by
  have HD : Hid (removeC c = if c.on = true then { c with on := false, gone := true, out := { c.out with cl := true } } else c) := rfl
  generalize removeC c = D at *
  have HN := hide (fun (wx : World) (hb : Below w.heap.size w wx) => hp.ofNew hb 2)
  have hone := cs_one hp
  clear hp
  go_enter Try.func9, Try.ntmps9
  go_upto_region 1 with fail
  change Code.wp Try.prog _ _ _ ((w.alloc (.cells (csC c v) 33)).alloc (.cells Z22 33))
  have C0 : CAt 33 ((w.alloc (.cells (csC c v) 33)).alloc (.cells Z22 33)) w.heap.size (csC c v) := (CAt.new _ w _).alloc _
  have R0 : CAt 33 ((w.alloc (.cells (csC c v) 33)).alloc (.cells Z22 33)) (w.heap.size + 1) Z22 := CAt.new2 _ w _ _
  have B0 : Below w.heap.size w ((w.alloc (.cells (csC c v) 33)).alloc (.cells Z22 33)) := ((Below.refl _ w).alloc (Nat.le_refl _) _).alloc (by simp) _
  generalize (w.alloc (.cells (csC c v) 33)).alloc (.cells Z22 33) = w0 at *
  obtain ⟨⟨a0, a1, -, -, -⟩, -, ⟨-, -, -, a17⟩⟩ := cs_facts C0
  have f0 := C0.free 0
  have f1 := C0.free 1
  have f17 := C0.free 17
  cases hon : c.on
  · have e : D = c := by rw [HD.out, hon]; simp
    subst e
    rw [hon] at a0
    have l0 := cs_load C0 (csC_size _ _)
    have s0 := cs_store R0 Z22_size (csC_size D v) hone
    have HX := hide (show _ ∧ _ from ⟨R0, B0⟩)
    clear C0 R0 B0 hone
    go_wp2
    exact cs_end1 Try.results9 HX.out.1 Z22_size HX.out.2 (Nat.le_succ _) D v (new_no (by omega)) (HN.out _ HX.out.2) _ rfl rfl
  · have e : D = { c with on := false, gone := true, out := { c.out with cl := true } } := by rw [HD.out, if_pos hon]
    rw [hon] at a0
    have C3 := ((C0.set 0 (.bool false)).set 1 (.bool true)).set 17 (.bool true)
    rw [set_on, set_gone, set_cl] at C3
    have R3 := ((R0.other (c := w.heap.size) (o := 0) (by omega) (.bool false)).other (c := w.heap.size) (o := 1) (by omega) (.bool true)).other (c := w.heap.size) (o := 17) (by omega) (.bool true)
    have B3 := ((B0.setCell (p := ⟨w.heap.size, 0, none⟩) (Nat.le_refl _) (.bool false)).setCell (p := ⟨w.heap.size, 1, none⟩) (Nat.le_refl _) (.bool true)).setCell (p := ⟨w.heap.size, 17, none⟩) (Nat.le_refl _) (.bool true)
    have N3 := HN.out _ B3
    have N4 : CIn (New P w 2) (((w0.setCell ⟨w.heap.size, 0, none⟩ (.bool false)).setCell ⟨w.heap.size, 1, none⟩ (.bool true)).setCell ⟨w.heap.size, 17, none⟩ (.bool true)) { c with on := false, gone := true, out := { c.out with cl := true } } v := ⟨N3.set, N3.pd, N3.rp, N3.said, N3.due⟩
    have hone' := cs_one N4
    have l3 := cs_load C3 (csC_size _ _)
    have s3 := cs_store R3 Z22_size (csC_size { c with on := false, gone := true, out := { c.out with cl := true } } v) hone'
    have HX := hide (show _ ∧ _ ∧ _ from ⟨R3, B3, N4⟩)
    rw [← e] at HX l3 s3
    clear e HD
    clear C0 R0 B0 C3 R3 B3 N3 N4 hone hone'
    go_upto_region 5 with fail
    clear a0 a1 a17 f0 f1 f17
    generalize ((w0.setCell ⟨w.heap.size, 0, none⟩ (.bool false)).setCell ⟨w.heap.size, 1, none⟩ (.bool true)).setCell ⟨w.heap.size, 17, none⟩ (.bool true) = w3 at *
    go_wp2
    exact cs_end1 Try.results9 HX.out.1 Z22_size HX.out.2.1 (Nat.le_succ _) D v (new_no (by omega)) HX.out.2.2 _ rfl rfl
end Go.Proofs.Ytdkalcnlncjgiaa.Kc

