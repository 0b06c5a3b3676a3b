/- Parts of the proof: SCL SSW. -/
import Derived.Test.YtjghbciepinofaaGreatRows
import Derived.Test.YtjghbciepinofaaGreatPK7
import Derived.Test.YtjghbciepinofaaGreatPK48
import Derived.Laws.Cover3
import Derived.ChangeKeysEq
set_option maxRecDepth 100000
namespace Go.Proofs.YtjghbciepinofaaGreat
open Go.RowKit
theorem eqNil (w : World) (a : Option Addr) (n c : Nat) : (binOp .eql 30 (.slice a n c) (.slice none 0 0)).run Tryz.prog w = .ok (.bool a.isNone) w := by
  simp [binOp, run_equal_slice_nil w 30 127 a n c Tryz.underlying30]
theorem clone_nil (c : Nat) (w : World) : Calls Tryz.prog 146 #[.slice none 0 c] w fun e w' => e = .returned (.slice none 0 0) ∧ w = w' := by
  have hq := fun w => eqNil w none 0 c
  go_enter Tryz.func146, Tryz.ntmps146
  go_wp2
  go_ret
  exact ⟨rfl, rfl⟩
theorem wtL_one (W : List Wt) : ∀ u ∈ wsL W, u.oneCell' = true := by
  intro u hu
  obtain ⟨x, _, hx⟩ := List.mem_flatMap.1 hu
  simp [wtL] at hx
  rcases hx with rfl | rfl | rfl | rfl | rfl | rfl | rfl | rfl <;> rfl
theorem own_nil (w : World) : (w.alloc (.cells #[] 127)).ownsRow w.heap.size 127 8 (.slice (some ⟨w.heap.size, 0, none⟩) 0 0) 0 [] := ⟨rfl, .inr ⟨w.heap.size, 0, #[], rfl, Nat.le_refl _, heap_alloc_new _ _, Nat.le_refl _, Nat.zero_le _, rfl, rfl⟩⟩
theorem ap_clone (w : World) (a : Addr) (c sb so : Nat) (W : List Wt) (hW : WsAt w (some a) sb so W) :
    ∃ A C w', (Builtin.append_ #[30, 30] 30 #[.slice (some ⟨w.heap.size, 0, none⟩) 0 0, .slice (some a) W.length c]).run Tryz.prog (w.alloc (.cells #[] 127)) = .ok (.slice A W.length C) w' ∧ OwnW w.heap.size w' A C W ∧ Below w.heap.size w w' := by
  obtain ⟨i0, hi, hz0, hz1, hz2⟩ := info_parts info44
  have hl := hW.len
  obtain ⟨v', w', hr, ho, hg, -, hat⟩ := run_append_own_at (P := Tryz.prog) (w.alloc (.cells #[] 127)) w.heap.size 30 30 127 i0 _ 8 64 Tryz.underlying30 hi hz0 hz1 hz2 rfl (by omega) _ 0 [] (own_nil w) a W.length c (wsL W) (wsL_length W)
    (fun j u hj => by
      have h0 : 0 < W.length := by
        have := (List.getElem?_eq_some_iff.1 hj).1
        rw [wsL_length] at this
        omega
      have ha := hW.adr h0
      cases ha
      rw [Addr.add_lit]
      exact ws_cells (hW.over ((Below.refl _ w).alloc (Nat.le_refl _) _)) j u hj) (wtL_one W) (by simp only [maxLen]; omega) (by omega) (by simp)
  rw [Nat.zero_add, List.nil_append] at ho
  have hv : ∃ A C, v' = .slice A W.length C := by
    rcases ho.2 with ⟨rfl, h0⟩ | ⟨g, cap, cur, rfl, _⟩
    · rw [h0]; exact ⟨none, 0, rfl⟩
    · exact ⟨_, _, rfl⟩
  obtain ⟨A, C, rfl⟩ := hv
  refine ⟨A, C, w', hr, ho, ?_⟩
  have hb := (Below.refl w.heap.size w).alloc (Nat.le_refl _) (.cells #[] 127)
  exact ⟨hg.os.trans hb.os, hg.tape.trans hb.tape, hg.output.trans hb.output, Nat.le_trans hb.size hg.size, fun k hk => (hg.block k (by simp; omega) (by simp [Value.ownBlock]; omega)).trans (hb.block k hk)⟩
theorem wpList_cl {ops : Array Oper} {rest : List Oper} {o : Oper} {a : Act} {w : World} {Q : Exit → Act → World → Prop} (hg : o.guard = none) (hty : o.type = 30) (p q : Operand)
    (hop : o.op = Op.call { callee := Callee.builtin Builtin.append, args := #[p, q], argTypes := #[30, 30] }) (ad : Addr) (c sb so : Nat) (W : List Wt) (hs : a.eval p = .slice (some ⟨w.heap.size, 0, none⟩) 0 0) (hx : a.eval q = .slice (some ad) W.length c) (hW : WsAt w (some ad) sb so W)
    (hK : ∀ A C w', OwnW w.heap.size w' A C W ∧ Below w.heap.size w w' → wpList Tryz.prog ops Q rest (a.put o.dst (.slice A W.length C)) w') : wpList Tryz.prog ops Q (o :: rest) a (w.alloc (.cells #[] 127)) := by
  refine wpList_plain hg fun _ hK' => ?_
  unfold Oper.wp
  obtain ⟨A, C, w', hr, h1⟩ := ap_clone w ad c sb so W hW
  simp [execOp, hop, resolve, invoke, builtin, hs, hx, hty, hr, Result.andThen]
  exact hK' _ _ (hK _ _ _ h1)
theorem clone_some (a : Addr) (W : List Wt) (c sb so : Nat) (w : World) (hW : WsAt w (some a) sb so W) : Calls Tryz.prog 146 #[.slice (some a) W.length c] w fun e w' => ∃ A C, e = .returned (.slice A W.length C) ∧ OwnW w.heap.size w' A C W ∧ Below w.heap.size w w' := by
  have hq := fun w => eqNil w (some a) W.length c
  go_enter Tryz.func146, Tryz.ntmps146
  go_upto_region 3 with fail
  apply wp_region_lit
  iterate 6 go_step
  refine wpList_cl rfl rfl _ _ rfl a c sb so W rfl rfl hW ?_
  rintro A C w' ⟨h1, h2⟩
  have H1 := hide h1
  have H2 := hide h2
  clear h1 h2
  go_wp2
  go_ret
  exact ⟨A, C, rfl, H1.out, H2.out⟩
/-- a list of waits cloned -/
theorem clone_any (ao : Option Addr) (W : List Wt) (c sb so : Nat) (w : World) (hW : WsAt w ao sb so W) : Calls Tryz.prog 146 #[.slice ao W.length c] w fun e w' => ∃ A C, e = .returned (.slice A W.length C) ∧ OwnW w.heap.size w' A C W ∧ Below w.heap.size w w' := by
  cases ao with
  | some a => exact clone_some a W c sb so w hW
  | none =>
    have h0 : W.length = 0 := by
      rcases Nat.eq_zero_or_pos W.length with h0 | h0
      · exact h0
      · have := hW.adr h0; cases this
    obtain rfl : W = [] := List.length_eq_zero_iff.1 h0
    refine (clone_nil c w).mono ?_
    rintro e w' ⟨rfl, rfl⟩
    exact ⟨none, 0, rfl, ⟨rfl, .inl ⟨rfl, rfl⟩⟩, Below.refl _ _⟩
end Go.Proofs.YtjghbciepinofaaGreat

set_option maxRecDepth 100000
namespace Go.Proofs.YtjghbciepinofaaGreat
open Go.RowKit
theorem part_any (n f : Int) (w : World) : Calls Tryz.prog 164 #[.int .i64 n, .int .i64 f] w fun e w' => e = .returned (.tuple #[.int .i64 (ptN n f), .int .i64 (ptE n f)]) ∧ Below w.heap.size w w' := Ra.part13 n f w
theorem wsL_set : ∀ (W : List Wt) (k : Nat) (x : Wt) (y : Int), W[k]? = some x → wsL (W.set k { x with amt := y }) = (wsL W).set (k * 8 + 3) (.int .i64 y)
  | [], k, x, y, h => by simp at h
  | z :: W, 0, x, y, h => by
    simp at h
    subst h
    rfl
  | z :: W, k + 1, x, y, h => by
    have ih := wsL_set W k x y (by simpa using h)
    show wtL z ++ wsL (W.set k _) = (wtL z ++ wsL W).set _ _
    rw [List.set_append_right _ _ (by rw [wtL_length]; omega), wtL_length, ih]
    congr 2
    omega
theorem OwnW.amt {B : Nat} {w : World} {g C : Nat} {W : List Wt} (h : OwnW B w (some ⟨g, 0, none⟩) C W) {k : Nat} {x : Wt} (hx : W[k]? = some x) (y : Int) : OwnW B (w.setCell ⟨g, k * 8 + 3, none⟩ (.int .i64 y)) (some ⟨g, 0, none⟩) C (W.set k { x with amt := y }) := by
  have h1 := (World.ownsRow.stored h (k * 8 + 3) (.int .i64 y)).1
  unfold OwnW
  rw [wsL_set W k x y hx, List.length_set]
  exact h1
theorem OwnW.at0 {B : Nat} {w : World} {A : Option Addr} {C : Nat} {W : List Wt} (h : OwnW B w A C W) (h0 : 0 < W.length) : ∃ g, A = some ⟨g, 0, none⟩ ∧ B ≤ g ∧ g < w.heap.size ∧ ∀ k x, W[k]? = some x → (w.cell? ⟨g, k * 8 + 2, none⟩ = some (.int .i64 x.v) ∧ w.cell? ⟨g, k * 8 + 3, none⟩ = some (.int .i64 x.amt) ∧ w.cell? ⟨g, k * 8 + 4, none⟩ = some (.int .i64 x.hei) ∧ w.frozen? ⟨g, k * 8 + 3, none⟩ = false) := by
  have h' := h
  rcases h.2 with ⟨hv, hn⟩ | ⟨g, cap, cur, hv, hb, hg, hrest⟩
  · omega
  · cases hv
    refine ⟨g, rfl, hb, (Array.getElem?_eq_some_iff.1 hg).1, fun k x hx => ?_⟩
    have c : ∀ j v, (wtL x)[j]? = some v → j < 8 → w.cell? ⟨g, k * 8 + j, none⟩ = some v := fun j v hj hl => by
      have := World.ownsRow.cells h' (g := g) rfl (k * 8 + j) v ((wsL_get W k x j hx hl).trans hj)
      rwa [Addr.add_lit, Nat.zero_add] at this
    exact ⟨c 2 _ rfl (by omega), c 3 _ rfl (by omega), c 4 _ rfl (by omega), World.ownsRow.frozenAt h' _⟩
set_option maxHeartbeats 4000000 in
theorem slashWaits_any (ao : Option Addr) (W : List Wt) (c sb so : Nat) (v h f : Int) (w : World) (hW : WsAt w ao sb so W) (hf : 0 ≤ f ∧ f ≤ 1000) (hA : ∀ x ∈ W, 0 ≤ x.amt ∧ x.amt ≤ 1125899906842624) (hs : amts W ≤ 400000) (h60 : W.length ≤ 60) :
    Calls Tryz.prog 165 #[.slice ao W.length c, .int .i64 v, .int .i64 h, .int .i64 f] w fun e w' => ∃ A C, e = .returned (.tuple #[.slice A (slW v h f W).length C, .int .i64 (slN v h f W), .int .i64 0]) ∧ OwnW w.heap.size w' A C (slW v h f W) ∧ Below w.heap.size w w' := by
  have hC := clone_any ao W c sb so w hW
  have HL : Hid ((slW v h f W).length = W.length) := by show (slW v h f W).length = W.length; unfold slW; rw [List.length_map]
  have HN : Hid (∀ k, 0 ≤ slN v h f (W.take k) ∧ slN v h f (W.take k) ≤ 400000) := fun k => by
    have h1 := slN_in (v := v) (h := h) hf (W := W.take k) fun x hx => hA x (List.mem_of_mem_take hx)
    have e1 : amts W = amts (W.take k) + amts (W.drop k) := by rw [← amts_append, List.take_append_drop]
    have n2 := amts_nonneg (W := W.drop k) fun y hy => (hA y (List.mem_of_mem_drop hy)).1
    omega
  clear hW hs
  go_enter Tryz.func165, Tryz.ntmps165
  go_upto_region 3 with (go_at_call 146; refine hC.mono ?_; rintro e w1 ⟨A, C, rfl, hO, h1⟩; have HO := hide hO; have HB := hide h1; clear hO h1)
  go_loopw [12, 21] (fun al i wl => ∃ (k : Nat), k ≤ W.length ∧ i = .int .i64 (k : Int) ∧ al = .int .i64 (slN v h f (W.take k)) ∧ Hid (OwnW w.heap.size wl A C (slW v h f (W.take k) ++ W.drop k) ∧ Below w.heap.size w wl)) (fun _ i _ => W.length - (intOf i).toNat)
  case atStart => exact ⟨0, Nat.zero_le _, rfl, rfl, HO.out, HB.out⟩
  case round =>
    obtain ⟨k, hk, rfl, rfl, HR⟩ := hrel
    clear HO HB
    obtain ⟨n0, n1⟩ := HN.out k
    by_cases hlt : k < W.length
    · obtain ⟨x, hx, _⟩ := drop_at hlt
      obtain ⟨e1, e2, e3⟩ := sl_step v h f hx
      obtain ⟨n2, n3⟩ := HN.out (k + 1)
      have hxa := hA x (by obtain ⟨h1, h2⟩ := List.getElem?_eq_some_iff.1 hx; exact h2 ▸ List.getElem_mem h1)
      obtain ⟨g, rfl, hgB, hgs, hcl⟩ := HR.out.1.at0 (by rw [List.length_append, List.length_drop]; omega)
      obtain ⟨c2, c3, c4, c5⟩ := hcl k x e2
      have hlen : (slW v h f (W.take k) ++ W.drop k).length = W.length := by unfold slW; rw [List.length_append, List.length_map, ← List.length_append, List.take_append_drop]
      have HE2 := hide e2
      have HE1 := hide e1
      have hcap := HR.out.1.cap
      rw [hlen] at hcap
      clear hcl hC e1 e2 hx hlen
      generalize slW v h f (W.take k) ++ W.drop k = Wk at *
      generalize hW1 : slW v h f (W.take (k + 1)) ++ W.drop (k + 1) = Wk1 at *
      have HW1 := hide hW1
      clear hW1
      by_cases hh : x.v = v ∧ h ≤ x.hei
      · have hhit : hitW v h x = true := by simp [hitW, hh.1, hh.2]
        obtain ⟨s1, s2⟩ := sl_hit (f := f) hhit
        obtain ⟨p0, p1, p2⟩ := pt_in hxa hf
        rw [s1] at HE1
        rw [s2] at e3
        have hP := part_any x.amt f
        rw [p0] at hP
        obtain ⟨hh1, hh2⟩ := hh
        rw [hh1] at c2
        generalize ptN x.amt f = pn at *
        have hw1 : wrap64 (x.amt - pn) = x.amt - pn := wrap64_small (by omega) (by omega)
        rw [e3] at n2 n3
        have HE3 := hide e3
        generalize slN v h f (W.take k) = sk at *
        have hw2 : wrap64 (sk + pn) = sk + pn := wrap64_small (by omega) (by omega)
        clear hhit s1 s2 p0 e3 HN
        go_upto_region 10 with (go_at_call 164; refine (hP _).mono ?_; rintro e w2 ⟨rfl, h2⟩)
        have HR2 : Hid (OwnW w.heap.size w2 (some ⟨g, 0, none⟩) C Wk ∧ Below w.heap.size w w2) := ⟨HR.out.1.over h2, HR.out.2.trans (h2.mono HR.out.2.size)⟩
        obtain ⟨g', hg', _, hgs2, hcl2⟩ := HR2.out.1.at0 (by have := (List.getElem?_eq_some_iff.1 HE2.out).1; omega)
        cases hg'
        obtain ⟨c2', c3', c4', c5'⟩ := hcl2 k x HE2.out
        clear hcl2 h2 c2 c3 c4 c5 HR
        go_wp2
        refine ⟨⟨k + 1, by omega, by go_num, ?_, ?_⟩, by simp [intOf]; omega⟩
        · first | rw [HE3.out] | (rw [HE3.out]; exact congrArg _ hw2)
        · rw [HW1.out, HE1.out]
          exact ⟨HR2.out.1.amt HE2.out _, HR2.out.2.setCell hgB _⟩
      · have hhit : hitW v h x = false := by
          simp only [hitW, Bool.and_eq_false_iff, decide_eq_false_iff_not]
          by_cases h1 : x.v = v
          · exact .inr (fun h2 => hh ⟨h1, h2⟩)
          · exact .inl h1
        obtain ⟨s1, s2⟩ := sl_same (f := f) hhit
        rw [s1] at HE1
        rw [s2] at e3
        have HE3 := hide e3
        have hEq : Hid (Wk1 = Wk) := by show Wk1 = Wk; rw [HE1.out]; exact set_same HE2.out
        clear hhit s1 s2 e3 HN HE1
        go_wp2
        all_goals first
          | (exact ⟨⟨k + 1, by omega, by go_num, by rw [HE3.out, Int.add_zero], by rw [HW1.out, hEq.out]; exact HR.out⟩, by simp [intOf]; omega⟩)
          | (exfalso; exact hh ⟨by first | assumption | omega, by omega⟩)
    · obtain rfl : k = W.length := by omega
      rw [List.take_length, List.drop_length, List.append_nil] at HR
      rw [List.take_length]
      clear hC HN
      go_wp2
      refine bodyPost_ret (v := .tuple #[.slice A W.length C, .int .i64 (slN v h f W), .int .i64 0]) (by simp [results, Tryz.results165]) rfl ⟨A, C, by rw [HL.out], HR.out.1, HR.out.2⟩
end Go.Proofs.YtjghbciepinofaaGreat

