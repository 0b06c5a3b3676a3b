/- Parts of the proof: SCL SSW SPY1 DF0. -/
import Derived.Test.YtjghbciepinofaaGreatRows
import Derived.Test.YtjghbciepinofaaGreatPEK24
import Derived.Test.YtjghbciepinofaaGreatPEK31
import Derived.Test.YtjghbciepinofaaGreatPEK35
import Derived.Test.YtjghbciepinofaaGreatPEK43
import Derived.Test.YtjghbciepinofaaGreatPEK45
import Derived.Laws.Cover3
import Derived.ChangeKeysEq
set_option maxRecDepth 100000
namespace Go.Proofs.YtjghbciepinofaaGreat
open Go.RowKit
theorem eqNil (w : World) (a : Option Addr) (n c : Nat) : (binOp .eql 30 (.slice a n c) (.slice none 0 0)).run Tryz.prog w = .ok (.bool a.isNone) w := by
  simp [binOp, run_equal_slice_nil w 30 127 a n c Tryz.underlying30]
theorem clone_nil (c : Nat) (w : World) : Calls Tryz.prog 146 #[.slice none 0 c] w fun e w' => e = .returned (.slice none 0 0) ∧ w = w' := by
  have hq := fun w => eqNil w none 0 c
  go_enter Tryz.func146, Tryz.ntmps146
  go_wp2
  go_ret
  exact ⟨rfl, rfl⟩
theorem wtL_one (W : List Wt) : ∀ u ∈ wsL W, u.oneCell' = true := by
  intro u hu
  obtain ⟨x, _, hx⟩ := List.mem_flatMap.1 hu
  simp [wtL] at hx
  rcases hx with rfl | rfl | rfl | rfl | rfl | rfl | rfl | rfl <;> rfl
theorem own_nil (w : World) : (w.alloc (.cells #[] 127)).ownsRow w.heap.size 127 8 (.slice (some ⟨w.heap.size, 0, none⟩) 0 0) 0 [] := ⟨rfl, .inr ⟨w.heap.size, 0, #[], rfl, Nat.le_refl _, heap_alloc_new _ _, Nat.le_refl _, Nat.zero_le _, rfl, rfl⟩⟩
theorem ap_clone (w : World) (a : Addr) (c sb so : Nat) (W : List Wt) (hW : WsAt w (some a) sb so W) :
    ∃ A C w', (Builtin.append_ #[30, 30] 30 #[.slice (some ⟨w.heap.size, 0, none⟩) 0 0, .slice (some a) W.length c]).run Tryz.prog (w.alloc (.cells #[] 127)) = .ok (.slice A W.length C) w' ∧ OwnW w.heap.size w' A C W ∧ Below w.heap.size w w' := by
  obtain ⟨i0, hi, hz0, hz1, hz2⟩ := info_parts info44
  have hl := hW.len
  obtain ⟨v', w', hr, ho, hg, -, hat⟩ := run_append_own_at (P := Tryz.prog) (w.alloc (.cells #[] 127)) w.heap.size 30 30 127 i0 _ 8 64 Tryz.underlying30 hi hz0 hz1 hz2 rfl (by omega) _ 0 [] (own_nil w) a W.length c (wsL W) (wsL_length W)
    (fun j u hj => by
      have h0 : 0 < W.length := by
        have := (List.getElem?_eq_some_iff.1 hj).1
        rw [wsL_length] at this
        omega
      have ha := hW.adr h0
      cases ha
      rw [Addr.add_lit]
      exact ws_cells (hW.over ((Below.refl _ w).alloc (Nat.le_refl _) _)) j u hj) (wtL_one W) (by simp only [maxLen]; omega) (by omega) (by simp)
  rw [Nat.zero_add, List.nil_append] at ho
  have hv : ∃ A C, v' = .slice A W.length C := by
    rcases ho.2 with ⟨rfl, h0⟩ | ⟨g, cap, cur, rfl, _⟩
    · rw [h0]; exact ⟨none, 0, rfl⟩
    · exact ⟨_, _, rfl⟩
  obtain ⟨A, C, rfl⟩ := hv
  refine ⟨A, C, w', hr, ho, ?_⟩
  have hb := (Below.refl w.heap.size w).alloc (Nat.le_refl _) (.cells #[] 127)
  exact ⟨hg.os.trans hb.os, hg.tape.trans hb.tape, hg.output.trans hb.output, Nat.le_trans hb.size hg.size, fun k hk => (hg.block k (by simp; omega) (by simp [Value.ownBlock]; omega)).trans (hb.block k hk)⟩
theorem wpList_cl {ops : Array Oper} {rest : List Oper} {o : Oper} {a : Act} {w : World} {Q : Exit → Act → World → Prop} (hg : o.guard = none) (hty : o.type = 30) (p q : Operand)
    (hop : o.op = Op.call { callee := Callee.builtin Builtin.append, args := #[p, q], argTypes := #[30, 30] }) (ad : Addr) (c sb so : Nat) (W : List Wt) (hs : a.eval p = .slice (some ⟨w.heap.size, 0, none⟩) 0 0) (hx : a.eval q = .slice (some ad) W.length c) (hW : WsAt w (some ad) sb so W)
    (hK : ∀ A C w', OwnW w.heap.size w' A C W ∧ Below w.heap.size w w' → wpList Tryz.prog ops Q rest (a.put o.dst (.slice A W.length C)) w') : wpList Tryz.prog ops Q (o :: rest) a (w.alloc (.cells #[] 127)) := by
  refine wpList_plain hg fun _ hK' => ?_
  unfold Oper.wp
  obtain ⟨A, C, w', hr, h1⟩ := ap_clone w ad c sb so W hW
  simp [execOp, hop, resolve, invoke, builtin, hs, hx, hty, hr, Result.andThen]
  exact hK' _ _ (hK _ _ _ h1)
theorem clone_some (a : Addr) (W : List Wt) (c sb so : Nat) (w : World) (hW : WsAt w (some a) sb so W) : Calls Tryz.prog 146 #[.slice (some a) W.length c] w fun e w' => ∃ A C, e = .returned (.slice A W.length C) ∧ OwnW w.heap.size w' A C W ∧ Below w.heap.size w w' := by
  have hq := fun w => eqNil w (some a) W.length c
  go_enter Tryz.func146, Tryz.ntmps146
  go_upto_region 3 with fail
  apply wp_region_lit
  iterate 6 go_step
  refine wpList_cl rfl rfl _ _ rfl a c sb so W rfl rfl hW ?_
  rintro A C w' ⟨h1, h2⟩
  have H1 := hide h1
  have H2 := hide h2
  clear h1 h2
  go_wp2
  go_ret
  exact ⟨A, C, rfl, H1.out, H2.out⟩
/-- a list of waits cloned -/
theorem clone_any (ao : Option Addr) (W : List Wt) (c sb so : Nat) (w : World) (hW : WsAt w ao sb so W) : Calls Tryz.prog 146 #[.slice ao W.length c] w fun e w' => ∃ A C, e = .returned (.slice A W.length C) ∧ OwnW w.heap.size w' A C W ∧ Below w.heap.size w w' := by
  cases ao with
  | some a => exact clone_some a W c sb so w hW
  | none =>
    have h0 : W.length = 0 := by
      rcases Nat.eq_zero_or_pos W.length with h0 | h0
      · exact h0
      · have := hW.adr h0; cases this
    obtain rfl : W = [] := List.length_eq_zero_iff.1 h0
    refine (clone_nil c w).mono ?_
    rintro e w' ⟨rfl, rfl⟩
    exact ⟨none, 0, rfl, ⟨rfl, .inl ⟨rfl, rfl⟩⟩, Below.refl _ _⟩
end Go.Proofs.YtjghbciepinofaaGreat

set_option maxRecDepth 100000
namespace Go.Proofs.YtjghbciepinofaaGreat
open Go.RowKit
theorem part_any (n f : Int) (w : World) : Calls Tryz.prog 164 #[.int .i64 n, .int .i64 f] w fun e w' => e = .returned (.tuple #[.int .i64 (ptN n f), .int .i64 (ptE n f)]) ∧ Below w.heap.size w w' := Ra.part13 n f w
theorem wsL_set : ∀ (W : List Wt) (k : Nat) (x : Wt) (y : Int), W[k]? = some x → wsL (W.set k { x with amt := y }) = (wsL W).set (k * 8 + 3) (.int .i64 y)
  | [], k, x, y, h => by simp at h
  | z :: W, 0, x, y, h => by
    simp at h
    subst h
    rfl
  | z :: W, k + 1, x, y, h => by
    have ih := wsL_set W k x y (by simpa using h)
    show wtL z ++ wsL (W.set k _) = (wtL z ++ wsL W).set _ _
    rw [List.set_append_right _ _ (by rw [wtL_length]; omega), wtL_length, ih]
    congr 2
    omega
theorem OwnW.amt {B : Nat} {w : World} {g C : Nat} {W : List Wt} (h : OwnW B w (some ⟨g, 0, none⟩) C W) {k : Nat} {x : Wt} (hx : W[k]? = some x) (y : Int) : OwnW B (w.setCell ⟨g, k * 8 + 3, none⟩ (.int .i64 y)) (some ⟨g, 0, none⟩) C (W.set k { x with amt := y }) := by
  have h1 := (World.ownsRow.stored h (k * 8 + 3) (.int .i64 y)).1
  unfold OwnW
  rw [wsL_set W k x y hx, List.length_set]
  exact h1
theorem OwnW.at0 {B : Nat} {w : World} {A : Option Addr} {C : Nat} {W : List Wt} (h : OwnW B w A C W) (h0 : 0 < W.length) : ∃ g, A = some ⟨g, 0, none⟩ ∧ B ≤ g ∧ g < w.heap.size ∧ ∀ k x, W[k]? = some x → (w.cell? ⟨g, k * 8 + 2, none⟩ = some (.int .i64 x.v) ∧ w.cell? ⟨g, k * 8 + 3, none⟩ = some (.int .i64 x.amt) ∧ w.cell? ⟨g, k * 8 + 4, none⟩ = some (.int .i64 x.hei) ∧ w.frozen? ⟨g, k * 8 + 3, none⟩ = false) := by
  have h' := h
  rcases h.2 with ⟨hv, hn⟩ | ⟨g, cap, cur, hv, hb, hg, hrest⟩
  · omega
  · cases hv
    refine ⟨g, rfl, hb, (Array.getElem?_eq_some_iff.1 hg).1, fun k x hx => ?_⟩
    have c : ∀ j v, (wtL x)[j]? = some v → j < 8 → w.cell? ⟨g, k * 8 + j, none⟩ = some v := fun j v hj hl => by
      have := World.ownsRow.cells h' (g := g) rfl (k * 8 + j) v ((wsL_get W k x j hx hl).trans hj)
      rwa [Addr.add_lit, Nat.zero_add] at this
    exact ⟨c 2 _ rfl (by omega), c 3 _ rfl (by omega), c 4 _ rfl (by omega), World.ownsRow.frozenAt h' _⟩
set_option maxHeartbeats 4000000 in
theorem slashWaits_any (ao : Option Addr) (W : List Wt) (c sb so : Nat) (v h f : Int) (w : World) (hW : WsAt w ao sb so W) (hf : 0 ≤ f ∧ f ≤ 1000) (hA : ∀ x ∈ W, 0 ≤ x.amt ∧ x.amt ≤ 1125899906842624) (hs : amts W ≤ 400000) (h60 : W.length ≤ 60) :
    Calls Tryz.prog 165 #[.slice ao W.length c, .int .i64 v, .int .i64 h, .int .i64 f] w fun e w' => ∃ A C, e = .returned (.tuple #[.slice A (slW v h f W).length C, .int .i64 (slN v h f W), .int .i64 0]) ∧ OwnW w.heap.size w' A C (slW v h f W) ∧ Below w.heap.size w w' := by
  have hC := clone_any ao W c sb so w hW
  have HL : Hid ((slW v h f W).length = W.length) := by show (slW v h f W).length = W.length; unfold slW; rw [List.length_map]
  have HN : Hid (∀ k, 0 ≤ slN v h f (W.take k) ∧ slN v h f (W.take k) ≤ 400000) := fun k => by
    have h1 := slN_in (v := v) (h := h) hf (W := W.take k) fun x hx => hA x (List.mem_of_mem_take hx)
    have e1 : amts W = amts (W.take k) + amts (W.drop k) := by rw [← amts_append, List.take_append_drop]
    have n2 := amts_nonneg (W := W.drop k) fun y hy => (hA y (List.mem_of_mem_drop hy)).1
    omega
  clear hW hs
  go_enter Tryz.func165, Tryz.ntmps165
  go_upto_region 3 with (go_at_call 146; refine hC.mono ?_; rintro e w1 ⟨A, C, rfl, hO, h1⟩; have HO := hide hO; have HB := hide h1; clear hO h1)
  go_loopw [12, 21] (fun al i wl => ∃ (k : Nat), k ≤ W.length ∧ i = .int .i64 (k : Int) ∧ al = .int .i64 (slN v h f (W.take k)) ∧ Hid (OwnW w.heap.size wl A C (slW v h f (W.take k) ++ W.drop k) ∧ Below w.heap.size w wl)) (fun _ i _ => W.length - (intOf i).toNat)
  case atStart => exact ⟨0, Nat.zero_le _, rfl, rfl, HO.out, HB.out⟩
  case round =>
    obtain ⟨k, hk, rfl, rfl, HR⟩ := hrel
    clear HO HB
    obtain ⟨n0, n1⟩ := HN.out k
    by_cases hlt : k < W.length
    · obtain ⟨x, hx, _⟩ := drop_at hlt
      obtain ⟨e1, e2, e3⟩ := sl_step v h f hx
      obtain ⟨n2, n3⟩ := HN.out (k + 1)
      have hxa := hA x (by obtain ⟨h1, h2⟩ := List.getElem?_eq_some_iff.1 hx; exact h2 ▸ List.getElem_mem h1)
      obtain ⟨g, rfl, hgB, hgs, hcl⟩ := HR.out.1.at0 (by rw [List.length_append, List.length_drop]; omega)
      obtain ⟨c2, c3, c4, c5⟩ := hcl k x e2
      have hlen : (slW v h f (W.take k) ++ W.drop k).length = W.length := by unfold slW; rw [List.length_append, List.length_map, ← List.length_append, List.take_append_drop]
      have HE2 := hide e2
      have HE1 := hide e1
      have hcap := HR.out.1.cap
      rw [hlen] at hcap
      clear hcl hC e1 e2 hx hlen
      generalize slW v h f (W.take k) ++ W.drop k = Wk at *
      generalize hW1 : slW v h f (W.take (k + 1)) ++ W.drop (k + 1) = Wk1 at *
      have HW1 := hide hW1
      clear hW1
      by_cases hh : x.v = v ∧ h ≤ x.hei
      · have hhit : hitW v h x = true := by simp [hitW, hh.1, hh.2]
        obtain ⟨s1, s2⟩ := sl_hit (f := f) hhit
        obtain ⟨p0, p1, p2⟩ := pt_in hxa hf
        rw [s1] at HE1
        rw [s2] at e3
        have hP := part_any x.amt f
        rw [p0] at hP
        obtain ⟨hh1, hh2⟩ := hh
        rw [hh1] at c2
        generalize ptN x.amt f = pn at *
        have hw1 : wrap64 (x.amt - pn) = x.amt - pn := wrap64_small (by omega) (by omega)
        rw [e3] at n2 n3
        have HE3 := hide e3
        generalize slN v h f (W.take k) = sk at *
        have hw2 : wrap64 (sk + pn) = sk + pn := wrap64_small (by omega) (by omega)
        clear hhit s1 s2 p0 e3 HN
        go_upto_region 10 with (go_at_call 164; refine (hP _).mono ?_; rintro e w2 ⟨rfl, h2⟩)
        have HR2 : Hid (OwnW w.heap.size w2 (some ⟨g, 0, none⟩) C Wk ∧ Below w.heap.size w w2) := ⟨HR.out.1.over h2, HR.out.2.trans (h2.mono HR.out.2.size)⟩
        obtain ⟨g', hg', _, hgs2, hcl2⟩ := HR2.out.1.at0 (by have := (List.getElem?_eq_some_iff.1 HE2.out).1; omega)
        cases hg'
        obtain ⟨c2', c3', c4', c5'⟩ := hcl2 k x HE2.out
        clear hcl2 h2 c2 c3 c4 c5 HR
        go_wp2
        refine ⟨⟨k + 1, by omega, by go_num, ?_, ?_⟩, by simp [intOf]; omega⟩
        · first | rw [HE3.out] | (rw [HE3.out]; exact congrArg _ hw2)
        · rw [HW1.out, HE1.out]
          exact ⟨HR2.out.1.amt HE2.out _, HR2.out.2.setCell hgB _⟩
      · have hhit : hitW v h x = false := by
          simp only [hitW, Bool.and_eq_false_iff, decide_eq_false_iff_not]
          by_cases h1 : x.v = v
          · exact .inr (fun h2 => hh ⟨h1, h2⟩)
          · exact .inl h1
        obtain ⟨s1, s2⟩ := sl_same (f := f) hhit
        rw [s1] at HE1
        rw [s2] at e3
        have HE3 := hide e3
        have hEq : Hid (Wk1 = Wk) := by show Wk1 = Wk; rw [HE1.out]; exact set_same HE2.out
        clear hhit s1 s2 e3 HN HE1
        go_wp2
        all_goals first
          | (exact ⟨⟨k + 1, by omega, by go_num, by rw [HE3.out, Int.add_zero], by rw [HW1.out, hEq.out]; exact HR.out⟩, by simp [intOf]; omega⟩)
          | (exfalso; exact hh ⟨by first | assumption | omega, by omega⟩)
    · obtain rfl : k = W.length := by omega
      rw [List.take_length, List.drop_length, List.append_nil] at HR
      rw [List.take_length]
      clear hC HN
      go_wp2
      refine bodyPost_ret (v := .tuple #[.slice A W.length C, .int .i64 (slN v h f W), .int .i64 0]) (by simp [results, Tryz.results165]) rfl ⟨A, C, by rw [HL.out], HR.out.1, HR.out.2⟩
end Go.Proofs.YtjghbciepinofaaGreat

set_option maxRecDepth 100000
namespace Go.Proofs.YtjghbciepinofaaGreat
open Go.RowKit
theorem eqHg (w : World) (a b c d : Int) : (Op.equalIn 10000 125 (.agg #[.int .i64 a, .int .i64 b]) (.agg #[.int .i64 c, .int .i64 d])).run Tryz.prog w = .ok (decide (a = c ∧ b = d)) w := by
  have hi : (Tryz.prog.info? 3).isSome = true := by kernel_rfl
  obtain ⟨i, hi⟩ := Option.isSome_iff_exists.1 hi
  have hc : Tryz.prog.cellsOf 3 = 1 := by kernel_rfl
  rw [run_equalIn_array w 9999 _ _ Tryz.underlying125 hi, hc, show List.range 2 = [0, 1] from rfl]
  simp only [Op.eqItems]
  go_simp
  by_cases h0 : a = c <;> by_cases h1 : b = d <;> simp [h0, h1]
theorem neHz (w : World) (a b : Int) : (binOp .neq 125 (.agg #[.int .i64 a, .int .i64 b]) (.agg #[.int .i64 0, .int .i64 0])).run Tryz.prog w = .ok (.bool (!decide (a = 0 ∧ b = 0))) w := by
  rw [run_neq_struct, eqHg]
  rfl
theorem isHeld_any (x : Wt) (w : World) : Calls Tryz.prog 68 #[.agg #[.int .i64 x.num, .int .i64 x.d, .int .i64 x.v, .int .i64 x.amt, .int .i64 x.hei, .int .i64 x.due, .int .i64 x.h0, .int .i64 x.h1]] w fun e w' => e = .returned (.bool (!decide (x.h0 = 0 ∧ x.h1 = 0))) ∧ Below w.heap.size w w' := by
  have hn := fun w => neHz w x.h0 x.h1
  go_enter Tryz.func68, Tryz.ntmps68
  go_wp2
  go_ret
  refine ⟨?_, (Below.refl _ w).alloc (Nat.le_refl _) _⟩
  show Ending.returned (Value.bool (!decide (x.h0 = 0) || !decide (x.h1 = 0))) = _
  by_cases h0 : x.h0 = 0 <;> by_cases h1 : x.h1 = 0 <;> simp [h0, h1]
def nuL (l : List Int) : List Value := l.map fun n => .int .i64 n
/-- numbers lie in a row of the call's own -/
def OwnN (B : Nat) (w : World) (A : Option Addr) (C : Nat) (l : List Int) : Prop := w.ownsRow B 3 1 (.slice A l.length C) l.length (nuL l)
theorem infoI1 : (Tryz.prog.info? 3).map (fun i => (i.zero, i.size, i.bytes)) = some (some (.int .i64 0), 1, 8) := by kernel_rfl
theorem OwnN.over {B : Nat} {w w' : World} {A : Option Addr} {C : Nat} {l : List Int} (h : OwnN B w A C l) (hb : Below w.heap.size w w') : OwnN B w' A C l := own_of h fun k hk => hb.block k (World.ownsRow.lt h k hk).2
theorem OwnN.cap {B : Nat} {w : World} {A : Option Addr} {C : Nat} {l : List Int} (h : OwnN B w A C l) : l.length ≤ C := by
  rcases h.2 with ⟨hv, hn⟩ | ⟨g, cap, cur, hv, _, _, hc, _⟩
  · omega
  · cases hv; exact hc
theorem OwnN.cell {B : Nat} {w : World} {A : Option Addr} {C : Nat} {l : List Int} (h : OwnN B w A C l) {i : Nat} (hi : i < l.length) : ∃ g, A = some ⟨g, 0, none⟩ ∧ ∀ j n, l[j]? = some n → w.cell? ⟨g, j, none⟩ = some (.int .i64 n) := by
  rcases h.2 with ⟨hv, hn⟩ | ⟨g, cap, cur, hv, hb, hg, hrest⟩
  · omega
  · cases hv
    refine ⟨g, rfl, fun j n hj => ?_⟩
    have := World.ownsRow.cells h (g := g) rfl j (.int .i64 n) (by simp [nuL, hj])
    rwa [Addr.add_lit, Nat.zero_add] at this
theorem ap3N (B : Nat) (w : World) (A : Option Addr) (C y : Nat) (l : List Int) (x : Int) (h : OwnN B w A C l) (h60 : l.length ≤ 60) (hB : B ≤ w.heap.size) (hy : w.cell? ⟨y, 0, none⟩ = some (.int .i64 x)) :
    ∃ g C' w', (Builtin.append_ #[34, 34] 34 #[.slice A l.length C, .slice (some ⟨y, 0, none⟩) 1 1]).run Tryz.prog w = .ok (.slice (some ⟨g, 0, none⟩) (l.length + 1) C') w' ∧ OwnN B w' (some ⟨g, 0, none⟩) C' (l ++ [x]) ∧ B ≤ g ∧ g < w'.heap.size ∧ Below B w w' ∧ (∀ k, k < w.heap.size → some k ≠ (Value.slice A l.length C).ownBlock → g ≠ k ∧ w'.heap[k]? = w.heap[k]?) := by
  obtain ⟨i0, hi, hz0, hz1, hz2⟩ := info_parts infoI1
  obtain ⟨g, cap, w', hr, ho, hg, hat, hlt⟩ := run_append_lies (P := Tryz.prog) w 34 34 B 3 i0 _ 1 8 Tryz.underlying34 hi hz0 hz1 hz2 rfl (by omega) (.slice A l.length C) l.length (nuL l) h ⟨y, 0, none⟩ 1 1 [.int .i64 x] rfl (fun j v hv => by rcases j with _ | j <;> simp at hv; subst hv; simpa [Addr.add] using hy) (by intro u hu; simp at hu; rcases hu with rfl; rfl) (by omega) (by simp only [maxLen]; omega) (by omega) hB _ rfl
  have ho' : OwnN B w' (some ⟨g, 0, none⟩) cap (l ++ [x]) := by
    unfold OwnN
    rw [List.length_append, nuL, List.map_append]
    exact ho
  refine ⟨g, cap, w', hr, ho', (World.ownsRow.lt ho' g rfl).1, hlt, ⟨hg.os, hg.tape, hg.output, hg.size, fun k hk => hg.block k (by omega) (fun he => ?_)⟩, fun k hk hne => ⟨?_, hg.block k hk hne⟩⟩
  · have := (World.ownsRow.lt h k he.symm).1
    omega
  · rcases hat with hat | hat
    · rintro rfl
      exact hne hat.symm
    · omega
theorem wpList_ap3N {ops : Array Oper} {rest : List Oper} {o : Oper} {a : Act} {w : World} {Q : Exit → Act → World → Prop} (hg : o.guard = none) (hty : o.type = 34) (p q : Operand)
    (hop : o.op = Op.call { callee := Callee.builtin Builtin.append, args := #[p, q], argTypes := #[34, 34] }) (B : Nat) (A : Option Addr) (C y : Nat) (W : List Int) (x : Int) (hs : a.eval p = .slice A W.length C) (hx : a.eval q = .slice (some ⟨y, 0, none⟩) 1 1)
    (h : OwnN B w A C W) (h60 : W.length ≤ 60) (hB : B ≤ w.heap.size) (hy : w.cell? ⟨y, 0, none⟩ = some (.int .i64 x))
    (hK : ∀ g C' w', OwnN B w' (some ⟨g, 0, none⟩) C' (W ++ [x]) ∧ B ≤ g ∧ g < w'.heap.size ∧ Below B w w' ∧ (∀ k, k < w.heap.size → some k ≠ (Value.slice A W.length C).ownBlock → g ≠ k ∧ w'.heap[k]? = w.heap[k]?) → wpList Tryz.prog ops Q rest (a.put o.dst (.slice (some ⟨g, 0, none⟩) (W.length + 1) C')) w') : wpList Tryz.prog ops Q (o :: rest) a w := by
  refine wpList_plain hg fun _ hK' => ?_
  unfold Oper.wp
  obtain ⟨g, C', w', hr, h1⟩ := ap3N B w A C y W x h h60 hB hy
  simp [execOp, hop, resolve, invoke, builtin, hs, hx, hty, hr, Result.andThen]
  exact hK' _ _ (hK _ _ _ h1)
theorem results_stake3 {fn : Func} {p q u : Tmp} (h : fn.results = #[.cell p 32, .tmp q, .tmp u]) (tmps : Array Value) (w : World) (g : Nat) (cs : Array Value) (v v2 : Value)
    (hp : tmps.getD p undef = .pointer (some ⟨g, 0, none⟩)) (hq : tmps.getD q undef = v) (hu : tmps.getD u undef = v2) (hg : SAt w g cs) (hsz : cs.size = 63) :
    (results fn tmps).run Tryz.prog w = .ok (.tuple #[.agg cs, v, v2]) w := by
  have hp' : tmps[p]?.getD undef = .pointer (some ⟨g, 0, none⟩) := by simpa using hp
  have hq' : tmps[q]?.getD undef = v := by simpa using hq
  have hu' : tmps[u]?.getD undef = v2 := by simpa using hu
  simp [results, h, hp', hq', hu', asAddr, run_loadVar_row w g 32 32 cs (0, 0) _ hg Tryz.underlying32 rfl (by rw [infoS, hsz])]
theorem stake_end3 {f : Func} {p q u : Tmp} (hres : f.results = #[.cell p 32, .tmp q, .tmp u]) {g : Nat} {wq : World} {zs : Array Value} (R : SAt wq g zs) (hz : zs.size = 63) (s' : St) (sl v v2 : Value) (Q : Ending → World → Prop) (hQ : Q (.returned (.tuple #[.agg (stC s' sl), v, v2])) (wq.setCells g 0 (stC s' sl).toList)) (act : Act)
    (h8 : act.tmps.getD p undef = .pointer (some ⟨g, 0, none⟩)) (h9 : act.tmps.getD q undef = v) (h10 : act.tmps.getD u undef = v2) (hd : act.defers = []) :
    bodyPost Tryz.prog f Q Exit.ret act (wq.setCells g 0 (stC s' sl).toList) := by
  have R3 := R.setAll (ds := stC s' sl) (by rw [hz]; rfl)
  exact bodyPost_ret (v := .tuple #[.agg (stC s' sl), v, v2]) (results_stake3 hres _ _ g _ _ _ h8 h9 h10 R3 rfl) hd hQ
theorem own_base {w : World} {b b' e z n : Nat} {v : Value} {xs : List Value} (h : w.ownsRow b e z v n xs) (hb : b' ≤ b) : w.ownsRow b' e z v n xs := by
  refine ⟨h.1, ?_⟩
  rcases h.2 with hn | ⟨g, cap, cur, hv, h2, h3⟩
  · exact .inl hn
  · exact .inr ⟨g, cap, cur, hv, Nat.le_trans hb h2, h3⟩
/-- where the loop stands -/
structure PayR (s : St) (ao : Option Addr) (c : Nat) (t : Int) (B bb : Nat) (w : World) (k : Nat) (A : Option Addr) (C : Nat) (A' : Option Addr) (C' : Nat) (wl : World) : Prop where
  own9 : OwnW B wl A C (leftW t (s.W.take k))
  own10 : OwnN B wl A' C' (paidW t (s.W.take k))
  apart : ∀ k', (Value.slice A (leftW t (s.W.take k)).length C).ownBlock = some k' → some k' ≠ (Value.slice A' (paidW t (s.W.take k)).length C').ownBlock
  S : SAt wl w.heap.size (stC s (.slice ao s.W.length c))
  R : SAt wl (w.heap.size + 1) Z63
  bank : BAt wl bb (payF t s.b (s.W.take k)).f0 (payF t s.b (s.W.take k)).f1 (payF t s.b (s.W.take k)).f2 (payF t s.b (s.W.take k)).f3 (payF t s.b (s.W.take k)).bo (payF t s.b (s.W.take k)).wa (payF t s.b (s.W.take k)).bu
  below : Below w.heap.size w wl
  size : B ≤ wl.heap.size
theorem PayR.over {s : St} {ao : Option Addr} {c : Nat} {t : Int} {B bb : Nat} {w : World} {k : Nat} {A : Option Addr} {C : Nat} {A' : Option Addr} {C' : Nat} {wl w' : World} (h : PayR s ao c t B bb w k A C A' C' wl) (hw : w.heap.size ≤ wl.heap.size) (hb : Below wl.heap.size wl w') : PayR s ao c t B bb w k A C A' C' w' :=
  ⟨h.own9.over hb, h.own10.over hb, h.apart, h.S.later hb h.S.lt, h.R.later hb h.R.lt, h.bank.later hb h.bank.lt, h.below.trans (hb.mono hw), Nat.le_trans h.size hb.size⟩
theorem len_left {t : Int} {W : List Wt} {k : Nat} {x : Wt} (hx : W[k]? = some x) (hd : dueW t x = false) : (leftW t (W.take (k + 1))).length = (leftW t (W.take k)).length + 1 ∧ (paidW t (W.take (k + 1))).length = (paidW t (W.take k)).length := by
  unfold paidW
  rw [take_snoc hx, left_snoc, paid_snoc, if_neg (by simp [hd]), if_neg (by simp [hd]), List.length_append]
  exact ⟨rfl, rfl⟩
theorem len_paid {t : Int} {W : List Wt} {k : Nat} {x : Wt} (hx : W[k]? = some x) (hd : dueW t x = true) : (leftW t (W.take (k + 1))).length = (leftW t (W.take k)).length ∧ (paidW t (W.take (k + 1))).length = (paidW t (W.take k)).length + 1 := by
  unfold paidW
  rw [take_snoc hx, left_snoc, paid_snoc, if_pos hd, if_pos hd, List.length_map, List.length_map, List.length_append]
  exact ⟨rfl, rfl⟩
/-- a wait is left -/
theorem PayR.left {s : St} {ao : Option Addr} {c : Nat} {t : Int} {B bb : Nat} {w : World} {k : Nat} {A : Option Addr} {C : Nat} {A' : Option Addr} {C' : Nat} {wl w' : World} (h : PayR s ao c t B bb w k A C A' C' wl) {x : Wt} (hx : s.W[k]? = some x) (hd : dueW t x = false) (hbb : bb < B) (hw : w.heap.size + 1 < B) {g D : Nat}
    (h1 : OwnW B w' (some ⟨g, 0, none⟩) D (leftW t (s.W.take k) ++ [x])) (h4 : Below B wl w') (h5 : ∀ k', k' < wl.heap.size → some k' ≠ (Value.slice A (leftW t (s.W.take k)).length C).ownBlock → g ≠ k' ∧ w'.heap[k']? = wl.heap[k']?) : PayR s ao c t B bb w (k + 1) (some ⟨g, 0, none⟩) D A' C' w' := by
  have eL : leftW t (s.W.take (k + 1)) = leftW t (s.W.take k) ++ [x] := by rw [take_snoc hx, left_snoc, if_neg (by simp [hd])]
  have eP : paidW t (s.W.take (k + 1)) = paidW t (s.W.take k) := by unfold paidW; rw [take_snoc hx, paid_snoc, if_neg (by simp [hd])]
  have eB : payF t s.b (s.W.take (k + 1)) = payF t s.b (s.W.take k) := by rw [take_snoc hx, payF_snoc, if_neg (by simp [hd])]
  have hp : ∀ k', (Value.slice A' (paidW t (s.W.take k)).length C').ownBlock = some k' → g ≠ k' ∧ w'.heap[k']? = wl.heap[k']? := fun k' hk => h5 k' (World.ownsRow.lt h.own10 k' hk).2 fun he => h.apart k' he.symm hk.symm
  refine ⟨by rw [eL]; exact h1, by rw [eP]; exact own_of h.own10 fun k' hk => (hp k' hk).2, ?_, (h4.block _ (by omega)).trans h.S, (h4.block _ (by omega)).trans h.R, by rw [eB]; exact (h4.block _ hbb).trans h.bank, h.below.trans (h4.mono (by omega)), Nat.le_trans h.size h4.size⟩
  rw [eP]
  intro k' hk he
  cases hk
  exact (hp g he.symm).1 rfl
/-- a wait is paid -/
theorem PayR.paid {s : St} {ao : Option Addr} {c : Nat} {t : Int} {B bb : Nat} {w : World} {k : Nat} {A : Option Addr} {C : Nat} {A' : Option Addr} {C' : Nat} {wl w' : World} (h9 : OwnW B wl A C (leftW t (s.W.take k))) (hap : ∀ k', (Value.slice A (leftW t (s.W.take k)).length C).ownBlock = some k' → some k' ≠ (Value.slice A' (paidW t (s.W.take k)).length C').ownBlock) (hS : SAt wl w.heap.size (stC s (.slice ao s.W.length c))) (hR : SAt wl (w.heap.size + 1) Z63) (hbank : BAt wl bb (payF t s.b (s.W.take (k + 1))).f0 (payF t s.b (s.W.take (k + 1))).f1 (payF t s.b (s.W.take (k + 1))).f2 (payF t s.b (s.W.take (k + 1))).f3 (payF t s.b (s.W.take (k + 1))).bo (payF t s.b (s.W.take (k + 1))).wa (payF t s.b (s.W.take (k + 1))).bu) (hbel : Below w.heap.size w wl) (hsz : B ≤ wl.heap.size)
    {x : Wt} (hx : s.W[k]? = some x) (hd : dueW t x = true) (hbb : bb < B) (hw : w.heap.size + 1 < B) {g D : Nat}
    (h1 : OwnN B w' (some ⟨g, 0, none⟩) D (paidW t (s.W.take k) ++ [x.num])) (h4 : Below B wl w') (h5 : ∀ k', k' < wl.heap.size → some k' ≠ (Value.slice A' (paidW t (s.W.take k)).length C').ownBlock → g ≠ k' ∧ w'.heap[k']? = wl.heap[k']?) : PayR s ao c t B bb w (k + 1) A C (some ⟨g, 0, none⟩) D w' := by
  have eL : leftW t (s.W.take (k + 1)) = leftW t (s.W.take k) := by rw [take_snoc hx, left_snoc, if_pos hd]
  have eP : paidW t (s.W.take (k + 1)) = paidW t (s.W.take k) ++ [x.num] := by unfold paidW; rw [take_snoc hx, paid_snoc, if_pos hd, List.map_append]; rfl
  have hp : ∀ k', (Value.slice A (leftW t (s.W.take k)).length C).ownBlock = some k' → g ≠ k' ∧ w'.heap[k']? = wl.heap[k']? := fun k' hk => h5 k' (World.ownsRow.lt h9 k' hk).2 (hap k' hk)
  refine ⟨by rw [eL]; exact own_of h9 fun k' hk => (hp k' hk).2, by rw [eP]; exact h1, ?_, (h4.block _ (by omega)).trans hS, (h4.block _ (by omega)).trans hR, (h4.block _ hbb).trans hbank, hbel.trans (h4.mono (by omega)), Nat.le_trans hsz h4.size⟩
  rw [eL]
  intro k' hk he
  cases he
  exact (hp g hk).1 rfl
set_option maxHeartbeats 8000000 in
theorem spay_yes (s : St) (ao : Option Addr) (sb so c : Nat) (t : Int) (w : World) (hW : WsAt w ao sb so s.W) (hg : goodS s = true) :
    Calls Tryz.prog 31 #[.agg (stC s (.slice ao s.W.length c)), .int .i64 t] w fun e w' => ∃ A C A' C', e = .returned (.tuple #[.agg (stC (payS s t) (.slice A (payS s t).W.length C)), .slice A' (paidW t s.W).length C', .int .i64 0]) ∧ OwnW w.heap.size w' A C (payS s t).W ∧ OwnN w.heap.size w' A' C' (paidW t s.W) ∧ Below w.heap.size w w' := by
  have SS := (SAt.new w (stC s (.slice ao s.W.length c))).alloc (.cells Z63 32)
  have RR := SAt.new2 w (.cells (stC s (.slice ao s.W.length c)) 32) Z63
  have HB : Hid (Below w.heap.size w ((w.alloc (.cells (stC s (.slice ao s.W.length c)) 32)).alloc (.cells Z63 32))) := ((Below.refl _ w).alloc (Nat.le_refl _) _).alloc (by simp) _
  have HW := hide hW
  have hG := fun w h => sgood_any s ao sb so c w h
  have hl60 : s.W.length ≤ 60 := ((goodS_iff s).1 hg).2.2.2.1
  have hPy := fun k x hx hd w => (pay_step hg t (k := k) (x := x) hx hd) ▸ pay_any (payF t s.b (s.W.take k)) x.d x.amt w
  rw [hg] at hG
  clear hW
  go_enter Tryz.func31, Tryz.ntmps31
  go_upto_region 1 with fail
  change Code.wp Tryz.prog _ _ _ ((w.alloc (.cells (stC s (.slice ao s.W.length c)) 32)).alloc (.cells Z63 32))
  generalize (w.alloc (.cells (stC s (.slice ao s.W.length c)) 32)).alloc (.cells Z63 32) = w0 at *
  apply wp_region_lit
  refine wpList_load_mid rfl 32 _ rfl _ 0 rfl _ _ SS.range Tryz.underlying32 rfl (by rw [infoS]; rfl) ?_
  go_upto_region 3 with (go_at_call 33; refine (hG _ (by exact HW.out.over HB.out)).mono ?_; rintro e w1 ⟨rfl, h1⟩)
  have HB1 := hide (HB.out.trans (h1.mono HB.out.size))
  have S1 := SS.later h1 SS.lt
  have R1 := RR.later h1 RR.lt
  have hz1 : w.heap.size + 1 < w1.heap.size := R1.lt
  have hz1a : w.heap.size < w1.heap.size := by omega
  clear SS RR h1 HB hG
  obtain ⟨x0, x1, x2, x3, x4, x5, x6, _, _⟩ := st_cells S1
  go_upto_region 4 with fail
  have B2 : BAt (w1.alloc (.cells #[.int .i64 s.b.f0, .int .i64 s.b.f1, .int .i64 s.b.f2, .int .i64 s.b.f3, .int .i64 s.b.bo, .int .i64 s.b.wa, .int .i64 s.b.bu] 24)) w1.heap.size s.b.f0 s.b.f1 s.b.f2 s.b.f3 s.b.bo s.b.wa s.b.bu := heap_alloc_new _ _
  have S2 := S1.alloc (.cells #[.int .i64 s.b.f0, .int .i64 s.b.f1, .int .i64 s.b.f2, .int .i64 s.b.f3, .int .i64 s.b.bo, .int .i64 s.b.wa, .int .i64 s.b.bu] 24)
  have R2 := R1.alloc (.cells #[.int .i64 s.b.f0, .int .i64 s.b.f1, .int .i64 s.b.f2, .int .i64 s.b.f3, .int .i64 s.b.bo, .int .i64 s.b.wa, .int .i64 s.b.bu] 24)
  have HB2 := hide (HB1.out.alloc (by omega) (.cells #[.int .i64 s.b.f0, .int .i64 s.b.f1, .int .i64 s.b.f2, .int .i64 s.b.f3, .int .i64 s.b.bo, .int .i64 s.b.wa, .int .i64 s.b.bu] 24))
  generalize w1.alloc (.cells #[.int .i64 s.b.f0, .int .i64 s.b.f1, .int .i64 s.b.f2, .int .i64 s.b.f3, .int .i64 s.b.bo, .int .i64 s.b.wa, .int .i64 s.b.bu] 24) = w2 at *
  clear S1 R1 HB1 x0 x1 x2 x3 x4 x5 x6
  have hz2 : w1.heap.size < w2.heap.size := B2.lt
  have hz2a : w.heap.size < w2.heap.size := by omega
  have x7 := (st_cells S2).2.2.2.2.2.2.2.1
  have HP0 : Hid (PayR s ao c t w2.heap.size w1.heap.size w 0 none 0 none 0 w2) := ⟨⟨rfl, .inl ⟨rfl, rfl⟩⟩, ⟨rfl, .inl ⟨rfl, rfl⟩⟩, fun k' h => (by cases h), S2, R2, B2, HB2.out, Nat.le_refl _⟩
  clear S2 R2 B2 HB2
  have hadr := HW.out.adr
  go_upto_region 7 with fail
  go_loopw [9, 10, 22] (fun l9 p10 i wl => ∃ (k : Nat) (A : Option Addr) (C : Nat) (A' : Option Addr) (C' : Nat), k ≤ s.W.length ∧ i = .int .i64 (k : Int) ∧ l9 = .slice A (leftW t (s.W.take k)).length C ∧ p10 = .slice A' (paidW t (s.W.take k)).length C' ∧ Hid (PayR s ao c t w2.heap.size w1.heap.size w k A C A' C' wl)) (fun _ _ i _ => s.W.length - (intOf i).toNat)
  case atStart => exact ⟨0, none, 0, none, 0, Nat.zero_le _, rfl, rfl, rfl, HP0⟩
  case round =>
    obtain ⟨k, A, C, A', C', hk, rfl, rfl, rfl, HP⟩ := hrel
    have hwr := HP.out.size
    clear HP0 x7
    by_cases hlt : k < s.W.length
    · obtain ⟨x, hx, _⟩ := drop_at hlt
      obtain ⟨c0, c1, c2, c3, c4, c5, c6, c7⟩ := (HW.out.over HP.out.below).cell k x hx
      obtain rfl := hadr (by omega)
      have h9 : (leftW t (s.W.take k)).length ≤ 60 := Nat.le_trans (List.length_filter_le _ _) (by rw [List.length_take]; omega)
      have h10 : (paidW t (s.W.take k)).length ≤ 60 := by unfold paidW; rw [List.length_map]; exact Nat.le_trans (List.length_filter_le _ _) (by rw [List.length_take]; omega)
      have hH := isHeld_any x
      have hPk := hPy k x hx
      have HX := hide hx
      clear hadr hPy hx
      have Yq : YAt (wr.alloc (.cells #[.int .i64 x.num, .int .i64 x.d, .int .i64 x.v, .int .i64 x.amt, .int .i64 x.hei, .int .i64 x.due, .int .i64 x.h0, .int .i64 x.h1] 127)) wr.heap.size x := heap_alloc_new _ _
      have HQ := hide (HP.out.over (by omega) ((Below.refl _ wr).alloc (Nat.le_refl _) (.cells #[.int .i64 x.num, .int .i64 x.d, .int .i64 x.v, .int .i64 x.amt, .int .i64 x.hei, .int .i64 x.due, .int .i64 x.h0, .int .i64 x.h1] 127)))
      have hzq : wr.heap.size < (wr.alloc (.cells #[.int .i64 x.num, .int .i64 x.d, .int .i64 x.v, .int .i64 x.amt, .int .i64 x.hei, .int .i64 x.due, .int .i64 x.h0, .int .i64 x.h1] 127)).heap.size := Yq.lt
      by_cases hd1 : x.due ≤ t
      · by_cases hd2 : x.h0 = 0 ∧ x.h1 = 0
        · have HD : Hid (dueW t x = true) := by show dueW t x = true; simp [dueW, hd1, hd2]
          have hPk2 := hPk HD.out
          rw [decide_eq_true hd2] at hH
          clear hPk hd2
          go_upto_region 9 with fail
          generalize wr.alloc (.cells #[.int .i64 x.num, .int .i64 x.d, .int .i64 x.v, .int .i64 x.amt, .int .i64 x.hei, .int .i64 x.due, .int .i64 x.h0, .int .i64 x.h1] 127) = wq at *
          clear c0 c1 c2 c3 c4 c5 c6 c7 HP
          obtain ⟨c0, c1, c2, c3, c4, c5, c6, c7⟩ := Yq.cells
          have hwq := HQ.out.size
          generalize hb0 : payF t s.b (s.W.take k) = bk0 at *
          generalize hb1 : payF t s.b (s.W.take (k + 1)) = bk1 at *
          go_upto_region 12 with (first
            | (go_at_call 68; refine (hH _).mono ?_; rintro e w5 ⟨rfl, h5⟩; have HQ5 := hide (HQ.out.over (by omega) h5); have Y5 := Yq.later h5 Yq.lt; clear c0 c1 c2 c3 c4 c5 c6 c7; obtain ⟨c0, c1, c2, c3, c4, c5, c6, c7⟩ := Y5.cells; have B5 := HQ5.out.bank; rw [hb0] at B5; obtain ⟨b0, b1, b2, b3, b4, b5, b6⟩ := B5.cells; have hz5 := Y5.lt; have hz5b := B5.lt; clear h5 B5)
            | (go_at_call 69; refine (hPk2 _).mono ?_; rintro e w6 ⟨rfl, h6⟩; have HQ6 := hide (HQ5.out.over (by omega) h6); have Y6 := Y5.later h6 Y5.lt; have B6 := HQ6.out.bank; clear b0 b1 b2 b3 b4 b5 b6; obtain ⟨b0, b1, b2, b3, b4, b5, b6⟩ := B6.cells; obtain ⟨f0, f1, f2, f3, f4, f5, f6⟩ := B6.frees; have hz6 := Y6.lt; have hz6b := B6.lt; clear h6))
          change Code.wp Tryz.prog _ _ _ (bset w6 w1.heap.size bk1)
          have hbt : But w1.heap.size w6 (bset w6 w1.heap.size bk1) := (((((((But.refl _ _).set 0 _).set 1 _).set 2 _).set 3 _).set 4 _).set 5 _).set 6 _
          have B7 : BAt (bset w6 w1.heap.size bk1) w1.heap.size bk1.f0 bk1.f1 bk1.f2 bk1.f3 bk1.bo bk1.wa bk1.bu := BAt.set7 B6 _ _ _ _ _ _ _
          have S7 := hbt.stake (by omega) HQ6.out.S
          have R7 := hbt.stake (by omega) HQ6.out.R
          have Y7 : YAt (bset w6 w1.heap.size bk1) wr.heap.size x := (hbt.block _ (by omega)).trans Y6
          have HO9 : Hid (OwnW w2.heap.size (bset w6 w1.heap.size bk1) A C (leftW t (s.W.take k))) := own_of HQ6.out.own9 fun k' hk => hbt.block _ (by have := (World.ownsRow.lt HQ6.out.own9 k' hk).1; omega)
          have HO10 : Hid (OwnN w2.heap.size (bset w6 w1.heap.size bk1) A' C' (paidW t (s.W.take k))) := own_of HQ6.out.own10 fun k' hk => hbt.block _ (by have := (World.ownsRow.lt HQ6.out.own10 k' hk).1; omega)
          have HB7 := hide (HQ6.out.below.trans (hbt.below (by omega)))
          have HAP := hide HQ6.out.apart
          clear c0 c1 c2 c3 c4 c5 c6 c7 b0 b1 b2 b3 b4 b5 b6 f0 f1 f2 f3 f4 f5 f6 hbt HQ6 Y6 B6 hb0
          generalize bset w6 w1.heap.size bk1 = w7 at *
          have c0 := Y7.cells.1
          have hz7 := Y7.lt
          have hz7w : w2.heap.size ≤ w7.heap.size := by omega
          have HS7 := hide S7
          have HR7 := hide R7
          have HB7' := hide B7
          rw [← hb1] at HB7'
          clear S7 R7 B7 hb1
          go_wp2_with (at_builtin; refine wpList_ap3N rfl rfl _ _ rfl w2.heap.size A' C' w7.heap.size (paidW t (s.W.take k)) x.num rfl rfl (by exact HO10.out.over ((Below.refl _ w7).alloc (Nat.le_refl _) _)) (by omega) (by simp; omega) (by rw [World.cell?_alloc_at _ _ _ _ rfl]; rfl) ?_; rintro g D w13 ⟨hO13, hg1, hg2, hb13, hk13⟩; have HO13 := hide hO13; have HB13 := hide hb13; have HK13 := hide hk13; clear hO13 hb13 hk13)
          have hba := (Below.refl w7.heap.size w7).alloc (Nat.le_refl _) (.cells #[.int .i64 x.num] 3)
          have HP1 := hide (PayR.paid (HO9.out.over hba) HAP.out (HS7.out.later hba HS7.out.lt) (HR7.out.later hba HR7.out.lt) (HB7'.out.later hba HB7'.out.lt) (HB7.out.trans (hba.mono (by omega))) (Nat.le_trans hz7w hba.size) HX.out HD.out (by omega) (by omega) HO13.out HB13.out HK13.out)
          have hll := len_paid HX.out HD.out
          exact ⟨⟨k + 1, A, C, some ⟨g, 0, none⟩, D, by omega, by go_num, by rw [hll.1], by rw [hll.2], HP1⟩, by simp [intOf]; omega⟩
        · have HD : Hid (dueW t x = false) := by show dueW t x = false; simp [dueW, hd1, hd2]
          rw [decide_eq_false hd2] at hH
          go_upto_region 9 with fail
          generalize wr.alloc (.cells #[.int .i64 x.num, .int .i64 x.d, .int .i64 x.v, .int .i64 x.amt, .int .i64 x.hei, .int .i64 x.due, .int .i64 x.h0, .int .i64 x.h1] 127) = wp at *
          clear c0 c1 c2 c3 c4 c5 c6 c7 HP hPk hd2
          obtain ⟨c0, c1, c2, c3, c4, c5, c6, c7⟩ := Yq.cells
          have hwq := HQ.out.size
          go_upto_region 10 with (go_at_call 68; refine (hH _).mono ?_; rintro e wq ⟨rfl, h5⟩; have HQ5 := hide (HQ.out.over (by omega) h5); have Y5 := Yq.later h5 Yq.lt; clear h5)
          clear c0 c1 c2 c3 c4 c5 c6 c7 HQ Yq
          obtain ⟨c0, c1, c2, c3, c4, c5, c6, c7⟩ := Y5.cells
          have HQ := hide HQ5.out
          have hz5 := Y5.lt
          go_wp2_with (at_builtin; refine wpList_ap3 rfl rfl _ _ rfl w2.heap.size A C wq.heap.size (leftW t (s.W.take k)) x rfl rfl (by exact HQ.out.own9.over ((Below.refl _ wq).alloc (Nat.le_refl _) _)) (by omega) (by simp; omega) (by exact fun j u hj => wt_new wq x _ j u hj) ?_; rintro g D w13 ⟨hO13, hg1, hg2, hb13, hk13⟩; have HO13 := hide hO13; have HB13 := hide hb13; have HK13 := hide hk13; clear hO13 hb13 hk13)
          have HP1 := hide ((HQ.out.over (by omega) ((Below.refl _ wq).alloc (Nat.le_refl _) (.cells #[.int .i64 x.num, .int .i64 x.d, .int .i64 x.v, .int .i64 x.amt, .int .i64 x.hei, .int .i64 x.due, .int .i64 x.h0, .int .i64 x.h1] 127))).left HX.out HD.out (by omega) (by omega) HO13.out HB13.out HK13.out)
          have hll := len_left HX.out HD.out
          exact ⟨⟨k + 1, some ⟨g, 0, none⟩, D, A', C', by omega, by go_num, by rw [hll.1], by rw [hll.2], HP1⟩, by simp [intOf]; omega⟩
      · have HD : Hid (dueW t x = false) := by show dueW t x = false; simp [dueW, hd1]
        go_upto_region 9 with fail
        generalize wr.alloc (.cells #[.int .i64 x.num, .int .i64 x.d, .int .i64 x.v, .int .i64 x.amt, .int .i64 x.hei, .int .i64 x.due, .int .i64 x.h0, .int .i64 x.h1] 127) = wq at *
        clear c0 c1 c2 c3 c4 c5 c6 c7 HP hPk hH
        obtain ⟨c0, c1, c2, c3, c4, c5, c6, c7⟩ := Yq.cells
        have hwq := HQ.out.size
        go_wp2_with (at_builtin; refine wpList_ap3 rfl rfl _ _ rfl w2.heap.size A C wq.heap.size (leftW t (s.W.take k)) x rfl rfl (by exact HQ.out.own9.over ((Below.refl _ wq).alloc (Nat.le_refl _) _)) (by omega) (by simp; omega) (by exact fun j u hj => wt_new wq x _ j u hj) ?_; rintro g D w13 ⟨hO13, hg1, hg2, hb13, hk13⟩; have HO13 := hide hO13; have HB13 := hide hb13; have HK13 := hide hk13; clear hO13 hb13 hk13)
        have HP1 := hide ((HQ.out.over (by omega) ((Below.refl _ wq).alloc (Nat.le_refl _) (.cells #[.int .i64 x.num, .int .i64 x.d, .int .i64 x.v, .int .i64 x.amt, .int .i64 x.hei, .int .i64 x.due, .int .i64 x.h0, .int .i64 x.h1] 127))).left HX.out HD.out (by omega) (by omega) HO13.out HB13.out HK13.out)
        have hll := len_left HX.out HD.out
        exact ⟨⟨k + 1, some ⟨g, 0, none⟩, D, A', C', by omega, by go_num, by rw [hll.1], by rw [hll.2], HP1⟩, by simp [intOf]; omega⟩
    · obtain rfl : k = s.W.length := by omega
      clear hPy hadr
      rw [List.take_length]
      have HS := hide HP.out.S
      have HR := hide HP.out.R
      have HBk := hide HP.out.bank
      have HO9 := hide HP.out.own9
      have HO10 := hide HP.out.own10
      have HBw := hide HP.out.below
      clear HP
      rw [List.take_length] at HBk HO9 HO10
      obtain ⟨x0, x1, x2, x3, x4, x5, x6, x7, _⟩ := st_cells HS.out
      obtain ⟨b0, b1, b2, b3, b4, b5, b6⟩ := HBk.out.cells
      have f0 := HS.out.free 0
      have f1 := HS.out.free 1
      have f2 := HS.out.free 2
      have f3 := HS.out.free 3
      have f4 := HS.out.free 4
      have f5 := HS.out.free 5
      have f6 := HS.out.free 6
      have f61 := HS.out.free 61
      have hne : w1.heap.size ≠ w.heap.size := by omega
      have hzr : w.heap.size < wr.heap.size := by omega
      have hzr1 : w1.heap.size < wr.heap.size := by omega
      generalize hbk : payF t s.b s.W = bk at *
      go_upto_region 17 with fail
      change Code.wp Tryz.prog _ _ _ ((bset wr w.heap.size bk).setCell ⟨w.heap.size, 61, none⟩ (.slice A (leftW t s.W).length C))
      have hbt : But w.heap.size wr ((bset wr w.heap.size bk).setCell ⟨w.heap.size, 61, none⟩ (.slice A (leftW t s.W).length C)) := ((((((((But.refl _ _).set 0 _).set 1 _).set 2 _).set 3 _).set 4 _).set 5 _).set 6 _).set 61 _
      have S8 := (set_bank HS.out bk).set 61 (.slice A (leftW t s.W).length C)
      rw [set_sl] at S8
      have R8 := hbt.stake (by omega) HR.out
      have HO9' : Hid (OwnW w2.heap.size ((bset wr w.heap.size bk).setCell ⟨w.heap.size, 61, none⟩ (.slice A (leftW t s.W).length C)) A C (leftW t s.W)) := own_of HO9.out fun k' hk => hbt.block _ (by have := (World.ownsRow.lt HO9.out k' hk).1; omega)
      have HO10' : Hid (OwnN w2.heap.size ((bset wr w.heap.size bk).setCell ⟨w.heap.size, 61, none⟩ (.slice A (leftW t s.W).length C)) A' C' (paidW t s.W)) := own_of HO10.out fun k' hk => hbt.block _ (by have := (World.ownsRow.lt HO10.out k' hk).1; omega)
      have HB8 := hide (HBw.out.trans (hbt.below (Nat.le_refl _)))
      generalize (bset wr w.heap.size bk).setCell ⟨w.heap.size, 61, none⟩ (.slice A (leftW t s.W).length C) = w8 at *
      clear x0 x1 x2 x3 x4 x5 x6 x7 b0 b1 b2 b3 b4 b5 b6 f0 f1 f2 f3 f4 f5 f6 f61 hbt HS HR HBk HO9 HO10 HBw
      have S9 : SAt w8 w.heap.size (stC (payS s t) (.slice A (leftW t s.W).length C)) := by
        have e : stC (payS s t) (.slice A (leftW t s.W).length C) = stC { s with b := bk } (.slice A (leftW t s.W).length C) := by rw [← hbk]; rfl
        rw [e]; exact S8
      clear S8 hbk
      apply wp_region_lit
      refine wpList_load_mid rfl 32 _ rfl _ 0 rfl _ _ S9.range Tryz.underlying32 rfl (by rw [infoS]; rfl) ?_
      refine wpList_mv rfl _ rfl ?_
      refine wpList_store_mid rfl 32 _ _ rfl _ 0 (stC (payS s t) (.slice A (leftW t s.W).length C)) rfl rfl (R8.there 0 _ (by rw [Z63_size, stC_size]; omega)) (by rw [infoS]; rfl) (stC_one _ _ _ _) ?_
      go_wp2
      exact stake_end3 Tryz.results31 R8 rfl (payS s t) _ _ _ _ ⟨A, C, A', C', rfl, own_base (own_of HO9'.out fun k' hk => heap_sets (by have := (World.ownsRow.lt HO9'.out k' hk).1; omega) _ _ _) (by omega), own_base (own_of HO10'.out fun k' hk => heap_sets (by have := (World.ownsRow.lt HO10'.out k' hk).1; omega) _ _ _) (by omega), below_sets (by omega) _ _ _ HB8.out⟩ _ rfl rfl rfl rfl
end Go.Proofs.YtjghbciepinofaaGreat

set_option maxRecDepth 100000
namespace Go.Proofs.YtjghbciepinofaaGreat.Df
abbrev Pw := Int × Int
/-- a power is put in its validator's place -/
def putP (P : Nat → Int) (x : Pw) : Nat → Int := if 0 ≤ x.1 ∧ x.1 < 6 then (fun i => if i = x.1.toNat then x.2 else P i) else P
def zeroP : Nat → Int := fun _ => 0
/-- the first one counts -/
def firstP (l : List Pw) : Nat → Int := l.foldr (fun x P => putP P x) zeroP
/-- the last one counts -/
def lastP (P : Nat → Int) (l : List Pw) : Nat → Int := l.foldl putP P
/-- those of the first n that are wanted, with their powers -/
def those (c : Nat → Bool) (f : Nat → Int) (n : Nat) : List Pw := (List.range n).filterMap fun v => if c v = true then some ((v : Int), f v) else none
theorem those_succ (c : Nat → Bool) (f : Nat → Int) (n : Nat) : those c f (n + 1) = if c n = true then those c f n ++ [((n : Int), f n)] else those c f n := by
  unfold those
  rw [List.range_succ, List.filterMap_append]
  cases h : c n <;> simp [h]
theorem those_len (c : Nat → Bool) (f : Nat → Int) : ∀ n, (those c f n).length ≤ n
  | 0 => by simp [those]
  | n + 1 => by
    have := those_len c f n
    rw [those_succ]
    split
    · rw [List.length_append]; simp; omega
    · omega
def diffL (a b : List Pw) : List Pw := those (fun v => decide (firstP b v ≠ firstP a v)) (firstP b) 6
def applyL (a d : List Pw) : List Pw := those (fun v => decide (0 < lastP (lastP zeroP a) d v)) (lastP (lastP zeroP a) d) 6
/-- a set, by its powers -/
def setOf (P : Nat → Int) : List Pw := those (fun v => decide (0 < P v)) P 6
theorem put_at {P : Nat → Int} {n : Nat} {x : Int} (hn : n < 6) (i : Nat) : putP P ((n : Int), x) i = if i = n then x else P i := by
  unfold putP
  rw [if_pos (by simp; omega)]
  simp
theorem last_those (P : Nat → Int) (c : Nat → Bool) (f : Nat → Int) : ∀ n, n ≤ 6 → ∀ i, lastP P (those c f n) i = if i < n ∧ c i = true then f i else P i
  | 0, _, i => by simp [those, lastP]
  | n + 1, hn, i => by
    have ih := last_those P c f n (by omega)
    rw [those_succ]
    cases hc : c n
    · rw [if_neg (by simp), ih i]
      by_cases hi : i = n
      · subst hi; simp [hc]
      · have : (i < n ↔ i < n + 1) := by omega
        simp [this]
    · rw [if_pos rfl]
      unfold lastP at ih ⊢
      rw [List.foldl_append]
      show putP _ _ i = _
      rw [put_at (by omega), ih i]
      by_cases hi : i = n
      · subst hi; simp [hc]
      · have : (i < n ↔ i < n + 1) := by omega
        simp [hi, this]
theorem first_those' (c : Nat → Bool) (f : Nat → Int) : ∀ n, n ≤ 6 → ∀ (P : Nat → Int) i, (those c f n).foldr (fun x P => putP P x) P i = if i < n ∧ c i = true then f i else P i
  | 0, _, P, i => by simp [those]
  | n + 1, hn, P, i => by
    have ih := first_those' c f n (by omega)
    rw [those_succ]
    cases hc : c n
    · rw [if_neg (by simp), ih P i]
      by_cases hi : i = n
      · subst hi; simp [hc]
      · have : (i < n ↔ i < n + 1) := by omega
        simp [this]
    · rw [if_pos rfl, List.foldr_append, ih]
      simp only [List.foldr_cons, List.foldr_nil]
      rw [put_at (by omega)]
      by_cases hi : i = n
      · subst hi; simp [hc]
      · have : (i < n ↔ i < n + 1) := by omega
        simp [hi, this]
theorem first_set {P : Nat → Int} (h0 : ∀ i, 0 ≤ P i) {i : Nat} (hi : i < 6) : firstP (setOf P) i = P i := by
  unfold firstP setOf
  rw [first_those' _ _ 6 (by omega)]
  by_cases h : 0 < P i
  · simp [hi, h]
  · have := h0 i
    simp [h, zeroP]
    omega
theorem last_set {P : Nat → Int} (h0 : ∀ i, 0 ≤ P i) {i : Nat} (hi : i < 6) : lastP zeroP (setOf P) i = P i := by
  unfold setOf
  rw [last_those _ _ _ 6 (by omega)]
  by_cases h : 0 < P i
  · simp [hi, h]
  · have := h0 i
    simp [h, zeroP]
    omega
theorem those_congr {c c' : Nat → Bool} {f f' : Nat → Int} : ∀ n, (∀ i, i < n → c i = c' i ∧ (c i = true → f i = f' i)) → those c f n = those c' f' n
  | 0, _ => rfl
  | n + 1, h => by
    rw [those_succ, those_succ, those_congr n (fun i hi => h i (by omega))]
    obtain ⟨h1, h2⟩ := h n (by omega)
    rw [← h1]
    split
    · rename_i hc
      rw [h2 hc]
    · rfl
/-- what changes leads from one set to the next -/
theorem apply_diff {P R : Nat → Int} (hP : ∀ i, 0 ≤ P i) (hR : ∀ i, 0 ≤ R i) : applyL (setOf P) (diffL (setOf P) (setOf R)) = setOf R := by
  have key : ∀ i, i < 6 → lastP (lastP zeroP (setOf P)) (diffL (setOf P) (setOf R)) i = R i := by
    intro i hi
    unfold diffL
    rw [last_those _ _ _ 6 (by omega)]
    simp only [first_set hP hi, first_set hR hi, last_set hP hi]
    by_cases h : R i = P i
    · simp [h]
    · simp [h, hi]
  unfold applyL
  exact those_congr 6 fun i hi => ⟨by rw [key i hi], fun _ => key i hi⟩
theorem apply_nil {P : Nat → Int} (hP : ∀ i, 0 ≤ P i) : applyL (setOf P) [] = setOf P := by
  have key : ∀ i, i < 6 → lastP (lastP zeroP (setOf P)) [] i = P i := fun i hi => last_set hP hi
  unfold applyL
  exact those_congr 6 fun i hi => ⟨by rw [key i hi], fun _ => key i hi⟩
theorem those_false {c : Nat → Bool} {f : Nat → Int} : ∀ n, (∀ i, i < n → c i = false) → those c f n = []
  | 0, _ => rfl
  | n + 1, h => by rw [those_succ, if_neg (by simp [h n (by omega)]), those_false n (fun i hi => h i (by omega))]
theorem diff_self (a : List Pw) : diffL a a = [] := those_false 6 fun i _ => by simp
/-- all together, going round -/
def allN (l : List Pw) : Int := l.foldl (fun s x => (s + x.2 + 9223372036854775808) % 18446744073709551616 - 9223372036854775808) 0
theorem foldr_drop (l : List Pw) (k : Nat) (hk : k < l.length) : firstP (l.drop k) = putP (firstP (l.drop (k + 1))) (l.getD k (0, 0)) := by
  unfold firstP
  rw [List.drop_eq_getElem_cons hk, List.foldr_cons, show l.getD k (0, 0) = l[k] by simp [List.getD, hk]]
theorem all_take (l : List Pw) (k : Nat) (hk : k < l.length) : allN (l.take (k + 1)) = (allN (l.take k) + (l.getD k (0, 0)).2 + 9223372036854775808) % 18446744073709551616 - 9223372036854775808 := by
  unfold allN
  rw [List.take_succ_eq_append_getElem hk, List.foldl_append]
  simp [List.getD, hk]
end Go.Proofs.YtjghbciepinofaaGreat.Df

