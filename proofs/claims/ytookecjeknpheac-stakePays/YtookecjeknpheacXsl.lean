/- A list of waits cloned. What a slash takes: plain facts. A stake behind a slash: plain facts. slashWaits. Jail, Unjail, Bury. Slash. -/
import Derived.Test.YtookecjeknpheacXpy
import Derived.Test.YtookecjeknpheacXra
import Derived.Test.YtookecjeknpheacXsa
import Derived.Laws.Cover3
import Derived.ChangeKeysEq
set_option maxRecDepth 100000
namespace Go.Proofs.Ytookecjeknpheac
open Go.RowKit
theorem eqNil (w : World) (a : Option Addr) (n c : Nat) : (binOp .eql 41 (.slice a n c) (.slice none 0 0)).run Try.prog w = .ok (.bool a.isNone) w := by
  simp [binOp, run_equal_slice_nil w 41 53 a n c Try.underlying41]
theorem clone_nil (c : Nat) (w : World) : Calls Try.prog 63 #[.slice none 0 c] w fun e w' => e = .returned (.slice none 0 0) ∧ w = w' := by
  have hq := fun w => eqNil w none 0 c
  go_enter Try.func63, Try.ntmps63
  go_wp2
  go_ret
  exact ⟨rfl, rfl⟩
theorem wtL_one (W : List Wt) : ∀ u ∈ wsL W, u.oneCell' = true := by
  intro u hu
  obtain ⟨x, _, hx⟩ := List.mem_flatMap.1 hu
  simp [wtL] at hx
  rcases hx with rfl | rfl | rfl | rfl | rfl | rfl | rfl | rfl <;> rfl
theorem own_nil (w : World) : (w.alloc (.cells #[] 53)).ownsRow w.heap.size 53 8 (.slice (some ⟨w.heap.size, 0, none⟩) 0 0) 0 [] := ⟨rfl, .inr ⟨w.heap.size, 0, #[], rfl, Nat.le_refl _, heap_alloc_new _ _, Nat.le_refl _, Nat.zero_le _, rfl, rfl⟩⟩
theorem ap_clone (w : World) (a : Addr) (c sb so : Nat) (W : List Wt) (hW : WsAt w (some a) sb so W) :
    ∃ A C w', (Builtin.append_ #[41, 41] 41 #[.slice (some ⟨w.heap.size, 0, none⟩) 0 0, .slice (some a) W.length c]).run Try.prog (w.alloc (.cells #[] 53)) = .ok (.slice A W.length C) w' ∧ OwnW w.heap.size w' A C W ∧ Below w.heap.size w w' := by
  obtain ⟨i0, hi, hz0, hz1, hz2⟩ := info_parts info44
  have hl := hW.len
  obtain ⟨v', w', hr, ho, hg, -, hat⟩ := run_append_own_at (P := Try.prog) (w.alloc (.cells #[] 53)) w.heap.size 41 41 53 i0 _ 8 64 Try.underlying41 hi hz0 hz1 hz2 rfl (by omega) _ 0 [] (own_nil w) a W.length c (wsL W) (wsL_length W)
    (fun j u hj => by
      have h0 : 0 < W.length := by
        have := (List.getElem?_eq_some_iff.1 hj).1
        rw [wsL_length] at this
        omega
      have ha := hW.adr h0
      cases ha
      rw [Addr.add_lit]
      exact ws_cells (hW.over ((Below.refl _ w).alloc (Nat.le_refl _) _)) j u hj) (wtL_one W) (by simp only [maxLen]; omega) (by omega) (by simp)
  rw [Nat.zero_add, List.nil_append] at ho
  have hv : ∃ A C, v' = .slice A W.length C := by
    rcases ho.2 with ⟨rfl, h0⟩ | ⟨g, cap, cur, rfl, _⟩
    · rw [h0]; exact ⟨none, 0, rfl⟩
    · exact ⟨_, _, rfl⟩
  obtain ⟨A, C, rfl⟩ := hv
  refine ⟨A, C, w', hr, ho, ?_⟩
  have hb := (Below.refl w.heap.size w).alloc (Nat.le_refl _) (.cells #[] 53)
  exact ⟨hg.os.trans hb.os, hg.tape.trans hb.tape, hg.output.trans hb.output, Nat.le_trans hb.size hg.size, fun k hk => (hg.block k (by simp; omega) (by simp [Value.ownBlock]; omega)).trans (hb.block k hk)⟩
theorem wpList_cl {ops : Array Oper} {rest : List Oper} {o : Oper} {a : Act} {w : World} {Q : Exit → Act → World → Prop} (hg : o.guard = none) (hty : o.type = 41) (p q : Operand)
    (hop : o.op = Op.call { callee := Callee.builtin Builtin.append, args := #[p, q], argTypes := #[41, 41] }) (ad : Addr) (c sb so : Nat) (W : List Wt) (hs : a.eval p = .slice (some ⟨w.heap.size, 0, none⟩) 0 0) (hx : a.eval q = .slice (some ad) W.length c) (hW : WsAt w (some ad) sb so W)
    (hK : ∀ A C w', OwnW w.heap.size w' A C W ∧ Below w.heap.size w w' → wpList Try.prog ops Q rest (a.put o.dst (.slice A W.length C)) w') : wpList Try.prog ops Q (o :: rest) a (w.alloc (.cells #[] 53)) := by
  refine wpList_plain hg fun _ hK' => ?_
  unfold Oper.wp
  obtain ⟨A, C, w', hr, h1⟩ := ap_clone w ad c sb so W hW
  simp [execOp, hop, resolve, invoke, builtin, hs, hx, hty, hr, Result.andThen]
  exact hK' _ _ (hK _ _ _ h1)
theorem clone_some (a : Addr) (W : List Wt) (c sb so : Nat) (w : World) (hW : WsAt w (some a) sb so W) : Calls Try.prog 63 #[.slice (some a) W.length c] w fun e w' => ∃ A C, e = .returned (.slice A W.length C) ∧ OwnW w.heap.size w' A C W ∧ Below w.heap.size w w' := by
  have hq := fun w => eqNil w (some a) W.length c
  go_enter Try.func63, Try.ntmps63
  go_upto_region 3 with fail
  apply wp_region_lit
  iterate 6 go_step
  refine wpList_cl rfl rfl _ _ rfl a c sb so W rfl rfl hW ?_
  rintro A C w' ⟨h1, h2⟩
  have H1 := hide h1
  have H2 := hide h2
  clear h1 h2
  go_wp2
  go_ret
  exact ⟨A, C, rfl, H1.out, H2.out⟩
/-- a list of waits cloned -/
theorem clone_any (ao : Option Addr) (W : List Wt) (c sb so : Nat) (w : World) (hW : WsAt w ao sb so W) : Calls Try.prog 63 #[.slice ao W.length c] w fun e w' => ∃ A C, e = .returned (.slice A W.length C) ∧ OwnW w.heap.size w' A C W ∧ Below w.heap.size w w' := by
  cases ao with
  | some a => exact clone_some a W c sb so w hW
  | none =>
    have h0 : W.length = 0 := by
      rcases Nat.eq_zero_or_pos W.length with h0 | h0
      · exact h0
      · have := hW.adr h0; cases this
    obtain rfl : W = [] := List.length_eq_zero_iff.1 h0
    refine (clone_nil c w).mono ?_
    rintro e w' ⟨rfl, rfl⟩
    exact ⟨none, 0, rfl, ⟨rfl, .inl ⟨rfl, rfl⟩⟩, Below.refl _ _⟩
end Go.Proofs.Ytookecjeknpheac
namespace Go.Proofs.Ytookecjeknpheac
def ptN (n f : Int) : Int := Ra.ptN n f
def ptE (n f : Int) : Int := Ra.ptE n f
theorem pt_in {n f : Int} (hn : 0 ≤ n ∧ n ≤ 1125899906842624) (hf : 0 ≤ f ∧ f ≤ 1000) : ptE n f = 0 ∧ 0 ≤ ptN n f ∧ ptN n f ≤ n := by
  obtain ⟨h1, h2⟩ := Ra.pt_good (n := n) (f := f) ⟨Ra.inB_iff.2 hn, hf⟩
  refine ⟨h2, ?_, ?_⟩
  · show 0 ≤ Ra.ptN n f
    rw [h1]
    exact Int.ediv_nonneg (Int.mul_nonneg hn.1 hf.1) (by omega)
  · show Ra.ptN n f ≤ n
    rw [h1]
    exact Int.ediv_le_of_le_mul (by omega) (Int.mul_le_mul_of_nonneg_left hf.2 hn.1)
theorem pt_out {n f : Int} (hf : ¬ (0 ≤ f ∧ f ≤ 1000)) : ptE n f = 2 ∧ ptN n f = 0 := by
  unfold ptE ptN Ra.ptE Ra.ptN
  rw [if_neg (fun h => hf h.2), if_neg (fun h => hf h.2)]
  exact ⟨rfl, rfl⟩
/-- is a wait touched? -/
def hitW (v h : Int) (x : Wt) : Bool := decide (x.v = v) && decide (h ≤ x.hei)
def slX (v h f : Int) (x : Wt) : Wt := if hitW v h x = true then { x with amt := x.amt - ptN x.amt f } else x
def slW (v h f : Int) (W : List Wt) : List Wt := W.map (slX v h f)
def slP (v h f : Int) (x : Wt) : Int := if hitW v h x = true then ptN x.amt f else 0
def slN (v h f : Int) : List Wt → Int
  | [] => 0
  | x :: W => slP v h f x + slN v h f W
theorem slN_append (v h f : Int) : ∀ A B : List Wt, slN v h f (A ++ B) = slN v h f A + slN v h f B
  | [], B => by simp [slN]
  | x :: A, B => by simp only [List.cons_append, slN, slN_append v h f A B]; omega
theorem slP_in {v h f : Int} {x : Wt} (hx : 0 ≤ x.amt ∧ x.amt ≤ 1125899906842624) (hf : 0 ≤ f ∧ f ≤ 1000) : 0 ≤ slP v h f x ∧ slP v h f x ≤ x.amt := by
  have := pt_in hx hf
  unfold slP
  split <;> omega
theorem slN_in {v h f : Int} (hf : 0 ≤ f ∧ f ≤ 1000) : ∀ {W : List Wt}, (∀ x ∈ W, 0 ≤ x.amt ∧ x.amt ≤ 1125899906842624) → 0 ≤ slN v h f W ∧ slN v h f W ≤ amts W
  | [], _ => ⟨Int.le_refl _, Int.le_refl _⟩
  | x :: W, h1 => by
    have := slP_in (v := v) (h := h) (h1 x (List.mem_cons_self ..)) hf
    have := slN_in (v := v) (h := h) hf (W := W) fun y hy => h1 y (List.mem_cons_of_mem _ hy)
    simp only [slN, amts]
    omega
theorem sl_amts (v h f : Int) : ∀ W : List Wt, amts (slW v h f W) = amts W - slN v h f W
  | [] => rfl
  | x :: W => by
    have := sl_amts v h f W
    simp only [slW, List.map_cons, amts, slN] at *
    have e : (slX v h f x).amt = x.amt - slP v h f x := by
      unfold slX slP
      split
      · rfl
      · omega
    omega
theorem sl_step (v h f : Int) {W : List Wt} {k : Nat} {x : Wt} (hx : W[k]? = some x) : slW v h f (W.take (k + 1)) ++ W.drop (k + 1) = (slW v h f (W.take k) ++ W.drop k).set k (slX v h f x) ∧ (slW v h f (W.take k) ++ W.drop k)[k]? = some x ∧ slN v h f (W.take (k + 1)) = slN v h f (W.take k) + slP v h f x := by
  obtain ⟨hk, he⟩ := List.getElem?_eq_some_iff.1 hx
  have hl : (slW v h f (W.take k)).length = k := by unfold slW; rw [List.length_map, List.length_take]; omega
  have hd : W.drop k = x :: W.drop (k + 1) := by rw [← he]; exact List.drop_eq_getElem_cons hk
  refine ⟨?_, ?_, ?_⟩
  · rw [take_snoc hx, hd]
    unfold slW at *
    rw [List.map_append, List.set_append_right _ _ (by omega), hl, Nat.sub_self, List.append_assoc]
    rfl
  · rw [List.getElem?_append_right (by omega), hl, Nat.sub_self, hd]
    rfl
  · rw [take_snoc hx, slN_append]
    simp [slN]
theorem sl_same {v h f : Int} {x : Wt} (hx : hitW v h x = false) : slX v h f x = x ∧ slP v h f x = 0 := by
  unfold slX slP
  rw [if_neg (by simp [hx]), if_neg (by simp [hx])]
  exact ⟨rfl, rfl⟩
theorem sl_hit {v h f : Int} {x : Wt} (hx : hitW v h x = true) : slX v h f x = { x with amt := x.amt - ptN x.amt f } ∧ slP v h f x = ptN x.amt f := by
  unfold slX slP
  rw [if_pos hx, if_pos hx]
  exact ⟨rfl, rfl⟩
theorem set_same {W : List Wt} {k : Nat} {x : Wt} (h : W[k]? = some x) : W.set k x = W := by
  obtain ⟨hk, rfl⟩ := List.getElem?_eq_some_iff.1 h
  exact List.set_getElem_self hk
end Go.Proofs.Ytookecjeknpheac
namespace Go.Proofs.Ytookecjeknpheac
def slashV (x : Vd) (pb pw : Int) : Vd := { x with tok := x.tok - pb, lost := x.lost + (pb + pw) }
def slashS (s : St) (v : Nat) (h f : Int) : St := { s with b := (burnR s.b (ptN (s.V v).tok f) (slN v h f s.W)).1, V := setV s.V v (slashV (s.V v) (ptN (s.V v).tok f) (slN v h f s.W)), W := slW v h f s.W }
theorem burn_zero {b : Bk} {x y : Int} (hg : b.good = true) (hx : 0 ≤ x ∧ x ≤ b.bo) (hy : 0 ≤ y ∧ y ≤ b.wa) : (burnR b x y).2 = 0 ∧ (burnR b x y).1.good = true ∧ (burnR b x y).1.bo = b.bo - x ∧ (burnR b x y).1.wa = b.wa - y ∧ (burnR b x y).1.bu = b.bu + (x + y) := by
  have hb := (good_iff b).1 hg
  have h1 := mv_make (f := 4) (t := 6) hg hx.1 (by omega) hx.2
  have g1 := (good_mv (f := 4) (t := 6) (.inr (.inr (.inr (.inl ⟨rfl, rfl⟩)))) hg hx.1 hx.2).1
  have h2 := mv_make (f := 5) (t := 6) g1 hy.1 (by omega) (show y ≤ b.wa from hy.2)
  have g2 := (good_mv (f := 5) (t := 6) (.inr (.inr (.inr (.inr ⟨rfl, rfl⟩)))) g1 hy.1 (show y ≤ b.wa from hy.2)).1
  unfold burnR
  rw [h1]
  simp only [if_true]
  rw [h2]
  simp only [if_true]
  refine ⟨trivial, g2, rfl, rfl, ?_⟩
  show b.bu + x + y = _
  omega
theorem slX_keeps (v h f : Int) (x : Wt) : (slX v h f x).num = x.num ∧ (slX v h f x).d = x.d ∧ (slX v h f x).v = x.v ∧ (slX v h f x).hei = x.hei ∧ (slX v h f x).due = x.due ∧ (slX v h f x).amt = x.amt - slP v h f x := by
  unfold slX slP
  split
  · exact ⟨rfl, rfl, rfl, rfl, rfl, rfl⟩
  · exact ⟨rfl, rfl, rfl, rfl, rfl, by omega⟩
theorem wOk_slash {next v h f : Int} (hf : 0 ≤ f ∧ f ≤ 1000) : ∀ {W : List Wt} {last : Int}, wOk next last W = true → wOk next last (slW v h f W) = true
  | [], _, _ => rfl
  | x :: W, last, hw => by
    obtain ⟨k1, k2, k3, k4, k5, k6⟩ := slX_keeps v h f x
    simp only [wOk, wOk1, Bool.and_eq_true, decide_eq_true_eq, isD_iff, isV_iff, inA_iff] at hw
    obtain ⟨⟨⟨⟨⟨⟨⟨h1, h2⟩, h3⟩, h4⟩, h5⟩, h6⟩, h7⟩, h8⟩ := hw
    have hp := slP_in (v := v) (h := h) h5 hf
    have ih := wOk_slash (v := v) (h := h) hf h8
    simp only [slW, List.map_cons, wOk, wOk1, Bool.and_eq_true, decide_eq_true_eq, isD_iff, isV_iff, inA_iff, k1, k2, k3, k4, k5, k6]
    exact ⟨⟨⟨⟨⟨⟨⟨h1, h2⟩, h3⟩, h4⟩, by omega⟩, h6⟩, h7⟩, ih⟩
theorem plost_ge {V : Nat → Vd} (h : ∀ k, k < 6 → 0 ≤ (V k).lost) {v : Nat} (hv : v < 6) : (V v).lost ≤ plost V 6 := by
  have h0 := h 0 (by omega); have h1 := h 1 (by omega); have h2 := h 2 (by omega); have h3 := h 3 (by omega); have h4 := h 4 (by omega); have h5 := h 5 (by omega)
  simp only [plost]
  rcases six hv with rfl | rfl | rfl | rfl | rfl | rfl <;> omega
/-- the numbers of a slash -/
theorem slash_nums {s : St} (hg : goodS s = true) {v : Nat} (hv : v < 6) (h : Int) {f : Int} (hf : 0 ≤ f ∧ f ≤ 1000) : ptE (s.V v).tok f = 0 ∧ (0 ≤ ptN (s.V v).tok f ∧ ptN (s.V v).tok f ≤ (s.V v).tok) ∧ (0 ≤ slN v h f s.W ∧ slN v h f s.W ≤ s.b.wa) ∧ (s.V v).tok ≤ s.b.bo ∧ (0 ≤ (s.V v).lost ∧ (s.V v).lost ≤ s.b.bu) ∧ s.b.bo ≤ 400000 ∧ s.b.wa ≤ 400000 ∧ s.b.bu ≤ 400000 ∧ amts s.W ≤ 400000 ∧ (∀ x ∈ s.W, 0 ≤ x.amt ∧ x.amt ≤ 1125899906842624) ∧ s.W.length ≤ 60 := by
  obtain ⟨h1, h2, h3, h4, h5, h6, h7, h8, h9⟩ := (goodS_iff s).1 hg
  have hb := (good_iff s.b).1 h1
  have hx := (vOk_iff _).1 (h6 v hv).1
  have hA : ∀ x ∈ s.W, 0 ≤ x.amt ∧ x.amt ≤ 1125899906842624 := fun x hx => (wOk_mem h5 x hx).2.2.2.2.1
  have hp := pt_in hx.1 hf
  have hn := slN_in (v := v) (h := h) hf hA
  have ht := ptok_ge (fun k hk => ((vOk_iff _).1 (h6 k hk).1).1.1) hv
  have hl := plost_ge (fun k hk => ((vOk_iff _).1 (h6 k hk).1).2.2.1.1) hv
  rw [h7] at ht
  rw [h8] at hn
  rw [h9] at hl
  exact ⟨hp.1, hp.2, hn, ht, ⟨hx.2.2.1.1, hl⟩, by omega, by omega, by omega, by omega, hA, h4⟩
theorem slash_burn {s : St} (hg : goodS s = true) {v : Nat} (hv : v < 6) (h : Int) {f : Int} (hf : 0 ≤ f ∧ f ≤ 1000) : (burnR s.b (ptN (s.V v).tok f) (slN v h f s.W)).2 = 0 ∧ (slashS s v h f).b.good = true ∧ (slashS s v h f).b.bo = s.b.bo - ptN (s.V v).tok f ∧ (slashS s v h f).b.wa = s.b.wa - slN v h f s.W ∧ (slashS s v h f).b.bu = s.b.bu + (ptN (s.V v).tok f + slN v h f s.W) := by
  have hs := slash_nums hg hv h hf
  exact burn_zero ((goodS_iff s).1 hg).1 ⟨hs.2.1.1, by omega⟩ hs.2.2.1
theorem slash_good {s : St} (hg : goodS s = true) {v : Nat} (hv : v < 6) (h : Int) {f : Int} (hf : 0 ≤ f ∧ f ≤ 1000) : goodS (slashS s v h f) = true := by
  obtain ⟨b0, b1, b2, b3, b4⟩ := slash_burn hg hv h hf
  obtain ⟨n1, n2, n3, n4, n5, n6, n7, n8, n9, n10, n11⟩ := slash_nums hg hv h hf
  rw [goodS_iff] at hg ⊢
  obtain ⟨h1, h2, h3, h4, h5, h6, h7, h8, h9⟩ := hg
  have hB := (good_iff _).1 b1
  refine ⟨b1, h2, h3, ?_, wOk_slash hf h5, fun k hk => ?_, ?_, ?_, ?_⟩
  · show (slW v h f s.W).length ≤ 60
    unfold slW
    rw [List.length_map]
    exact h4
  · obtain ⟨i1, i2, i3⟩ := h6 k hk
    show vOk (setV s.V v _ k) = true ∧ pshOk s.S k 4 = true ∧ psh s.S k 4 = (setV s.V v _ k).sh
    unfold setV
    by_cases hkv : k = v
    · subst hkv
      rw [if_pos rfl]
      rw [vOk_iff] at i1
      refine ⟨?_, i2, i3⟩
      rw [vOk_iff]
      refine ⟨⟨?_, ?_⟩, i1.2.1, ⟨?_, ?_⟩, ?_, i1.2.2.2.2⟩ <;> simp only [slashV] <;> first | omega | (intro hp; exact i1.2.2.2.1 (by omega))
    · rw [if_neg hkv]
      exact ⟨i1, i2, i3⟩
  · show ptok (setV s.V v _) 6 = _
    rw [ptok_set _ _ _ hv, h7, b2]
    simp only [slashV]
    omega
  · show amts (slW v h f s.W) = _
    rw [sl_amts, h8, b3]
  · show plost (setV s.V v _) 6 = _
    rw [plost_set _ _ _ hv, h9, b4]
    simp only [slashV]
    omega
end Go.Proofs.Ytookecjeknpheac
namespace Go.Proofs.Ytookecjeknpheac
open Go.RowKit
theorem part_any (n f : Int) (w : World) : Calls Try.prog 65 #[.int .i64 n, .int .i64 f] w fun e w' => e = .returned (.tuple #[.int .i64 (ptN n f), .int .i64 (ptE n f)]) ∧ Below w.heap.size w w' := Ra.part13 n f w
theorem wsL_set : ∀ (W : List Wt) (k : Nat) (x : Wt) (y : Int), W[k]? = some x → wsL (W.set k { x with amt := y }) = (wsL W).set (k * 8 + 3) (.int .i64 y)
  | [], k, x, y, h => by simp at h
  | z :: W, 0, x, y, h => by
    simp at h
    subst h
    rfl
  | z :: W, k + 1, x, y, h => by
    have ih := wsL_set W k x y (by simpa using h)
    show wtL z ++ wsL (W.set k _) = (wtL z ++ wsL W).set _ _
    rw [List.set_append_right _ _ (by rw [wtL_length]; omega), wtL_length, ih]
    congr 2
    omega
theorem OwnW.amt {B : Nat} {w : World} {g C : Nat} {W : List Wt} (h : OwnW B w (some ⟨g, 0, none⟩) C W) {k : Nat} {x : Wt} (hx : W[k]? = some x) (y : Int) : OwnW B (w.setCell ⟨g, k * 8 + 3, none⟩ (.int .i64 y)) (some ⟨g, 0, none⟩) C (W.set k { x with amt := y }) := by
  have h1 := (World.ownsRow.stored h (k * 8 + 3) (.int .i64 y)).1
  unfold OwnW
  rw [wsL_set W k x y hx, List.length_set]
  exact h1
theorem OwnW.at0 {B : Nat} {w : World} {A : Option Addr} {C : Nat} {W : List Wt} (h : OwnW B w A C W) (h0 : 0 < W.length) : ∃ g, A = some ⟨g, 0, none⟩ ∧ B ≤ g ∧ g < w.heap.size ∧ ∀ k x, W[k]? = some x → (w.cell? ⟨g, k * 8 + 2, none⟩ = some (.int .i64 x.v) ∧ w.cell? ⟨g, k * 8 + 3, none⟩ = some (.int .i64 x.amt) ∧ w.cell? ⟨g, k * 8 + 4, none⟩ = some (.int .i64 x.hei) ∧ w.frozen? ⟨g, k * 8 + 3, none⟩ = false) := by
  have h' := h
  rcases h.2 with ⟨hv, hn⟩ | ⟨g, cap, cur, hv, hb, hg, hrest⟩
  · omega
  · cases hv
    refine ⟨g, rfl, hb, (Array.getElem?_eq_some_iff.1 hg).1, fun k x hx => ?_⟩
    have c : ∀ j v, (wtL x)[j]? = some v → j < 8 → w.cell? ⟨g, k * 8 + j, none⟩ = some v := fun j v hj hl => by
      have := World.ownsRow.cells h' (g := g) rfl (k * 8 + j) v ((wsL_get W k x j hx hl).trans hj)
      rwa [Addr.add_lit, Nat.zero_add] at this
    exact ⟨c 2 _ rfl (by omega), c 3 _ rfl (by omega), c 4 _ rfl (by omega), World.ownsRow.frozenAt h' _⟩
set_option maxHeartbeats 4000000 in
theorem slashWaits_any (ao : Option Addr) (W : List Wt) (c sb so : Nat) (v h f : Int) (w : World) (hW : WsAt w ao sb so W) (hf : 0 ≤ f ∧ f ≤ 1000) (hA : ∀ x ∈ W, 0 ≤ x.amt ∧ x.amt ≤ 1125899906842624) (hs : amts W ≤ 400000) (h60 : W.length ≤ 60) :
    Calls Try.prog 66 #[.slice ao W.length c, .int .i64 v, .int .i64 h, .int .i64 f] w fun e w' => ∃ A C, e = .returned (.tuple #[.slice A (slW v h f W).length C, .int .i64 (slN v h f W), .int .i64 0]) ∧ OwnW w.heap.size w' A C (slW v h f W) ∧ Below w.heap.size w w' := by
  have hC := clone_any ao W c sb so w hW
  have HL : Hid ((slW v h f W).length = W.length) := by show (slW v h f W).length = W.length; unfold slW; rw [List.length_map]
  have HN : Hid (∀ k, 0 ≤ slN v h f (W.take k) ∧ slN v h f (W.take k) ≤ 400000) := fun k => by
    have h1 := slN_in (v := v) (h := h) hf (W := W.take k) fun x hx => hA x (List.mem_of_mem_take hx)
    have e1 : amts W = amts (W.take k) + amts (W.drop k) := by rw [← amts_append, List.take_append_drop]
    have n2 := amts_nonneg (W := W.drop k) fun y hy => (hA y (List.mem_of_mem_drop hy)).1
    omega
  clear hW hs
  go_enter Try.func66, Try.ntmps66
  go_upto_region 3 with (go_at_call 63; refine hC.mono ?_; rintro e w1 ⟨A, C, rfl, hO, h1⟩; have HO := hide hO; have HB := hide h1; clear hO h1)
  go_loopw [12, 21] (fun al i wl => ∃ (k : Nat), k ≤ W.length ∧ i = .int .i64 (k : Int) ∧ al = .int .i64 (slN v h f (W.take k)) ∧ Hid (OwnW w.heap.size wl A C (slW v h f (W.take k) ++ W.drop k) ∧ Below w.heap.size w wl)) (fun _ i _ => W.length - (intOf i).toNat)
  case atStart => exact ⟨0, Nat.zero_le _, rfl, rfl, HO.out, HB.out⟩
  case round =>
    obtain ⟨k, hk, rfl, rfl, HR⟩ := hrel
    clear HO HB
    obtain ⟨n0, n1⟩ := HN.out k
    by_cases hlt : k < W.length
    · obtain ⟨x, hx, _⟩ := drop_at hlt
      obtain ⟨e1, e2, e3⟩ := sl_step v h f hx
      obtain ⟨n2, n3⟩ := HN.out (k + 1)
      have hxa := hA x (by obtain ⟨h1, h2⟩ := List.getElem?_eq_some_iff.1 hx; exact h2 ▸ List.getElem_mem h1)
      obtain ⟨g, rfl, hgB, hgs, hcl⟩ := HR.out.1.at0 (by rw [List.length_append, List.length_drop]; omega)
      obtain ⟨c2, c3, c4, c5⟩ := hcl k x e2
      have hlen : (slW v h f (W.take k) ++ W.drop k).length = W.length := by unfold slW; rw [List.length_append, List.length_map, ← List.length_append, List.take_append_drop]
      have HE2 := hide e2
      have HE1 := hide e1
      have hcap := HR.out.1.cap
      rw [hlen] at hcap
      clear hcl hC e1 e2 hx hlen
      generalize slW v h f (W.take k) ++ W.drop k = Wk at *
      generalize hW1 : slW v h f (W.take (k + 1)) ++ W.drop (k + 1) = Wk1 at *
      have HW1 := hide hW1
      clear hW1
      by_cases hh : x.v = v ∧ h ≤ x.hei
      · have hhit : hitW v h x = true := by simp [hitW, hh.1, hh.2]
        obtain ⟨s1, s2⟩ := sl_hit (f := f) hhit
        obtain ⟨p0, p1, p2⟩ := pt_in hxa hf
        rw [s1] at HE1
        rw [s2] at e3
        have hP := part_any x.amt f
        rw [p0] at hP
        obtain ⟨hh1, hh2⟩ := hh
        rw [hh1] at c2
        generalize ptN x.amt f = pn at *
        have hw1 : wrap64 (x.amt - pn) = x.amt - pn := wrap64_small (by omega) (by omega)
        rw [e3] at n2 n3
        have HE3 := hide e3
        generalize slN v h f (W.take k) = sk at *
        have hw2 : wrap64 (sk + pn) = sk + pn := wrap64_small (by omega) (by omega)
        clear hhit s1 s2 p0 e3 HN
        go_upto_region 10 with (go_at_call 65; refine (hP _).mono ?_; rintro e w2 ⟨rfl, h2⟩)
        have HR2 : Hid (OwnW w.heap.size w2 (some ⟨g, 0, none⟩) C Wk ∧ Below w.heap.size w w2) := ⟨HR.out.1.over h2, HR.out.2.trans (h2.mono HR.out.2.size)⟩
        obtain ⟨g', hg', _, hgs2, hcl2⟩ := HR2.out.1.at0 (by have := (List.getElem?_eq_some_iff.1 HE2.out).1; omega)
        cases hg'
        obtain ⟨c2', c3', c4', c5'⟩ := hcl2 k x HE2.out
        clear hcl2 h2 c2 c3 c4 c5 HR
        go_wp2
        refine ⟨⟨k + 1, by omega, by go_num, ?_, ?_⟩, by simp [intOf]; omega⟩
        · first | rw [HE3.out] | (rw [HE3.out]; exact congrArg _ hw2)
        · rw [HW1.out, HE1.out]
          exact ⟨HR2.out.1.amt HE2.out _, HR2.out.2.setCell hgB _⟩
      · have hhit : hitW v h x = false := by
          simp only [hitW, Bool.and_eq_false_iff, decide_eq_false_iff_not]
          by_cases h1 : x.v = v
          · exact .inr (fun h2 => hh ⟨h1, h2⟩)
          · exact .inl h1
        obtain ⟨s1, s2⟩ := sl_same (f := f) hhit
        rw [s1] at HE1
        rw [s2] at e3
        have HE3 := hide e3
        have hEq : Hid (Wk1 = Wk) := by show Wk1 = Wk; rw [HE1.out]; exact set_same HE2.out
        clear hhit s1 s2 e3 HN HE1
        go_wp2
        all_goals first
          | (exact ⟨⟨k + 1, by omega, by go_num, by rw [HE3.out, Int.add_zero], by rw [HW1.out, hEq.out]; exact HR.out⟩, by simp [intOf]; omega⟩)
          | (exfalso; exact hh ⟨by first | assumption | omega, by omega⟩)
    · obtain rfl : k = W.length := by omega
      rw [List.take_length, List.drop_length, List.append_nil] at HR
      rw [List.take_length]
      clear hC HN
      go_wp2
      refine bodyPost_ret (v := .tuple #[.slice A W.length C, .int .i64 (slN v h f W), .int .i64 0]) (by simp [results, Try.results66]) rfl ⟨A, C, by rw [HL.out], HR.out.1, HR.out.2⟩
end Go.Proofs.Ytookecjeknpheac
namespace Go.Proofs.Ytookecjeknpheac
open Go.RowKit
/-- a validator is jailed or not, dead or not -/
def setJ (s : St) (v : Nat) (j d : Bool) : St := { s with V := setV s.V v { s.V v with jail := j, dead := d } }
theorem set_J (s : St) (sl : Value) (v : Nat) (hv : v < 6) (x : Bool) : (stC s sl).setIfInBounds (7 + v * 5 + 3) (.bool x) = stC (setJ s v x (s.V v).dead) sl := set_jail s sl v hv x
theorem set_D (s : St) (sl : Value) (v : Nat) (hv : v < 6) (j d x : Bool) : (stC (setJ s v j d) sl).setIfInBounds (7 + v * 5 + 4) (.bool x) = stC (setJ s v j x) sl := by
  rw [set_dead _ sl v hv x]
  unfold setJ
  simp only [setV_setV, setV_at]
def jailS (s : St) (v : Int) : St × Int :=
  if refE s v = 0 then if (s.V v.toNat).jail = true then (s, 14) else (setJ s v.toNat true (s.V v.toNat).dead, 0) else (s, refE s v)
def unjailS (s : St) (v : Int) : St × Int :=
  if refE s v = 0 then if (s.V v.toNat).dead = true then (s, 15) else if (s.V v.toNat).jail = true then (setJ s v.toNat false false, 0) else (s, 4) else (s, refE s v)
def buryS (s : St) (v : Int) : St × Int :=
  if refE s v = 0 then if (s.V v.toNat).dead = true then (s, 15) else (setJ s v.toNat true true, 0) else (s, refE s v)
theorem refE_zero {s : St} {v : Int} (h : refE s v = 0) : goodS s = true ∧ (0 ≤ v ∧ v < 6) := by
  unfold refE at h
  repeat' split at h
  all_goals first | (simp_all [isV_iff]; done) | omega
theorem refE_good {s : St} {v : Nat} (hg : goodS s = true) (hv : v < 6) : refE s v = 0 := by
  unfold refE
  rw [hg, isV_iff.2 (show (0 : Int) ≤ v ∧ (v : Int) < 6 by omega)]
  rfl
end Go.Proofs.Ytookecjeknpheac
namespace Go.Proofs.Ytookecjeknpheac
open Go.RowKit
set_option maxHeartbeats 4000000 in
theorem sslash_no (s : St) (ao : Option Addr) (sb so c : Nat) (v h f : Int) (w : World) (hW : WsAt w ao sb so s.W) (h0 : refE s v ≠ 0) :
    Calls Try.prog 32 #[.agg (stC s (.slice ao s.W.length c)), .int .i64 v, .int .i64 h, .int .i64 f] w fun e w' => e = .returned (.tuple #[.agg (stC s (.slice ao s.W.length c)), .int .i64 0, .int .i64 (refE s v)]) ∧ Below w.heap.size w w' := by
  have SS := (SAt.new w (stC s (.slice ao s.W.length c))).alloc (.cells Z63 43)
  have RR := SAt.new2 w (.cells (stC s (.slice ao s.W.length c)) 43) Z63
  have HB : Hid (Below w.heap.size w ((w.alloc (.cells (stC s (.slice ao s.W.length c)) 43)).alloc (.cells Z63 43))) := ((Below.refl _ w).alloc (Nat.le_refl _) _).alloc (by simp) _
  have HW := hide hW
  clear hW
  go_enter Try.func32, Try.ntmps32
  go_upto_region 1 with fail
  change Code.wp Try.prog _ _ _ ((w.alloc (.cells (stC s (.slice ao s.W.length c)) 43)).alloc (.cells Z63 43))
  generalize (w.alloc (.cells (stC s (.slice ao s.W.length c)) 43)).alloc (.cells Z63 43) = w0 at *
  go_upto_region 2 with (go_at_call 64; refine (refused_any s ao sb so c w.heap.size v _ SS (by exact HW.out.over HB.out)).mono ?_; rintro e w1 ⟨rfl, h1⟩)
  have HB1 := hide (HB.out.trans (h1.mono HB.out.size))
  have S1 := SS.later h1 SS.lt
  have R1 := RR.later h1 RR.lt
  clear SS RR h1 HB
  go_upto_region 3 with fail
  apply wp_region_lit
  refine wpList_load_mid rfl 43 _ rfl _ 0 rfl _ _ S1.range Try.underlying43 rfl (by rw [infoS]; rfl) ?_
  refine wpList_mv rfl _ rfl ?_
  refine wpList_store_mid rfl 43 _ _ rfl _ 0 (stC s (.slice ao s.W.length c)) rfl rfl (R1.there 0 _ (by rw [Z63_size, stC_size]; omega)) (by rw [infoS]; rfl) (stC_one _ _ _ _) ?_
  go_wp2
  exact stake_end3 Try.results32 R1 rfl s _ _ _ _ ⟨rfl, below_sets (by omega) _ _ _ HB1.out⟩ _ rfl rfl rfl rfl
set_option maxHeartbeats 4000000 in
theorem sslash_out (s : St) (ao : Option Addr) (sb so c v : Nat) (h f : Int) (w : World) (hW : WsAt w ao sb so s.W) (hg : goodS s = true) (hv : v < 6) (hf : ¬ (0 ≤ f ∧ f ≤ 1000)) :
    Calls Try.prog 32 #[.agg (stC s (.slice ao s.W.length c)), .int .i64 (v : Int), .int .i64 h, .int .i64 f] w fun e w' => e = .returned (.tuple #[.agg (stC s (.slice ao s.W.length c)), .int .i64 0, .int .i64 2]) ∧ Below w.heap.size w w' := by
  have SS := (SAt.new w (stC s (.slice ao s.W.length c))).alloc (.cells Z63 43)
  have RR := SAt.new2 w (.cells (stC s (.slice ao s.W.length c)) 43) Z63
  have HB : Hid (Below w.heap.size w ((w.alloc (.cells (stC s (.slice ao s.W.length c)) 43)).alloc (.cells Z63 43))) := ((Below.refl _ w).alloc (Nat.le_refl _) _).alloc (by simp) _
  have HW := hide hW
  have hRf := refE_good hg hv
  have hv' : (v : Int) < 6 := by omega
  have hv0 : (0 : Int) ≤ (v : Int) := by omega
  have hP := part_any (s.V v).tok f
  rw [(pt_out hf).1, (pt_out hf).2] at hP
  clear hW hf
  go_enter Try.func32, Try.ntmps32
  go_upto_region 1 with fail
  change Code.wp Try.prog _ _ _ ((w.alloc (.cells (stC s (.slice ao s.W.length c)) 43)).alloc (.cells Z63 43))
  generalize (w.alloc (.cells (stC s (.slice ao s.W.length c)) 43)).alloc (.cells Z63 43) = w0 at *
  go_upto_region 2 with (go_at_call 64; refine (refused_any s ao sb so c w.heap.size v _ SS (by exact HW.out.over HB.out)).mono ?_; rintro e w1 ⟨rfl, h1⟩)
  have HB1 := hide (HB.out.trans (h1.mono HB.out.size))
  have S1 := SS.later h1 SS.lt
  have R1 := RR.later h1 RR.lt
  clear SS RR h1 HB
  have c0 := (S1.val v hv).1
  have hz1 : w.heap.size < w1.heap.size := S1.lt
  go_upto_region 7 with (go_at_call 65; refine (hP _).mono ?_; rintro e w2 ⟨rfl, h2⟩)
  have HB2 := hide (HB1.out.trans (h2.mono (by omega)))
  have S2 := S1.later h2 S1.lt
  have R2 := R1.later h2 R1.lt
  clear h2 S1 R1 HB1 c0
  apply wp_region_lit
  refine wpList_load_mid rfl 43 _ rfl _ 0 rfl _ _ S2.range Try.underlying43 rfl (by rw [infoS]; rfl) ?_
  refine wpList_mv rfl _ rfl ?_
  refine wpList_store_mid rfl 43 _ _ rfl _ 0 (stC s (.slice ao s.W.length c)) rfl rfl (R2.there 0 _ (by rw [Z63_size, stC_size]; omega)) (by rw [infoS]; rfl) (stC_one _ _ _ _) ?_
  go_wp2
  exact stake_end3 Try.results32 R2 rfl s _ _ _ _ ⟨rfl, below_sets (by omega) _ _ _ HB2.out⟩ _ rfl rfl rfl rfl
set_option maxHeartbeats 8000000 in
theorem sslash_yes (s : St) (ao : Option Addr) (sb so c v : Nat) (h f : Int) (w : World) (hW : WsAt w ao sb so s.W) (hg : goodS s = true) (hv : v < 6) (hf : 0 ≤ f ∧ f ≤ 1000) :
    Calls Try.prog 32 #[.agg (stC s (.slice ao s.W.length c)), .int .i64 (v : Int), .int .i64 h, .int .i64 f] w fun e w' => ∃ A C, e = .returned (.tuple #[.agg (stC (slashS s v h f) (.slice A (slashS s v h f).W.length C)), .int .i64 (ptN (s.V v).tok f + slN v h f s.W), .int .i64 0]) ∧ OwnW w.heap.size w' A C (slashS s v h f).W ∧ Below w.heap.size w w' := by
  have SS := (SAt.new w (stC s (.slice ao s.W.length c))).alloc (.cells Z63 43)
  have RR := SAt.new2 w (.cells (stC s (.slice ao s.W.length c)) 43) Z63
  have HB : Hid (Below w.heap.size w ((w.alloc (.cells (stC s (.slice ao s.W.length c)) 43)).alloc (.cells Z63 43))) := ((Below.refl _ w).alloc (Nat.le_refl _) _).alloc (by simp) _
  have HW := hide hW
  have hRf := refE_good hg hv
  have hv' : (v : Int) < 6 := by omega
  have hv0 : (0 : Int) ≤ (v : Int) := by omega
  obtain ⟨n1, n2, n3, n4, n5, n6, n7, n8, n9, n10, n11⟩ := slash_nums hg hv h hf
  obtain ⟨b0, -⟩ := slash_burn hg hv h hf
  have hP := part_any (s.V v).tok f
  have hSl := fun w hw => slashWaits_any ao s.W c sb so v h f w hw hf n10 n9 n11
  have hBu := fun w => burn_any s.b (ptN (s.V v).tok f) (slN v h f s.W) w
  rw [b0] at hBu
  rw [n1] at hP
  have eS : slashS s v h f = { s with b := (burnR s.b (ptN (s.V v).tok f) (slN v h f s.W)).1, V := setV s.V v (slashV (s.V v) (ptN (s.V v).tok f) (slN v h f s.W)), W := slW v h f s.W } := rfl
  generalize (burnR s.b (ptN (s.V v).tok f) (slN v h f s.W)).1 = B at *
  have hWs : (slashS s v h f).W = slW v h f s.W := rfl
  generalize slashS s v h f = r at *
  generalize ptN (s.V v).tok f = pb at *
  generalize slN v h f s.W = pw at *
  rw [hWs]
  generalize slW v h f s.W = Ws at *
  obtain ⟨n20, n21⟩ := n2
  obtain ⟨n30, n31⟩ := n3
  obtain ⟨n50, n51⟩ := n5
  have hw0 : wrap64 (pb + pw) = pb + pw := wrap64_small (by omega) (by omega)
  have HES := hide eS
  clear hW hf hg n1 n9 n10 n11 b0 eS hWs
  go_enter Try.func32, Try.ntmps32
  go_upto_region 1 with fail
  change Code.wp Try.prog _ _ _ ((w.alloc (.cells (stC s (.slice ao s.W.length c)) 43)).alloc (.cells Z63 43))
  generalize (w.alloc (.cells (stC s (.slice ao s.W.length c)) 43)).alloc (.cells Z63 43) = w0 at *
  go_upto_region 2 with (go_at_call 64; refine (refused_any s ao sb so c w.heap.size v _ SS (by exact HW.out.over HB.out)).mono ?_; rintro e w1 ⟨rfl, h1⟩)
  have HB1 := hide (HB.out.trans (h1.mono HB.out.size))
  have S1 := SS.later h1 SS.lt
  have R1 := RR.later h1 RR.lt
  clear SS RR h1 HB
  have c0 := (S1.val v hv).1
  have x7 := (st_cells S1).2.2.2.2.2.2.2.1
  have hz1 : w.heap.size + 1 < w1.heap.size := R1.lt
  have hz1a : w.heap.size < w1.heap.size := by omega
  go_upto_region 14 with (first
    | (go_at_call 65; refine (hP _).mono ?_; rintro e w2 ⟨rfl, h2⟩; have HB2 := hide (HB1.out.trans (h2.mono (by omega))); have S2 := S1.later h2 S1.lt; have R2 := R1.later h2 R1.lt; have hz2 := R2.lt; clear x7; have x7 := (st_cells S2).2.2.2.2.2.2.2.1; have hz2a := S2.lt; clear h2)
    | (go_at_call 66; refine (hSl _ (by exact HW.out.over HB2.out)).mono ?_; rintro e w3 ⟨A, C, rfl, hO3, h3⟩; have HB3 := hide (HB2.out.trans (h3.mono (by omega))); have S3 := S2.later h3 S2.lt; have R3 := R2.later h3 R2.lt; have HO3 := hide hO3; have hz3 := R3.lt; have hz3a := S3.lt; obtain ⟨x0, x1, x2, x3, x4, x5, x6, _, _⟩ := st_cells S3; clear h3 hO3)
    | (go_at_call 13; refine (hBu _).mono ?_; rintro e w4 ⟨rfl, h4⟩; have HB4 := hide (HB3.out.trans (h4.mono (by omega))); have S4 := S3.later h4 S3.lt; have R4 := R3.later h4 R3.lt; have HO4 := hide (HO3.out.over h4); have hz4 := R4.lt; clear h4 x0 x1 x2 x3 x4 x5 x6))
  have B5 : BAt (w4.alloc (.cells #[.int .i64 B.f0, .int .i64 B.f1, .int .i64 B.f2, .int .i64 B.f3, .int .i64 B.bo, .int .i64 B.wa, .int .i64 B.bu] 24)) w4.heap.size B.f0 B.f1 B.f2 B.f3 B.bo B.wa B.bu := heap_alloc_new _ _
  have S5 := S4.alloc (.cells #[.int .i64 B.f0, .int .i64 B.f1, .int .i64 B.f2, .int .i64 B.f3, .int .i64 B.bo, .int .i64 B.wa, .int .i64 B.bu] 24)
  have R5 := R4.alloc (.cells #[.int .i64 B.f0, .int .i64 B.f1, .int .i64 B.f2, .int .i64 B.f3, .int .i64 B.bo, .int .i64 B.wa, .int .i64 B.bu] 24)
  have HB5 := hide (HB4.out.alloc (by omega) (.cells #[.int .i64 B.f0, .int .i64 B.f1, .int .i64 B.f2, .int .i64 B.f3, .int .i64 B.bo, .int .i64 B.wa, .int .i64 B.bu] 24))
  have HO5 := hide (HO4.out.over ((Below.refl _ w4).alloc (Nat.le_refl _) (.cells #[.int .i64 B.f0, .int .i64 B.f1, .int .i64 B.f2, .int .i64 B.f3, .int .i64 B.bo, .int .i64 B.wa, .int .i64 B.bu] 24)))
  generalize w4.alloc (.cells #[.int .i64 B.f0, .int .i64 B.f1, .int .i64 B.f2, .int .i64 B.f3, .int .i64 B.bo, .int .i64 B.wa, .int .i64 B.bu] 24) = w5 at *
  clear S1 R1 HB1 S2 R2 HB2 S3 R3 HB3 S4 R4 HB4 HO3 HO4 hP hSl hBu
  have hz5 : w4.heap.size < w5.heap.size := B5.lt
  have hz5a : w.heap.size < w5.heap.size := by omega
  have c0 := (S5.val v hv).1
  have c2 := (S5.val v hv).2.2.1
  have f0 := S5.free (7 + v * 5)
  go_upto_region 16 with fail
  have S6 := S5.set (7 + v * 5) (.int .i64 ((s.V v).tok - pb))
  rw [set_tok _ _ v hv] at S6
  have HBt := hide ((But.refl w.heap.size w5).set (7 + v * 5) (.int .i64 ((s.V v).tok - pb)))
  generalize w5.setCell ⟨w.heap.size, 7 + v * 5, none⟩ (.int .i64 ((s.V v).tok - pb)) = w6 at *
  clear c0 c2 f0
  have c2 := (S6.val v hv).2.2.1
  simp only [setV_at] at c2
  have f0 := S6.free (7 + v * 5 + 2)
  have hz6a : w.heap.size < w6.heap.size := S6.lt
  go_upto_region 17 with fail
  have S7 := S6.set (7 + v * 5 + 2) (.int .i64 ((s.V v).lost + (pb + pw)))
  rw [set_lost _ _ v hv] at S7
  have HBt2 := hide (HBt.out.set (7 + v * 5 + 2) (.int .i64 ((s.V v).lost + (pb + pw))))
  generalize w6.setCell ⟨w.heap.size, 7 + v * 5 + 2, none⟩ (.int .i64 ((s.V v).lost + (pb + pw))) = w7 at *
  have hz7a : w.heap.size < w7.heap.size := S7.lt
  have B7 : BAt w7 w4.heap.size B.f0 B.f1 B.f2 B.f3 B.bo B.wa B.bu := (HBt2.out.block _ (by omega)).trans B5
  have hz7b := B7.lt
  obtain ⟨x0, x1, x2, x3, x4, x5, x6, x7, _⟩ := st_cells S7
  obtain ⟨y0, y1, y2, y3, y4, y5, y6⟩ := B7.cells
  have g0 := S7.free 0
  have g1 := S7.free 1
  have g2 := S7.free 2
  have g3 := S7.free 3
  have g4 := S7.free 4
  have g5 := S7.free 5
  have g6 := S7.free 6
  have g61 := S7.free 61
  have hne : w4.heap.size ≠ w.heap.size := by omega
  clear c2 f0 S6 HBt
  go_upto_region 18 with fail
  change Code.wp Try.prog _ _ _ ((bset w7 w.heap.size B).setCell ⟨w.heap.size, 61, none⟩ (.slice A Ws.length C))
  have HBt3 : Hid (But w.heap.size w5 ((bset w7 w.heap.size B).setCell ⟨w.heap.size, 61, none⟩ (.slice A Ws.length C))) := (((((((HBt2.out.set 0 _).set 1 _).set 2 _).set 3 _).set 4 _).set 5 _).set 6 _).set 61 _
  have S8 := (set_bank S7 B).set 61 (.slice A Ws.length C)
  rw [set_sl] at S8
  have R8 := HBt3.out.stake (by omega) R5
  have HO8 : Hid (OwnW w2.heap.size ((bset w7 w.heap.size B).setCell ⟨w.heap.size, 61, none⟩ (.slice A Ws.length C)) A C Ws) := own_of HO5.out fun k' hk => HBt3.out.block _ (by have := (World.ownsRow.lt HO5.out k' hk).1; omega)
  have HB8 := hide (HB5.out.trans (HBt3.out.below (Nat.le_refl _)))
  generalize (bset w7 w.heap.size B).setCell ⟨w.heap.size, 61, none⟩ (.slice A Ws.length C) = w8 at *
  clear x0 x1 x2 x3 x4 x5 x6 x7 y0 y1 y2 y3 y4 y5 y6 g0 g1 g2 g3 g4 g5 g6 g61 S7 B7 B5 HBt2 HBt3 R5 HB5 HO5 S5
  have S9 : SAt w8 w.heap.size (stC r (.slice A Ws.length C)) := by
    have e : stC r (.slice A Ws.length C) = stC { ({ s with V := setV (setV s.V v { s.V v with tok := (s.V v).tok - pb }) v { setV s.V v { s.V v with tok := (s.V v).tok - pb } v with lost := (s.V v).lost + (pb + pw) } } : St) with b := B } (.slice A Ws.length C) := by
      rw [HES.out, setV_at]
      have hV : setV (setV s.V v { s.V v with tok := (s.V v).tok - pb }) v { s.V v with tok := (s.V v).tok - pb, lost := (s.V v).lost + (pb + pw) } = setV s.V v (slashV (s.V v) pb pw) := by
        funext i
        unfold setV slashV
        split <;> rfl
      rw [hV]
      rfl
    rw [e]; exact S8
  clear S8
  apply wp_region_lit
  refine wpList_load_mid rfl 43 _ rfl _ 0 rfl _ _ S9.range Try.underlying43 rfl (by rw [infoS]; rfl) ?_
  refine wpList_mv rfl _ rfl ?_
  refine wpList_store_mid rfl 43 _ _ rfl _ 0 (stC r (.slice A Ws.length C)) rfl rfl (R8.there 0 _ (by rw [Z63_size, stC_size]; omega)) (by rw [infoS]; rfl) (stC_one _ _ _ _) ?_
  go_wp2
  exact stake_end3 Try.results32 R8 rfl r _ _ _ _ ⟨A, C, rfl, own_base (own_of HO8.out fun k' hk => heap_sets (by have := (World.ownsRow.lt HO8.out k' hk).1; omega) _ _ _) (by omega), below_sets (by omega) _ _ _ HB8.out⟩ _ rfl rfl rfl rfl
end Go.Proofs.Ytookecjeknpheac
