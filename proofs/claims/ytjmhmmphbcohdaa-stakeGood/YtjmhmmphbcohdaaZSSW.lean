/- slashWaits. -/
import Derived.Test.YtjmhmmphbcohdaaZMS1
import Derived.Test.YtjmhmmphbcohdaaZSCL
set_option maxRecDepth 100000
namespace Go.Proofs.Ytjmhmmphbcohdaa
open Go.RowKit
theorem part_any (n f : Int) (w : World) : Calls Try.prog 38 #[.int .i64 n, .int .i64 f] w fun e w' => e = .returned (.tuple #[.int .i64 (ptN n f), .int .i64 (ptE n f)]) ∧ Below w.heap.size w w' := Ra.part13 n f w
theorem wsL_set : ∀ (W : List Wt) (k : Nat) (x : Wt) (y : Int), W[k]? = some x → wsL (W.set k { x with amt := y }) = (wsL W).set (k * 8 + 3) (.int .i64 y)
  | [], k, x, y, h => by simp at h
  | z :: W, 0, x, y, h => by
    simp at h
    subst h
    rfl
  | z :: W, k + 1, x, y, h => by
    have ih := wsL_set W k x y (by simpa using h)
    show wtL z ++ wsL (W.set k _) = (wtL z ++ wsL W).set _ _
    rw [List.set_append_right _ _ (by rw [wtL_length]; omega), wtL_length, ih]
    congr 2
    omega
theorem OwnW.amt {B : Nat} {w : World} {g C : Nat} {W : List Wt} (h : OwnW B w (some ⟨g, 0, none⟩) C W) {k : Nat} {x : Wt} (hx : W[k]? = some x) (y : Int) : OwnW B (w.setCell ⟨g, k * 8 + 3, none⟩ (.int .i64 y)) (some ⟨g, 0, none⟩) C (W.set k { x with amt := y }) := by
  have h1 := (World.ownsRow.stored h (k * 8 + 3) (.int .i64 y)).1
  unfold OwnW
  rw [wsL_set W k x y hx, List.length_set]
  exact h1
theorem OwnW.at0 {B : Nat} {w : World} {A : Option Addr} {C : Nat} {W : List Wt} (h : OwnW B w A C W) (h0 : 0 < W.length) : ∃ g, A = some ⟨g, 0, none⟩ ∧ B ≤ g ∧ g < w.heap.size ∧ ∀ k x, W[k]? = some x → (w.cell? ⟨g, k * 8 + 2, none⟩ = some (.int .i64 x.v) ∧ w.cell? ⟨g, k * 8 + 3, none⟩ = some (.int .i64 x.amt) ∧ w.cell? ⟨g, k * 8 + 4, none⟩ = some (.int .i64 x.hei) ∧ w.frozen? ⟨g, k * 8 + 3, none⟩ = false) := by
  have h' := h
  rcases h.2 with ⟨hv, hn⟩ | ⟨g, cap, cur, hv, hb, hg, hrest⟩
  · omega
  · cases hv
    refine ⟨g, rfl, hb, (Array.getElem?_eq_some_iff.1 hg).1, fun k x hx => ?_⟩
    have c : ∀ j v, (wtL x)[j]? = some v → j < 8 → w.cell? ⟨g, k * 8 + j, none⟩ = some v := fun j v hj hl => by
      have := World.ownsRow.cells h' (g := g) rfl (k * 8 + j) v ((wsL_get W k x j hx hl).trans hj)
      rwa [Addr.add_lit, Nat.zero_add] at this
    exact ⟨c 2 _ rfl (by omega), c 3 _ rfl (by omega), c 4 _ rfl (by omega), World.ownsRow.frozenAt h' _⟩
set_option maxHeartbeats 4000000 in
theorem slashWaits_any (ao : Option Addr) (W : List Wt) (c sb so : Nat) (v h f : Int) (w : World) (hW : WsAt w ao sb so W) (hf : 0 ≤ f ∧ f ≤ 1000) (hA : ∀ x ∈ W, 0 ≤ x.amt ∧ x.amt ≤ 1125899906842624) (hs : amts W ≤ 400000) (h60 : W.length ≤ 60) :
    Calls Try.prog 39 #[.slice ao W.length c, .int .i64 v, .int .i64 h, .int .i64 f] w fun e w' => ∃ A C, e = .returned (.tuple #[.slice A (slW v h f W).length C, .int .i64 (slN v h f W), .int .i64 0]) ∧ OwnW w.heap.size w' A C (slW v h f W) ∧ Below w.heap.size w w' := by
  have hC := clone_any ao W c sb so w hW
  have HL : Hid ((slW v h f W).length = W.length) := by show (slW v h f W).length = W.length; unfold slW; rw [List.length_map]
  have HN : Hid (∀ k, 0 ≤ slN v h f (W.take k) ∧ slN v h f (W.take k) ≤ 400000) := fun k => by
    have h1 := slN_in (v := v) (h := h) hf (W := W.take k) fun x hx => hA x (List.mem_of_mem_take hx)
    have e1 : amts W = amts (W.take k) + amts (W.drop k) := by rw [← amts_append, List.take_append_drop]
    have n2 := amts_nonneg (W := W.drop k) fun y hy => (hA y (List.mem_of_mem_drop hy)).1
    omega
  clear hW hs
  go_enter Try.func39, Try.ntmps39
  go_upto_region 3 with (go_at_call 43; refine hC.mono ?_; rintro e w1 ⟨A, C, rfl, hO, h1⟩; have HO := hide hO; have HB := hide h1; clear hO h1)
  go_loopw [12, 21] (fun al i wl => ∃ (k : Nat), k ≤ W.length ∧ i = .int .i64 (k : Int) ∧ al = .int .i64 (slN v h f (W.take k)) ∧ Hid (OwnW w.heap.size wl A C (slW v h f (W.take k) ++ W.drop k) ∧ Below w.heap.size w wl)) (fun _ i _ => W.length - (intOf i).toNat)
  case atStart => exact ⟨0, Nat.zero_le _, rfl, rfl, HO.out, HB.out⟩
  case round =>
    obtain ⟨k, hk, rfl, rfl, HR⟩ := hrel
    clear HO HB
    obtain ⟨n0, n1⟩ := HN.out k
    by_cases hlt : k < W.length
    · obtain ⟨x, hx, _⟩ := drop_at hlt
      obtain ⟨e1, e2, e3⟩ := sl_step v h f hx
      obtain ⟨n2, n3⟩ := HN.out (k + 1)
      have hxa := hA x (by obtain ⟨h1, h2⟩ := List.getElem?_eq_some_iff.1 hx; exact h2 ▸ List.getElem_mem h1)
      obtain ⟨g, rfl, hgB, hgs, hcl⟩ := HR.out.1.at0 (by rw [List.length_append, List.length_drop]; omega)
      obtain ⟨c2, c3, c4, c5⟩ := hcl k x e2
      have hlen : (slW v h f (W.take k) ++ W.drop k).length = W.length := by unfold slW; rw [List.length_append, List.length_map, ← List.length_append, List.take_append_drop]
      have HE2 := hide e2
      have HE1 := hide e1
      have hcap := HR.out.1.cap
      rw [hlen] at hcap
      clear hcl hC e1 e2 hx hlen
      generalize slW v h f (W.take k) ++ W.drop k = Wk at *
      generalize hW1 : slW v h f (W.take (k + 1)) ++ W.drop (k + 1) = Wk1 at *
      have HW1 := hide hW1
      clear hW1
      by_cases hh : x.v = v ∧ h ≤ x.hei
      · have hhit : hitW v h x = true := by simp [hitW, hh.1, hh.2]
        obtain ⟨s1, s2⟩ := sl_hit (f := f) hhit
        obtain ⟨p0, p1, p2⟩ := pt_in hxa hf
        rw [s1] at HE1
        rw [s2] at e3
        have hP := part_any x.amt f
        rw [p0] at hP
        obtain ⟨hh1, hh2⟩ := hh
        rw [hh1] at c2
        generalize ptN x.amt f = pn at *
        have hw1 : wrap64 (x.amt - pn) = x.amt - pn := wrap64_small (by omega) (by omega)
        rw [e3] at n2 n3
        have HE3 := hide e3
        generalize slN v h f (W.take k) = sk at *
        have hw2 : wrap64 (sk + pn) = sk + pn := wrap64_small (by omega) (by omega)
        clear hhit s1 s2 p0 e3 HN
        go_upto_region 10 with (go_at_call 38; refine (hP _).mono ?_; rintro e w2 ⟨rfl, h2⟩)
        have HR2 : Hid (OwnW w.heap.size w2 (some ⟨g, 0, none⟩) C Wk ∧ Below w.heap.size w w2) := ⟨HR.out.1.over h2, HR.out.2.trans (h2.mono HR.out.2.size)⟩
        obtain ⟨g', hg', _, hgs2, hcl2⟩ := HR2.out.1.at0 (by have := (List.getElem?_eq_some_iff.1 HE2.out).1; omega)
        cases hg'
        obtain ⟨c2', c3', c4', c5'⟩ := hcl2 k x HE2.out
        clear hcl2 h2 c2 c3 c4 c5 HR
        go_wp2
        refine ⟨⟨k + 1, by omega, by go_num, ?_, ?_⟩, by simp [intOf]; omega⟩
        · first | rw [HE3.out] | (rw [HE3.out]; exact congrArg _ hw2)
        · rw [HW1.out, HE1.out]
          exact ⟨HR2.out.1.amt HE2.out _, HR2.out.2.setCell hgB _⟩
      · have hhit : hitW v h x = false := by
          simp only [hitW, Bool.and_eq_false_iff, decide_eq_false_iff_not]
          by_cases h1 : x.v = v
          · exact .inr (fun h2 => hh ⟨h1, h2⟩)
          · exact .inl h1
        obtain ⟨s1, s2⟩ := sl_same (f := f) hhit
        rw [s1] at HE1
        rw [s2] at e3
        have HE3 := hide e3
        have hEq : Hid (Wk1 = Wk) := by show Wk1 = Wk; rw [HE1.out]; exact set_same HE2.out
        clear hhit s1 s2 e3 HN HE1
        go_wp2
        all_goals first
          | (exact ⟨⟨k + 1, by omega, by go_num, by rw [HE3.out, Int.add_zero], by rw [HW1.out, hEq.out]; exact HR.out⟩, by simp [intOf]; omega⟩)
          | (exfalso; exact hh ⟨by first | assumption | omega, by omega⟩)
    · obtain rfl : k = W.length := by omega
      rw [List.take_length, List.drop_length, List.append_nil] at HR
      rw [List.take_length]
      clear hC HN
      go_wp2
      refine bodyPost_ret (v := .tuple #[.slice A W.length C, .int .i64 (slN v h f W), .int .i64 0]) (by simp [results, Try.results39]) rfl ⟨A, C, by rw [HL.out], HR.out.1, HR.out.2⟩
end Go.Proofs.Ytjmhmmphbcohdaa
