/- One wait more: a list of its own. -/
import Derived.Test.YtjmhmmphbcohdaaXtd
set_option maxRecDepth 100000
namespace Go.Proofs.Ytjmhmmphbcohdaa
open Go.RowKit
def wtL (x : Wt) : List Value := [.int .i64 x.num, .int .i64 x.d, .int .i64 x.v, .int .i64 x.amt, .int .i64 x.hei, .int .i64 x.due, .int .i64 x.h0, .int .i64 x.h1]
theorem clip_any (ao : Option Addr) (n c : Nat) (hn : n ≤ c) (h0 : ao = none → n = 0) (hc : (n : Int) < 4611686018427387904) (w : World) : Calls Try.prog 36 #[.slice ao n c] w fun e w' => e = .returned (.slice ao n n) ∧ w = w' := by
  have h1 : (n : Int) ≤ (c : Int) := by omega
  have h2 : (0 : Int) ≤ (n : Int) := by omega
  go_enter Try.func36, Try.ntmps36
  cases ao
  · obtain rfl := h0 rfl
    go_wp2
    go_ret
    exact ⟨rfl, rfl⟩
  · clear h0
    go_wp2
    go_ret
    exact ⟨rfl, rfl⟩
theorem wtL_length (x : Wt) : (wtL x).length = 8 := rfl
def wsL (W : List Wt) : List Value := W.flatMap wtL
theorem wsL_length : ∀ W : List Wt, (wsL W).length = W.length * 8
  | [] => rfl
  | x :: W => by show (wtL x ++ wsL W).length = _; rw [List.length_append, wsL_length W, wtL_length, List.length_cons]; omega
theorem wsL_get : ∀ (W : List Wt) (i : Nat) (x : Wt) (j : Nat), W[i]? = some x → j < 8 → (wsL W)[i * 8 + j]? = (wtL x)[j]?
  | [], i, x, j, h, _ => by simp at h
  | y :: W, 0, x, j, h, hj => by
    simp at h
    subst h
    show (wtL y ++ wsL W)[0 * 8 + j]? = _
    rw [List.getElem?_append_left (by rw [wtL_length]; omega), Nat.zero_mul, Nat.zero_add]
  | y :: W, i + 1, x, j, h, hj => by
    show (wtL y ++ wsL W)[(i + 1) * 8 + j]? = _
    rw [List.getElem?_append_right (by rw [wtL_length]; omega), wtL_length, show (i + 1) * 8 + j - 8 = i * 8 + j by omega]
    exact wsL_get W i x j (by simpa using h) hj
theorem ws_cells {w : World} {ao : Option Addr} {b o : Nat} {W : List Wt} (h : WsAt w ao b o W) : ∀ j v, (wsL W)[j]? = some v → w.cell? ⟨b, o + j, none⟩ = some v := by
  intro j v hj
  have hl := (List.getElem?_eq_some_iff.1 hj).1
  rw [wsL_length] at hl
  have hi : j / 8 < W.length := by omega
  have hx : W[j / 8]? = some (W[j / 8]'hi) := List.getElem?_eq_getElem hi
  have e := wsL_get W (j / 8) _ (j % 8) hx (by omega)
  rw [show j / 8 * 8 + j % 8 = j by omega, hj] at e
  obtain ⟨c0, c1, c2, c3, c4, c5, c6, c7⟩ := h.cell _ _ hx
  have hd : j = j / 8 * 8 + j % 8 := by omega
  generalize W[j / 8]'hi = x at *
  generalize hq : j / 8 = q at *
  have hr : j % 8 < 8 := by omega
  generalize j % 8 = r at *
  subst hd
  rcases (show r = 0 ∨ r = 1 ∨ r = 2 ∨ r = 3 ∨ r = 4 ∨ r = 5 ∨ r = 6 ∨ r = 7 by omega) with rfl | rfl | rfl | rfl | rfl | rfl | rfl | rfl <;> simp [wtL] at e <;> subst e <;> rw [← Nat.add_assoc] <;> assumption
theorem ws_of_cells {w : World} {b : Nat} {W : List Wt} (hl : W.length * 64 ≤ 140737488351232) (h : ∀ j v, (wsL W)[j]? = some v → w.cell? ⟨b, j, none⟩ = some v) : WsAt w (some ⟨b, 0, none⟩) b 0 W := by
  refine ⟨fun _ => rfl, hl, fun i x hx => ?_⟩
  have k : ∀ j, j < 8 → ∀ v, (wtL x)[j]? = some v → w.cell? ⟨b, 0 + i * 8 + j, none⟩ = some v := fun j hj v hv => by
    rw [Nat.zero_add]
    exact h _ _ ((wsL_get W i x j hx hj).trans hv)
  exact ⟨k 0 (by omega) _ rfl, k 1 (by omega) _ rfl, k 2 (by omega) _ rfl, k 3 (by omega) _ rfl, k 4 (by omega) _ rfl, k 5 (by omega) _ rfl, k 6 (by omega) _ rfl, k 7 (by omega) _ rfl⟩
theorem ws_new (w : World) (L : List Wt) (arr tail : Array Value) (ha : arr.toList = wsL L) (e : TypeId) (hl : L.length * 64 ≤ 140737488351232) : WsAt (w.drew.alloc (.cells (arr ++ tail) e)) (some ⟨w.heap.size, 0, none⟩) w.heap.size 0 L := by
  refine ws_of_cells hl fun j v hj => ?_
  have h : (w.drew.alloc (.cells (arr ++ tail) e)).heap[w.heap.size]? = some (.cells (arr ++ tail) e) := heap_alloc_new w.drew _
  have hj' : arr[j]? = some v := by rw [← ha] at hj; simpa using hj
  have hlt := (Array.getElem?_eq_some_iff.1 hj').1
  simp only [World.cell?, h]
  rw [Array.getElem?_append_left hlt]
  simp [hj']
/-- one wait is put behind a list that has no room: a new block -/
theorem ap1 (w : World) (ao : Option Addr) (sb so y : Nat) (W : List Wt) (x : Wt) (hW : WsAt w ao sb so W) (h60 : W.length ≤ 60) (hy : ∀ j v, (wtL x)[j]? = some v → w.cell? ⟨y, j, none⟩ = some v) :
    ∃ C w', (Builtin.append_ #[32, 32] 32 #[.slice ao W.length W.length, .slice (some ⟨y, 0, none⟩) 1 1]).run Try.prog w = .ok (.slice (some ⟨w.heap.size, 0, none⟩) (W.length + 1) C) w' ∧ W.length + 1 ≤ C ∧
      WsAt w' (some ⟨w.heap.size, 0, none⟩) w.heap.size 0 (W ++ [x]) ∧ Below w.heap.size w w' := by
  obtain ⟨i0, hi, hz0, hz1, hz2⟩ := info_parts info44
  have hnews : ∀ j v, (wtL x)[j]? = some v → w.cell? ((⟨y, 0, none⟩ : Addr).add j) = some v := fun j v hv => by rw [Addr.add_lit, Nat.zero_add]; exact hy j v hv
  have hL : wsL (W ++ [x]) = wsL W ++ wtL x := by unfold wsL; rw [List.flatMap_append]; simp
  have hnx : ∀ n : Nat, n ≤ 60 → Builtin.nextslicecap (n + 1) n * 64 ≤ 281474976710656 := fun n hn => by
    rcases Nat.eq_zero_or_pos n with rfl | hp
    · rw [nextslicecap_zero (by omega)]; omega
    · have := nextslicecap_succ hp; omega
  cases ao with
  | none =>
    have h0 : W.length = 0 := by
      rcases Nat.eq_zero_or_pos W.length with h0 | h0
      · exact h0
      · have := hW.adr h0; cases this
    obtain rfl : W = [] := List.length_eq_zero_iff.1 h0
    refine ⟨_, _, run_append_nil (P := Try.prog) w 32 32 54 i0 _ Try.underlying32 hi hz0 ⟨y, 0, none⟩ 1 1 (wtL x) (by rw [hz1]; rfl) hnews (by omega) (by omega) (by rw [hz2]; omega), grownCap_ge _ _ _ _, ?_, (Below.refl _ w).drew.alloc (Nat.le_refl _) _⟩
    exact ws_new w [x] _ _ (by simp [wsL]) _ (by simp)
  | some a =>
    have hold : ∀ j v, (wsL W)[j]? = some v → w.cell? (a.add j) = some v := fun j v hv => by
      have h0 : 0 < W.length := by
        have := (List.getElem?_eq_some_iff.1 hv).1
        rw [wsL_length] at this
        omega
      have := hW.adr h0
      cases this
      rw [Addr.add_lit]
      exact ws_cells hW j v hv
    refine ⟨_, _, run_append_grow (P := Try.prog) w 32 32 54 i0 _ Try.underlying32 hi hz0 a W.length W.length (wsL W) (by rw [wsL_length, hz1]) hold ⟨y, 0, none⟩ 1 1 (wtL x) (by rw [hz1]; rfl) hnews (by omega) (by omega) (by rw [hz2]; exact hnx _ h60), grownCap_ge _ _ _ _, ?_, (Below.refl _ w).drew.alloc (Nat.le_refl _) _⟩
    exact ws_new w (W ++ [x]) _ _ (by simp [hL]) _ (by simp; omega)
end Go.Proofs.Ytjmhmmphbcohdaa
