/- Parts of the proof: RC1 SW1 LB LC. -/
import Derived.Test.YtkhlihpghbhppabGreatRows
import Derived.Test.YtkhlihpghbhppabGreatProviderRemovesK52
import Derived.Test.YtkhlihpghbhppabGreatProviderRemovesK53
import Derived.WalkKit
import Derived.WalkSmall
import Derived.Below
import Derived.Maps.AppendAt
import Derived.Deep.MidRow
import Derived.Deep.DeepCutAuto
import Derived.OwnWalk
import Derived.Deep.OwnRows
set_option maxRecDepth 100000
namespace Go.Proofs.YtkhlihpghbhppabGreat
open Go.RowKit
/-- what may be copied: nothing, or cells that are there, not too many -/
def Src (w : World) (ao : Option Addr) (n size bytes : Nat) : Prop := n * bytes ≤ 140737488351232 ∧ (n = 0 ∨ ∃ a, ao = some a ∧ ∀ j, j < n * size → ∃ u, w.cell? (a.add j) = some u)
theorem info44 : (Tryz.prog.info? 53).map (fun i => (i.zero, i.size, i.bytes)) = some (some (.agg #[.int .i64 0, .int .i64 0, .int .i64 0, .int .i64 0, .int .i64 0, .int .i64 0, .int .i64 0, .int .i64 0]), 8, 64) := by kernel_rfl
theorem Src.later {w w' : World} {ao : Option Addr} {n size bytes : Nat} (h : Src w ao n size bytes) (hb : Below w.heap.size w w') : Src w' ao n size bytes := by
  refine ⟨h.1, ?_⟩
  rcases h.2 with h0 | ⟨a, rfl, hs⟩
  · exact .inl h0
  · refine .inr ⟨a, rfl, fun j hj => ?_⟩
    obtain ⟨u, hu⟩ := hs j hj
    exact ⟨u, (hb.cell (p := a.add j) (World.block_lt_of_cell? w _ hu)).trans hu⟩
/-- n elements have been copied behind an address: into new memory; old memory is as it was -/
structure Copied (w : World) (ao : Option Addr) (n size : Nat) (A : Option Addr) (w' : World) : Prop where
  below : Below w.heap.size w w'
  cells : 0 < n → ∃ a g, ao = some a ∧ A = some ⟨g, 0, none⟩ ∧ w.heap.size ≤ g ∧ ∀ j, j < n * size → w'.cell? ⟨g, j, none⟩ = w.cell? (a.add j)
end Go.Proofs.YtkhlihpghbhppabGreat

set_option maxRecDepth 100000
namespace Go.Proofs.YtkhlihpghbhppabGreat
open Go.RowKit
def wtL (x : Wt) : List Value := [.int .i64 x.num, .int .i64 x.d, .int .i64 x.v, .int .i64 x.amt, .int .i64 x.hei, .int .i64 x.due, .int .i64 x.h0, .int .i64 x.h1]
theorem wtL_length (x : Wt) : (wtL x).length = 8 := rfl
def wsL (W : List Wt) : List Value := W.flatMap wtL
theorem wsL_length : ∀ W : List Wt, (wsL W).length = W.length * 8
  | [] => rfl
  | x :: W => by show (wtL x ++ wsL W).length = _; rw [List.length_append, wsL_length W, wtL_length, List.length_cons]; omega
theorem wsL_get : ∀ (W : List Wt) (i : Nat) (x : Wt) (j : Nat), W[i]? = some x → j < 8 → (wsL W)[i * 8 + j]? = (wtL x)[j]?
  | [], i, x, j, h, _ => by simp at h
  | y :: W, 0, x, j, h, hj => by
    simp at h
    subst h
    show (wtL y ++ wsL W)[0 * 8 + j]? = _
    rw [List.getElem?_append_left (by rw [wtL_length]; omega), Nat.zero_mul, Nat.zero_add]
  | y :: W, i + 1, x, j, h, hj => by
    show (wtL y ++ wsL W)[(i + 1) * 8 + j]? = _
    rw [List.getElem?_append_right (by rw [wtL_length]; omega), wtL_length, show (i + 1) * 8 + j - 8 = i * 8 + j by omega]
    exact wsL_get W i x j (by simpa using h) hj
theorem ws_cells {w : World} {ao : Option Addr} {b o : Nat} {W : List Wt} (h : WsAt w ao b o W) : ∀ j v, (wsL W)[j]? = some v → w.cell? ⟨b, o + j, none⟩ = some v := by
  intro j v hj
  have hl := (List.getElem?_eq_some_iff.1 hj).1
  rw [wsL_length] at hl
  have hi : j / 8 < W.length := by omega
  have hx : W[j / 8]? = some (W[j / 8]'hi) := List.getElem?_eq_getElem hi
  have e := wsL_get W (j / 8) _ (j % 8) hx (by omega)
  rw [show j / 8 * 8 + j % 8 = j by omega, hj] at e
  obtain ⟨c0, c1, c2, c3, c4, c5, c6, c7⟩ := h.cell _ _ hx
  have hd : j = j / 8 * 8 + j % 8 := by omega
  generalize W[j / 8]'hi = x at *
  generalize hq : j / 8 = q at *
  have hr : j % 8 < 8 := by omega
  generalize j % 8 = r at *
  subst hd
  rcases (show r = 0 ∨ r = 1 ∨ r = 2 ∨ r = 3 ∨ r = 4 ∨ r = 5 ∨ r = 6 ∨ r = 7 by omega) with rfl | rfl | rfl | rfl | rfl | rfl | rfl | rfl <;> simp [wtL] at e <;> subst e <;> rw [← Nat.add_assoc] <;> assumption
theorem ws_of_cells {w : World} {b : Nat} {W : List Wt} (hl : W.length * 64 ≤ 140737488351232) (h : ∀ j v, (wsL W)[j]? = some v → w.cell? ⟨b, j, none⟩ = some v) : WsAt w (some ⟨b, 0, none⟩) b 0 W := by
  refine ⟨fun _ => rfl, hl, fun i x hx => ?_⟩
  have k : ∀ j, j < 8 → ∀ v, (wtL x)[j]? = some v → w.cell? ⟨b, 0 + i * 8 + j, none⟩ = some v := fun j hj v hv => by
    rw [Nat.zero_add]
    exact h _ _ ((wsL_get W i x j hx hj).trans hv)
  exact ⟨k 0 (by omega) _ rfl, k 1 (by omega) _ rfl, k 2 (by omega) _ rfl, k 3 (by omega) _ rfl, k 4 (by omega) _ rfl, k 5 (by omega) _ rfl, k 6 (by omega) _ rfl, k 7 (by omega) _ rfl⟩
end Go.Proofs.YtkhlihpghbhppabGreat

set_option maxRecDepth 100000
namespace Go.Proofs.YtkhlihpghbhppabGreat.Ln
open Go.RowKit
theorem goodL_cases (x : Line) :
    (x.D.length ≠ x.S.length ∧ goodL x = false) ∨ (x.D.length = x.S.length ∧ 400 < x.S.length ∧ goodL x = false) ∨
    (x.D.length = x.S.length ∧ x.S.length ≤ 400 ∧ (nonneg x.D = false → goodL x = false) ∧ (nonneg x.D = true → goodL x = (decide (0 ≤ x.g) && decide (x.g ≤ x.S.length)))) := by
  by_cases h1 : x.D.length = x.S.length
  · right
    by_cases h2 : x.S.length ≤ 400
    · right
      exact ⟨h1, h2, fun h3 => by simp [goodL, h3], fun h3 => by simp [goodL, h1, h2, h3]⟩
    · left
      exact ⟨h1, by omega, by simp [goodL, h2]⟩
  · left
    exact ⟨h1, by simp [goodL, h1]⟩
set_option maxHeartbeats 1000000 in
theorem good_any (x : Line) (sa da : Option Addr) (cs cd sb so db dO : Nat) (w : World) (L : LAt w x sa da cs cd sb so db dO) :
    Calls Tryz.prog 42 #[.agg #[.slice sa x.S.length cs, .slice da x.D.length cd, .int .i64 x.g, .bool x.cl]] w fun e w' => e = .returned (.bool (goodL x)) ∧ Below w.heap.size w w' := by
  obtain ⟨S, D, g, cl⟩ := x
  have hcs := goodL_cases ⟨S, D, g, cl⟩
  obtain ⟨hls, hld, hsa, hda, -, -, PS, PD⟩ := L
  have HB0 : Hid (∀ o, Below w.heap.size w (w.alloc o)) := fun o => below_new w o
  have HDA : Hid (0 < D.length → da = some ⟨db, dO, none⟩) := hda
  have HPD : Hid (IntsAt w db dO D) := PD
  clear hsa hda PS PD
  dsimp only at *
  generalize goodL ⟨S, D, g, cl⟩ = G at *
  rcases hcs with ⟨h1, rfl⟩ | ⟨h1, h2, rfl⟩ | ⟨h1, h2, h3, h4⟩
  · have hne : ((D.length : Int) != (S.length : Int)) = true := by simp; omega
    clear h1
    go_enter Tryz.func42, Tryz.ntmps42
    go_wp2
    go_ret
    exact ⟨rfl, HB0.out _⟩
  · have hne : ((D.length : Int) != (S.length : Int)) = false := by simp; omega
    clear h1
    go_enter Tryz.func42, Tryz.ntmps42
    go_wp2
    go_ret
    exact ⟨rfl, HB0.out _⟩
  · have hne : ((D.length : Int) != (S.length : Int)) = false := by simp; omega
    have hd2 : D.length ≤ 400 := by omega
    have HG : Hid ((nonneg D = false → G = false) ∧ (nonneg D = true → G = (decide (0 ≤ g) && decide (g ≤ S.length)))) := ⟨h3, h4⟩
    clear h1 h3 h4
    go_enter Tryz.func42, Tryz.ntmps42
    go_wp2
    go_loop [21] (fun i => ∃ (k : Nat), k ≤ D.length ∧ i = .int .i64 (k : Int) ∧ Hid (nonneg (D.take k) = true)) (fun i => D.length - (intOf i).toNat)
    case atStart => exact ⟨0, Nat.zero_le _, rfl, by simp [Hid, nonneg]⟩
    case round =>
      obtain ⟨k, hk, rfl, HR⟩ := hrel
      by_cases hlt : k < D.length
      · have hcell := (HPD.out.later (HB0.out (.cells #[.slice sa S.length cs, .slice da D.length cd, .int .i64 g, .bool cl] 37))) k hlt
        obtain ⟨y, hy⟩ : ∃ y, D.getD k 0 = y := ⟨_, rfl⟩
        rw [hy] at hcell
        have HY : Hid (D.getD k 0 = y) := hy
        clear hy
        have e := HDA.out (by omega)
        subst e
        by_cases hy0 : y < 0
        · go_wp2
          go_ret
          exact ⟨by rw [HG.out.1 (nonneg_not hlt (by rw [HY.out]; exact hy0))]; rfl, HB0.out _⟩
        · go_wp2
          go_round
          case rel => exact ⟨k + 1, by omega, by go_num, nonneg_step HR.out hlt (by rw [HY.out]; omega)⟩
          case measure => simp [intOf]; omega
      · have hG := HG.out.2 (by have := HR.out; rwa [List.take_of_length_le (by omega)] at this)
        by_cases hg0 : 0 ≤ g
        · by_cases hg1 : g ≤ (S.length : Int)
          · have HF : Hid (G = true) := by show _ = _; rw [hG]; simp [hg0, hg1]
            clear hG
            go_wp2
            go_ret
            exact ⟨by rw [HF.out]; rfl, HB0.out _⟩
          · have HF : Hid (G = false) := by show _ = _; rw [hG]; simp [hg1]
            clear hG
            go_wp2
            go_ret
            exact ⟨by rw [HF.out]; rfl, HB0.out _⟩
        · have HF : Hid (G = false) := by show _ = _; rw [hG]; simp [hg0]
          clear hG
          go_wp2
          go_ret
          exact ⟨by rw [HF.out]; rfl, HB0.out _⟩
end Go.Proofs.YtkhlihpghbhppabGreat.Ln

set_option maxRecDepth 100000
namespace Go.Proofs.YtkhlihpghbhppabGreat.Ln
open Go.RowKit
/-- what an own row holds lies there -/
theorem own_strs {B : Nat} {w : World} {g n c e : Nat} {l : List ByteArray} (h : w.ownsRow B e 1 (.slice (some ⟨g, 0, none⟩) n c) n (l.map .string)) : B ≤ g ∧ g < w.heap.size ∧ StrsAt w g 0 l := by
  rcases h.2 with ⟨h1, _⟩ | ⟨g', cap, cur, hv, hb, hg, hn, hm, hs, ht⟩
  · cases h1
  · cases hv
    refine ⟨hb, (Array.getElem?_eq_some_iff.1 hg).1, fun i hi => ?_⟩
    have hl : l.length = n := by have := h.1; simpa using this
    have : (cur.toList.take (n * 1))[i]? = some (.string (l.getD i ByteArray.empty)) := by rw [ht]; simp [List.getD, hi]
    rw [List.getElem?_take_of_lt (by omega)] at this
    simp only [World.cell?, hg, Nat.zero_add]
    simpa using this
theorem own_ints {B : Nat} {w : World} {g n c e : Nat} {l : List Int} (h : w.ownsRow B e 1 (.slice (some ⟨g, 0, none⟩) n c) n (l.map (.int .i64))) : B ≤ g ∧ g < w.heap.size ∧ IntsAt w g 0 l := by
  rcases h.2 with ⟨h1, _⟩ | ⟨g', cap, cur, hv, hb, hg, hn, hm, hs, ht⟩
  · cases h1
  · cases hv
    refine ⟨hb, (Array.getElem?_eq_some_iff.1 hg).1, fun i hi => ?_⟩
    have hl : l.length = n := by have := h.1; simpa using this
    have : (cur.toList.take (n * 1))[i]? = some (.int .i64 (l.getD i 0)) := by rw [ht]; simp [List.getD, hi]
    rw [List.getElem?_take_of_lt (by omega)] at this
    simp only [World.cell?, hg, Nat.zero_add]
    simpa using this
end Go.Proofs.YtkhlihpghbhppabGreat.Ln

