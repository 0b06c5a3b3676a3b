/- Parts of the proof: SRL MG1. -/
import Derived.Test.YtjghbciepinofaaGreatRows
import Derived.Test.YtjghbciepinofaaGreatOK12
import Derived.Test.YtjghbciepinofaaGreatOK13
import Derived.Test.YtjghbciepinofaaGreatOK14
import Derived.Test.YtjghbciepinofaaGreatOK15
set_option maxRecDepth 100000
namespace Go.Proofs.YtjghbciepinofaaGreat
open Go.RowKit
/-- a hold is given up -/
def relX (c : Nat) (h : Int) (x : Wt) : Wt := if c = 0 then (if x.h0 ≤ h then { x with h0 := 0 } else x) else (if x.h1 ≤ h then { x with h1 := 0 } else x)
def relW (c : Nat) (h : Int) (W : List Wt) : List Wt := W.map (relX c h)
theorem map_step (F : Wt → Wt) {W : List Wt} {k : Nat} {x : Wt} (hx : W[k]? = some x) : (W.take (k + 1)).map F ++ W.drop (k + 1) = ((W.take k).map F ++ W.drop k).set k (F x) ∧ ((W.take k).map F ++ W.drop k)[k]? = some x ∧ ((W.take k).map F ++ W.drop k).length = W.length := by
  obtain ⟨hk, he⟩ := List.getElem?_eq_some_iff.1 hx
  have hl : ((W.take k).map F).length = k := by rw [List.length_map, List.length_take]; omega
  have hd : W.drop k = x :: W.drop (k + 1) := by rw [← he]; exact List.drop_eq_getElem_cons hk
  refine ⟨?_, ?_, ?_⟩
  · rw [take_snoc hx, hd, List.map_append, List.set_append_right _ _ (by omega), hl, Nat.sub_self, List.append_assoc]
    rfl
  · rw [List.getElem?_append_right (by omega), hl, Nat.sub_self, hd]
    rfl
  · rw [List.length_append, List.length_map, ← List.length_append, List.take_append_drop]
theorem wsL_setg : ∀ (W : List Wt) (k : Nat) (x x' : Wt) (j : Nat) (v : Value), W[k]? = some x → j < 8 → wtL x' = (wtL x).set j v → wsL (W.set k x') = (wsL W).set (k * 8 + j) v
  | [], k, x, x', j, v, h, _, _ => by simp at h
  | z :: W, 0, x, x', j, v, h, hj, he => by
    simp at h
    subst h
    show wtL x' ++ wsL W = (wtL z ++ wsL W).set _ _
    rw [List.set_append_left _ _ (by rw [wtL_length]; omega), he]
    simp
  | z :: W, k + 1, x, x', j, v, h, hj, he => by
    have ih := wsL_setg W k x x' j v (by simpa using h) hj he
    show wtL z ++ wsL (W.set k _) = (wtL z ++ wsL W).set _ _
    rw [List.set_append_right _ _ (by rw [wtL_length]; omega), wtL_length, ih]
    congr 2
    omega
theorem OwnW.put {B : Nat} {w : World} {g C : Nat} {W : List Wt} (h : OwnW B w (some ⟨g, 0, none⟩) C W) {k : Nat} {x : Wt} (hx : W[k]? = some x) (x' : Wt) (j : Nat) (v : Value) (hj : j < 8) (he : wtL x' = (wtL x).set j v) : OwnW B (w.setCell ⟨g, k * 8 + j, none⟩ v) (some ⟨g, 0, none⟩) C (W.set k x') := by
  have h1 := (World.ownsRow.stored h (k * 8 + j) v).1
  unfold OwnW
  rw [wsL_setg W k x x' j v hx hj he, List.length_set]
  exact h1
theorem OwnW.holds {B : Nat} {w : World} {A : Option Addr} {C : Nat} {W : List Wt} (h : OwnW B w A C W) (h0 : 0 < W.length) : ∃ g, A = some ⟨g, 0, none⟩ ∧ B ≤ g ∧ g < w.heap.size ∧ ∀ k x, W[k]? = some x → (w.cell? ⟨g, k * 8 + 6, none⟩ = some (.int .i64 x.h0) ∧ w.cell? ⟨g, k * 8 + 7, none⟩ = some (.int .i64 x.h1) ∧ w.frozen? ⟨g, k * 8 + 6, none⟩ = false ∧ w.frozen? ⟨g, k * 8 + 7, none⟩ = false) := by
  have h' := h
  rcases h.2 with ⟨hv, hn⟩ | ⟨g, cap, cur, hv, hb, hg, hrest⟩
  · omega
  · cases hv
    refine ⟨g, rfl, hb, (Array.getElem?_eq_some_iff.1 hg).1, fun k x hx => ?_⟩
    have c : ∀ j v, (wtL x)[j]? = some v → j < 8 → w.cell? ⟨g, k * 8 + j, none⟩ = some v := fun j v hj hl => by
      have := World.ownsRow.cells h' (g := g) rfl (k * 8 + j) v ((wsL_get W k x j hx hl).trans hj)
      rwa [Addr.add_lit, Nat.zero_add] at this
    exact ⟨c 6 _ rfl (by omega), c 7 _ rfl (by omega), World.ownsRow.frozenAt h' _, World.ownsRow.frozenAt h' _⟩
end Go.Proofs.YtjghbciepinofaaGreat

set_option maxRecDepth 100000
namespace Go.Proofs.YtjghbciepinofaaGreat
structure Kp (s : St) (r : St × Int) : Prop where
  good : goodS r.1 = true
  bu : s.b.bu ≤ r.1.b.bu
  dead : ∀ k, k < 6 → (s.V k).dead = true → (r.1.V k).dead = true
  lost : ∀ k, k < 6 → (s.V k).lost ≤ (r.1.V k).lost
  no : r.2 ≠ 0 → r.1 = s
theorem Kp.same {s : St} (hg : goodS s = true) (e : Int) : Kp s (s, e) := ⟨hg, Int.le_refl _, fun _ _ h => h, fun _ _ => Int.le_refl _, fun _ => rfl⟩
theorem kp_slash {s : St} (hg : goodS s = true) {v : Nat} (hv : v < 6) (h : Int) {f : Int} (hf : 0 ≤ f ∧ f ≤ 1000) : Kp s (slashS s v h f, 0) := by
  obtain ⟨b0, b1, b2, b3, b4⟩ := slash_burn hg hv h hf
  obtain ⟨n1, n2, n3, n4, n5, n6, n7, n8, n9, n10, n11⟩ := slash_nums hg hv h hf
  refine ⟨slash_good hg hv h hf, by show s.b.bu ≤ (slashS s v h f).b.bu; omega, fun k hk hd => ?_, fun k hk => ?_, fun h => absurd rfl h⟩
  · show (setV s.V v _ k).dead = true
    unfold setV
    split
    · rename_i e; subst e; exact hd
    · exact hd
  · show (s.V k).lost ≤ (setV s.V v _ k).lost
    unfold setV
    split
    · rename_i e; subst e; show _ ≤ (s.V k).lost + _; omega
    · exact Int.le_refl _
theorem setJ_good {s : St} (hg : goodS s = true) {v : Nat} (hv : v < 6) {j d : Bool} (hjd : d = true → j = true) : goodS (setJ s v j d) = true := by
  rw [goodS_iff] at hg ⊢
  obtain ⟨h1, h2, h3, h4, h5, h6, h7, h8, h9⟩ := hg
  refine ⟨h1, h2, h3, h4, h5, fun k hk => ?_, ?_, h8, ?_⟩
  · obtain ⟨i1, i2, i3⟩ := h6 k hk
    show vOk (setV s.V v _ k) = true ∧ pshOk s.S k 4 = true ∧ psh s.S k 4 = (setV s.V v _ k).sh
    unfold setV
    by_cases hkv : k = v
    · subst hkv
      rw [if_pos rfl]
      rw [vOk_iff] at i1
      refine ⟨?_, i2, i3⟩
      rw [vOk_iff]
      exact ⟨i1.1, i1.2.1, i1.2.2.1, i1.2.2.2.1, hjd⟩
    · rw [if_neg hkv]
      exact ⟨i1, i2, i3⟩
  · show ptok (setV s.V v _) 6 = s.b.bo
    rw [ptok_set _ _ _ hv, h7]
    simp only
    omega
  · show plost (setV s.V v _) 6 = s.b.bu
    rw [plost_set _ _ _ hv, h9]
    simp only
    omega
theorem kp_pay {s : St} (hg : goodS s = true) (t : Int) : Kp s (payS s t, 0) := by
  obtain ⟨a1, a2, a3, a4⟩ := pay_all hg t
  exact ⟨pay_good hg t, by show s.b.bu ≤ (payS s t).b.bu; omega, fun k hk h => h, fun k hk => Int.le_refl _, fun h => absurd rfl h⟩
theorem relX_keeps (c : Nat) (h : Int) (x : Wt) : (relX c h x).num = x.num ∧ (relX c h x).d = x.d ∧ (relX c h x).v = x.v ∧ (relX c h x).hei = x.hei ∧ (relX c h x).due = x.due ∧ (relX c h x).amt = x.amt := by
  unfold relX
  repeat' split
  all_goals exact ⟨rfl, rfl, rfl, rfl, rfl, rfl⟩
theorem wOk_rel {next h : Int} {c : Nat} : ∀ {W : List Wt} {last : Int}, wOk next last W = true → wOk next last (relW c h W) = true
  | [], _, _ => rfl
  | x :: W, last, hw => by
    obtain ⟨k1, k2, k3, k4, k5, k6⟩ := relX_keeps c h x
    simp only [wOk, Bool.and_eq_true] at hw
    have ih := wOk_rel (c := c) (h := h) hw.2
    have h1 := hw.1
    simp only [relW, List.map_cons, wOk, wOk1, Bool.and_eq_true, decide_eq_true_eq, k1, k2, k3, k4, k5, k6] at h1 ⊢
    exact ⟨h1, ih⟩
theorem amts_rel (c : Nat) (h : Int) : ∀ W : List Wt, amts (relW c h W) = amts W
  | [] => rfl
  | x :: W => by
    show (relX c h x).amt + amts (relW c h W) = x.amt + amts W
    rw [amts_rel c h W, (relX_keeps c h x).2.2.2.2.2]
theorem kp_rel {s : St} (hg : goodS s = true) (c : Nat) (h : Int) : Kp s ({ s with W := relW c h s.W }, 0) := by
  refine ⟨?_, Int.le_refl _, fun _ _ h => h, fun _ _ => Int.le_refl _, fun h => absurd rfl h⟩
  rw [goodS_iff] at hg ⊢
  obtain ⟨h1, h2, h3, h4, h5, h6, h7, h8, h9⟩ := hg
  exact ⟨h1, h2, h3, by show (relW c h s.W).length ≤ 60; unfold relW; rw [List.length_map]; exact h4, wOk_rel h5, h6, h7, by show amts (relW c h s.W) = _; rw [amts_rel]; exact h8, h9⟩
end Go.Proofs.YtjghbciepinofaaGreat

