/- Parts of the proof: PVK OR2 OR3 S. -/
import Derived.Test.YtkhlihpghbhppaaGreatRows
import Derived.Test.YtkhlihpghbhppaaGreatProviderHearsK0
import Derived.Test.YtkhlihpghbhppaaGreatProviderHearsK22
import Derived.Test.YtkhlihpghbhppaaGreatProviderHearsK36
import Derived.Test.YtkhlihpghbhppaaGreatProg
import Derived.WalkKit
import Derived.WalkSmall
import Derived.Below
set_option maxRecDepth 100000
namespace Go.Proofs.YtkhlihpghbhppaaGreat.Pv
open Go.RowKit
section
variable {P : Nat → Prop} {w w' : World} {v : Value} {sz bts : Nat} {cs : List Value}
theorem Rep.src {n C : Nat} {A : Option Addr} (h : Rep P w (.slice A n C) sz bts cs) : Cd.Src w A n sz bts := by
  obtain ⟨A', m, C', h1, h2, h3, h4, h5⟩ := h
  cases h1
  refine ⟨h3, ?_⟩
  rcases Nat.eq_zero_or_pos n with h0 | h0
  · exact .inl h0
  · obtain ⟨b, off, rfl, _, _, hc⟩ := h5 h0
    refine .inr ⟨_, rfl, fun j hj => ?_⟩
    have hj' : j < cs.length := by omega
    exact ⟨cs[j], by rw [Addr.add_lit]; exact hc j _ (List.getElem?_eq_getElem hj')⟩
theorem Rep.copied {n C C1 : Nat} {A A1 : Option Addr} {w1 : World} (h : Rep P w (.slice A n C) sz bts cs) (hz : 0 < sz) (hc : Cd.Copied w A n sz A1 C1 w1) (hk : ∀ b, w.heap.size ≤ b → w'.heap[b]? = w1.heap[b]?) : Rep (fun b => w.heap.size ≤ b) w' (.slice A1 n C1) sz bts cs := by
  obtain ⟨A', m, C', h1, h2, h3, h4, h5⟩ := h
  cases h1
  refine ⟨A1, n, C1, rfl, h2, h3, ⟨hc.nil, hc.cap⟩, fun h0 => ?_⟩
  obtain ⟨b, off, rfl, _, _, hcell⟩ := h5 h0
  obtain ⟨a, g, ea, rfl, hg, hj⟩ := hc.cells h0
  cases ea
  have key : ∀ j u, cs[j]? = some u → w'.cell? ⟨g, 0 + j, none⟩ = some u := fun j u hu => by
    have hlt := (List.getElem?_eq_some_iff.1 hu).1
    rw [Nat.zero_add, World.cell?_of_block (w := w1) (a := ⟨g, j, none⟩) (hk g hg), hj j (by omega), Addr.add_lit]
    exact hcell j u hu
  have hpos : 0 < cs.length := by rw [h2]; exact Nat.mul_pos h0 hz
  have hlt : g < w'.heap.size := World.block_lt_of_cell? w' _ (key 0 cs[0] (List.getElem?_eq_getElem hpos))
  exact ⟨g, 0, rfl, hg, hlt, key⟩
theorem Rep.cellsOf {A : Option Addr} {n C : Nat} (h : Rep P w v sz bts cs) (hv : v = .slice A n C) : ∀ ad, A = some ad → ∀ j u, cs[j]? = some u → w.cell? (ad.add j) = some u := by
  subst hv
  obtain ⟨A', m, C', h1, h2, h3, h4, h5⟩ := h
  cases h1
  intro ad e j u hu
  rcases Nat.eq_zero_or_pos n with h0 | h0
  · subst h0
    have := (List.getElem?_eq_some_iff.1 hu).1
    omega
  · obtain ⟨b, off, a1, _, _, a4⟩ := h5 h0
    rw [a1] at e
    cases e
    rw [Addr.add_lit]
    exact a4 j u hu
theorem Rep.wsAt {W : List Wt} (h : Rep P w v 8 64 (wsL W)) : ∃ A C b o, v = .slice A W.length C ∧ WsAt w A b o W ∧ (A = none → C = 0) ∧ (0 < W.length → P b) := by
  obtain ⟨A, n, C, h1, h2, h3, h4, h5⟩ := h
  rw [wsL_length] at h2
  have e : n = W.length := by omega
  subst e
  rcases Nat.eq_zero_or_pos W.length with h0 | h0
  · refine ⟨A, C, 0, 0, h1, ⟨fun h => by omega, h3, fun i x hx => ?_⟩, h4.1, fun h => by omega⟩
    have := (List.getElem?_eq_some_iff.1 hx).1
    omega
  · obtain ⟨b, off, rfl, hp, _, hc⟩ := h5 h0
    refine ⟨_, C, b, off, h1, ⟨fun _ => rfl, h3, fun i x hx => ?_⟩, h4.1, fun _ => hp⟩
    have k : ∀ j, j < 8 → ∀ u, (wtL x)[j]? = some u → w.cell? ⟨b, off + i * 8 + j, none⟩ = some u := fun j hj u hu => by
      rw [Nat.add_assoc]
      exact hc _ _ ((wsL_get W i x j hx hj).trans hu)
    exact ⟨k 0 (by omega) _ rfl, k 1 (by omega) _ rfl, k 2 (by omega) _ rfl, k 3 (by omega) _ rfl, k 4 (by omega) _ rfl, k 5 (by omega) _ rfl, k 6 (by omega) _ rfl, k 7 (by omega) _ rfl⟩
/-- a line's two lists -/
theorem Rep.line {x : Ln.Line} {v1 v2 : Value} (h1 : Rep P w v1 1 16 (txC x.S)) (h2 : Rep P w v2 1 8 (inC x.D)) : ∃ A1 C1 A2 C2 sb so db dO, v1 = .slice A1 x.S.length C1 ∧ v2 = .slice A2 x.D.length C2 ∧ Ln.LAt w x A1 A2 C1 C2 sb so db dO ∧ (0 < x.S.length → P sb) ∧ (0 < x.D.length → P db) := by
  obtain ⟨A1, n1, C1, a1, a2, a3, a4, a5⟩ := h1
  obtain ⟨A2, n2, C2, b1, b2, b3, b4, b5⟩ := h2
  rw [txC_length] at a2
  rw [inC_length] at b2
  have e1 : n1 = x.S.length := by omega
  have e2 : n2 = x.D.length := by omega
  subst e1 e2
  have hs : ∃ sb so, (0 < x.S.length → A1 = some ⟨sb, so, none⟩ ∧ P sb) ∧ Ln.StrsAt w sb so x.S := by
    rcases Nat.eq_zero_or_pos x.S.length with h0 | h0
    · exact ⟨0, 0, fun h => by omega, fun i hi => by omega⟩
    · obtain ⟨b, off, e, hp, _, hc⟩ := a5 h0
      exact ⟨b, off, fun _ => ⟨e, hp⟩, fun i hi => hc i _ (txC_get _ i hi)⟩
  have hd : ∃ db dO, (0 < x.D.length → A2 = some ⟨db, dO, none⟩ ∧ P db) ∧ Ln.IntsAt w db dO x.D := by
    rcases Nat.eq_zero_or_pos x.D.length with h0 | h0
    · exact ⟨0, 0, fun h => by omega, fun i hi => by omega⟩
    · obtain ⟨b, off, e, hp, _, hc⟩ := b5 h0
      exact ⟨b, off, fun _ => ⟨e, hp⟩, fun i hi => hc i _ (inC_get _ i hi)⟩
  obtain ⟨sb, so, s1, s2⟩ := hs
  obtain ⟨db, dO, d1, d2⟩ := hd
  exact ⟨A1, C1, A2, C2, sb, so, db, dO, a1, b1, ⟨a3, b3, fun h => (s1 h).1, fun h => (d1 h).1, a4.1, b4.1, s2, d2⟩, fun h => (s1 h).2, fun h => (d1 h).2⟩
/-- a packet's two lists -/
theorem Rep.lies {S : List (Int × Int)} {D : List Int} {v1 v2 : Value} (h1 : Rep P w v1 2 16 (pwC S)) (h2 : Rep P w v2 1 8 (inC D)) : ∃ A1 C1 A2 C2 sb so db dO, v1 = .slice A1 S.length C1 ∧ v2 = .slice A2 D.length C2 ∧ Cd.Lies w S D A1 A2 sb so db dO := by
  obtain ⟨A1, n1, C1, a1, a2, a3, a4, a5⟩ := h1
  obtain ⟨A2, n2, C2, b1, b2, b3, b4, b5⟩ := h2
  rw [pwC_length] at a2
  rw [inC_length] at b2
  have e1 : n1 = S.length := by omega
  have e2 : n2 = D.length := by omega
  subst e1 e2
  have hs : ∃ sb so, (0 < S.length → A1 = some ⟨sb, so, none⟩) ∧ Cd.PwsAt w sb so S := by
    rcases Nat.eq_zero_or_pos S.length with h0 | h0
    · exact ⟨0, 0, fun h => by omega, fun i hi => by omega⟩
    · obtain ⟨b, off, e, hp, _, hc⟩ := a5 h0
      exact ⟨b, off, fun _ => e, fun i hi => ⟨hc _ _ (pwC_get _ i hi).1, hc _ _ (pwC_get _ i hi).2⟩⟩
  have hd : ∃ db dO, (0 < D.length → A2 = some ⟨db, dO, none⟩) ∧ Cd.IntsAt w db dO D := by
    rcases Nat.eq_zero_or_pos D.length with h0 | h0
    · exact ⟨0, 0, fun h => by omega, fun i hi => by omega⟩
    · obtain ⟨b, off, e, hp, _, hc⟩ := b5 h0
      exact ⟨b, off, fun _ => e, fun i hi => hc i _ (inC_get _ i hi)⟩
  obtain ⟨sb, so, s1, s2⟩ := hs
  obtain ⟨db, dO, d1, d2⟩ := hd
  exact ⟨A1, C1, A2, C2, sb, so, db, dO, a1, b1, ⟨by unfold maxLen; omega, by unfold maxLen; omega, s1, d1, s2, d2⟩⟩
end
/-- CopyPacket -/
theorem copyk_rep (k i v n : Int) (S : List (Int × Int)) (D : List Int) (y1 y2 : Value) (P : Nat → Prop) (w : World) (h1 : Rep P w y1 2 16 (pwC S)) (h2 : Rep P w y2 1 8 (inC D)) :
    Calls Tryz.prog 40 #[.agg #[.int .i64 k, .int .i64 i, .int .i64 v, .int .i64 n, y1, y2]] w fun e w' => ∃ z1 z2,
      e = .returned (.agg #[.int .i64 k, .int .i64 i, .int .i64 v, .int .i64 n, z1, z2]) ∧ Rep (fun b => w.heap.size ≤ b) w' z1 2 16 (pwC S) ∧ Rep (fun b => w.heap.size ≤ b) w' z2 1 8 (inC D) ∧ Below w.heap.size w w' := by
  obtain ⟨A1, n1, C1, rfl, a2⟩ := id h1
  obtain ⟨A2, n2, C2, rfl, b2⟩ := id h2
  refine (Cd.copy_any k i v n A1 A2 n1 C1 n2 C2 w h1.src h2.src).mono ?_
  rintro e w' ⟨B1, D1, B2, D2, w0, w1, w2, rfl, hB0, hz0, K1, K2, hB, hO⟩
  have g1 := h1.over hB0
  have g2 := (h2.over hB0).over K1.below
  refine ⟨_, _, rfl, ?_, ?_, hB⟩
  · have r1 : Rep (fun b => w0.heap.size ≤ b) w1 (.slice B1 n1 D1) 2 16 (pwC S) := g1.copied (by decide) K1 (fun _ _ => rfl)
    refine ((r1.over K2.below).keep (w' := w') fun b hb _ => hO b (by omega)).mono fun b _ hb => ?_
    omega
  · have r2 : Rep (fun b => w1.heap.size ≤ b) w2 (.slice B2 n2 D2) 1 8 (inC D) := g2.copied (by decide) K2 (fun _ _ => rfl)
    refine (r2.keep (w' := w') fun b hb _ => hO b (by have := K1.below.size; omega)).mono fun b _ hb => ?_
    have := K1.below.size
    omega
end Go.Proofs.YtkhlihpghbhppaaGreat.Pv

set_option maxRecDepth 100000
namespace Go.Proofs.YtkhlihpghbhppaaGreat.Od
open Go
section
variable {P : Program} {md : Region.Mode} {ops : Array Oper} {Q : Exit → Act → World → Prop} {S : World → Prop} {c : Nat}
/-- the last call, nothing guards it -/
theorem anyC_go {o : Oper} {n : Nat} {L : Array Bool} {a : Act} {w : World} (hr : Region.ready md ops L = [c]) (ho : ops[c]? = some o) (hg : o.guard = none)
    (h : ∀ K' : Act → World → Prop, (∀ a w, wpAny P md ops Q n (L.setIfInBounds c true) a w → K' a w) → Oper.wp P o a w K' Q) : anyC P md ops Q S c (n + 1) L a w :=
  anyC_last hr ho fun K' hK => by
    have hw : Region.wanted o (yielded ops a.tmps) = true := by simp [Region.wanted, hg]
    rw [if_pos hw]
    exact h K' hK
end
end Go.Proofs.YtkhlihpghbhppaaGreat.Od

set_option maxRecDepth 100000
namespace Go.Proofs.YtkhlihpghbhppaaGreat.Od
open Go
section
variable {P : Program} {md : Region.Mode} {ops : Array Oper} {Q : Exit → Act → World → Prop} {S : World → Prop} {c : Nat}
theorem free_first {i : Nat} {oi : Oper} {v : Value} (hi : ops[i]? = some oi) (hsel : ∀ (j : Nat) (o : Oper) cs b, ops[j]? = some o → o.op ≠ .select cs b)
    (hQ : ∀ c a w, Q (.panic c) (a.put oi.dst v) w → Q (.panic c) a w) (hic : i ≠ c) :
    ∀ (n : Nat) (L : Array Bool) (a : Act) (w : World),
      (∀ j oj, ops[j]? = some oj → j ≠ i → L.getD j true = false → (∀ e ∈ oj.after, Region.binds md e = true → e.on ≠ i) → oi.apart ops oj = true) →
      i ∈ Region.ready md ops L → Yields P ops oi v a → S w →
      anyC P md ops Q S c n (L.setIfInBounds i true) (a.put oi.dst v) w → anyC P md ops Q S c (n + 1) L a w := by
  intro n
  induction n with
  | zero =>
    intro L a w _ hr hy hS H
    refine ⟨fun h => (by rw [h] at hr; cases hr), fun j hj => ?_⟩
    by_cases hji : j = i
    · subst hji
      exact hy.wpOp hi ⟨fun e => absurd e hic, fun _ => ⟨hS, H⟩⟩
    · have := ready_mono hj hji
      rw [H.1] at this
      cases this
  | succ n ih =>
    intro L a w hfree hr hy hS H
    refine ⟨fun h => (by rw [h] at hr; cases hr), fun j hj => ?_⟩
    by_cases hji : j = i
    · subst hji
      exact hy.wpOp hi ⟨fun e => absurd e hic, fun _ => ⟨hS, H⟩⟩
    · have hK := H.2 j (ready_mono hj hji)
      obtain ⟨hjun, oj, hoj, hall⟩ := mem_ready.1 hj
      have hnot : ∀ e ∈ oj.after, Region.binds md e = true → e.on ≠ i := fun e he hb heq => by
        have h1 := hall e he hb
        have h0 := (mem_ready.1 hr).1
        rw [heq] at h1
        rcases Nat.lt_or_ge i L.size with h' | h'
        · simp [h'] at h0 h1; rw [h0] at h1; cases h1
        · simp [Array.getElem?_eq_none h'] at h1
      have hfree' : ∀ k ok, ops[k]? = some ok → k ≠ i → (L.setIfInBounds j true).getD k true = false →
          (∀ e ∈ ok.after, Region.binds md e = true → e.on ≠ i) → oi.apart ops ok = true := fun k ok hk hki hun hno => by
        refine hfree k ok hk hki ?_ hno
        by_cases hjk : j = k
        · subst hjk; exact hjun
        · rw [getD_set_ne true hjk] at hun; exact hun
      refine wpOp_mono (fun a' w' h3 => ⟨fun e => ?_, fun e => ?_⟩) (wpOp_put hoj (hfree j oj hoj hji hjun hnot) (fun cs b => hsel i oi cs b hi) (fun cs b => hsel j oj cs b hoj) hQ hy hK)
      · refine wpAny_first hi hsel hQ n (L.setIfInBounds j true) a' w' hfree' (ready_mono hr (Ne.symm hji)) h3.1 ?_
        rw [Array.setIfInBounds_comm _ _ hji]
        exact h3.2.1 e
      · obtain ⟨hS', h5⟩ := h3.2.2 e
        refine ⟨hS', ih (L.setIfInBounds j true) a' w' hfree' (ready_mono hr (Ne.symm hji)) h3.1 hS' ?_⟩
        rw [Array.setIfInBounds_comm _ _ hji]
        exact h5
theorem anyH_sl {i : Nat} {oi : Oper} {v : Value} {n : Nat} {L : Array Bool} {a : Act} {w : World} (dd : Option Tmp) (hi : ops[i]? = some oi) (hd : oi.dst = dd)
    (hs : Region.noSelect ops = true) (hf : Region.free md ops L i = true) (hr : (Region.ready md ops L).contains i = true)
    (hQ : ∀ c a w, Q (.panic c) (a.put dd v) w → Q (.panic c) a w) (hy : YieldsIf P ops S oi v a) (hS : S w)
    (h : wpAnyH P md ops Q S n (L.setIfInBounds i true) (a.put dd v) w) : wpAnyH P md ops Q S (n + 1) L a w := by
  subst hd
  exact wpAnyH_take hi hs hf hr hQ hy hS h
/-- one alone may come up, and nothing guards it -/
theorem anyH_one {i : Nat} {o : Oper} {n : Nat} {L : Array Bool} {a : Act} {w : World} (hr : Region.ready md ops L = [i]) (ho : ops[i]? = some o) (hg : o.guard = none)
    (h : ∀ K' : Act → World → Prop, (∀ a w, S w → wpAnyH P md ops Q S n (L.setIfInBounds i true) a w → K' a w) → Oper.wp P o a w K' Q) : wpAnyH P md ops Q S (n + 1) L a w := by
  refine ⟨fun h0 => (by rw [hr] at h0; cases h0), fun j hj => ?_⟩
  rw [hr, List.mem_singleton] at hj
  subst hj
  refine wpOp_step ho fun K' hK => ?_
  rw [if_pos (show Region.wanted o (yielded ops a.tmps) = true by simp [Region.wanted, hg])]
  exact h K' fun a w hS hA => hK a w ⟨hS, hA⟩
theorem anyH_two {i j : Nat} {oi oj : Oper} {n : Nat} {L : Array Bool} {a : Act} {w : World} (hr : Region.ready md ops L = [i, j]) (hoi : ops[i]? = some oi) (hgi : oi.guard = none) (hoj : ops[j]? = some oj) (hgj : oj.guard = none)
    (h1 : ∀ K' : Act → World → Prop, (∀ a w, S w → wpAnyH P md ops Q S n (L.setIfInBounds i true) a w → K' a w) → Oper.wp P oi a w K' Q)
    (h2 : ∀ K' : Act → World → Prop, (∀ a w, S w → wpAnyH P md ops Q S n (L.setIfInBounds j true) a w → K' a w) → Oper.wp P oj a w K' Q) : wpAnyH P md ops Q S (n + 1) L a w := by
  refine ⟨fun h0 => (by rw [hr] at h0; cases h0), fun k hk => ?_⟩
  rw [hr] at hk
  rcases List.mem_cons.1 hk with rfl | hk
  · refine wpOp_step hoi fun K' hK => ?_
    rw [if_pos (show Region.wanted oi (yielded ops a.tmps) = true by simp [Region.wanted, hgi])]
    exact h1 K' fun a w hS hA => hK a w ⟨hS, hA⟩
  · rw [List.mem_singleton] at hk
    subst hk
    refine wpOp_step hoj fun K' hK => ?_
    rw [if_pos (show Region.wanted oj (yielded ops a.tmps) = true by simp [Region.wanted, hgj])]
    exact h2 K' fun a w hS hA => hK a w ⟨hS, hA⟩
theorem anyH_store {i : Nat} {o : Oper} {n : Nat} {L : Array Bool} {a : Act} {w : World} (hr : Region.ready md ops L = [i]) (ho : ops[i]? = some o) (hg : o.guard = none)
    (ty : TypeId) (x y : Operand) (hop : o.op = .store ty x y) (hd : o.dst = none) (b off : Nat) (cells : Array Value) (hx : a.eval x = .pointer (some ⟨b, off, none⟩)) (hy : a.eval y = .agg cells)
    (ht : w.there b off cells.size) (hi : (P.info? ty).map (·.size) = some cells.size) (h1 : cells.all (·.oneCell') = true) (hS : S (w.setCells b off cells.toList))
    (h : wpAnyH P md ops Q S n (L.setIfInBounds i true) a (w.setCells b off cells.toList)) : wpAnyH P md ops Q S (n + 1) L a w :=
  anyH_one hr ho hg fun _ hK => wp_store_mid ty x y hop b off cells hx hy ht hi h1 (hK _ _ hS (by rw [hd]; exact h))
theorem anyC_free {i : Nat} {oi : Oper} {v : Value} {n : Nat} {L : Array Bool} {a : Act} {w : World} (dd : Option Tmp) (hi : ops[i]? = some oi) (hd : oi.dst = dd)
    (hs : Region.noSelect ops = true) (hf : Region.free md ops L i = true) (hr : (Region.ready md ops L).contains i = true) (hic : i ≠ c)
    (hQ : ∀ c a w, Q (.panic c) (a.put dd v) w → Q (.panic c) a w) (hy : Yields P ops oi v a) (hS : S w)
    (h : anyC P md ops Q S c n (L.setIfInBounds i true) (a.put dd v) w) : anyC P md ops Q S c (n + 1) L a w := by
  subst hd
  exact free_first hi (Region.noSelect_spec hs) hQ hic n L a w (Region.free_spec hi hf) (by simpa using hr) hy hS h
end
end Go.Proofs.YtkhlihpghbhppaaGreat.Od

set_option maxRecDepth 100000
namespace Go.Proofs.YtkhlihpghbhppaaGreat
open Go.RowKit
/-- a bank's numbers lie in a block -/
def BAt (w : World) (b : Nat) (f0 f1 f2 f3 bo wa bu : Int) : Prop := w.heap[b]? = some (.cells #[.int .i64 f0, .int .i64 f1, .int .i64 f2, .int .i64 f3, .int .i64 bo, .int .i64 wa, .int .i64 bu] 24)
section
variable {w w' : World} {b B : Nat} {f0 f1 f2 f3 bo wa bu : Int}
theorem BAt.later (h : BAt w b f0 f1 f2 f3 bo wa bu) (hb : Below B w w') (hB : b < B) : BAt w' b f0 f1 f2 f3 bo wa bu := (hb.block b hB).trans h
theorem BAt.new (w : World) (f0 f1 f2 f3 bo wa bu : Int) : BAt (w.alloc (.cells #[.int .i64 f0, .int .i64 f1, .int .i64 f2, .int .i64 f3, .int .i64 bo, .int .i64 wa, .int .i64 bu] 24)) w.heap.size f0 f1 f2 f3 bo wa bu := heap_alloc_new _ _
theorem BAt.other {c o : Nat} (h : BAt w b f0 f1 f2 f3 bo wa bu) (hb : b ≠ c) (v : Value) : BAt (w.setCell ⟨c, o, none⟩ v) b f0 f1 f2 f3 bo wa bu := (Below.heap_setCell _ _ _ _ hb).trans h
theorem BAt.alloc (h : BAt w b f0 f1 f2 f3 bo wa bu) (o : Obj) : BAt (w.alloc o) b f0 f1 f2 f3 bo wa bu := (Below.heap_alloc _ _ _ (Array.getElem?_eq_some_iff.1 h).1).trans h
theorem BAt.lt (h : BAt w b f0 f1 f2 f3 bo wa bu) : b < w.heap.size := (Array.getElem?_eq_some_iff.1 h).1
theorem BAt.cells (h : BAt w b f0 f1 f2 f3 bo wa bu) : w.cell? ⟨b, 0, none⟩ = some (.int .i64 f0) ∧ w.cell? ⟨b, 1, none⟩ = some (.int .i64 f1) ∧ w.cell? ⟨b, 2, none⟩ = some (.int .i64 f2) ∧ w.cell? ⟨b, 3, none⟩ = some (.int .i64 f3) ∧ w.cell? ⟨b, 4, none⟩ = some (.int .i64 bo) ∧ w.cell? ⟨b, 5, none⟩ = some (.int .i64 wa) ∧ w.cell? ⟨b, 6, none⟩ = some (.int .i64 bu) := by
  unfold BAt at h
  simp [World.cell?, h]
theorem BAt.frees (h : BAt w b f0 f1 f2 f3 bo wa bu) : w.frozen? ⟨b, 0, none⟩ = false ∧ w.frozen? ⟨b, 1, none⟩ = false ∧ w.frozen? ⟨b, 2, none⟩ = false ∧ w.frozen? ⟨b, 3, none⟩ = false ∧ w.frozen? ⟨b, 4, none⟩ = false ∧ w.frozen? ⟨b, 5, none⟩ = false ∧ w.frozen? ⟨b, 6, none⟩ = false := by
  unfold BAt at h
  simp [World.frozen?, h]
theorem BAt.set_0 (h : BAt w b f0 f1 f2 f3 bo wa bu) (v : Int) : BAt (w.setCell ⟨b, 0, none⟩ (.int .i64 v)) b v f1 f2 f3 bo wa bu := by
  unfold BAt at *
  simp [World.setCell, Array.getElem?_modify, h]
theorem BAt.set_1 (h : BAt w b f0 f1 f2 f3 bo wa bu) (v : Int) : BAt (w.setCell ⟨b, 1, none⟩ (.int .i64 v)) b f0 v f2 f3 bo wa bu := by
  unfold BAt at *
  simp [World.setCell, Array.getElem?_modify, h]
theorem BAt.set_2 (h : BAt w b f0 f1 f2 f3 bo wa bu) (v : Int) : BAt (w.setCell ⟨b, 2, none⟩ (.int .i64 v)) b f0 f1 v f3 bo wa bu := by
  unfold BAt at *
  simp [World.setCell, Array.getElem?_modify, h]
theorem BAt.set_3 (h : BAt w b f0 f1 f2 f3 bo wa bu) (v : Int) : BAt (w.setCell ⟨b, 3, none⟩ (.int .i64 v)) b f0 f1 f2 v bo wa bu := by
  unfold BAt at *
  simp [World.setCell, Array.getElem?_modify, h]
theorem BAt.set_4 (h : BAt w b f0 f1 f2 f3 bo wa bu) (v : Int) : BAt (w.setCell ⟨b, 4, none⟩ (.int .i64 v)) b f0 f1 f2 f3 v wa bu := by
  unfold BAt at *
  simp [World.setCell, Array.getElem?_modify, h]
theorem BAt.set_5 (h : BAt w b f0 f1 f2 f3 bo wa bu) (v : Int) : BAt (w.setCell ⟨b, 5, none⟩ (.int .i64 v)) b f0 f1 f2 f3 bo v bu := by
  unfold BAt at *
  simp [World.setCell, Array.getElem?_modify, h]
theorem BAt.set_6 (h : BAt w b f0 f1 f2 f3 bo wa bu) (v : Int) : BAt (w.setCell ⟨b, 6, none⟩ (.int .i64 v)) b f0 f1 f2 f3 bo wa v := by
  unfold BAt at *
  simp [World.setCell, Array.getElem?_modify, h]
/-- the seven numbers are written -/
def set7 (w : World) (b : Nat) (v0 v1 v2 v3 v4 v5 v6 : Int) : World := ((((((w.setCell ⟨b, 0, none⟩ (.int .i64 v0)).setCell ⟨b, 1, none⟩ (.int .i64 v1)).setCell ⟨b, 2, none⟩ (.int .i64 v2)).setCell ⟨b, 3, none⟩ (.int .i64 v3)).setCell ⟨b, 4, none⟩ (.int .i64 v4)).setCell ⟨b, 5, none⟩ (.int .i64 v5)).setCell ⟨b, 6, none⟩ (.int .i64 v6)
theorem BAt.set7 (h : BAt w b f0 f1 f2 f3 bo wa bu) (v0 v1 v2 v3 v4 v5 v6 : Int) : BAt (set7 w b v0 v1 v2 v3 v4 v5 v6) b v0 v1 v2 v3 v4 v5 v6 :=
  ((((((h.set_0 v0).set_1 v1).set_2 v2).set_3 v3).set_4 v4).set_5 v5).set_6 v6
theorem set7_below (h : Below B w w') (hB : B ≤ b) (v0 v1 v2 v3 v4 v5 v6 : Int) : Below B w (Go.Proofs.YtkhlihpghbhppaaGreat.set7 w' b v0 v1 v2 v3 v4 v5 v6) :=
  ((((((h.setCell hB _).setCell hB _).setCell hB _).setCell hB _).setCell hB _).setCell hB _).setCell hB _
end
end Go.Proofs.YtkhlihpghbhppaaGreat

