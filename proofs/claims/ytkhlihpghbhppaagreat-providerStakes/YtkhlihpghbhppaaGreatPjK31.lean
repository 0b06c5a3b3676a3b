/- Parts of the proof: PVK OR3 RA1 RB1. -/
import Derived.Test.YtkhlihpghbhppaaGreatRows
import Derived.Test.YtkhlihpghbhppaaGreatPjK0
import Derived.Test.YtkhlihpghbhppaaGreatPjK20
import Derived.Test.YtkhlihpghbhppaaGreatPjK25
import Derived.Test.YtkhlihpghbhppaaGreatPjK28
import Derived.WalkKit
import Derived.ChangeKeysEq
import Derived.BigQuiet
import Derived.Deep.QuietTactic
set_option maxRecDepth 100000
namespace Go.Proofs.YtkhlihpghbhppaaGreat.Pv
open Go.RowKit
section
variable {P : Nat → Prop} {w w' : World} {v : Value} {sz bts : Nat} {cs : List Value}
theorem Rep.src {n C : Nat} {A : Option Addr} (h : Rep P w (.slice A n C) sz bts cs) : Cd.Src w A n sz bts := by
  obtain ⟨A', m, C', h1, h2, h3, h4, h5⟩ := h
  cases h1
  refine ⟨h3, ?_⟩
  rcases Nat.eq_zero_or_pos n with h0 | h0
  · exact .inl h0
  · obtain ⟨b, off, rfl, _, _, hc⟩ := h5 h0
    refine .inr ⟨_, rfl, fun j hj => ?_⟩
    have hj' : j < cs.length := by omega
    exact ⟨cs[j], by rw [Addr.add_lit]; exact hc j _ (List.getElem?_eq_getElem hj')⟩
theorem Rep.copied {n C C1 : Nat} {A A1 : Option Addr} {w1 : World} (h : Rep P w (.slice A n C) sz bts cs) (hz : 0 < sz) (hc : Cd.Copied w A n sz A1 C1 w1) (hk : ∀ b, w.heap.size ≤ b → w'.heap[b]? = w1.heap[b]?) : Rep (fun b => w.heap.size ≤ b) w' (.slice A1 n C1) sz bts cs := by
  obtain ⟨A', m, C', h1, h2, h3, h4, h5⟩ := h
  cases h1
  refine ⟨A1, n, C1, rfl, h2, h3, ⟨hc.nil, hc.cap⟩, fun h0 => ?_⟩
  obtain ⟨b, off, rfl, _, _, hcell⟩ := h5 h0
  obtain ⟨a, g, ea, rfl, hg, hj⟩ := hc.cells h0
  cases ea
  have key : ∀ j u, cs[j]? = some u → w'.cell? ⟨g, 0 + j, none⟩ = some u := fun j u hu => by
    have hlt := (List.getElem?_eq_some_iff.1 hu).1
    rw [Nat.zero_add, World.cell?_of_block (w := w1) (a := ⟨g, j, none⟩) (hk g hg), hj j (by omega), Addr.add_lit]
    exact hcell j u hu
  have hpos : 0 < cs.length := by rw [h2]; exact Nat.mul_pos h0 hz
  have hlt : g < w'.heap.size := World.block_lt_of_cell? w' _ (key 0 cs[0] (List.getElem?_eq_getElem hpos))
  exact ⟨g, 0, rfl, hg, hlt, key⟩
theorem Rep.cellsOf {A : Option Addr} {n C : Nat} (h : Rep P w v sz bts cs) (hv : v = .slice A n C) : ∀ ad, A = some ad → ∀ j u, cs[j]? = some u → w.cell? (ad.add j) = some u := by
  subst hv
  obtain ⟨A', m, C', h1, h2, h3, h4, h5⟩ := h
  cases h1
  intro ad e j u hu
  rcases Nat.eq_zero_or_pos n with h0 | h0
  · subst h0
    have := (List.getElem?_eq_some_iff.1 hu).1
    omega
  · obtain ⟨b, off, a1, _, _, a4⟩ := h5 h0
    rw [a1] at e
    cases e
    rw [Addr.add_lit]
    exact a4 j u hu
theorem Rep.wsAt {W : List Wt} (h : Rep P w v 8 64 (wsL W)) : ∃ A C b o, v = .slice A W.length C ∧ WsAt w A b o W ∧ (A = none → C = 0) ∧ (0 < W.length → P b) := by
  obtain ⟨A, n, C, h1, h2, h3, h4, h5⟩ := h
  rw [wsL_length] at h2
  have e : n = W.length := by omega
  subst e
  rcases Nat.eq_zero_or_pos W.length with h0 | h0
  · refine ⟨A, C, 0, 0, h1, ⟨fun h => by omega, h3, fun i x hx => ?_⟩, h4.1, fun h => by omega⟩
    have := (List.getElem?_eq_some_iff.1 hx).1
    omega
  · obtain ⟨b, off, rfl, hp, _, hc⟩ := h5 h0
    refine ⟨_, C, b, off, h1, ⟨fun _ => rfl, h3, fun i x hx => ?_⟩, h4.1, fun _ => hp⟩
    have k : ∀ j, j < 8 → ∀ u, (wtL x)[j]? = some u → w.cell? ⟨b, off + i * 8 + j, none⟩ = some u := fun j hj u hu => by
      rw [Nat.add_assoc]
      exact hc _ _ ((wsL_get W i x j hx hj).trans hu)
    exact ⟨k 0 (by omega) _ rfl, k 1 (by omega) _ rfl, k 2 (by omega) _ rfl, k 3 (by omega) _ rfl, k 4 (by omega) _ rfl, k 5 (by omega) _ rfl, k 6 (by omega) _ rfl, k 7 (by omega) _ rfl⟩
/-- a line's two lists -/
theorem Rep.line {x : Ln.Line} {v1 v2 : Value} (h1 : Rep P w v1 1 16 (txC x.S)) (h2 : Rep P w v2 1 8 (inC x.D)) : ∃ A1 C1 A2 C2 sb so db dO, v1 = .slice A1 x.S.length C1 ∧ v2 = .slice A2 x.D.length C2 ∧ Ln.LAt w x A1 A2 C1 C2 sb so db dO ∧ (0 < x.S.length → P sb) ∧ (0 < x.D.length → P db) := by
  obtain ⟨A1, n1, C1, a1, a2, a3, a4, a5⟩ := h1
  obtain ⟨A2, n2, C2, b1, b2, b3, b4, b5⟩ := h2
  rw [txC_length] at a2
  rw [inC_length] at b2
  have e1 : n1 = x.S.length := by omega
  have e2 : n2 = x.D.length := by omega
  subst e1 e2
  have hs : ∃ sb so, (0 < x.S.length → A1 = some ⟨sb, so, none⟩ ∧ P sb) ∧ Ln.StrsAt w sb so x.S := by
    rcases Nat.eq_zero_or_pos x.S.length with h0 | h0
    · exact ⟨0, 0, fun h => by omega, fun i hi => by omega⟩
    · obtain ⟨b, off, e, hp, _, hc⟩ := a5 h0
      exact ⟨b, off, fun _ => ⟨e, hp⟩, fun i hi => hc i _ (txC_get _ i hi)⟩
  have hd : ∃ db dO, (0 < x.D.length → A2 = some ⟨db, dO, none⟩ ∧ P db) ∧ Ln.IntsAt w db dO x.D := by
    rcases Nat.eq_zero_or_pos x.D.length with h0 | h0
    · exact ⟨0, 0, fun h => by omega, fun i hi => by omega⟩
    · obtain ⟨b, off, e, hp, _, hc⟩ := b5 h0
      exact ⟨b, off, fun _ => ⟨e, hp⟩, fun i hi => hc i _ (inC_get _ i hi)⟩
  obtain ⟨sb, so, s1, s2⟩ := hs
  obtain ⟨db, dO, d1, d2⟩ := hd
  exact ⟨A1, C1, A2, C2, sb, so, db, dO, a1, b1, ⟨a3, b3, fun h => (s1 h).1, fun h => (d1 h).1, a4.1, b4.1, s2, d2⟩, fun h => (s1 h).2, fun h => (d1 h).2⟩
/-- a packet's two lists -/
theorem Rep.lies {S : List (Int × Int)} {D : List Int} {v1 v2 : Value} (h1 : Rep P w v1 2 16 (pwC S)) (h2 : Rep P w v2 1 8 (inC D)) : ∃ A1 C1 A2 C2 sb so db dO, v1 = .slice A1 S.length C1 ∧ v2 = .slice A2 D.length C2 ∧ Cd.Lies w S D A1 A2 sb so db dO := by
  obtain ⟨A1, n1, C1, a1, a2, a3, a4, a5⟩ := h1
  obtain ⟨A2, n2, C2, b1, b2, b3, b4, b5⟩ := h2
  rw [pwC_length] at a2
  rw [inC_length] at b2
  have e1 : n1 = S.length := by omega
  have e2 : n2 = D.length := by omega
  subst e1 e2
  have hs : ∃ sb so, (0 < S.length → A1 = some ⟨sb, so, none⟩) ∧ Cd.PwsAt w sb so S := by
    rcases Nat.eq_zero_or_pos S.length with h0 | h0
    · exact ⟨0, 0, fun h => by omega, fun i hi => by omega⟩
    · obtain ⟨b, off, e, hp, _, hc⟩ := a5 h0
      exact ⟨b, off, fun _ => e, fun i hi => ⟨hc _ _ (pwC_get _ i hi).1, hc _ _ (pwC_get _ i hi).2⟩⟩
  have hd : ∃ db dO, (0 < D.length → A2 = some ⟨db, dO, none⟩) ∧ Cd.IntsAt w db dO D := by
    rcases Nat.eq_zero_or_pos D.length with h0 | h0
    · exact ⟨0, 0, fun h => by omega, fun i hi => by omega⟩
    · obtain ⟨b, off, e, hp, _, hc⟩ := b5 h0
      exact ⟨b, off, fun _ => e, fun i hi => hc i _ (inC_get _ i hi)⟩
  obtain ⟨sb, so, s1, s2⟩ := hs
  obtain ⟨db, dO, d1, d2⟩ := hd
  exact ⟨A1, C1, A2, C2, sb, so, db, dO, a1, b1, ⟨by unfold maxLen; omega, by unfold maxLen; omega, s1, d1, s2, d2⟩⟩
end
/-- CopyPacket -/
theorem copyk_rep (k i v n : Int) (S : List (Int × Int)) (D : List Int) (y1 y2 : Value) (P : Nat → Prop) (w : World) (h1 : Rep P w y1 2 16 (pwC S)) (h2 : Rep P w y2 1 8 (inC D)) :
    Calls Tryz.prog 40 #[.agg #[.int .i64 k, .int .i64 i, .int .i64 v, .int .i64 n, y1, y2]] w fun e w' => ∃ z1 z2,
      e = .returned (.agg #[.int .i64 k, .int .i64 i, .int .i64 v, .int .i64 n, z1, z2]) ∧ Rep (fun b => w.heap.size ≤ b) w' z1 2 16 (pwC S) ∧ Rep (fun b => w.heap.size ≤ b) w' z2 1 8 (inC D) ∧ Below w.heap.size w w' := by
  obtain ⟨A1, n1, C1, rfl, a2⟩ := id h1
  obtain ⟨A2, n2, C2, rfl, b2⟩ := id h2
  refine (Cd.copy_any k i v n A1 A2 n1 C1 n2 C2 w h1.src h2.src).mono ?_
  rintro e w' ⟨B1, D1, B2, D2, w0, w1, w2, rfl, hB0, hz0, K1, K2, hB, hO⟩
  have g1 := h1.over hB0
  have g2 := (h2.over hB0).over K1.below
  refine ⟨_, _, rfl, ?_, ?_, hB⟩
  · have r1 : Rep (fun b => w0.heap.size ≤ b) w1 (.slice B1 n1 D1) 2 16 (pwC S) := g1.copied (by decide) K1 (fun _ _ => rfl)
    refine ((r1.over K2.below).keep (w' := w') fun b hb _ => hO b (by omega)).mono fun b _ hb => ?_
    omega
  · have r2 : Rep (fun b => w1.heap.size ≤ b) w2 (.slice B2 n2 D2) 1 8 (inC D) := g2.copied (by decide) K2 (fun _ _ => rfl)
    refine (r2.keep (w' := w') fun b hb _ => hO b (by have := K1.below.size; omega)).mono fun b _ hb => ?_
    have := K1.below.size
    omega
end Go.Proofs.YtkhlihpghbhppaaGreat.Pv

set_option maxRecDepth 100000
namespace Go.Proofs.YtkhlihpghbhppaaGreat.Od
open Go
section
variable {P : Program} {md : Region.Mode} {ops : Array Oper} {Q : Exit → Act → World → Prop} {S : World → Prop} {c : Nat}
theorem free_first {i : Nat} {oi : Oper} {v : Value} (hi : ops[i]? = some oi) (hsel : ∀ (j : Nat) (o : Oper) cs b, ops[j]? = some o → o.op ≠ .select cs b)
    (hQ : ∀ c a w, Q (.panic c) (a.put oi.dst v) w → Q (.panic c) a w) (hic : i ≠ c) :
    ∀ (n : Nat) (L : Array Bool) (a : Act) (w : World),
      (∀ j oj, ops[j]? = some oj → j ≠ i → L.getD j true = false → (∀ e ∈ oj.after, Region.binds md e = true → e.on ≠ i) → oi.apart ops oj = true) →
      i ∈ Region.ready md ops L → Yields P ops oi v a → S w →
      anyC P md ops Q S c n (L.setIfInBounds i true) (a.put oi.dst v) w → anyC P md ops Q S c (n + 1) L a w := by
  intro n
  induction n with
  | zero =>
    intro L a w _ hr hy hS H
    refine ⟨fun h => (by rw [h] at hr; cases hr), fun j hj => ?_⟩
    by_cases hji : j = i
    · subst hji
      exact hy.wpOp hi ⟨fun e => absurd e hic, fun _ => ⟨hS, H⟩⟩
    · have := ready_mono hj hji
      rw [H.1] at this
      cases this
  | succ n ih =>
    intro L a w hfree hr hy hS H
    refine ⟨fun h => (by rw [h] at hr; cases hr), fun j hj => ?_⟩
    by_cases hji : j = i
    · subst hji
      exact hy.wpOp hi ⟨fun e => absurd e hic, fun _ => ⟨hS, H⟩⟩
    · have hK := H.2 j (ready_mono hj hji)
      obtain ⟨hjun, oj, hoj, hall⟩ := mem_ready.1 hj
      have hnot : ∀ e ∈ oj.after, Region.binds md e = true → e.on ≠ i := fun e he hb heq => by
        have h1 := hall e he hb
        have h0 := (mem_ready.1 hr).1
        rw [heq] at h1
        rcases Nat.lt_or_ge i L.size with h' | h'
        · simp [h'] at h0 h1; rw [h0] at h1; cases h1
        · simp [Array.getElem?_eq_none h'] at h1
      have hfree' : ∀ k ok, ops[k]? = some ok → k ≠ i → (L.setIfInBounds j true).getD k true = false →
          (∀ e ∈ ok.after, Region.binds md e = true → e.on ≠ i) → oi.apart ops ok = true := fun k ok hk hki hun hno => by
        refine hfree k ok hk hki ?_ hno
        by_cases hjk : j = k
        · subst hjk; exact hjun
        · rw [getD_set_ne true hjk] at hun; exact hun
      refine wpOp_mono (fun a' w' h3 => ⟨fun e => ?_, fun e => ?_⟩) (wpOp_put hoj (hfree j oj hoj hji hjun hnot) (fun cs b => hsel i oi cs b hi) (fun cs b => hsel j oj cs b hoj) hQ hy hK)
      · refine wpAny_first hi hsel hQ n (L.setIfInBounds j true) a' w' hfree' (ready_mono hr (Ne.symm hji)) h3.1 ?_
        rw [Array.setIfInBounds_comm _ _ hji]
        exact h3.2.1 e
      · obtain ⟨hS', h5⟩ := h3.2.2 e
        refine ⟨hS', ih (L.setIfInBounds j true) a' w' hfree' (ready_mono hr (Ne.symm hji)) h3.1 hS' ?_⟩
        rw [Array.setIfInBounds_comm _ _ hji]
        exact h5
theorem anyH_sl {i : Nat} {oi : Oper} {v : Value} {n : Nat} {L : Array Bool} {a : Act} {w : World} (dd : Option Tmp) (hi : ops[i]? = some oi) (hd : oi.dst = dd)
    (hs : Region.noSelect ops = true) (hf : Region.free md ops L i = true) (hr : (Region.ready md ops L).contains i = true)
    (hQ : ∀ c a w, Q (.panic c) (a.put dd v) w → Q (.panic c) a w) (hy : YieldsIf P ops S oi v a) (hS : S w)
    (h : wpAnyH P md ops Q S n (L.setIfInBounds i true) (a.put dd v) w) : wpAnyH P md ops Q S (n + 1) L a w := by
  subst hd
  exact wpAnyH_take hi hs hf hr hQ hy hS h
/-- one alone may come up, and nothing guards it -/
theorem anyH_one {i : Nat} {o : Oper} {n : Nat} {L : Array Bool} {a : Act} {w : World} (hr : Region.ready md ops L = [i]) (ho : ops[i]? = some o) (hg : o.guard = none)
    (h : ∀ K' : Act → World → Prop, (∀ a w, S w → wpAnyH P md ops Q S n (L.setIfInBounds i true) a w → K' a w) → Oper.wp P o a w K' Q) : wpAnyH P md ops Q S (n + 1) L a w := by
  refine ⟨fun h0 => (by rw [hr] at h0; cases h0), fun j hj => ?_⟩
  rw [hr, List.mem_singleton] at hj
  subst hj
  refine wpOp_step ho fun K' hK => ?_
  rw [if_pos (show Region.wanted o (yielded ops a.tmps) = true by simp [Region.wanted, hg])]
  exact h K' fun a w hS hA => hK a w ⟨hS, hA⟩
theorem anyH_two {i j : Nat} {oi oj : Oper} {n : Nat} {L : Array Bool} {a : Act} {w : World} (hr : Region.ready md ops L = [i, j]) (hoi : ops[i]? = some oi) (hgi : oi.guard = none) (hoj : ops[j]? = some oj) (hgj : oj.guard = none)
    (h1 : ∀ K' : Act → World → Prop, (∀ a w, S w → wpAnyH P md ops Q S n (L.setIfInBounds i true) a w → K' a w) → Oper.wp P oi a w K' Q)
    (h2 : ∀ K' : Act → World → Prop, (∀ a w, S w → wpAnyH P md ops Q S n (L.setIfInBounds j true) a w → K' a w) → Oper.wp P oj a w K' Q) : wpAnyH P md ops Q S (n + 1) L a w := by
  refine ⟨fun h0 => (by rw [hr] at h0; cases h0), fun k hk => ?_⟩
  rw [hr] at hk
  rcases List.mem_cons.1 hk with rfl | hk
  · refine wpOp_step hoi fun K' hK => ?_
    rw [if_pos (show Region.wanted oi (yielded ops a.tmps) = true by simp [Region.wanted, hgi])]
    exact h1 K' fun a w hS hA => hK a w ⟨hS, hA⟩
  · rw [List.mem_singleton] at hk
    subst hk
    refine wpOp_step hoj fun K' hK => ?_
    rw [if_pos (show Region.wanted oj (yielded ops a.tmps) = true by simp [Region.wanted, hgj])]
    exact h2 K' fun a w hS hA => hK a w ⟨hS, hA⟩
theorem anyH_store {i : Nat} {o : Oper} {n : Nat} {L : Array Bool} {a : Act} {w : World} (hr : Region.ready md ops L = [i]) (ho : ops[i]? = some o) (hg : o.guard = none)
    (ty : TypeId) (x y : Operand) (hop : o.op = .store ty x y) (hd : o.dst = none) (b off : Nat) (cells : Array Value) (hx : a.eval x = .pointer (some ⟨b, off, none⟩)) (hy : a.eval y = .agg cells)
    (ht : w.there b off cells.size) (hi : (P.info? ty).map (·.size) = some cells.size) (h1 : cells.all (·.oneCell') = true) (hS : S (w.setCells b off cells.toList))
    (h : wpAnyH P md ops Q S n (L.setIfInBounds i true) a (w.setCells b off cells.toList)) : wpAnyH P md ops Q S (n + 1) L a w :=
  anyH_one hr ho hg fun _ hK => wp_store_mid ty x y hop b off cells hx hy ht hi h1 (hK _ _ hS (by rw [hd]; exact h))
theorem anyC_free {i : Nat} {oi : Oper} {v : Value} {n : Nat} {L : Array Bool} {a : Act} {w : World} (dd : Option Tmp) (hi : ops[i]? = some oi) (hd : oi.dst = dd)
    (hs : Region.noSelect ops = true) (hf : Region.free md ops L i = true) (hr : (Region.ready md ops L).contains i = true) (hic : i ≠ c)
    (hQ : ∀ c a w, Q (.panic c) (a.put dd v) w → Q (.panic c) a w) (hy : Yields P ops oi v a) (hS : S w)
    (h : anyC P md ops Q S c n (L.setIfInBounds i true) (a.put dd v) w) : anyC P md ops Q S c (n + 1) L a w := by
  subst hd
  exact free_first hi (Region.noSelect_spec hs) hQ hic n L a w (Region.free_spec hi hf) (by simpa using hr) hy hS h
end
end Go.Proofs.YtkhlihpghbhppaaGreat.Od

set_option maxRecDepth 100000
namespace Go.Proofs.YtkhlihpghbhppaaGreat
open Go.RowKit
theorem eqVd (w : World) (t s l : Int) (j d : Bool) : (Op.equalIn 9999 26 (.agg #[.int .i64 t, .int .i64 s, .int .i64 l, .bool j, .bool d]) (.agg #[.int .i64 t, .int .i64 s, .int .i64 l, .bool j, .bool d])).run Tryz.prog w = .ok true w := by
  go_simp
theorem eqVs (w : World) (V : Nat → Vd) : (Op.equalIn 10000 27 (.agg (vsC V)) (.agg (vsC V))).run Tryz.prog w = .ok true w := by
  have hi : (Tryz.prog.info? 26).isSome = true := by kernel_rfl
  obtain ⟨i, hi⟩ := Option.isSome_iff_exists.1 hi
  have hc : Tryz.prog.cellsOf 26 = 5 := by kernel_rfl
  rw [run_equalIn_array w 9999 _ _ Tryz.underlying27 hi, hc, show List.range 6 = [0, 1, 2, 3, 4, 5] from rfl]
  have h := eqVd
  simp only [Op.eqItems, vsC]
  go_simp
theorem eqRow (w : World) (a b c d e f : Int) : (Op.equalIn 9999 28 (.agg #[.int .i64 a, .int .i64 b, .int .i64 c, .int .i64 d, .int .i64 e, .int .i64 f]) (.agg #[.int .i64 a, .int .i64 b, .int .i64 c, .int .i64 d, .int .i64 e, .int .i64 f])).run Tryz.prog w = .ok true w := by
  have hi : (Tryz.prog.info? 3).isSome = true := by kernel_rfl
  obtain ⟨i, hi⟩ := Option.isSome_iff_exists.1 hi
  have hc : Tryz.prog.cellsOf 3 = 1 := by kernel_rfl
  rw [run_equalIn_array w 9998 _ _ Tryz.underlying28 hi, hc, show List.range 6 = [0, 1, 2, 3, 4, 5] from rfl]
  simp only [Op.eqItems]
  go_simp
theorem eqSh (w : World) (S : Nat → Nat → Int) : (Op.equalIn 10000 29 (.agg (shC S)) (.agg (shC S))).run Tryz.prog w = .ok true w := by
  have hi : (Tryz.prog.info? 28).isSome = true := by kernel_rfl
  obtain ⟨i, hi⟩ := Option.isSome_iff_exists.1 hi
  have hc : Tryz.prog.cellsOf 28 = 6 := by kernel_rfl
  rw [run_equalIn_array w 9999 _ _ Tryz.underlying29 hi, hc, show List.range 4 = [0, 1, 2, 3] from rfl]
  have h := eqRow
  simp only [Op.eqItems, shC]
  go_simp
theorem neVs (w : World) (V : Nat → Vd) : (binOp .neq 27 (.agg (vsC V)) (.agg (vsC V))).run Tryz.prog w = .ok (.bool false) w := by
  rw [run_neq_struct, eqVs]
  rfl
theorem neSh (w : World) (S : Nat → Nat → Int) : (binOp .neq 29 (.agg (shC S)) (.agg (shC S))).run Tryz.prog w = .ok (.bool false) w := by
  rw [run_neq_struct, eqSh]
  rfl
theorem eqH (w : World) (a b : Int) : (Op.equalIn 9999 96 (.agg #[.int .i64 a, .int .i64 b]) (.agg #[.int .i64 a, .int .i64 b])).run Tryz.prog w = .ok true w := by
  have hi : (Tryz.prog.info? 3).isSome = true := by kernel_rfl
  obtain ⟨i, hi⟩ := Option.isSome_iff_exists.1 hi
  have hc : Tryz.prog.cellsOf 3 = 1 := by kernel_rfl
  rw [run_equalIn_array w 9998 _ _ Tryz.underlying96 hi, hc, show List.range 2 = [0, 1] from rfl]
  simp only [Op.eqItems]
  go_simp
theorem neWt (w : World) (x : Wt) : (binOp .neq 98 (.agg (wtC x)) (.agg (wtC x))).run Tryz.prog w = .ok (.bool false) w := by
  have h := fun w => eqH w x.h0 x.h1
  rw [run_neq_struct]
  unfold wtC
  go_simp
theorem neBk (w : World) (b : Bk) : (binOp .neq 24 (.agg #[.int .i64 b.f0, .int .i64 b.f1, .int .i64 b.f2, .int .i64 b.f3, .int .i64 b.bo, .int .i64 b.wa, .int .i64 b.bu]) (.agg #[.int .i64 b.f0, .int .i64 b.f1, .int .i64 b.f2, .int .i64 b.f3, .int .i64 b.bo, .int .i64 b.wa, .int .i64 b.bu])).run Tryz.prog w = .ok (.bool false) w := by
  rw [neB]
  simp
end Go.Proofs.YtkhlihpghbhppaaGreat

set_option maxRecDepth 100000
namespace Go.Proofs.YtkhlihpghbhppaaGreat
open Go.RowKit
set_option maxHeartbeats 4000000 in
theorem same_any (s : St) (aa ba : Option Addr) (ab ao bb bo ca cb : Nat) (w : World) (hA : WsAt w aa ab ao s.W) (hB : WsAt w ba bb bo s.W) :
    Calls Tryz.prog 42 #[.agg (stC s (.slice aa s.W.length ca)), .agg (stC s (.slice ba s.W.length cb))] w fun e w' => e = .returned (.bool true) ∧ Below w.heap.size w w' := by
  have S0 := (SAt.new w (stC s (.slice aa s.W.length ca))).alloc (.cells (stC s (.slice ba s.W.length cb)) 32)
  have T0 := SAt.new2 w (.cells (stC s (.slice aa s.W.length ca)) 32) (stC s (.slice ba s.W.length cb))
  have HB0 : Hid (Below w.heap.size w ((w.alloc (.cells (stC s (.slice aa s.W.length ca)) 32)).alloc (.cells (stC s (.slice ba s.W.length cb)) 32))) := ((Below.refl _ w).alloc (Nat.le_refl _) _).alloc (by simp) _
  have HA := hide hA
  have HB := hide hB
  have hlen := hA.len
  clear hA hB
  have n1 := fun w => neVs w s.V
  have n2 := fun w => neSh w s.S
  have n3 := fun w => neBk w s.b
  go_enter Tryz.func42, Tryz.ntmps42
  go_upto_region 1 with fail
  generalize (w.alloc (.cells (stC s (.slice aa s.W.length ca)) 32)).alloc (.cells (stC s (.slice ba s.W.length cb)) 32) = w0 at *
  obtain ⟨x0, x1, x2, x3, x4, x5, x6, x7, x8⟩ := st_cells S0
  obtain ⟨y0, y1, y2, y3, y4, y5, y6, y7, y8⟩ := st_cells T0
  have r1 := st_vals S0
  have r2 := st_vals T0
  have r3 := st_shares S0
  have r4 := st_shares T0
  go_upto_region 999 with (first
    | (refine wp_load_mid 27 _ rfl _ 7 rfl _ _ r1 Tryz.underlying27 rfl (by rw [infoVs]; rfl) ?_)
    | (refine wp_load_mid 27 _ rfl _ 7 rfl _ _ r2 Tryz.underlying27 rfl (by rw [infoVs]; rfl) ?_)
    | (refine wp_load_mid 29 _ rfl _ 37 rfl _ _ r3 Tryz.underlying29 rfl (by rw [infoSh]; rfl) ?_)
    | (refine wp_load_mid 29 _ rfl _ 37 rfl _ _ r4 Tryz.underlying29 rfl (by rw [infoSh]; rfl) ?_))
  have HS := hide S0
  have HT := hide T0
  have hadA := HA.out.adr
  have hadB := HB.out.adr
  clear x0 x1 x2 x3 x4 x5 x6 x7 x8 y0 y1 y2 y3 y4 y5 y6 y7 y8 r1 r2 r3 r4 n1 n2 n3 S0 T0
  go_loopw [44] (fun i wl => ∃ k : Nat, k ≤ s.W.length ∧ i = .int .i64 (k : Int) ∧ Hid (∃ n, wl = w0.drewN n)) (fun i _ => s.W.length - (intOf i).toNat)
  case atStart => exact ⟨0, by omega, rfl, 0, rfl⟩
  case round =>
    obtain ⟨k, hk, rfl, HN⟩ := hrel
    by_cases hlt : k < s.W.length
    · obtain ⟨n, hn⟩ := HN.out
      subst hn
      obtain ⟨x, hx, _⟩ := drop_at hlt
      have hBw : Below w.heap.size w (w0.drewN n) := ⟨HB0.out.os, HB0.out.tape, HB0.out.output, HB0.out.size, HB0.out.block⟩
      obtain ⟨c0, c1, c2, c3, c4, c5, c6, c7⟩ := (HA.out.over hBw).cell k x hx
      obtain ⟨d0, d1, d2, d3, d4, d5, d6, d7⟩ := (HB.out.over hBw).cell k x hx
      obtain ⟨_, _, _, _, _, _, _, x7, _⟩ := st_cells (show SAt (w0.drewN n) w.heap.size (stC s (.slice aa s.W.length ca)) from HS.out)
      obtain ⟨_, _, _, _, _, _, _, y7, _⟩ := st_cells (show SAt (w0.drewN n) (w.heap.size + 1) (stC s (.slice ba s.W.length cb)) from HT.out)
      have n4 := fun w => neWt w x
      unfold wtC at n4
      obtain rfl := hadA (by omega)
      obtain rfl := hadB (by omega)
      have hk0 : (0 : Int) ≤ (k : Int) := by omega
      have hk1 : (k : Int) < (s.W.length : Int) := by omega
      clear hadA hadB hx hBw HN
      have HX : Hid (∃ m, w0.drewN n = w0.drewN m) := ⟨n, rfl⟩
      generalize w0.drewN n = wx at *
      go_upto_region 6 with fail
      go_quiet (fail)
      go_wp2
      go_roundw
      case rel =>
        obtain ⟨m, hm⟩ := HX.out
        exact ⟨k + 1, by omega, by go_num, m + nq, by rw [hm]; simp⟩
      case measure => simp [intOf]; omega
    · obtain ⟨n, hn⟩ := HN.out
      subst hn
      go_wp2
      go_ret
      exact ⟨rfl, HB0.out.os, HB0.out.tape, HB0.out.output, HB0.out.size, HB0.out.block⟩
end Go.Proofs.YtkhlihpghbhppaaGreat

