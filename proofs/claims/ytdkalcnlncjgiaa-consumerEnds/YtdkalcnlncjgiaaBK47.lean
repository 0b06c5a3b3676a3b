/- Parts of the proof: PVKR PGR. -/
import Derived.Test.YtdkalcnlncjgiaaRows
import Derived.Test.YtdkalcnlncjgiaaBK40
import Derived.Test.YtdkalcnlncjgiaaBK43
import Derived.Test.YtdkalcnlncjgiaaBK46
import Derived.Deep.RegionLaw
import Derived.Deep.DeepCutAuto
import Derived.Deep.MidRow
set_option maxRecDepth 100000
namespace Go.Proofs.Ytdkalcnlncjgiaa.Pv
open Go.RowKit
section
variable {P : Nat → Prop} {w w' : World} {v : Value} {sz bts : Nat} {cs : List Value}
theorem Rep.src {n C : Nat} {A : Option Addr} (h : Rep P w (.slice A n C) sz bts cs) : Cd.Src w A n sz bts := by
  obtain ⟨A', m, C', h1, h2, h3, h4, h5⟩ := h
  cases h1
  refine ⟨h3, ?_⟩
  rcases Nat.eq_zero_or_pos n with h0 | h0
  · exact .inl h0
  · obtain ⟨b, off, rfl, _, _, hc⟩ := h5 h0
    refine .inr ⟨_, rfl, fun j hj => ?_⟩
    have hj' : j < cs.length := by omega
    exact ⟨cs[j], by rw [Addr.add_lit]; exact hc j _ (List.getElem?_eq_getElem hj')⟩
theorem Rep.copied {n C C1 : Nat} {A A1 : Option Addr} {w1 : World} (h : Rep P w (.slice A n C) sz bts cs) (hz : 0 < sz) (hc : Cd.Copied w A n sz A1 C1 w1) (hk : ∀ b, w.heap.size ≤ b → w'.heap[b]? = w1.heap[b]?) : Rep (fun b => w.heap.size ≤ b) w' (.slice A1 n C1) sz bts cs := by
  obtain ⟨A', m, C', h1, h2, h3, h4, h5⟩ := h
  cases h1
  refine ⟨A1, n, C1, rfl, h2, h3, ⟨hc.nil, hc.cap⟩, fun h0 => ?_⟩
  obtain ⟨b, off, rfl, _, _, hcell⟩ := h5 h0
  obtain ⟨a, g, ea, rfl, hg, hj⟩ := hc.cells h0
  cases ea
  have key : ∀ j u, cs[j]? = some u → w'.cell? ⟨g, 0 + j, none⟩ = some u := fun j u hu => by
    have hlt := (List.getElem?_eq_some_iff.1 hu).1
    rw [Nat.zero_add, World.cell?_of_block (w := w1) (a := ⟨g, j, none⟩) (hk g hg), hj j (by omega), Addr.add_lit]
    exact hcell j u hu
  have hpos : 0 < cs.length := by rw [h2]; exact Nat.mul_pos h0 hz
  have hlt : g < w'.heap.size := World.block_lt_of_cell? w' _ (key 0 cs[0] (List.getElem?_eq_getElem hpos))
  exact ⟨g, 0, rfl, hg, hlt, key⟩
theorem Rep.cellsOf {A : Option Addr} {n C : Nat} (h : Rep P w v sz bts cs) (hv : v = .slice A n C) : ∀ ad, A = some ad → ∀ j u, cs[j]? = some u → w.cell? (ad.add j) = some u := by
  subst hv
  obtain ⟨A', m, C', h1, h2, h3, h4, h5⟩ := h
  cases h1
  intro ad e j u hu
  rcases Nat.eq_zero_or_pos n with h0 | h0
  · subst h0
    have := (List.getElem?_eq_some_iff.1 hu).1
    omega
  · obtain ⟨b, off, a1, _, _, a4⟩ := h5 h0
    rw [a1] at e
    cases e
    rw [Addr.add_lit]
    exact a4 j u hu
/-- a line's two lists -/
theorem Rep.line {x : Ln.Line} {v1 v2 : Value} (h1 : Rep P w v1 1 16 (txC x.S)) (h2 : Rep P w v2 1 8 (inC x.D)) : ∃ A1 C1 A2 C2 sb so db dO, v1 = .slice A1 x.S.length C1 ∧ v2 = .slice A2 x.D.length C2 ∧ Ln.LAt w x A1 A2 C1 C2 sb so db dO ∧ (0 < x.S.length → P sb) ∧ (0 < x.D.length → P db) := by
  obtain ⟨A1, n1, C1, a1, a2, a3, a4, a5⟩ := h1
  obtain ⟨A2, n2, C2, b1, b2, b3, b4, b5⟩ := h2
  rw [txC_length] at a2
  rw [inC_length] at b2
  have e1 : n1 = x.S.length := by omega
  have e2 : n2 = x.D.length := by omega
  subst e1 e2
  have hs : ∃ sb so, (0 < x.S.length → A1 = some ⟨sb, so, none⟩ ∧ P sb) ∧ Ln.StrsAt w sb so x.S := by
    rcases Nat.eq_zero_or_pos x.S.length with h0 | h0
    · exact ⟨0, 0, fun h => by omega, fun i hi => by omega⟩
    · obtain ⟨b, off, e, hp, _, hc⟩ := a5 h0
      exact ⟨b, off, fun _ => ⟨e, hp⟩, fun i hi => hc i _ (txC_get _ i hi)⟩
  have hd : ∃ db dO, (0 < x.D.length → A2 = some ⟨db, dO, none⟩ ∧ P db) ∧ Ln.IntsAt w db dO x.D := by
    rcases Nat.eq_zero_or_pos x.D.length with h0 | h0
    · exact ⟨0, 0, fun h => by omega, fun i hi => by omega⟩
    · obtain ⟨b, off, e, hp, _, hc⟩ := b5 h0
      exact ⟨b, off, fun _ => ⟨e, hp⟩, fun i hi => hc i _ (inC_get _ i hi)⟩
  obtain ⟨sb, so, s1, s2⟩ := hs
  obtain ⟨db, dO, d1, d2⟩ := hd
  exact ⟨A1, C1, A2, C2, sb, so, db, dO, a1, b1, ⟨a3, b3, fun h => (s1 h).1, fun h => (d1 h).1, a4.1, b4.1, s2, d2⟩, fun h => (s1 h).2, fun h => (d1 h).2⟩
/-- a packet's two lists -/
theorem Rep.lies {S : List (Int × Int)} {D : List Int} {v1 v2 : Value} (h1 : Rep P w v1 2 16 (pwC S)) (h2 : Rep P w v2 1 8 (inC D)) : ∃ A1 C1 A2 C2 sb so db dO, v1 = .slice A1 S.length C1 ∧ v2 = .slice A2 D.length C2 ∧ Cd.Lies w S D A1 A2 sb so db dO := by
  obtain ⟨A1, n1, C1, a1, a2, a3, a4, a5⟩ := h1
  obtain ⟨A2, n2, C2, b1, b2, b3, b4, b5⟩ := h2
  rw [pwC_length] at a2
  rw [inC_length] at b2
  have e1 : n1 = S.length := by omega
  have e2 : n2 = D.length := by omega
  subst e1 e2
  have hs : ∃ sb so, (0 < S.length → A1 = some ⟨sb, so, none⟩) ∧ Cd.PwsAt w sb so S := by
    rcases Nat.eq_zero_or_pos S.length with h0 | h0
    · exact ⟨0, 0, fun h => by omega, fun i hi => by omega⟩
    · obtain ⟨b, off, e, hp, _, hc⟩ := a5 h0
      exact ⟨b, off, fun _ => e, fun i hi => ⟨hc _ _ (pwC_get _ i hi).1, hc _ _ (pwC_get _ i hi).2⟩⟩
  have hd : ∃ db dO, (0 < D.length → A2 = some ⟨db, dO, none⟩) ∧ Cd.IntsAt w db dO D := by
    rcases Nat.eq_zero_or_pos D.length with h0 | h0
    · exact ⟨0, 0, fun h => by omega, fun i hi => by omega⟩
    · obtain ⟨b, off, e, hp, _, hc⟩ := b5 h0
      exact ⟨b, off, fun _ => e, fun i hi => hc i _ (inC_get _ i hi)⟩
  obtain ⟨sb, so, s1, s2⟩ := hs
  obtain ⟨db, dO, d1, d2⟩ := hd
  exact ⟨A1, C1, A2, C2, sb, so, db, dO, a1, b1, ⟨by unfold maxLen; omega, by unfold maxLen; omega, s1, d1, s2, d2⟩⟩
end
/-- CopyPacket -/
theorem copyk_rep (k i v n : Int) (S : List (Int × Int)) (D : List Int) (y1 y2 : Value) (P : Nat → Prop) (w : World) (h1 : Rep P w y1 2 16 (pwC S)) (h2 : Rep P w y2 1 8 (inC D)) :
    Calls Try.prog 17 #[.agg #[.int .i64 k, .int .i64 i, .int .i64 v, .int .i64 n, y1, y2]] w fun e w' => ∃ z1 z2,
      e = .returned (.agg #[.int .i64 k, .int .i64 i, .int .i64 v, .int .i64 n, z1, z2]) ∧ Rep (fun b => w.heap.size ≤ b) w' z1 2 16 (pwC S) ∧ Rep (fun b => w.heap.size ≤ b) w' z2 1 8 (inC D) ∧ Below w.heap.size w w' := by
  obtain ⟨A1, n1, C1, rfl, a2⟩ := id h1
  obtain ⟨A2, n2, C2, rfl, b2⟩ := id h2
  refine (Cd.copy_any k i v n A1 A2 n1 C1 n2 C2 w h1.src h2.src).mono ?_
  rintro e w' ⟨B1, D1, B2, D2, w0, w1, w2, rfl, hB0, hz0, K1, K2, hB, hO⟩
  have g1 := h1.over hB0
  have g2 := (h2.over hB0).over K1.below
  refine ⟨_, _, rfl, ?_, ?_, hB⟩
  · have r1 : Rep (fun b => w0.heap.size ≤ b) w1 (.slice B1 n1 D1) 2 16 (pwC S) := g1.copied (by decide) K1 (fun _ _ => rfl)
    refine ((r1.over K2.below).keep (w' := w') fun b hb _ => hO b (by omega)).mono fun b _ hb => ?_
    omega
  · have r2 : Rep (fun b => w1.heap.size ≤ b) w2 (.slice B2 n2 D2) 1 8 (inC D) := g2.copied (by decide) K2 (fun _ _ => rfl)
    refine (r2.keep (w' := w') fun b hb _ => hO b (by have := K1.below.size; omega)).mono fun b _ hb => ?_
    have := K1.below.size
    omega
theorem infoPw2 : (Try.prog.info? 64).map (fun i => (i.zero, i.size, i.bytes)) = some (some (.agg #[.int .i64 0, .int .i64 0]), 2, 16) := by kernel_rfl
/-- all orders of a region come to one frame -/
def Join (A : Act) (R : World → Prop) (ex : Exit) (a : Act) (w : World) : Prop := ex = Exit.normal ∧ a = A ∧ R w
theorem wp_join {P : Program} {c : Code} {Q : Exit → Act → World → Prop} {a : Act} {w : World} (R : World → Prop) (A : Act) (h1 : Code.wp P c (Join A R) a w) (h2 : ∀ w', R w' → Q Exit.normal A w') : Code.wp P c Q a w :=
  Code.wp_mono (fun e a' w' h => by obtain ⟨rfl, rfl, h⟩ := h; exact h2 w' h) h1
end Go.Proofs.Ytdkalcnlncjgiaa.Pv

set_option maxRecDepth 100000
namespace Go.Proofs.Ytdkalcnlncjgiaa.Pv
open Go.RowKit
/-- but for one block and new ones the world is as it was -/
structure Alt (g : Nat) (w w' : World) : Prop where
  os : w'.os = w.os
  tape : w'.tape = w.tape
  output : w'.output = w.output
  size : w.heap.size ≤ w'.heap.size
  block : ∀ k, k < w.heap.size → k ≠ g → w'.heap[k]? = w.heap[k]?
theorem Alt.refl (g : Nat) (w : World) : Alt g w w := ⟨rfl, rfl, rfl, Nat.le_refl _, fun _ _ _ => rfl⟩
theorem Alt.trans {g : Nat} {w w1 w2 : World} (h : Alt g w w1) (k : Alt g w1 w2) : Alt g w w2 := ⟨k.os.trans h.os, k.tape.trans h.tape, k.output.trans h.output, Nat.le_trans h.size k.size, fun i hi hn => (k.block i (Nat.lt_of_lt_of_le hi h.size) hn).trans (h.block i hi hn)⟩
theorem Alt.of {g : Nat} {w w' : World} (h : Below w.heap.size w w') : Alt g w w' := ⟨h.os, h.tape, h.output, h.size, fun k hk _ => h.block k hk⟩
theorem Alt.below {g B : Nat} {w w' : World} (h : Alt g w w') (hB : B ≤ g) (hw : B ≤ w.heap.size) : Below B w w' := ⟨h.os, h.tape, h.output, h.size, fun k hk => h.block k (by omega) (by omega)⟩
theorem Alt.set {g : Nat} {w w' : World} (h : Alt g w w') (o : Nat) (v : Value) : Alt g w (w'.setCell ⟨g, o, none⟩ v) :=
  ⟨h.os, h.tape, h.output, (by simp [World.setCell]; exact h.size), fun k hk hn => (Below.heap_setCell _ _ _ _ hn).trans (h.block k hk hn)⟩
theorem Alt.sets {g : Nat} : ∀ (vs : List Value) {w w' : World} (_ : Alt g w w') (o : Nat), Alt g w (w'.setCells g o vs)
  | [], _, _, h, _ => h
  | _ :: r, _, _, h, o => Alt.sets r (h.set o _) (o + 1)
theorem Alt.cat {g : Nat} {w w' : World} (h : Alt g w w') {b : Nat} (hb : b ≠ g) {t : TypeId} {cs : Array Value} (c : CAt t w b cs) : CAt t w' b cs := (h.block b c.lt hb).trans c
theorem Alt.rep {g : Nat} {w w' : World} (h : Alt g w w') {P : Nat → Prop} (hP : ¬ P g) {v : Value} {sz bts : Nat} {cs : List Value} (hp : Rep P w v sz bts cs) : Rep P w' v sz bts cs := hp.keep fun b hb hlt => h.block b hlt (fun e => hP (e ▸ hb))
/-- blocks that were there, or that came later -/
def New (P : Nat → Prop) (w : World) (k b : Nat) : Prop := (P b ∧ b < w.heap.size) ∨ w.heap.size + k ≤ b
theorem new_no {P : Nat → Prop} {w : World} {k j : Nat} (h : j < k) : ¬ New P w k (w.heap.size + j) := fun hn => by
  rcases hn with ⟨_, h1⟩ | h1 <;> omega
end Go.Proofs.Ytdkalcnlncjgiaa.Pv

