/- Parts of the proof: CO CU PVKR PGR. -/
import Derived.Test.YtjghbciepinofaaGreatRows
import Derived.Test.YtjghbciepinofaaGreatPK38
import Derived.Test.YtjghbciepinofaaGreatPK40
import Derived.ProofKit
import Derived.Deep.SlicePairs
import Derived.Deep.RegionLaw
import Derived.Deep.DeepCutAuto
import Derived.Deep.MidRow
set_option maxRecDepth 100000
namespace Go.Proofs.YtjghbciepinofaaGreat.Cd
open Go.ChangeShapes Go.WideShapes Go.ChangeAt Go.RowKit Go.Deep

/-- the two lists of a packet lie in memory -/
structure Lies (w : World) (S : List (Int × Int)) (D : List Int) (sa da : Option Addr) (sb so db dO : Nat) : Prop where
  hls : S.length ≤ maxLen
  hld : D.length ≤ maxLen
  hsa : 0 < S.length → sa = some ⟨sb, so, none⟩
  hda : 0 < D.length → da = some ⟨db, dO, none⟩
  PS : PwsAt w sb so S
  PD : IntsAt w db dO D
theorem Lies.later {w w' : World} {S : List (Int × Int)} {D : List Int} {sa da : Option Addr} {sb so db dO : Nat} (h : Lies w S D sa da sb so db dO) (hb : Below w.heap.size w w') : Lies w' S D sa da sb so db dO :=
  ⟨h.hls, h.hld, h.hsa, h.hda, h.PS.later hb, h.PD.later hb⟩

section
variable {H : Type} {enc : TypeId × Value → H} {W : World}
end
end Go.Proofs.YtjghbciepinofaaGreat.Cd

set_option maxRecDepth 100000
namespace Go.Proofs.YtjghbciepinofaaGreat.Cd
open Go.RowKit
theorem info42 : (Tryz.prog.info? 74).map (fun i => (i.zero, i.size, i.bytes)) = some (some (.agg #[.int .i64 0, .int .i64 0]), 2, 16) := by kernel_rfl
theorem info3 : (Tryz.prog.info? 3).map (fun i => (i.zero, i.size, i.bytes)) = some (some (.int .i64 0), 1, 8) := by kernel_rfl
/-- what may be copied: nothing, or cells that are there, not too many -/
def Src (w : World) (ao : Option Addr) (n size bytes : Nat) : Prop := n * bytes ≤ 140737488351232 ∧ (n = 0 ∨ ∃ a, ao = some a ∧ ∀ j, j < n * size → ∃ u, w.cell? (a.add j) = some u)
theorem Src.later {w w' : World} {ao : Option Addr} {n size bytes : Nat} (h : Src w ao n size bytes) (hb : Below w.heap.size w w') : Src w' ao n size bytes := by
  refine ⟨h.1, ?_⟩
  rcases h.2 with h0 | ⟨a, rfl, hs⟩
  · exact .inl h0
  · refine .inr ⟨a, rfl, fun j hj => ?_⟩
    obtain ⟨u, hu⟩ := hs j hj
    exact ⟨u, (hb.cell (p := a.add j) (World.block_lt_of_cell? w _ hu)).trans hu⟩
/-- n elements have been copied behind an address: into new memory; old memory is as it was -/
structure Copied (w : World) (ao : Option Addr) (n size : Nat) (A : Option Addr) (C : Nat) (w' : World) : Prop where
  below : Below w.heap.size w w'
  nil : A = none → C = 0
  cap : n ≤ C
  cells : 0 < n → ∃ a g, ao = some a ∧ A = some ⟨g, 0, none⟩ ∧ w.heap.size ≤ g ∧ ∀ j, j < n * size → w'.cell? ⟨g, j, none⟩ = w.cell? (a.add j)
theorem PkAt.set {w : World} {b : Nat} {k i v n : Int} {s d s' d' : Value} (h : PkAt w b k i v n s d) : PkAt ((w.setCell ⟨b, 4, none⟩ s').setCell ⟨b, 5, none⟩ d') b k i v n s' d' := by
  obtain ⟨h0, h1, h2, h3, h4, h5⟩ := h
  refine ⟨?_, ?_, ?_, ?_, ?_, ?_⟩
  · rw [World.cell?_setCell_other _ _ _ _ (by simp), World.cell?_setCell_other _ _ _ _ (by simp)]; exact h0
  · rw [World.cell?_setCell_other _ _ _ _ (by simp), World.cell?_setCell_other _ _ _ _ (by simp)]; exact h1
  · rw [World.cell?_setCell_other _ _ _ _ (by simp), World.cell?_setCell_other _ _ _ _ (by simp)]; exact h2
  · rw [World.cell?_setCell_other _ _ _ _ (by simp), World.cell?_setCell_other _ _ _ _ (by simp)]; exact h3
  · rw [World.cell?_setCell_other _ _ _ _ (by simp)]; exact World.cell?_setCell_same _ _ _ h4
  · exact World.cell?_setCell_same _ _ _ ((World.cell?_setCell_other _ _ _ _ (by simp)).trans h5)
theorem so {w : World} {b i j : Nat} {v u : Value} (hij : i ≠ j) (h : w.cell? ⟨b, j, none⟩ = some u) : (w.setCell ⟨b, i, none⟩ v).cell? ⟨b, j, none⟩ = some u :=
  (World.cell?_setCell_other _ _ _ _ (fun e => hij (by cases e; rfl))).trans h
theorem ss {w : World} {b i : Nat} {v u : Value} (h : w.cell? ⟨b, i, none⟩ = some u) : (w.setCell ⟨b, i, none⟩ v).cell? ⟨b, i, none⟩ = some v := World.cell?_setCell_same _ _ _ h
/-- six cells of a block, stored one behind the other -/
def set6 (w : World) (b : Nat) (v0 v1 v2 v3 v4 v5 : Value) : World :=
  (((((w.setCell ⟨b, 0, none⟩ v0).setCell ⟨b, 1, none⟩ v1).setCell ⟨b, 2, none⟩ v2).setCell ⟨b, 3, none⟩ v3).setCell ⟨b, 4, none⟩ v4).setCell ⟨b, 5, none⟩ v5
theorem set6_cells {w : World} {b : Nat} (v0 v1 v2 v3 v4 v5 : Value) (h : ∀ o, o < 6 → ∃ u, w.cell? ⟨b, o, none⟩ = some u) :
    (set6 w b v0 v1 v2 v3 v4 v5).cell? ⟨b, 0, none⟩ = some v0 ∧ (set6 w b v0 v1 v2 v3 v4 v5).cell? ⟨b, 1, none⟩ = some v1 ∧ (set6 w b v0 v1 v2 v3 v4 v5).cell? ⟨b, 2, none⟩ = some v2 ∧
    (set6 w b v0 v1 v2 v3 v4 v5).cell? ⟨b, 3, none⟩ = some v3 ∧ (set6 w b v0 v1 v2 v3 v4 v5).cell? ⟨b, 4, none⟩ = some v4 ∧ (set6 w b v0 v1 v2 v3 v4 v5).cell? ⟨b, 5, none⟩ = some v5 := by
  obtain ⟨u0, h0⟩ := h 0 (by omega)
  obtain ⟨u1, h1⟩ := h 1 (by omega)
  obtain ⟨u2, h2⟩ := h 2 (by omega)
  obtain ⟨u3, h3⟩ := h 3 (by omega)
  obtain ⟨u4, h4⟩ := h 4 (by omega)
  obtain ⟨u5, h5⟩ := h 5 (by omega)
  exact ⟨so (by decide) (so (by decide) (so (by decide) (so (by decide) (so (by decide) (ss (h0)))))), so (by decide) (so (by decide) (so (by decide) (so (by decide) (ss (so (by decide) (h1)))))), so (by decide) (so (by decide) (so (by decide) (ss (so (by decide) (so (by decide) (h2)))))), so (by decide) (so (by decide) (ss (so (by decide) (so (by decide) (so (by decide) (h3)))))), so (by decide) (ss (so (by decide) (so (by decide) (so (by decide) (so (by decide) (h4)))))), ss (so (by decide) (so (by decide) (so (by decide) (so (by decide) (so (by decide) (h5))))))⟩
theorem set6_below {B : Nat} {w0 w : World} {b : Nat} (v0 v1 v2 v3 v4 v5 : Value) (h : Below B w0 w) (hB : B ≤ b) : Below B w0 (set6 w b v0 v1 v2 v3 v4 v5) :=
  (((((h.setCell hB _).setCell hB _).setCell hB _).setCell hB _).setCell hB _).setCell hB _
theorem set6_other {w : World} {b : Nat} (v0 v1 v2 v3 v4 v5 : Value) {c : Nat} (hc : c ≠ b) : (set6 w b v0 v1 v2 v3 v4 v5).heap[c]? = w.heap[c]? := by
  unfold set6
  rw [Below.heap_setCell _ _ _ _ hc, Below.heap_setCell _ _ _ _ hc, Below.heap_setCell _ _ _ _ hc, Below.heap_setCell _ _ _ _ hc, Below.heap_setCell _ _ _ _ hc, Below.heap_setCell _ _ _ _ hc]
end Go.Proofs.YtjghbciepinofaaGreat.Cd

set_option maxRecDepth 100000
namespace Go.Proofs.YtjghbciepinofaaGreat.Pv
open Go.RowKit
section
variable {P : Nat → Prop} {w w' : World} {v : Value} {sz bts : Nat} {cs : List Value}
theorem Rep.copied {n C C1 : Nat} {A A1 : Option Addr} {w1 : World} (h : Rep P w (.slice A n C) sz bts cs) (hz : 0 < sz) (hc : Cd.Copied w A n sz A1 C1 w1) (hk : ∀ b, w.heap.size ≤ b → w'.heap[b]? = w1.heap[b]?) : Rep (fun b => w.heap.size ≤ b) w' (.slice A1 n C1) sz bts cs := by
  obtain ⟨A', m, C', h1, h2, h3, h4, h5⟩ := h
  cases h1
  refine ⟨A1, n, C1, rfl, h2, h3, ⟨hc.nil, hc.cap⟩, fun h0 => ?_⟩
  obtain ⟨b, off, rfl, _, _, hcell⟩ := h5 h0
  obtain ⟨a, g, ea, rfl, hg, hj⟩ := hc.cells h0
  cases ea
  have key : ∀ j u, cs[j]? = some u → w'.cell? ⟨g, 0 + j, none⟩ = some u := fun j u hu => by
    have hlt := (List.getElem?_eq_some_iff.1 hu).1
    rw [Nat.zero_add, World.cell?_of_block (w := w1) (a := ⟨g, j, none⟩) (hk g hg), hj j (by omega), Addr.add_lit]
    exact hcell j u hu
  have hpos : 0 < cs.length := by rw [h2]; exact Nat.mul_pos h0 hz
  have hlt : g < w'.heap.size := World.block_lt_of_cell? w' _ (key 0 cs[0] (List.getElem?_eq_getElem hpos))
  exact ⟨g, 0, rfl, hg, hlt, key⟩
theorem Rep.cellsOf {A : Option Addr} {n C : Nat} (h : Rep P w v sz bts cs) (hv : v = .slice A n C) : ∀ ad, A = some ad → ∀ j u, cs[j]? = some u → w.cell? (ad.add j) = some u := by
  subst hv
  obtain ⟨A', m, C', h1, h2, h3, h4, h5⟩ := h
  cases h1
  intro ad e j u hu
  rcases Nat.eq_zero_or_pos n with h0 | h0
  · subst h0
    have := (List.getElem?_eq_some_iff.1 hu).1
    omega
  · obtain ⟨b, off, a1, _, _, a4⟩ := h5 h0
    rw [a1] at e
    cases e
    rw [Addr.add_lit]
    exact a4 j u hu
/-- a line's two lists -/
theorem Rep.line {x : Ln.Line} {v1 v2 : Value} (h1 : Rep P w v1 1 16 (txC x.S)) (h2 : Rep P w v2 1 8 (inC x.D)) : ∃ A1 C1 A2 C2 sb so db dO, v1 = .slice A1 x.S.length C1 ∧ v2 = .slice A2 x.D.length C2 ∧ Ln.LAt w x A1 A2 C1 C2 sb so db dO ∧ (0 < x.S.length → P sb) ∧ (0 < x.D.length → P db) := by
  obtain ⟨A1, n1, C1, a1, a2, a3, a4, a5⟩ := h1
  obtain ⟨A2, n2, C2, b1, b2, b3, b4, b5⟩ := h2
  rw [txC_length] at a2
  rw [inC_length] at b2
  have e1 : n1 = x.S.length := by omega
  have e2 : n2 = x.D.length := by omega
  subst e1 e2
  have hs : ∃ sb so, (0 < x.S.length → A1 = some ⟨sb, so, none⟩ ∧ P sb) ∧ Ln.StrsAt w sb so x.S := by
    rcases Nat.eq_zero_or_pos x.S.length with h0 | h0
    · exact ⟨0, 0, fun h => by omega, fun i hi => by omega⟩
    · obtain ⟨b, off, e, hp, _, hc⟩ := a5 h0
      exact ⟨b, off, fun _ => ⟨e, hp⟩, fun i hi => hc i _ (txC_get _ i hi)⟩
  have hd : ∃ db dO, (0 < x.D.length → A2 = some ⟨db, dO, none⟩ ∧ P db) ∧ Ln.IntsAt w db dO x.D := by
    rcases Nat.eq_zero_or_pos x.D.length with h0 | h0
    · exact ⟨0, 0, fun h => by omega, fun i hi => by omega⟩
    · obtain ⟨b, off, e, hp, _, hc⟩ := b5 h0
      exact ⟨b, off, fun _ => ⟨e, hp⟩, fun i hi => hc i _ (inC_get _ i hi)⟩
  obtain ⟨sb, so, s1, s2⟩ := hs
  obtain ⟨db, dO, d1, d2⟩ := hd
  exact ⟨A1, C1, A2, C2, sb, so, db, dO, a1, b1, ⟨a3, b3, fun h => (s1 h).1, fun h => (d1 h).1, a4.1, b4.1, s2, d2⟩, fun h => (s1 h).2, fun h => (d1 h).2⟩
/-- a packet's two lists -/
theorem Rep.lies {S : List (Int × Int)} {D : List Int} {v1 v2 : Value} (h1 : Rep P w v1 2 16 (pwC S)) (h2 : Rep P w v2 1 8 (inC D)) : ∃ A1 C1 A2 C2 sb so db dO, v1 = .slice A1 S.length C1 ∧ v2 = .slice A2 D.length C2 ∧ Cd.Lies w S D A1 A2 sb so db dO := by
  obtain ⟨A1, n1, C1, a1, a2, a3, a4, a5⟩ := h1
  obtain ⟨A2, n2, C2, b1, b2, b3, b4, b5⟩ := h2
  rw [pwC_length] at a2
  rw [inC_length] at b2
  have e1 : n1 = S.length := by omega
  have e2 : n2 = D.length := by omega
  subst e1 e2
  have hs : ∃ sb so, (0 < S.length → A1 = some ⟨sb, so, none⟩) ∧ Cd.PwsAt w sb so S := by
    rcases Nat.eq_zero_or_pos S.length with h0 | h0
    · exact ⟨0, 0, fun h => by omega, fun i hi => by omega⟩
    · obtain ⟨b, off, e, hp, _, hc⟩ := a5 h0
      exact ⟨b, off, fun _ => e, fun i hi => ⟨hc _ _ (pwC_get _ i hi).1, hc _ _ (pwC_get _ i hi).2⟩⟩
  have hd : ∃ db dO, (0 < D.length → A2 = some ⟨db, dO, none⟩) ∧ Cd.IntsAt w db dO D := by
    rcases Nat.eq_zero_or_pos D.length with h0 | h0
    · exact ⟨0, 0, fun h => by omega, fun i hi => by omega⟩
    · obtain ⟨b, off, e, hp, _, hc⟩ := b5 h0
      exact ⟨b, off, fun _ => e, fun i hi => hc i _ (inC_get _ i hi)⟩
  obtain ⟨sb, so, s1, s2⟩ := hs
  obtain ⟨db, dO, d1, d2⟩ := hd
  exact ⟨A1, C1, A2, C2, sb, so, db, dO, a1, b1, ⟨by unfold maxLen; omega, by unfold maxLen; omega, s1, d1, s2, d2⟩⟩
end
theorem spl_mid (a x c y : List Value) (h : x.length = y.length) : spl (a ++ (x ++ c)).toArray a.length y = (a ++ (y ++ c)).toArray := by
  apply Array.ext_getElem?
  intro i
  rw [spl_get _ _ _ _ (by simp; omega)]
  simp only [List.getElem?_toArray]
  by_cases h1 : i < a.length
  · rw [if_neg (by omega), List.getElem?_append_left h1, List.getElem?_append_left h1]
  · obtain ⟨j, rfl⟩ : ∃ j, i = a.length + j := ⟨i - a.length, by omega⟩
    have e : ∀ z : List Value, (a ++ z)[a.length + j]? = z[j]? := fun z => by rw [List.getElem?_append_right (by omega), Nat.add_sub_cancel_left]
    rw [e, e, Nat.add_sub_cancel_left]
    by_cases h2 : j < y.length
    · rw [if_pos ⟨by omega, by omega⟩, List.getElem?_append_left h2]
    · rw [if_neg (by omega), List.getElem?_append_right (by omega), List.getElem?_append_right (by omega), h]
theorem set_mid (a x c : List Value) (n j : Nat) (u : Value) (hn : a.length = n) (hj : j < x.length) : ((a ++ (x ++ c)).toArray).setIfInBounds (n + j) u = (a ++ (x.set j u ++ c)).toArray := by
  subst hn
  rw [List.setIfInBounds_toArray, List.set_append_right _ _ (by omega), Nat.add_sub_cancel_left, List.set_append_left _ _ hj]
/-- all orders of a region come to one frame -/
def Join (A : Act) (R : World → Prop) (ex : Exit) (a : Act) (w : World) : Prop := ex = Exit.normal ∧ a = A ∧ R w
theorem wp_join {P : Program} {c : Code} {Q : Exit → Act → World → Prop} {a : Act} {w : World} (R : World → Prop) (A : Act) (h1 : Code.wp P c (Join A R) a w) (h2 : ∀ w', R w' → Q Exit.normal A w') : Code.wp P c Q a w :=
  Code.wp_mono (fun e a' w' h => by obtain ⟨rfl, rfl, h⟩ := h; exact h2 w' h) h1
/-- the same, with a value that comes about -/
def Joinx (A : Value → Act) (R : Value → World → Prop) (ex : Exit) (a : Act) (w : World) : Prop := ∃ x, ex = Exit.normal ∧ a = A x ∧ R x w
theorem wp_joinx {P : Program} {c : Code} {Q : Exit → Act → World → Prop} {a : Act} {w : World} (R : Value → World → Prop) (A : Value → Act) (h1 : Code.wp P c (Joinx A R) a w) (h2 : ∀ x w', R x w' → Q Exit.normal (A x) w') : Code.wp P c Q a w :=
  Code.wp_mono (fun e a' w' h => by obtain ⟨x, rfl, rfl, h⟩ := h; exact h2 x w' h) h1
end Go.Proofs.YtjghbciepinofaaGreat.Pv

set_option maxRecDepth 100000
namespace Go.Proofs.YtjghbciepinofaaGreat.Pv
open Go.RowKit
/-- but for one block and new ones the world is as it was -/
structure Alt (g : Nat) (w w' : World) : Prop where
  os : w'.os = w.os
  tape : w'.tape = w.tape
  output : w'.output = w.output
  size : w.heap.size ≤ w'.heap.size
  block : ∀ k, k < w.heap.size → k ≠ g → w'.heap[k]? = w.heap[k]?
theorem Alt.refl (g : Nat) (w : World) : Alt g w w := ⟨rfl, rfl, rfl, Nat.le_refl _, fun _ _ _ => rfl⟩
theorem Alt.trans {g : Nat} {w w1 w2 : World} (h : Alt g w w1) (k : Alt g w1 w2) : Alt g w w2 := ⟨k.os.trans h.os, k.tape.trans h.tape, k.output.trans h.output, Nat.le_trans h.size k.size, fun i hi hn => (k.block i (Nat.lt_of_lt_of_le hi h.size) hn).trans (h.block i hi hn)⟩
theorem Alt.of {g : Nat} {w w' : World} (h : Below w.heap.size w w') : Alt g w w' := ⟨h.os, h.tape, h.output, h.size, fun k hk _ => h.block k hk⟩
theorem Alt.below {g B : Nat} {w w' : World} (h : Alt g w w') (hB : B ≤ g) (hw : B ≤ w.heap.size) : Below B w w' := ⟨h.os, h.tape, h.output, h.size, fun k hk => h.block k (by omega) (by omega)⟩
theorem Alt.set {g : Nat} {w w' : World} (h : Alt g w w') (o : Nat) (v : Value) : Alt g w (w'.setCell ⟨g, o, none⟩ v) :=
  ⟨h.os, h.tape, h.output, (by simp [World.setCell]; exact h.size), fun k hk hn => (Below.heap_setCell _ _ _ _ hn).trans (h.block k hk hn)⟩
theorem Alt.sets {g : Nat} : ∀ (vs : List Value) {w w' : World} (_ : Alt g w w') (o : Nat), Alt g w (w'.setCells g o vs)
  | [], _, _, h, _ => h
  | _ :: r, _, _, h, o => Alt.sets r (h.set o _) (o + 1)
theorem Alt.cat {g : Nat} {w w' : World} (h : Alt g w w') {b : Nat} (hb : b ≠ g) {t : TypeId} {cs : Array Value} (c : CAt t w b cs) : CAt t w' b cs := (h.block b c.lt hb).trans c
theorem Alt.rep {g : Nat} {w w' : World} (h : Alt g w w') {P : Nat → Prop} (hP : ¬ P g) {v : Value} {sz bts : Nat} {cs : List Value} (hp : Rep P w v sz bts cs) : Rep P w' v sz bts cs := hp.keep fun b hb hlt => h.block b hlt (fun e => hP (e ▸ hb))
/-- blocks that were there, or that came later -/
def New (P : Nat → Prop) (w : World) (k b : Nat) : Prop := (P b ∧ b < w.heap.size) ∨ w.heap.size + k ≤ b
theorem new_no {P : Nat → Prop} {w : World} {k j : Nat} (h : j < k) : ¬ New P w k (w.heap.size + j) := fun hn => by
  rcases hn with ⟨_, h1⟩ | h1 <;> omega
end Go.Proofs.YtjghbciepinofaaGreat.Pv

