/- Parts of the proof: LA. -/
import Derived.Test.YtnamphhchecaeaaGreatRows
import Derived.WalkKit
import Derived.WalkSpells
import Derived.WalkLawsBesides
import Derived.WideShapes
set_option maxRecDepth 100000
namespace Go.Proofs.YtnamphhchecaeaaGreat.Ln
open Go.RowKit
/-- a line: what was said, when each of it is too late, how much came, whether it is closed -/
structure Line where
  S : List ByteArray
  D : List Int
  g : Int
  cl : Bool
/-- a list of ints lies at an address -/
def IntsAt (w : World) (b off : Nat) (l : List Int) : Prop := ∀ i, i < l.length → w.cell? ⟨b, off + i, none⟩ = some (.int .i64 (l.getD i 0))
/-- a list of texts lies at an address -/
def StrsAt (w : World) (b off : Nat) (l : List ByteArray) : Prop := ∀ i, i < l.length → w.cell? ⟨b, off + i, none⟩ = some (.string (l.getD i ByteArray.empty))
theorem IntsAt.laterB {B : Nat} {w w' : World} {b off : Nat} {l : List Int} (h : IntsAt w b off l) (hb : Below B w w') (hB : 0 < l.length → b < B) : IntsAt w' b off l := fun i hi =>
  (hb.cell (p := ⟨b, off + i, none⟩) (hB (by omega))).trans (h i hi)
theorem StrsAt.laterB {B : Nat} {w w' : World} {b off : Nat} {l : List ByteArray} (h : StrsAt w b off l) (hb : Below B w w') (hB : 0 < l.length → b < B) : StrsAt w' b off l := fun i hi =>
  (hb.cell (p := ⟨b, off + i, none⟩) (hB (by omega))).trans (h i hi)
theorem IntsAt.later {w w' : World} {b off : Nat} {l : List Int} (h : IntsAt w b off l) (hb : Below w.heap.size w w') : IntsAt w' b off l := fun i hi =>
  (hb.cell (p := ⟨b, off + i, none⟩) (World.block_lt_of_cell? w _ (h i hi))).trans (h i hi)
theorem StrsAt.later {w w' : World} {b off : Nat} {l : List ByteArray} (h : StrsAt w b off l) (hb : Below w.heap.size w w') : StrsAt w' b off l := fun i hi =>
  (hb.cell (p := ⟨b, off + i, none⟩) (World.block_lt_of_cell? w _ (h i hi))).trans (h i hi)
/-- a line's two lists lie in memory -/
structure LAt (w : World) (x : Line) (sa da : Option Addr) (cs cd sb so db dO : Nat) : Prop where
  hls : x.S.length * 16 ≤ 140737488351232
  hld : x.D.length * 8 ≤ 140737488351232
  hsa : 0 < x.S.length → sa = some ⟨sb, so, none⟩
  hda : 0 < x.D.length → da = some ⟨db, dO, none⟩
  ncs : sa = none → cs = 0
  ncd : da = none → cd = 0
  PS : StrsAt w sb so x.S
  PD : IntsAt w db dO x.D
theorem LAt.later {w w' : World} {x : Line} {sa da : Option Addr} {cs cd sb so db dO : Nat} (h : LAt w x sa da cs cd sb so db dO) (hb : Below w.heap.size w w') : LAt w' x sa da cs cd sb so db dO :=
  ⟨h.hls, h.hld, h.hsa, h.hda, h.ncs, h.ncd, h.PS.later hb, h.PD.later hb⟩
theorem LAt.ltS {w : World} {x : Line} {sa da : Option Addr} {cs cd sb so db dO : Nat} (h : LAt w x sa da cs cd sb so db dO) (h0 : 0 < x.S.length) : sb < w.heap.size := World.block_lt_of_cell? w _ (h.PS 0 h0)
theorem LAt.ltD {w : World} {x : Line} {sa da : Option Addr} {cs cd sb so db dO : Nat} (h : LAt w x sa da cs cd sb so db dO) (h0 : 0 < x.D.length) : db < w.heap.size := World.block_lt_of_cell? w _ (h.PD 0 h0)
theorem LAt.laterB {B : Nat} {w w' : World} {x : Line} {sa da : Option Addr} {cs cd sb so db dO : Nat} (h : LAt w x sa da cs cd sb so db dO) (hb : Below B w w') (hS : 0 < x.S.length → sb < B) (hD : 0 < x.D.length → db < B) : LAt w' x sa da cs cd sb so db dO :=
  ⟨h.hls, h.hld, h.hsa, h.hda, h.ncs, h.ncd, h.PS.laterB hb hS, h.PD.laterB hb hD⟩
/-- a value is a line, in memory below B -/
def LV (B : Nat) (w : World) (x : Line) (v : Value) : Prop :=
  ∃ sa da cs cd sb so db dO, v = .agg #[.slice sa x.S.length cs, .slice da x.D.length cd, .int .i64 x.g, .bool x.cl] ∧ LAt w x sa da cs cd sb so db dO ∧ (0 < x.S.length → sb < B) ∧ (0 < x.D.length → db < B)
theorem LV.later {B : Nat} {w w' : World} {x : Line} {v : Value} (h : LV B w x v) (hb : Below B w w') : LV B w' x v := by
  obtain ⟨sa, da, cs, cd, sb, so, db, dO, e, L, h1, h2⟩ := h
  exact ⟨sa, da, cs, cd, sb, so, db, dO, e, L.laterB hb h1 h2, h1, h2⟩
theorem hide {p : Prop} (h : p) : Hid p := h
theorem below_new (w : World) (o : Obj) : Below w.heap.size w (w.alloc o) := (Below.refl _ _).alloc (Nat.le_refl _) o
theorem below_then {w w1 w2 : World} (h : Below w.heap.size w w1) (k : Below w1.heap.size w1 w2) : Below w.heap.size w w2 := h.trans (k.mono h.size)
theorem bcell {W w1 : World} (hb : Below W.heap.size W w1) : (∀ b o, b < W.heap.size → w1.cell? ⟨b, o, none⟩ = W.cell? ⟨b, o, none⟩) ∧ (∀ b o, b < W.heap.size → w1.frozen? ⟨b, o, none⟩ = W.frozen? ⟨b, o, none⟩) :=
  ⟨fun b o h => hb.cell (p := ⟨b, o, none⟩) h, fun b o h => hb.frozen (p := ⟨b, o, none⟩) h⟩
theorem take_step {α : Type} {l m : List α} {k : Nat} (d : α) (h : l.take k = m.take k) (hl : k < l.length) (hm : k < m.length) (he : l.getD k d = m.getD k d) : l.take (k + 1) = m.take (k + 1) := by
  rw [List.take_succ_eq_append_getElem hl, List.take_succ_eq_append_getElem hm, h]
  simp [List.getD, hl, hm] at he
  rw [he]
end Go.Proofs.YtnamphhchecaeaaGreat.Ln

