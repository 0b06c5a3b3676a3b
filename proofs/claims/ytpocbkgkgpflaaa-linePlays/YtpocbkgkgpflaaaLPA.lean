/- LinePlays: what a round keeps, and pieces of its code. -/
import Derived.Test.YtpocbkgkgpflaaaLPO
import Derived.Test.YtpocbkgkgpflaaaLH
import Derived.Deep.AppendLies
import Derived.Deep.RegionWith
import Derived.Deep.RegionHeld3
import Derived.Deep.CutBlock
import Derived.Deep.DeepCutAuto
import Derived.Deep.QuietTactic
import Derived.BigQuiet
import Derived.WalkSmall
set_option maxRecDepth 100000
namespace Go.Proofs.Ytpocbkgkgpflaaa.Ln
open Go.RowKit
/-- five cells of a block -/
def CAt (w : World) (b : Nat) (c : Cy) : Prop := w.heap[b]? = some (.cells #[.int .i64 c.kind, .int .i64 c.k, .int .i64 c.said, .int .i64 c.time, .string c.s] 41)
theorem CAt.lt {w : World} {b : Nat} {c : Cy} (h : CAt w b c) : b < w.heap.size := (Array.getElem?_eq_some_iff.1 h).1
theorem CAt.facts {w : World} {b : Nat} {c : Cy} (h : CAt w b c) : w.cell? ⟨b, 0, none⟩ = some (.int .i64 c.kind) ∧ w.cell? ⟨b, 1, none⟩ = some (.int .i64 c.k) ∧ w.cell? ⟨b, 2, none⟩ = some (.int .i64 c.said) ∧ w.cell? ⟨b, 3, none⟩ = some (.int .i64 c.time) ∧ w.cell? ⟨b, 4, none⟩ = some (.string c.s) := by
  unfold CAt at h
  simp [World.cell?, h]
/-- a line in the block b3, and what came, in a row of its own -/
structure PlR (w : World) (b3 : Nat) (x : Line) (sa da : Option Addr) (cs cd sb so db dO : Nat) (cm : List ByteArray) (A : Option Addr) (C : Nat) (wl : World) : Prop where
  F : FAt wl b3 (.slice sa x.S.length cs) (.slice da x.D.length cd) (.int .i64 x.g) (.bool x.cl)
  L : LAt wl x sa da cs cd sb so db dO
  nS : 0 < x.S.length → sb ≠ b3 ∧ some sb ≠ (Value.slice A cm.length C).ownBlock
  nD : 0 < x.D.length → db ≠ b3 ∧ some db ≠ (Value.slice A cm.length C).ownBlock
  own : OwnS (b3 + 1) wl A C cm
  below : Below w.heap.size w wl
  hb3 : w.heap.size ≤ b3
section
variable {w : World} {b3 : Nat} {x : Line} {sa da : Option Addr} {cs cd sb so db dO : Nat} {cm : List ByteArray} {A : Option Addr} {C : Nat} {wl : World}
theorem PlR.over (h : PlR w b3 x sa da cs cd sb so db dO cm A C wl) {w' : World} (hb : Below wl.heap.size wl w') : PlR w b3 x sa da cs cd sb so db dO cm A C w' :=
  ⟨h.F.later hb h.F.lt, h.L.later hb, h.nS, h.nD, own_over h.own hb, below_then h.below hb, h.hb3⟩
/-- another line is put in its place -/
theorem PlR.put (h : PlR w b3 x sa da cs cd sb so db dO cm A C wl) {w' : World} (hb : Below wl.heap.size wl w') {y : Line} {ya yb : Option Addr} {yc yd ye yf yg yh : Nat} (LY : LAt w' y ya yb yc yd ye yf yg yh)
    (e1 : 0 < y.S.length → ye < w'.heap.size ∧ ((ye = sb ∧ y.S = x.S) ∨ wl.heap.size ≤ ye)) (e2 : 0 < y.D.length → yg < w'.heap.size ∧ ((yg = db ∧ y.D = x.D) ∨ wl.heap.size ≤ yg)) :
    PlR w b3 y ya yb yc yd ye yf yg yh cm A C (set4 w' b3 (.slice ya y.S.length yc) (.slice yb y.D.length yd) (.int .i64 y.g) (.bool y.cl)) := by
  have h1 := h.over hb
  have q : ∀ k, (Value.slice A cm.length C).ownBlock = some k → k < wl.heap.size := fun k hk => (World.ownsRow.lt h.own k hk).2
  have nS : 0 < y.S.length → ye ≠ b3 ∧ some ye ≠ (Value.slice A cm.length C).ownBlock := fun h0 => by
    rcases (e1 h0).2 with ⟨rfl, h2⟩ | h2
    · exact h.nS (h2 ▸ h0)
    · exact ⟨by have := h.F.lt; omega, fun e => by have := q ye e.symm; omega⟩
  have nD : 0 < y.D.length → yg ≠ b3 ∧ some yg ≠ (Value.slice A cm.length C).ownBlock := fun h0 => by
    rcases (e2 h0).2 with ⟨rfl, h2⟩ | h2
    · exact h.nD (h2 ▸ h0)
    · exact ⟨by have := h.F.lt; omega, fun e => by have := q yg e.symm; omega⟩
  refine ⟨set4_at h1.F _ _ _ _, LY.set (fun h0 => set4_other _ _ _ _ (nS h0).1) (fun h0 => set4_other _ _ _ _ (nD h0).1), nS, nD, own_of h1.own fun k hk => set4_other _ _ _ _ (by have := (World.ownsRow.lt h1.own k hk).1; omega), set4_below _ _ _ _ h1.below h.hb3, h.hb3⟩
/-- one more has come -/
theorem PlR.app (h : PlR w b3 x sa da cs cd sb so db dO cm A C wl) {w' : World} {s : ByteArray} {g C' : Nat} (ho : w'.ownsRow (b3 + 1) 9 1 (.slice (some ⟨g, 0, none⟩) (cm.length + 1) C') (cm.length + 1) (cm.map .string ++ [.string s])) (hg : wl.grownBy w' (Value.slice A cm.length C).ownBlock) (hat : (Value.slice A cm.length C).ownBlock = some g ∨ g = wl.heap.size) :
    PlR w b3 x sa da cs cd sb so db dO (cm ++ [s]) (some ⟨g, 0, none⟩) C' w' := by
  have hS := h.L.ltS
  have hD := h.L.ltD
  have q : ∀ k, (Value.slice A cm.length C).ownBlock = some k → b3 + 1 ≤ k ∧ k < wl.heap.size := fun k hk => World.ownsRow.lt h.own k hk
  have hb : some b3 ≠ (Value.slice A cm.length C).ownBlock := fun e => by have := (q b3 e.symm).1; omega
  refine ⟨(hg.block b3 h.F.lt hb).trans h.F, h.L.set (fun h0 => hg.block sb (hS h0) (h.nS h0).2) (fun h0 => hg.block db (hD h0) (h.nD h0).2), fun h0 => ⟨(h.nS h0).1, fun e => ?_⟩, fun h0 => ⟨(h.nD h0).1, fun e => ?_⟩, ?_, h.below.grown hg h.below.size (fun k hk => by have := (q k hk).1; have := h.hb3; omega), h.hb3⟩
  · have e : sb = g := by simpa [Value.ownBlock] using e
    subst e
    rcases hat with hat | hat
    · exact (h.nS h0).2 hat.symm
    · have := hS h0; omega
  · have e : db = g := by simpa [Value.ownBlock] using e
    subst e
    rcases hat with hat | hat
    · exact (h.nD h0).2 hat.symm
    · have := hD h0; omega
  · unfold OwnS
    simpa using ho
end
/-- the round's own blocks: the carry, and the line as it was -/
structure Rd (b3 b6 b7 : Nat) (c : Cy) (u0 u1 : Value) (g : Int) (cl : Bool) (wq : World) : Prop where
  C6 : CAt wq b6 c
  F7 : FAt wq b7 u0 u1 (.int .i64 g) (.bool cl)
  h36 : b3 < b6
  h67 : b6 < b7
section
variable {b3 b6 b7 : Nat} {c : Cy} {u0 u1 : Value} {g : Int} {cl : Bool} {wq : World}
theorem Rd.over (h : Rd b3 b6 b7 c u0 u1 g cl wq) {w' : World} (hb : Below wq.heap.size wq w') : Rd b3 b6 b7 c u0 u1 g cl w' := ⟨(hb.block b6 h.C6.lt).trans h.C6, h.F7.later hb h.F7.lt, h.h36, h.h67⟩
theorem Rd.put (h : Rd b3 b6 b7 c u0 u1 g cl wq) (v0 v1 v2 v3 : Value) : Rd b3 b6 b7 c u0 u1 g cl (set4 wq b3 v0 v1 v2 v3) :=
  ⟨(set4_other _ _ _ _ (by have := h.h36; omega)).trans h.C6, (set4_other _ _ _ _ (by have := h.h36; have := h.h67; omega)).trans h.F7, h.h36, h.h67⟩
theorem Rd.app (h : Rd b3 b6 b7 c u0 u1 g cl wq) {w' : World} {A : Option Addr} {C B : Nat} {cm : List ByteArray} (ho : OwnS B wq A C cm) (hg : wq.grownBy w' (Value.slice A cm.length C).ownBlock) : Rd b3 b6 b7 c u0 u1 g cl w' :=
  ⟨(hg.block b6 h.C6.lt (own_ne ho h.C6 (by decide))).trans h.C6, (hg.block b7 h.F7.lt (own_ne ho h.F7 (by decide))).trans h.F7, h.h36, h.h67⟩
end
theorem wrapI {n : Int} (h0 : -9223372036854775808 ≤ n) (h1 : n < 9223372036854775808) : IntKind.i64.wrap n = n := by
  rw [IntKind.wrap_i64]
  omega
/-- a piece of a code -/
def subC : List Nat → Code → Code
  | [], c => c
  | 0 :: p, .seq a _ => subC p a
  | 1 :: p, .seq _ b => subC p b
  | _ :: p, .block _ c => subC p c
  | _ :: p, .loop c => subC p c
  | 1 :: p, .cond _ a _ => subC p a
  | 2 :: p, .cond _ _ b => subC p b
  | _, _ => .skip
noncomputable def swC : Code := subC [1, 1, 1, 1, 0, 1, 0, 0, 1, 0, 0, 1, 1, 1, 0, 1] (Try.f7.body.getD .skip)
noncomputable def tlC : Code := subC [1, 1, 1, 1, 0, 1, 0, 0, 1, 0, 0, 1, 1, 1, 1] (Try.f7.body.getD .skip)
end Go.Proofs.Ytpocbkgkgpflaaa.Ln
