/- Parts of the proof: PVL. -/
import Derived.Test.YtnamphhchecaeaaGreatRows
import Derived.Test.YtnamphhchecaeaaGreatAK11
import Derived.Test.YtnamphhchecaeaaGreatAK26
import Derived.Test.YtnamphhchecaeaaGreatAK41
import Derived.Test.YtnamphhchecaeaaGreatAK42
set_option maxRecDepth 100000
namespace Go.Proofs.YtnamphhchecaeaaGreat.Pv
open Go.RowKit
/-- a list whose room is not told -/
def RepC (P : Nat → Prop) (w : World) (v : Value) (sz bts : Nat) (cs : List Value) : Prop := ∃ (A : Option Addr) (n C C' : Nat), v = .slice A n C ∧ (A = none → C = 0) ∧ Rep P w (.slice A n C') sz bts cs
section
variable {P P' : Nat → Prop} {w w' : World} {v : Value} {sz bts : Nat} {cs : List Value}
theorem Rep.c (h : Rep P w v sz bts cs) : RepC P w v sz bts cs := by
  obtain ⟨A, n, C, rfl, h2⟩ := id h
  exact ⟨A, n, C, C, rfl, h2.2.2.1.1, h⟩
theorem RepC.nil (P : Nat → Prop) (w : World) (sz bts : Nat) : RepC P w (.slice none 0 0) sz bts [] := (Rep.nil P w sz bts).c
theorem RepC.mono (h : RepC P w v sz bts cs) (hp : ∀ b, b < w.heap.size → P b → P' b) : RepC P' w v sz bts cs := by
  obtain ⟨A, n, C, C', h1, h2, h3⟩ := h
  exact ⟨A, n, C, C', h1, h2, h3.mono hp⟩
theorem RepC.keep (h : RepC P w v sz bts cs) (hk : ∀ b, P b → b < w.heap.size → w'.heap[b]? = w.heap[b]?) : RepC P w' v sz bts cs := by
  obtain ⟨A, n, C, C', h1, h2, h3⟩ := h
  exact ⟨A, n, C, C', h1, h2, h3.keep hk⟩
theorem RepC.over (h : RepC P w v sz bts cs) (hb : Below w.heap.size w w') : RepC P w' v sz bts cs := h.keep fun b _ hlt => hb.block b hlt
theorem RepC.one (h : RepC P w v sz bts cs) : v.oneCell' = true := by
  obtain ⟨A, n, C, C', rfl, _⟩ := h
  rfl
/-- a line's two lists -/
theorem RepC.line {x : Ln.Line} {v1 v2 : Value} (h1 : RepC P w v1 1 16 (txC x.S)) (h2 : RepC P w v2 1 8 (inC x.D)) : ∃ A1 C1 A2 C2 sb so db dO, v1 = .slice A1 x.S.length C1 ∧ v2 = .slice A2 x.D.length C2 ∧ Ln.LAt w x A1 A2 C1 C2 sb so db dO ∧ (0 < x.S.length → P sb) ∧ (0 < x.D.length → P db) := by
  obtain ⟨A, n, C, C', rfl, n1, r1⟩ := h1
  obtain ⟨B, m, D, D', rfl, n2, r2⟩ := h2
  obtain ⟨A1, C1, A2, C2, sb, so, db, dO, e1, e2, L, p1, p2⟩ := Rep.line r1 r2
  cases e1
  cases e2
  exact ⟨_, _, _, _, sb, so, db, dO, rfl, rfl, ⟨L.hls, L.hld, L.hsa, L.hda, n1, n2, L.PS, L.PD⟩, p1, p2⟩
end
theorem rlsame_rep {P P' : Nat → Prop} {w : World} (x : Ln.Line) (v1 v2 v1' v2' : Value) (h1 : RepC P w v1 1 16 (txC x.S)) (h2 : RepC P w v2 1 8 (inC x.D)) (h1' : RepC P' w v1' 1 16 (txC x.S)) (h2' : RepC P' w v2' 1 8 (inC x.D)) :
    Calls Tryz.prog 14 #[.agg #[v1, v2, .int .i64 x.g, .bool x.cl], .agg #[v1', v2', .int .i64 x.g, .bool x.cl]] w fun e w' => e = .returned (.bool true) ∧ Below w.heap.size w w' := by
  obtain ⟨A1, C1, A2, C2, sb, so, db, dO, rfl, rfl, L, -, -⟩ := RepC.line h1 h2
  obtain ⟨B1, D1, B2, D2, sb', so', db', dO', rfl, rfl, L', -, -⟩ := RepC.line h1' h2'
  exact Ln.same_any x A1 A2 B1 B2 C1 C2 sb so db dO D1 D2 sb' so' db' dO' w L L'
end Go.Proofs.YtnamphhchecaeaaGreat.Pv

