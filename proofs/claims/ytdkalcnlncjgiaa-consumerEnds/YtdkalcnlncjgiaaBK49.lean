/- Parts of the proof: PVL PDR. -/
import Derived.Test.YtdkalcnlncjgiaaRows
import Derived.Test.YtdkalcnlncjgiaaBK42
import Derived.Test.YtdkalcnlncjgiaaBK43
import Derived.Test.YtdkalcnlncjgiaaBK47
import Derived.Test.YtdkalcnlncjgiaaBK48
import Derived.Test.YtdkalcnlncjgiaaBK53
set_option maxRecDepth 100000
namespace Go.Proofs.Ytdkalcnlncjgiaa.Pv
open Go.RowKit
/-- a list whose room is not told -/
def RepC (P : Nat → Prop) (w : World) (v : Value) (sz bts : Nat) (cs : List Value) : Prop := ∃ (A : Option Addr) (n C C' : Nat), v = .slice A n C ∧ (A = none → C = 0) ∧ Rep P w (.slice A n C') sz bts cs
section
variable {P P' : Nat → Prop} {w w' : World} {v : Value} {sz bts : Nat} {cs : List Value}
theorem Rep.c (h : Rep P w v sz bts cs) : RepC P w v sz bts cs := by
  obtain ⟨A, n, C, rfl, h2⟩ := id h
  exact ⟨A, n, C, C, rfl, h2.2.2.1.1, h⟩
theorem RepC.nil (P : Nat → Prop) (w : World) (sz bts : Nat) : RepC P w (.slice none 0 0) sz bts [] := (Rep.nil P w sz bts).c
theorem RepC.mono (h : RepC P w v sz bts cs) (hp : ∀ b, b < w.heap.size → P b → P' b) : RepC P' w v sz bts cs := by
  obtain ⟨A, n, C, C', h1, h2, h3⟩ := h
  exact ⟨A, n, C, C', h1, h2, h3.mono hp⟩
theorem RepC.keep (h : RepC P w v sz bts cs) (hk : ∀ b, P b → b < w.heap.size → w'.heap[b]? = w.heap[b]?) : RepC P w' v sz bts cs := by
  obtain ⟨A, n, C, C', h1, h2, h3⟩ := h
  exact ⟨A, n, C, C', h1, h2, h3.keep hk⟩
theorem RepC.over (h : RepC P w v sz bts cs) (hb : Below w.heap.size w w') : RepC P w' v sz bts cs := h.keep fun b _ hlt => hb.block b hlt
theorem RepC.one (h : RepC P w v sz bts cs) : v.oneCell' = true := by
  obtain ⟨A, n, C, C', rfl, _⟩ := h
  rfl
/-- a line's two lists -/
theorem RepC.line {x : Ln.Line} {v1 v2 : Value} (h1 : RepC P w v1 1 16 (txC x.S)) (h2 : RepC P w v2 1 8 (inC x.D)) : ∃ A1 C1 A2 C2 sb so db dO, v1 = .slice A1 x.S.length C1 ∧ v2 = .slice A2 x.D.length C2 ∧ Ln.LAt w x A1 A2 C1 C2 sb so db dO ∧ (0 < x.S.length → P sb) ∧ (0 < x.D.length → P db) := by
  obtain ⟨A, n, C, C', rfl, n1, r1⟩ := h1
  obtain ⟨B, m, D, D', rfl, n2, r2⟩ := h2
  obtain ⟨A1, C1, A2, C2, sb, so, db, dO, e1, e2, L, p1, p2⟩ := Rep.line r1 r2
  cases e1
  cases e2
  exact ⟨_, _, _, _, sb, so, db, dO, rfl, rfl, ⟨L.hls, L.hld, L.hsa, L.hda, n1, n2, L.PS, L.PD⟩, p1, p2⟩
theorem rep_txt {x : Ln.Line} {sa da : Option Addr} {cs cd sb so db dO : Nat} (L : Ln.LAt w x sa da cs cd sb so db dO) (hp : 0 < x.S.length → P sb) : RepC P w (.slice sa x.S.length cs) 1 16 (txC x.S) := by
  refine ⟨sa, x.S.length, cs, x.S.length, rfl, L.ncs, sa, x.S.length, x.S.length, rfl, txC_length _, L.hls, ⟨fun e => ?_, Nat.le_refl _⟩, fun h0 => ⟨sb, so, L.hsa h0, hp h0, L.ltS h0, fun j u hu => ?_⟩⟩
  · rcases Nat.eq_zero_or_pos x.S.length with h | h
    · exact h
    · rw [L.hsa h] at e; cases e
  · have hj : j < x.S.length := by have := (List.getElem?_eq_some_iff.1 hu).1; rw [txC_length] at this; omega
    rw [L.PS j hj, ← hu, txC_get _ j hj]
theorem rep_due {x : Ln.Line} {sa da : Option Addr} {cs cd sb so db dO : Nat} (L : Ln.LAt w x sa da cs cd sb so db dO) (hp : 0 < x.D.length → P db) : RepC P w (.slice da x.D.length cd) 1 8 (inC x.D) := by
  refine ⟨da, x.D.length, cd, x.D.length, rfl, L.ncd, da, x.D.length, x.D.length, rfl, inC_length _, L.hld, ⟨fun e => ?_, Nat.le_refl _⟩, fun h0 => ⟨db, dO, L.hda h0, hp h0, L.ltD h0, fun j u hu => ?_⟩⟩
  · rcases Nat.eq_zero_or_pos x.D.length with h | h
    · exact h
    · rw [L.hda h] at e; cases e
  · have hj : j < x.D.length := by have := (List.getElem?_eq_some_iff.1 hu).1; rw [inC_length] at this; omega
    rw [L.PD j hj, ← hu, inC_get _ j hj]
end
/-- what a call on a line answers -/
def AnsL (P : Nat → Prop) (w : World) (x : Ln.Line) (er : Int) (e : Ending) (w' : World) : Prop := ∃ u1 u2, e = .returned (.tuple #[.agg #[u1, u2, .int .i64 x.g, .bool x.cl], .int .i64 er]) ∧ RepC (New P w 0) w' u1 1 16 (txC x.S) ∧ RepC (New P w 0) w' u2 1 8 (inC x.D) ∧ Below w.heap.size w w'
theorem ans_l {P : Nat → Prop} {w w' : World} {x y : Ln.Line} {er : Int} {e : Ending} {A1 A2 : Option Addr} {C1 C2 sb so db dO : Nat} (L : Ln.LAt w x A1 A2 C1 C2 sb so db dO) (p1 : 0 < x.S.length → P sb) (p2 : 0 < x.D.length → P db) (h : Ln.Ans sb db x w (y, er) e w') : AnsL P w y er e w' := by
  obtain ⟨v, rfl, ⟨sa, da, cs, cd, sb', so', db', dO', rfl, L', s1, s2⟩, hb⟩ := h
  refine ⟨_, _, rfl, rep_txt L' fun h0 => ?_, rep_due L' fun h0 => ?_, hb⟩
  · rcases (s1 h0).2 with ⟨rfl, e⟩ | h
    · rw [e] at h0; exact .inl ⟨p1 h0, L.ltS h0⟩
    · exact .inr h
  · rcases (s2 h0).2 with ⟨rfl, e⟩ | h
    · rw [e] at h0; exact .inl ⟨p2 h0, L.ltD h0⟩
    · exact .inr h
theorem say_rep (x : Ln.Line) (s : ByteArray) (due : Int) (v1 v2 : Value) (P : Nat → Prop) (w : World) (h1 : RepC P w v1 1 16 (txC x.S)) (h2 : RepC P w v2 1 8 (inC x.D)) : Calls Try.prog 49 #[.agg #[v1, v2, .int .i64 x.g, .bool x.cl], .string s, .int .i64 due] w (AnsL P w (Ln.sayL x s due) (Ln.sayE x due)) := by
  obtain ⟨A1, C1, A2, C2, sb, so, db, dO, rfl, rfl, L, p1, p2⟩ := RepC.line h1 h2
  exact (Ln.say_any x A1 A2 C1 C2 sb so db dO s due w L).mono fun e w' h => ans_l L p1 p2 h
theorem rsay_rep (x : Ln.Line) (s : ByteArray) (due : Int) (v1 v2 : Value) (P : Nat → Prop) (w : World) (h1 : RepC P w v1 1 16 (txC x.S)) (h2 : RepC P w v2 1 8 (inC x.D)) : Calls Try.prog 41 #[.agg #[v1, v2, .int .i64 x.g, .bool x.cl], .string s, .int .i64 due] w (AnsL P w (Ln.sayL x s due) (Ln.sayE x due)) := by
  obtain ⟨A1, C1, A2, C2, sb, so, db, dO, rfl, rfl, L, p1, p2⟩ := RepC.line h1 h2
  exact (Ln.rsay_any x A1 A2 C1 C2 sb so db dO s due w L).mono fun e w' h => ans_l L p1 p2 h
theorem lgood_rep (x : Ln.Line) (v1 v2 : Value) (P : Nat → Prop) (w : World) (h1 : RepC P w v1 1 16 (txC x.S)) (h2 : RepC P w v2 1 8 (inC x.D)) : Calls Try.prog 47 #[.agg #[v1, v2, .int .i64 x.g, .bool x.cl]] w fun e w' => e = .returned (.bool (Ln.goodL x)) ∧ Below w.heap.size w w' := by
  obtain ⟨A1, C1, A2, C2, sb, so, db, dO, rfl, rfl, L, -, -⟩ := RepC.line h1 h2
  exact Ln.good_any x A1 A2 C1 C2 sb so db dO w L
theorem rlgood_rep (x : Ln.Line) (v1 v2 : Value) (P : Nat → Prop) (w : World) (h1 : RepC P w v1 1 16 (txC x.S)) (h2 : RepC P w v2 1 8 (inC x.D)) : Calls Try.prog 38 #[.agg #[v1, v2, .int .i64 x.g, .bool x.cl]] w fun e w' => e = .returned (.bool (Ln.goodL x)) ∧ Below w.heap.size w w' := by
  obtain ⟨A1, C1, A2, C2, sb, so, db, dO, rfl, rfl, L, -, -⟩ := RepC.line h1 h2
  exact Ln.rgood_any x A1 A2 C1 C2 sb so db dO w L
theorem rlsame_rep {P P' : Nat → Prop} {w : World} (x : Ln.Line) (v1 v2 v1' v2' : Value) (h1 : RepC P w v1 1 16 (txC x.S)) (h2 : RepC P w v2 1 8 (inC x.D)) (h1' : RepC P' w v1' 1 16 (txC x.S)) (h2' : RepC P' w v2' 1 8 (inC x.D)) :
    Calls Try.prog 27 #[.agg #[v1, v2, .int .i64 x.g, .bool x.cl], .agg #[v1', v2', .int .i64 x.g, .bool x.cl]] w fun e w' => e = .returned (.bool true) ∧ Below w.heap.size w w' := by
  obtain ⟨A1, C1, A2, C2, sb, so, db, dO, rfl, rfl, L, -, -⟩ := RepC.line h1 h2
  obtain ⟨B1, D1, B2, D2, sb', so', db', dO', rfl, rfl, L', -, -⟩ := RepC.line h1' h2'
  exact Ln.same_any x A1 A2 B1 B2 C1 C2 sb so db dO D1 D2 sb' so' db' dO' w L L'
end Go.Proofs.Ytdkalcnlncjgiaa.Pv

set_option maxRecDepth 100000
namespace Go.Proofs.Ytdkalcnlncjgiaa.Pv
open Go.RowKit
def isT (n : Int) : Bool := decide (0 ≤ n) && decide (n ≤ 1099511627776)
theorem Rep.clip {P : Nat → Prop} {w : World} {A : Option Addr} {n C sz bts : Nat} {cs : List Value} (h : Rep P w (.slice A n C) sz bts cs) : Rep P w (.slice A n n) sz bts cs := by
  obtain ⟨A', n', C', h1, h2, h3, h4, h5⟩ := h
  cases h1
  refine ⟨A, n, n, rfl, h2, h3, ⟨fun e => ?_, Nat.le_refl _⟩, h5⟩
  have := h4.1 e
  omega
end Go.Proofs.Ytdkalcnlncjgiaa.Pv

