/- Parts of the proof: LH PVL. -/
import Derived.Test.YtnfigdecgkcgcaaRows
import Derived.Test.YtnfigdecgkcgcaaAK42
import Derived.Test.YtnfigdecgkcgcaaAK43
import Derived.Test.YtnfigdecgkcgcaaAK47
set_option maxRecDepth 100000
namespace Go.Proofs.Ytnfigdecgkcgcaa.Ln
open Go.RowKit
/-- a row's block is none that holds cells of another type -/
theorem own_ne {w : World} {b e e' z n k : Nat} {v : Value} {xs : List Value} {cs : Array Value} {f : Nat × Nat} (h : w.ownsRow b e z v n xs) (hf : w.heap[k]? = some (.cells cs e' f)) (he : e ≠ e') : some k ≠ v.ownBlock := by
  rcases h.2 with ⟨rfl, _⟩ | ⟨g, cap, cur, rfl, hb, hg, rest⟩
  · simp [Value.ownBlock]
  · intro h2
    have e2 : k = g := by simpa [Value.ownBlock] using h2
    subst e2
    rw [hg] at hf
    cases hf
    exact he rfl
theorem own_apart {w : World} {b e e' z n b' z' n' : Nat} {v v' : Value} {xs xs' : List Value} (h : w.ownsRow b e z v n xs) (h' : w.ownsRow b' e' z' v' n' xs') (he : e ≠ e') : ∀ k, v'.ownBlock = some k → some k ≠ v.ownBlock := by
  intro k hk
  rcases h'.2 with ⟨rfl, _⟩ | ⟨g, cap, cur, rfl, hb, hg, rest⟩
  · simp [Value.ownBlock] at hk
  · obtain rfl : g = k := by simpa [Value.ownBlock] using hk
    exact own_ne h hg he
/-- the copy lies in a block, and its two lists are rows of their own -/
structure Mid (w wq : World) (b8 : Nat) (v0 v1 : Value) (g : Int) (cl : Bool) (S : List ByteArray) (A1 : Option Addr) (C1 : Nat) (D : List Int) (A2 : Option Addr) (C2 : Nat) : Prop where
  F8 : FAt wq b8 v0 v1 (.int .i64 g) (.bool cl)
  F2 : FAt wq (w.heap.size + 1) (.slice none 0 0) (.slice none 0 0) (.int .i64 0) (.bool false)
  oS : OwnS (w.heap.size + 2) wq A1 C1 S
  oD : OwnI (w.heap.size + 2) wq A2 C2 D
  below : Below w.heap.size w wq
  hb8 : w.heap.size + 2 ≤ b8
section
variable {w wq : World} {b8 : Nat} {v0 v1 : Value} {g : Int} {cl : Bool} {S : List ByteArray} {A1 : Option Addr} {C1 : Nat} {D : List Int} {A2 : Option Addr} {C2 : Nat}
theorem Mid.alloc (h : Mid w wq b8 v0 v1 g cl S A1 C1 D A2 C2) (o : Obj) : Mid w (wq.alloc o) b8 v0 v1 g cl S A1 C1 D A2 C2 :=
  ⟨h.F8.alloc o, h.F2.alloc o, World.ownsRow.alloc h.oS o, World.ownsRow.alloc h.oD o, h.below.alloc h.below.size o, h.hb8⟩
theorem Mid.drew (h : Mid w wq b8 v0 v1 g cl S A1 C1 D A2 C2) : Mid w wq.drew b8 v0 v1 g cl S A1 C1 D A2 C2 := ⟨h.F8, h.F2, h.oS, h.oD, h.below.drew, h.hb8⟩
theorem Mid.set {v0' v1' : Value} {g' : Int} {cl' : Bool} (h : Mid w wq b8 v0 v1 g cl S A1 C1 D A2 C2) {w' : World} (hF : FAt w' b8 v0' v1' (.int .i64 g') (.bool cl')) (hk : ∀ k, k ≠ b8 → w'.heap[k]? = wq.heap[k]?) (hb : Below w.heap.size w w') : Mid w w' b8 v0' v1' g' cl' S A1 C1 D A2 C2 :=
  ⟨hF, (hk _ (by have := h.hb8; omega)).trans h.F2, own_of h.oS fun k e => hk k (fun e2 => own_ne h.oS h.F8 (by decide) (e2 ▸ e).symm), own_of h.oD fun k e => hk k (fun e2 => own_ne h.oD h.F8 (by decide) (e2 ▸ e).symm), hb, h.hb8⟩
/-- how it ends -/
theorem Mid.fin {sb0 db0 : Nat} {x0 : Line} {f : Func} {p q : Tmp} (hres : f.results = #[.cell p 29, .tmp q]) (h : Mid w wq b8 v0 v1 g cl S A1 C1 D A2 C2) (hlS : S.length * 16 ≤ 140737488351232) (hlD : D.length * 8 ≤ 140737488351232) (nS nD : Nat) (eS : nS = S.length) (eD : nD = D.length) (er : Int) (r : Line × Int) (hr : r = (⟨S, D, g, cl⟩, er)) (act : Act)
    (h8 : act.tmps.getD p undef = .pointer (some ⟨w.heap.size + 1, 0, none⟩)) (h9 : act.tmps.getD q undef = .int .i64 er) (hd : act.defers = []) :
    bodyPost Try.prog f (fun e w' => Ans sb0 db0 x0 w r e w') Exit.ret act (set4 wq (w.heap.size + 1) (.slice A1 nS C1) (.slice A2 nD C2) (.int .i64 g) (.bool cl)) := by
  obtain ⟨g1, g2, L, l1, l2⟩ := OwnL.at (x := ⟨S, D, g, cl⟩) ⟨h.oS, h.oD, fun k h1 h2 => own_apart h.oD h.oS (by decide) k h1 h2.symm⟩ hlS hlD
  exact line_end hres h.F2 h.below (Nat.le_succ _) ⟨S, D, g, cl⟩ A1 A2 C1 C2 g1 0 g2 0 L (fun h0 => by have := (l1 h0).1; omega) (fun h0 => by have := (l2 h0).1; omega) (fun h0 => .inr (by have := (l1 h0).1; omega)) (fun h0 => .inr (by have := (l2 h0).1; omega)) nS nD eS eD er r hr act h8 h9 hd
end
section
variable {w wq : World} {b8 : Nat} {v0 v1 : Value} {g : Int} {cl : Bool} {S : List ByteArray} {A1 : Option Addr} {C1 : Nat} {D : List Int} {A2 : Option Addr} {C2 : Nat}
end
end Go.Proofs.Ytnfigdecgkcgcaa.Ln

set_option maxRecDepth 100000
namespace Go.Proofs.Ytnfigdecgkcgcaa.Pv
open Go.RowKit
/-- a list whose room is not told -/
def RepC (P : Nat → Prop) (w : World) (v : Value) (sz bts : Nat) (cs : List Value) : Prop := ∃ (A : Option Addr) (n C C' : Nat), v = .slice A n C ∧ (A = none → C = 0) ∧ Rep P w (.slice A n C') sz bts cs
section
variable {P P' : Nat → Prop} {w w' : World} {v : Value} {sz bts : Nat} {cs : List Value}
theorem Rep.c (h : Rep P w v sz bts cs) : RepC P w v sz bts cs := by
  obtain ⟨A, n, C, rfl, h2⟩ := id h
  exact ⟨A, n, C, C, rfl, h2.2.2.1.1, h⟩
theorem RepC.nil (P : Nat → Prop) (w : World) (sz bts : Nat) : RepC P w (.slice none 0 0) sz bts [] := (Rep.nil P w sz bts).c
theorem RepC.mono (h : RepC P w v sz bts cs) (hp : ∀ b, b < w.heap.size → P b → P' b) : RepC P' w v sz bts cs := by
  obtain ⟨A, n, C, C', h1, h2, h3⟩ := h
  exact ⟨A, n, C, C', h1, h2, h3.mono hp⟩
theorem RepC.keep (h : RepC P w v sz bts cs) (hk : ∀ b, P b → b < w.heap.size → w'.heap[b]? = w.heap[b]?) : RepC P w' v sz bts cs := by
  obtain ⟨A, n, C, C', h1, h2, h3⟩ := h
  exact ⟨A, n, C, C', h1, h2, h3.keep hk⟩
theorem RepC.over (h : RepC P w v sz bts cs) (hb : Below w.heap.size w w') : RepC P w' v sz bts cs := h.keep fun b _ hlt => hb.block b hlt
theorem RepC.one (h : RepC P w v sz bts cs) : v.oneCell' = true := by
  obtain ⟨A, n, C, C', rfl, _⟩ := h
  rfl
/-- a line's two lists -/
theorem RepC.line {x : Ln.Line} {v1 v2 : Value} (h1 : RepC P w v1 1 16 (txC x.S)) (h2 : RepC P w v2 1 8 (inC x.D)) : ∃ A1 C1 A2 C2 sb so db dO, v1 = .slice A1 x.S.length C1 ∧ v2 = .slice A2 x.D.length C2 ∧ Ln.LAt w x A1 A2 C1 C2 sb so db dO ∧ (0 < x.S.length → P sb) ∧ (0 < x.D.length → P db) := by
  obtain ⟨A, n, C, C', rfl, n1, r1⟩ := h1
  obtain ⟨B, m, D, D', rfl, n2, r2⟩ := h2
  obtain ⟨A1, C1, A2, C2, sb, so, db, dO, e1, e2, L, p1, p2⟩ := Rep.line r1 r2
  cases e1
  cases e2
  exact ⟨_, _, _, _, sb, so, db, dO, rfl, rfl, ⟨L.hls, L.hld, L.hsa, L.hda, n1, n2, L.PS, L.PD⟩, p1, p2⟩
theorem rep_txt {x : Ln.Line} {sa da : Option Addr} {cs cd sb so db dO : Nat} (L : Ln.LAt w x sa da cs cd sb so db dO) (hp : 0 < x.S.length → P sb) : RepC P w (.slice sa x.S.length cs) 1 16 (txC x.S) := by
  refine ⟨sa, x.S.length, cs, x.S.length, rfl, L.ncs, sa, x.S.length, x.S.length, rfl, txC_length _, L.hls, ⟨fun e => ?_, Nat.le_refl _⟩, fun h0 => ⟨sb, so, L.hsa h0, hp h0, L.ltS h0, fun j u hu => ?_⟩⟩
  · rcases Nat.eq_zero_or_pos x.S.length with h | h
    · exact h
    · rw [L.hsa h] at e; cases e
  · have hj : j < x.S.length := by have := (List.getElem?_eq_some_iff.1 hu).1; rw [txC_length] at this; omega
    rw [L.PS j hj, ← hu, txC_get _ j hj]
theorem rep_due {x : Ln.Line} {sa da : Option Addr} {cs cd sb so db dO : Nat} (L : Ln.LAt w x sa da cs cd sb so db dO) (hp : 0 < x.D.length → P db) : RepC P w (.slice da x.D.length cd) 1 8 (inC x.D) := by
  refine ⟨da, x.D.length, cd, x.D.length, rfl, L.ncd, da, x.D.length, x.D.length, rfl, inC_length _, L.hld, ⟨fun e => ?_, Nat.le_refl _⟩, fun h0 => ⟨db, dO, L.hda h0, hp h0, L.ltD h0, fun j u hu => ?_⟩⟩
  · rcases Nat.eq_zero_or_pos x.D.length with h | h
    · exact h
    · rw [L.hda h] at e; cases e
  · have hj : j < x.D.length := by have := (List.getElem?_eq_some_iff.1 hu).1; rw [inC_length] at this; omega
    rw [L.PD j hj, ← hu, inC_get _ j hj]
end
/-- what a call on a line answers -/
def AnsL (P : Nat → Prop) (w : World) (x : Ln.Line) (er : Int) (e : Ending) (w' : World) : Prop := ∃ u1 u2, e = .returned (.tuple #[.agg #[u1, u2, .int .i64 x.g, .bool x.cl], .int .i64 er]) ∧ RepC (New P w 0) w' u1 1 16 (txC x.S) ∧ RepC (New P w 0) w' u2 1 8 (inC x.D) ∧ Below w.heap.size w w'
theorem ans_l {P : Nat → Prop} {w w' : World} {x y : Ln.Line} {er : Int} {e : Ending} {A1 A2 : Option Addr} {C1 C2 sb so db dO : Nat} (L : Ln.LAt w x A1 A2 C1 C2 sb so db dO) (p1 : 0 < x.S.length → P sb) (p2 : 0 < x.D.length → P db) (h : Ln.Ans sb db x w (y, er) e w') : AnsL P w y er e w' := by
  obtain ⟨v, rfl, ⟨sa, da, cs, cd, sb', so', db', dO', rfl, L', s1, s2⟩, hb⟩ := h
  refine ⟨_, _, rfl, rep_txt L' fun h0 => ?_, rep_due L' fun h0 => ?_, hb⟩
  · rcases (s1 h0).2 with ⟨rfl, e⟩ | h
    · rw [e] at h0; exact .inl ⟨p1 h0, L.ltS h0⟩
    · exact .inr h
  · rcases (s2 h0).2 with ⟨rfl, e⟩ | h
    · rw [e] at h0; exact .inl ⟨p2 h0, L.ltD h0⟩
    · exact .inr h
theorem say_rep (x : Ln.Line) (s : ByteArray) (due : Int) (v1 v2 : Value) (P : Nat → Prop) (w : World) (h1 : RepC P w v1 1 16 (txC x.S)) (h2 : RepC P w v2 1 8 (inC x.D)) : Calls Try.prog 70 #[.agg #[v1, v2, .int .i64 x.g, .bool x.cl], .string s, .int .i64 due] w (AnsL P w (Ln.sayL x s due) (Ln.sayE x due)) := by
  obtain ⟨A1, C1, A2, C2, sb, so, db, dO, rfl, rfl, L, p1, p2⟩ := RepC.line h1 h2
  exact (Ln.say_any x A1 A2 C1 C2 sb so db dO s due w L).mono fun e w' h => ans_l L p1 p2 h
theorem lgood_rep (x : Ln.Line) (v1 v2 : Value) (P : Nat → Prop) (w : World) (h1 : RepC P w v1 1 16 (txC x.S)) (h2 : RepC P w v2 1 8 (inC x.D)) : Calls Try.prog 46 #[.agg #[v1, v2, .int .i64 x.g, .bool x.cl]] w fun e w' => e = .returned (.bool (Ln.goodL x)) ∧ Below w.heap.size w w' := by
  obtain ⟨A1, C1, A2, C2, sb, so, db, dO, rfl, rfl, L, -, -⟩ := RepC.line h1 h2
  exact Ln.good_any x A1 A2 C1 C2 sb so db dO w L
theorem rlgood_rep (x : Ln.Line) (v1 v2 : Value) (P : Nat → Prop) (w : World) (h1 : RepC P w v1 1 16 (txC x.S)) (h2 : RepC P w v2 1 8 (inC x.D)) : Calls Try.prog 48 #[.agg #[v1, v2, .int .i64 x.g, .bool x.cl]] w fun e w' => e = .returned (.bool (Ln.goodL x)) ∧ Below w.heap.size w w' := by
  obtain ⟨A1, C1, A2, C2, sb, so, db, dO, rfl, rfl, L, -, -⟩ := RepC.line h1 h2
  exact Ln.rgood_any x A1 A2 C1 C2 sb so db dO w L
theorem rlsame_rep {P P' : Nat → Prop} {w : World} (x : Ln.Line) (v1 v2 v1' v2' : Value) (h1 : RepC P w v1 1 16 (txC x.S)) (h2 : RepC P w v2 1 8 (inC x.D)) (h1' : RepC P' w v1' 1 16 (txC x.S)) (h2' : RepC P' w v2' 1 8 (inC x.D)) :
    Calls Try.prog 40 #[.agg #[v1, v2, .int .i64 x.g, .bool x.cl], .agg #[v1', v2', .int .i64 x.g, .bool x.cl]] w fun e w' => e = .returned (.bool true) ∧ Below w.heap.size w w' := by
  obtain ⟨A1, C1, A2, C2, sb, so, db, dO, rfl, rfl, L, -, -⟩ := RepC.line h1 h2
  obtain ⟨B1, D1, B2, D2, sb', so', db', dO', rfl, rfl, L', -, -⟩ := RepC.line h1' h2'
  exact Ln.same_any x A1 A2 B1 B2 C1 C2 sb so db dO D1 D2 sb' so' db' dO' w L L'
end Go.Proofs.Ytnfigdecgkcgcaa.Pv

