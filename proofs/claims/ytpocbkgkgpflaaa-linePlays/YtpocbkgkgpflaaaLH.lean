/- The reference's Say, Deliver and Expire. -/
import Derived.Test.YtpocbkgkgpflaaaLG
import Derived.Test.YtpocbkgkgpflaaaLE
set_option maxRecDepth 100000
namespace Go.Proofs.Ytpocbkgkgpflaaa.Ln
open Go.RowKit
/-- a row's block is none that holds cells of another type -/
theorem own_ne {w : World} {b e e' z n k : Nat} {v : Value} {xs : List Value} {cs : Array Value} {f : Nat × Nat} (h : w.ownsRow b e z v n xs) (hf : w.heap[k]? = some (.cells cs e' f)) (he : e ≠ e') : some k ≠ v.ownBlock := by
  rcases h.2 with ⟨rfl, _⟩ | ⟨g, cap, cur, rfl, hb, hg, rest⟩
  · simp [Value.ownBlock]
  · intro h2
    have e2 : k = g := by simpa [Value.ownBlock] using h2
    subst e2
    rw [hg] at hf
    cases hf
    exact he rfl
theorem own_apart {w : World} {b e e' z n b' z' n' : Nat} {v v' : Value} {xs xs' : List Value} (h : w.ownsRow b e z v n xs) (h' : w.ownsRow b' e' z' v' n' xs') (he : e ≠ e') : ∀ k, v'.ownBlock = some k → some k ≠ v.ownBlock := by
  intro k hk
  rcases h'.2 with ⟨rfl, _⟩ | ⟨g, cap, cur, rfl, hb, hg, rest⟩
  · simp [Value.ownBlock] at hk
  · obtain rfl : g = k := by simpa [Value.ownBlock] using hk
    exact own_ne h hg he
/-- the copy lies in a block, and its two lists are rows of their own -/
structure Mid (w wq : World) (b8 : Nat) (v0 v1 : Value) (g : Int) (cl : Bool) (S : List ByteArray) (A1 : Option Addr) (C1 : Nat) (D : List Int) (A2 : Option Addr) (C2 : Nat) : Prop where
  F8 : FAt wq b8 v0 v1 (.int .i64 g) (.bool cl)
  F2 : FAt wq (w.heap.size + 1) (.slice none 0 0) (.slice none 0 0) (.int .i64 0) (.bool false)
  oS : OwnS (w.heap.size + 2) wq A1 C1 S
  oD : OwnI (w.heap.size + 2) wq A2 C2 D
  below : Below w.heap.size w wq
  hb8 : w.heap.size + 2 ≤ b8
section
variable {w wq : World} {b8 : Nat} {v0 v1 : Value} {g : Int} {cl : Bool} {S : List ByteArray} {A1 : Option Addr} {C1 : Nat} {D : List Int} {A2 : Option Addr} {C2 : Nat}
theorem Mid.alloc (h : Mid w wq b8 v0 v1 g cl S A1 C1 D A2 C2) (o : Obj) : Mid w (wq.alloc o) b8 v0 v1 g cl S A1 C1 D A2 C2 :=
  ⟨h.F8.alloc o, h.F2.alloc o, World.ownsRow.alloc h.oS o, World.ownsRow.alloc h.oD o, h.below.alloc h.below.size o, h.hb8⟩
theorem Mid.drew (h : Mid w wq b8 v0 v1 g cl S A1 C1 D A2 C2) : Mid w wq.drew b8 v0 v1 g cl S A1 C1 D A2 C2 := ⟨h.F8, h.F2, h.oS, h.oD, h.below.drew, h.hb8⟩
theorem Mid.appS (h : Mid w wq b8 v0 v1 g cl S A1 C1 D A2 C2) {w' : World} {A' : Option Addr} {C' : Nat} {s : ByteArray} (ho : w'.ownsRow (w.heap.size + 2) 9 1 (.slice A' (S.length + 1) C') (S.length + 1) (S.map .string ++ [.string s])) (hg : wq.grownBy w' (Value.slice A1 S.length C1).ownBlock) : Mid w w' b8 v0 v1 g cl (S ++ [s]) A' C' D A2 C2 := by
  refine ⟨(hg.block b8 h.F8.lt (own_ne h.oS h.F8 (by decide))).trans h.F8, (hg.block _ h.F2.lt (own_ne h.oS h.F2 (by decide))).trans h.F2, ?_, ?_, h.below.grown hg h.below.size (fun k hk => by have := (World.ownsRow.lt h.oS k hk).1; omega), h.hb8⟩
  · unfold OwnS
    simpa using ho
  · exact own_of h.oD fun k hk => hg.block k (World.ownsRow.lt h.oD k hk).2 (own_apart h.oS h.oD (by decide) k hk)
theorem Mid.appD (h : Mid w wq b8 v0 v1 g cl S A1 C1 D A2 C2) {w' : World} {A' : Option Addr} {C' : Nat} {s : Int} (ho : w'.ownsRow (w.heap.size + 2) 3 1 (.slice A' (D.length + 1) C') (D.length + 1) (D.map (.int .i64) ++ [.int .i64 s])) (hg : wq.grownBy w' (Value.slice A2 D.length C2).ownBlock) : Mid w w' b8 v0 v1 g cl S A1 C1 (D ++ [s]) A' C' := by
  refine ⟨(hg.block b8 h.F8.lt (own_ne h.oD h.F8 (by decide))).trans h.F8, (hg.block _ h.F2.lt (own_ne h.oD h.F2 (by decide))).trans h.F2, ?_, ?_, h.below.grown hg h.below.size (fun k hk => by have := (World.ownsRow.lt h.oD k hk).1; omega), h.hb8⟩
  · exact own_of h.oS fun k hk => hg.block k (World.ownsRow.lt h.oS k hk).2 (own_apart h.oD h.oS (by decide) k hk)
  · unfold OwnI
    simpa using ho
theorem Mid.set {v0' v1' : Value} {g' : Int} {cl' : Bool} (h : Mid w wq b8 v0 v1 g cl S A1 C1 D A2 C2) {w' : World} (hF : FAt w' b8 v0' v1' (.int .i64 g') (.bool cl')) (hk : ∀ k, k ≠ b8 → w'.heap[k]? = wq.heap[k]?) (hb : Below w.heap.size w w') : Mid w w' b8 v0' v1' g' cl' S A1 C1 D A2 C2 :=
  ⟨hF, (hk _ (by have := h.hb8; omega)).trans h.F2, own_of h.oS fun k e => hk k (fun e2 => own_ne h.oS h.F8 (by decide) (e2 ▸ e).symm), own_of h.oD fun k e => hk k (fun e2 => own_ne h.oD h.F8 (by decide) (e2 ▸ e).symm), hb, h.hb8⟩
/-- how it ends -/
theorem Mid.fin {sb0 db0 : Nat} {x0 : Line} {f : Func} {p q : Tmp} (hres : f.results = #[.cell p 25, .tmp q]) (h : Mid w wq b8 v0 v1 g cl S A1 C1 D A2 C2) (hlS : S.length * 16 ≤ 140737488351232) (hlD : D.length * 8 ≤ 140737488351232) (nS nD : Nat) (eS : nS = S.length) (eD : nD = D.length) (er : Int) (r : Line × Int) (hr : r = (⟨S, D, g, cl⟩, er)) (act : Act)
    (h8 : act.tmps.getD p undef = .pointer (some ⟨w.heap.size + 1, 0, none⟩)) (h9 : act.tmps.getD q undef = .int .i64 er) (hd : act.defers = []) :
    bodyPost Try.prog f (fun e w' => Ans sb0 db0 x0 w r e w') Exit.ret act (set4 wq (w.heap.size + 1) (.slice A1 nS C1) (.slice A2 nD C2) (.int .i64 g) (.bool cl)) := by
  obtain ⟨g1, g2, L, l1, l2⟩ := OwnL.at (x := ⟨S, D, g, cl⟩) ⟨h.oS, h.oD, fun k h1 h2 => own_apart h.oD h.oS (by decide) k h1 h2.symm⟩ hlS hlD
  exact line_end hres h.F2 h.below (Nat.le_succ _) ⟨S, D, g, cl⟩ A1 A2 C1 C2 g1 0 g2 0 L (fun h0 => by have := (l1 h0).1; omega) (fun h0 => by have := (l2 h0).1; omega) (fun h0 => .inr (by have := (l1 h0).1; omega)) (fun h0 => .inr (by have := (l2 h0).1; omega)) nS nD eS eD er r hr act h8 h9 hd
end
theorem one_new {w : World} {q : Nat} {v : Value} (hc : w.cell? ⟨q, 0, none⟩ = some v) : ∀ ad, some (⟨q, 0, none⟩ : Addr) = some ad → ∀ j u, [v][j]? = some u → w.cell? (ad.add j) = some u := by
  intro ad e j u hu
  cases e
  match j with
  | 0 => simp at hu; subst hu; rw [Addr.add_lit]; exact hc
  | j + 1 => simp at hu
section
variable {w wq : World} {b8 : Nat} {v0 v1 : Value} {g : Int} {cl : Bool} {S : List ByteArray} {A1 : Option Addr} {C1 : Nat} {D : List Int} {A2 : Option Addr} {C2 : Nat}
theorem stepS {ops : Array Oper} {o : Oper} {a : Act} {K : Act → World → Prop} {Q : Exit → Act → World → Prop} {E : Prop} (hg : o.guard = none) (x y : Operand)
    (hop : o.op = Op.call { callee := Callee.builtin Builtin.append, args := #[x, y], argTypes := #[22, 22] }) (hM : Mid w wq b8 v0 v1 g cl S A1 C1 D A2 C2) (hx : a.eval x = .slice A1 S.length C1) (q : Nat) (hy : a.eval y = .slice (some ⟨q, 0, none⟩) 1 1) (s : ByteArray)
    (hc : wq.cell? ⟨q, 0, none⟩ = some (.string s)) (hl : S.length < 400)
    (hK : ∀ A C w', Mid w w' b8 v0 v1 g cl (S ++ [s]) A C D A2 C2 ∧ (∀ (k : Nat) (u : Value), wq.heap[k]? = some (Obj.cells #[u] 3) → w'.heap[k]? = some (Obj.cells #[u] 3)) → K (a.put o.dst (.slice A (S.length + 1) C)) w') :
    if Region.wanted o (yielded ops a.tmps) = true then Oper.wp Try.prog o a wq K Q else E := by
  obtain ⟨i0, hi, hz0, hz1, hz2⟩ := info_parts infoStr
  refine step_app hg x y 22 hop (w.heap.size + 2) 9 i0 _ 1 16 Try.underlying22 hi hz0 hz1 hz2 rfl (by decide) _ S.length (S.map .string) hx hM.oS (some ⟨q, 0, none⟩) 1 1 [.string s] hy rfl (fun h => by cases h) (one_new hc) (by simp [Value.oneCell']) (by unfold maxLen; omega) (by omega) (by have := hM.F2.lt; omega) ?_
  intro A C w' ho hgr
  refine hK A C w' ⟨hM.appS ho hgr, fun k u hk => (hgr.block k (Array.getElem?_eq_some_iff.1 hk).1 (own_ne hM.oS hk (by decide))).trans hk⟩
theorem stepD {ops : Array Oper} {o : Oper} {a : Act} {K : Act → World → Prop} {Q : Exit → Act → World → Prop} {E : Prop} (hg : o.guard = none) (x y : Operand)
    (hop : o.op = Op.call { callee := Callee.builtin Builtin.append, args := #[x, y], argTypes := #[23, 23] }) (hM : Mid w wq b8 v0 v1 g cl S A1 C1 D A2 C2) (hx : a.eval x = .slice A2 D.length C2) (q : Nat) (hy : a.eval y = .slice (some ⟨q, 0, none⟩) 1 1) (s : Int)
    (hc : wq.cell? ⟨q, 0, none⟩ = some (.int .i64 s)) (hl : D.length < 400)
    (hK : ∀ A C w', Mid w w' b8 v0 v1 g cl S A1 C1 (D ++ [s]) A C → K (a.put o.dst (.slice A (D.length + 1) C)) w') :
    if Region.wanted o (yielded ops a.tmps) = true then Oper.wp Try.prog o a wq K Q else E := by
  obtain ⟨i0, hi, hz0, hz1, hz2⟩ := info_parts infoI
  refine step_app hg x y 23 hop (w.heap.size + 2) 3 i0 _ 1 8 Try.underlying23 hi hz0 hz1 hz2 rfl (by decide) _ D.length (D.map (.int .i64)) hx hM.oD (some ⟨q, 0, none⟩) 1 1 [.int .i64 s] hy rfl (fun h => by cases h) (one_new hc) (by simp [Value.oneCell']) (by unfold maxLen; omega) (by omega) (by have := hM.F2.lt; omega) ?_
  intro A C w' ho hgr
  exact hK A C w' (hM.appD ho hgr)
end
theorem q_new (w : World) (u : Value) (e : TypeId) : (w.alloc (.cells #[u] e)).heap[w.heap.size]? = some (.cells #[u] e) := heap_alloc_new _ _
theorem q_new1 (w : World) (o : Obj) (u : Value) (e : TypeId) : ((w.alloc o).alloc (.cells #[u] e)).heap[w.heap.size + 1]? = some (.cells #[u] e) := by
  have := heap_alloc_new (w.alloc o) (.cells #[u] e)
  rwa [show (w.alloc o).heap.size = w.heap.size + 1 by simp] at this
theorem q_old (w : World) (o : Obj) (u : Value) (e : TypeId) : ((w.alloc (.cells #[u] e)).alloc o).heap[w.heap.size]? = some (.cells #[u] e) := (Below.heap_alloc _ _ _ (by simp)).trans (heap_alloc_new _ _)
theorem q_cell {w : World} {q : Nat} {u : Value} {e : TypeId} (h : w.heap[q]? = some (.cells #[u] e)) : w.cell? ⟨q, 0, none⟩ = some u := by simp [World.cell?, h]
end Go.Proofs.Ytpocbkgkgpflaaa.Ln
