/- Parts of the proof: LH LHS. -/
import Derived.Test.YtdkalcnlncjgiaaRows
import Derived.Test.YtdkalcnlncjgiaaBK42
import Derived.Test.YtdkalcnlncjgiaaBK43
set_option maxRecDepth 100000
namespace Go.Proofs.Ytdkalcnlncjgiaa.Ln
open Go.RowKit
/-- a row's block is none that holds cells of another type -/
theorem own_ne {w : World} {b e e' z n k : Nat} {v : Value} {xs : List Value} {cs : Array Value} {f : Nat × Nat} (h : w.ownsRow b e z v n xs) (hf : w.heap[k]? = some (.cells cs e' f)) (he : e ≠ e') : some k ≠ v.ownBlock := by
  rcases h.2 with ⟨rfl, _⟩ | ⟨g, cap, cur, rfl, hb, hg, rest⟩
  · simp [Value.ownBlock]
  · intro h2
    have e2 : k = g := by simpa [Value.ownBlock] using h2
    subst e2
    rw [hg] at hf
    cases hf
    exact he rfl
theorem own_apart {w : World} {b e e' z n b' z' n' : Nat} {v v' : Value} {xs xs' : List Value} (h : w.ownsRow b e z v n xs) (h' : w.ownsRow b' e' z' v' n' xs') (he : e ≠ e') : ∀ k, v'.ownBlock = some k → some k ≠ v.ownBlock := by
  intro k hk
  rcases h'.2 with ⟨rfl, _⟩ | ⟨g, cap, cur, rfl, hb, hg, rest⟩
  · simp [Value.ownBlock] at hk
  · obtain rfl : g = k := by simpa [Value.ownBlock] using hk
    exact own_ne h hg he
/-- the copy lies in a block, and its two lists are rows of their own -/
structure Mid (w wq : World) (b8 : Nat) (v0 v1 : Value) (g : Int) (cl : Bool) (S : List ByteArray) (A1 : Option Addr) (C1 : Nat) (D : List Int) (A2 : Option Addr) (C2 : Nat) : Prop where
  F8 : FAt wq b8 v0 v1 (.int .i64 g) (.bool cl)
  F2 : FAt wq (w.heap.size + 1) (.slice none 0 0) (.slice none 0 0) (.int .i64 0) (.bool false)
  oS : OwnS (w.heap.size + 2) wq A1 C1 S
  oD : OwnI (w.heap.size + 2) wq A2 C2 D
  below : Below w.heap.size w wq
  hb8 : w.heap.size + 2 ≤ b8
section
variable {w wq : World} {b8 : Nat} {v0 v1 : Value} {g : Int} {cl : Bool} {S : List ByteArray} {A1 : Option Addr} {C1 : Nat} {D : List Int} {A2 : Option Addr} {C2 : Nat}
theorem Mid.alloc (h : Mid w wq b8 v0 v1 g cl S A1 C1 D A2 C2) (o : Obj) : Mid w (wq.alloc o) b8 v0 v1 g cl S A1 C1 D A2 C2 :=
  ⟨h.F8.alloc o, h.F2.alloc o, World.ownsRow.alloc h.oS o, World.ownsRow.alloc h.oD o, h.below.alloc h.below.size o, h.hb8⟩
theorem Mid.drew (h : Mid w wq b8 v0 v1 g cl S A1 C1 D A2 C2) : Mid w wq.drew b8 v0 v1 g cl S A1 C1 D A2 C2 := ⟨h.F8, h.F2, h.oS, h.oD, h.below.drew, h.hb8⟩
theorem Mid.appS (h : Mid w wq b8 v0 v1 g cl S A1 C1 D A2 C2) {w' : World} {A' : Option Addr} {C' : Nat} {s : ByteArray} (ho : w'.ownsRow (w.heap.size + 2) 9 1 (.slice A' (S.length + 1) C') (S.length + 1) (S.map .string ++ [.string s])) (hg : wq.grownBy w' (Value.slice A1 S.length C1).ownBlock) : Mid w w' b8 v0 v1 g cl (S ++ [s]) A' C' D A2 C2 := by
  refine ⟨(hg.block b8 h.F8.lt (own_ne h.oS h.F8 (by decide))).trans h.F8, (hg.block _ h.F2.lt (own_ne h.oS h.F2 (by decide))).trans h.F2, ?_, ?_, h.below.grown hg h.below.size (fun k hk => by have := (World.ownsRow.lt h.oS k hk).1; omega), h.hb8⟩
  · unfold OwnS
    simpa using ho
  · exact own_of h.oD fun k hk => hg.block k (World.ownsRow.lt h.oD k hk).2 (own_apart h.oS h.oD (by decide) k hk)
theorem Mid.appD (h : Mid w wq b8 v0 v1 g cl S A1 C1 D A2 C2) {w' : World} {A' : Option Addr} {C' : Nat} {s : Int} (ho : w'.ownsRow (w.heap.size + 2) 3 1 (.slice A' (D.length + 1) C') (D.length + 1) (D.map (.int .i64) ++ [.int .i64 s])) (hg : wq.grownBy w' (Value.slice A2 D.length C2).ownBlock) : Mid w w' b8 v0 v1 g cl S A1 C1 (D ++ [s]) A' C' := by
  refine ⟨(hg.block b8 h.F8.lt (own_ne h.oD h.F8 (by decide))).trans h.F8, (hg.block _ h.F2.lt (own_ne h.oD h.F2 (by decide))).trans h.F2, ?_, ?_, h.below.grown hg h.below.size (fun k hk => by have := (World.ownsRow.lt h.oD k hk).1; omega), h.hb8⟩
  · exact own_of h.oS fun k hk => hg.block k (World.ownsRow.lt h.oS k hk).2 (own_apart h.oD h.oS (by decide) k hk)
  · unfold OwnI
    simpa using ho
theorem Mid.set {v0' v1' : Value} {g' : Int} {cl' : Bool} (h : Mid w wq b8 v0 v1 g cl S A1 C1 D A2 C2) {w' : World} (hF : FAt w' b8 v0' v1' (.int .i64 g') (.bool cl')) (hk : ∀ k, k ≠ b8 → w'.heap[k]? = wq.heap[k]?) (hb : Below w.heap.size w w') : Mid w w' b8 v0' v1' g' cl' S A1 C1 D A2 C2 :=
  ⟨hF, (hk _ (by have := h.hb8; omega)).trans h.F2, own_of h.oS fun k e => hk k (fun e2 => own_ne h.oS h.F8 (by decide) (e2 ▸ e).symm), own_of h.oD fun k e => hk k (fun e2 => own_ne h.oD h.F8 (by decide) (e2 ▸ e).symm), hb, h.hb8⟩
/-- how it ends -/
theorem Mid.fin {sb0 db0 : Nat} {x0 : Line} {f : Func} {p q : Tmp} (hres : f.results = #[.cell p 29, .tmp q]) (h : Mid w wq b8 v0 v1 g cl S A1 C1 D A2 C2) (hlS : S.length * 16 ≤ 140737488351232) (hlD : D.length * 8 ≤ 140737488351232) (nS nD : Nat) (eS : nS = S.length) (eD : nD = D.length) (er : Int) (r : Line × Int) (hr : r = (⟨S, D, g, cl⟩, er)) (act : Act)
    (h8 : act.tmps.getD p undef = .pointer (some ⟨w.heap.size + 1, 0, none⟩)) (h9 : act.tmps.getD q undef = .int .i64 er) (hd : act.defers = []) :
    bodyPost Try.prog f (fun e w' => Ans sb0 db0 x0 w r e w') Exit.ret act (set4 wq (w.heap.size + 1) (.slice A1 nS C1) (.slice A2 nD C2) (.int .i64 g) (.bool cl)) := by
  obtain ⟨g1, g2, L, l1, l2⟩ := OwnL.at (x := ⟨S, D, g, cl⟩) ⟨h.oS, h.oD, fun k h1 h2 => own_apart h.oD h.oS (by decide) k h1 h2.symm⟩ hlS hlD
  exact line_end hres h.F2 h.below (Nat.le_succ _) ⟨S, D, g, cl⟩ A1 A2 C1 C2 g1 0 g2 0 L (fun h0 => by have := (l1 h0).1; omega) (fun h0 => by have := (l2 h0).1; omega) (fun h0 => .inr (by have := (l1 h0).1; omega)) (fun h0 => .inr (by have := (l2 h0).1; omega)) nS nD eS eD er r hr act h8 h9 hd
end
theorem one_new {w : World} {q : Nat} {v : Value} (hc : w.cell? ⟨q, 0, none⟩ = some v) : ∀ ad, some (⟨q, 0, none⟩ : Addr) = some ad → ∀ j u, [v][j]? = some u → w.cell? (ad.add j) = some u := by
  intro ad e j u hu
  cases e
  match j with
  | 0 => simp at hu; subst hu; rw [Addr.add_lit]; exact hc
  | j + 1 => simp at hu
section
variable {w wq : World} {b8 : Nat} {v0 v1 : Value} {g : Int} {cl : Bool} {S : List ByteArray} {A1 : Option Addr} {C1 : Nat} {D : List Int} {A2 : Option Addr} {C2 : Nat}
theorem stepS {ops : Array Oper} {o : Oper} {a : Act} {K : Act → World → Prop} {Q : Exit → Act → World → Prop} {E : Prop} (hg : o.guard = none) (x y : Operand)
    (hop : o.op = Op.call { callee := Callee.builtin Builtin.append, args := #[x, y], argTypes := #[26, 26] }) (hM : Mid w wq b8 v0 v1 g cl S A1 C1 D A2 C2) (hx : a.eval x = .slice A1 S.length C1) (q : Nat) (hy : a.eval y = .slice (some ⟨q, 0, none⟩) 1 1) (s : ByteArray)
    (hc : wq.cell? ⟨q, 0, none⟩ = some (.string s)) (hl : S.length < 400)
    (hK : ∀ A C w', Mid w w' b8 v0 v1 g cl (S ++ [s]) A C D A2 C2 ∧ (∀ (k : Nat) (u : Value), wq.heap[k]? = some (Obj.cells #[u] 3) → w'.heap[k]? = some (Obj.cells #[u] 3)) → K (a.put o.dst (.slice A (S.length + 1) C)) w') :
    if Region.wanted o (yielded ops a.tmps) = true then Oper.wp Try.prog o a wq K Q else E := by
  obtain ⟨i0, hi, hz0, hz1, hz2⟩ := info_parts infoStr
  refine step_app hg x y 26 hop (w.heap.size + 2) 9 i0 _ 1 16 Try.underlying26 hi hz0 hz1 hz2 rfl (by decide) _ S.length (S.map .string) hx hM.oS (some ⟨q, 0, none⟩) 1 1 [.string s] hy rfl (fun h => by cases h) (one_new hc) (by simp [Value.oneCell']) (by unfold maxLen; omega) (by omega) (by have := hM.F2.lt; omega) ?_
  intro A C w' ho hgr
  refine hK A C w' ⟨hM.appS ho hgr, fun k u hk => (hgr.block k (Array.getElem?_eq_some_iff.1 hk).1 (own_ne hM.oS hk (by decide))).trans hk⟩
theorem stepD {ops : Array Oper} {o : Oper} {a : Act} {K : Act → World → Prop} {Q : Exit → Act → World → Prop} {E : Prop} (hg : o.guard = none) (x y : Operand)
    (hop : o.op = Op.call { callee := Callee.builtin Builtin.append, args := #[x, y], argTypes := #[27, 27] }) (hM : Mid w wq b8 v0 v1 g cl S A1 C1 D A2 C2) (hx : a.eval x = .slice A2 D.length C2) (q : Nat) (hy : a.eval y = .slice (some ⟨q, 0, none⟩) 1 1) (s : Int)
    (hc : wq.cell? ⟨q, 0, none⟩ = some (.int .i64 s)) (hl : D.length < 400)
    (hK : ∀ A C w', Mid w w' b8 v0 v1 g cl S A1 C1 (D ++ [s]) A C → K (a.put o.dst (.slice A (D.length + 1) C)) w') :
    if Region.wanted o (yielded ops a.tmps) = true then Oper.wp Try.prog o a wq K Q else E := by
  obtain ⟨i0, hi, hz0, hz1, hz2⟩ := info_parts infoI
  refine step_app hg x y 27 hop (w.heap.size + 2) 3 i0 _ 1 8 Try.underlying27 hi hz0 hz1 hz2 rfl (by decide) _ D.length (D.map (.int .i64)) hx hM.oD (some ⟨q, 0, none⟩) 1 1 [.int .i64 s] hy rfl (fun h => by cases h) (one_new hc) (by simp [Value.oneCell']) (by unfold maxLen; omega) (by omega) (by have := hM.F2.lt; omega) ?_
  intro A C w' ho hgr
  exact hK A C w' (hM.appD ho hgr)
end
theorem q_new (w : World) (u : Value) (e : TypeId) : (w.alloc (.cells #[u] e)).heap[w.heap.size]? = some (.cells #[u] e) := heap_alloc_new _ _
theorem q_new1 (w : World) (o : Obj) (u : Value) (e : TypeId) : ((w.alloc o).alloc (.cells #[u] e)).heap[w.heap.size + 1]? = some (.cells #[u] e) := by
  have := heap_alloc_new (w.alloc o) (.cells #[u] e)
  rwa [show (w.alloc o).heap.size = w.heap.size + 1 by simp] at this
theorem q_old (w : World) (o : Obj) (u : Value) (e : TypeId) : ((w.alloc (.cells #[u] e)).alloc o).heap[w.heap.size]? = some (.cells #[u] e) := (Below.heap_alloc _ _ _ (by simp)).trans (heap_alloc_new _ _)
theorem q_cell {w : World} {q : Nat} {u : Value} {e : TypeId} (h : w.heap[q]? = some (.cells #[u] e)) : w.cell? ⟨q, 0, none⟩ = some u := by simp [World.cell?, h]
end Go.Proofs.Ytdkalcnlncjgiaa.Ln

set_option maxRecDepth 100000
namespace Go.Proofs.Ytdkalcnlncjgiaa.Ln
open Go.RowKit
theorem rsay_cases (x : Line) (s : ByteArray) (due : Int) :
    (goodL x = false ∧ (sayL x s due, sayE x due) = (x, 2)) ∨ (goodL x = true ∧ ((due < 0 ∧ (sayL x s due, sayE x due) = (x, 2)) ∨ (0 ≤ due ∧ ((x.cl = true ∧ (sayL x s due, sayE x due) = (x, 11)) ∨ (x.cl = false ∧
      ((x.S.length = 400 ∧ (sayL x s due, sayE x due) = (x, 6)) ∨ (x.S.length < 400 ∧ (sayL x s due, sayE x due) = (⟨x.S ++ [s], x.D ++ [due], x.g, x.cl⟩, 0)))))))) := by
  have hc := say_cases x s due
  by_cases hg : goodL x = true
  · right
    have hl := goodL_len hg
    refine ⟨hg, ?_⟩
    rcases hc with ⟨h1, hr⟩ | ⟨h1, h2, hr⟩ | ⟨h1, h2, h3, hr⟩ | ⟨h1, h2, h3, hr⟩
    · exact .inl ⟨h1, hr⟩
    · refine .inr ⟨h1, .inl ?_⟩
      unfold refN at h2 hr
      rw [if_neg (by simp [hg])] at h2 hr
      cases hc : x.cl
      · rw [hc] at h2; exact absurd rfl h2
      · rw [hc, if_pos rfl] at hr; exact ⟨rfl, hr⟩
    · exact .inr ⟨h1, .inr ⟨(refN_good h2).2, .inl ⟨by omega, hr⟩⟩⟩
    · exact .inr ⟨h1, .inr ⟨(refN_good h2).2, .inr ⟨h3, hr⟩⟩⟩
  · left
    have hg' : goodL x = false := by simpa using hg
    refine ⟨hg', ?_⟩
    have hn : refN x = 2 := by unfold refN; rw [if_pos hg']
    rcases hc with ⟨h1, hr⟩ | ⟨h1, h2, hr⟩ | ⟨h1, h2, h3, hr⟩ | ⟨h1, h2, h3, hr⟩
    · exact hr
    · rw [hn] at hr; exact hr
    · rw [hn] at h2; cases h2
    · rw [hn] at h2; cases h2
set_option maxHeartbeats 8000000 in
theorem rsay_any (x : Line) (sa da : Option Addr) (cs cd sb so db dO : Nat) (s : ByteArray) (due : Int) (w : World) (L : LAt w x sa da cs cd sb so db dO) :
    Calls Try.prog 41 #[.agg #[.slice sa x.S.length cs, .slice da x.D.length cd, .int .i64 x.g, .bool x.cl], .string s, .int .i64 due] w fun e w' => Ans sb db x w (sayL x s due, sayE x due) e w' := by
  have hcs := rsay_cases x s due
  generalize (sayL x s due, sayE x due) = r at *
  have HB := hide (begun L)
  have HGOOD := hide (fun w (L : LAt w x sa da cs cd sb so db dO) => rgood_any x sa da cs cd sb so db dO w L)
  have HLEN := hide (goodL_len (x := x))
  clear L
  obtain ⟨i0, hi, hz0, hz1, hz2⟩ := info_parts infoStr
  obtain ⟨j0, hj, hy0, hy1, hy2⟩ := info_parts infoI
  go_enter Try.func41, Try.ntmps41
  go_upto_region 1 with fail
  generalize ((w.alloc (.cells #[.slice sa x.S.length cs, .slice da x.D.length cd, .int .i64 x.g, .bool x.cl] 29)).alloc (.cells #[.slice none 0 0, .slice none 0 0, .int .i64 0, .bool false] 29)) = w0 at *
  obtain ⟨⟨c0, c1, c2, c3⟩, -⟩ := HB.out.F1.facts
  obtain ⟨⟨d0, d1, d2, d3⟩, ⟨f0, f1, f2, f3⟩⟩ := HB.out.F2.facts
  generalize goodL x = G at *
  rcases hcs with ⟨rfl, hr⟩ | ⟨rfl, hcs⟩
  · have HR := hide hr
    clear hr
    go_wp2_with (go_at_call 38; refine (HGOOD.out _ HB.out.L).mono ?_; rintro e w1 ⟨rfl, hb⟩; have HB1 := hide (HB.out.over hb); clear hb c0 c1 c2 c3 d0 d1 d2 d3 f0 f1 f2 f3; obtain ⟨⟨c0, c1, c2, c3⟩, -⟩ := HB1.out.F1.facts; obtain ⟨⟨d0, d1, d2, d3⟩, ⟨f0, f1, f2, f3⟩⟩ := HB1.out.F2.facts)
    exact HB1.out.asItWas rfl _ _ HR.out _ rfl rfl rfl
  obtain ⟨hl1, hl2, -, -⟩ := HLEN.out rfl
  have HL1 := hide hl1
  clear hl1
  rcases hcs with ⟨h2, hr⟩ | ⟨h2, hcs⟩
  · have HR := hide hr
    clear hr
    go_wp2_with (go_at_call 38; refine (HGOOD.out _ HB.out.L).mono ?_; rintro e w1 ⟨rfl, hb⟩; have HB1 := hide (HB.out.over hb); clear hb c0 c1 c2 c3 d0 d1 d2 d3 f0 f1 f2 f3; obtain ⟨⟨c0, c1, c2, c3⟩, -⟩ := HB1.out.F1.facts; obtain ⟨⟨d0, d1, d2, d3⟩, ⟨f0, f1, f2, f3⟩⟩ := HB1.out.F2.facts)
    exact HB1.out.asItWas rfl _ _ HR.out _ rfl rfl rfl
  go_upto_region 3 with (go_at_call 38; refine (HGOOD.out _ HB.out.L).mono ?_; rintro e w1 ⟨rfl, hb⟩; have HB1 := hide (HB.out.over hb); clear hb c0 c1 c2 c3 d0 d1 d2 d3 f0 f1 f2 f3; obtain ⟨⟨c0, c1, c2, c3⟩, -⟩ := HB1.out.F1.facts; obtain ⟨⟨d0, d1, d2, d3⟩, ⟨f0, f1, f2, f3⟩⟩ := HB1.out.F2.facts)
  clear HB HGOOD w0
  obtain ⟨S, D, g, cl⟩ := x
  dsimp only at *
  rcases hcs with ⟨rfl, hr⟩ | ⟨rfl, hcs⟩
  · have HR := hide hr
    clear hr
    go_wp2
    exact HB1.out.asItWas rfl _ _ HR.out _ rfl rfl rfl
  rcases hcs with ⟨h4, hr⟩ | ⟨h4, hr⟩
  · have HR := hide hr
    have h4' : ((S.length : Int) == 400) = true := by simp; omega
    clear hr h4 hl2 HL1 HLEN
    go_wp2
    exact HB1.out.asItWas rfl _ _ HR.out _ rfl rfl rfl
  have HR := hide hr
  have h4' : ((S.length : Int) == 400) = false := by simp; omega
  clear hr
  have HCOPY := hide (copy_any ⟨S, D, g, false⟩ sa da cs cd sb so db dO w1 HB1.out.L)
  dsimp only at HCOPY
  go_upto_region 8 with (go_at_call 16; refine HCOPY.out.mono ?_; rintro e w2 ⟨A1, C1, A2, C2, rfl, hO, hb⟩; have HO := hide hO; have HB2 := hide (HB1.out.over hb); clear hb hO c0 c1 c2 c3 d0 d1 d2 d3 f0 f1 f2 f3)
  have M0 : Mid w (w2.alloc (.cells #[.slice A1 S.length C1, .slice A2 D.length C2, .int .i64 g, .bool false] 29)) w2.heap.size (.slice A1 S.length C1) (.slice A2 D.length C2) g false S A1 C1 D A2 C2 :=
    ⟨FAt.new w2 _ _ _ _, HB2.out.F2.alloc _, World.ownsRow.alloc (own_base HO.out.oS (by have := HB1.out.size; omega)) _, World.ownsRow.alloc (own_base HO.out.oD (by have := HB1.out.size; omega)) _, HB2.out.below.alloc HB2.out.below.size _, HB2.out.size⟩
  have hb8 := HB2.out.size
  clear HO HB2 HB1 HCOPY
  generalize w2.heap.size = b8 at *
  generalize w2.alloc (.cells #[.slice A1 S.length C1, .slice A2 D.length C2, .int .i64 g, .bool false] 29) = w3 at *
  have HM := hide M0
  obtain ⟨⟨c0, c1, c2, c3⟩, -⟩ := M0.F8.facts
  have z3 := M0.F8.lt
  clear M0
  have hlD : D.length < 400 := by rw [HL1.out]; exact h4
  go_region_law (first
    | (refine stepS rfl _ _ rfl (HM.out.alloc (.cells #[.string s] 9)).drew rfl _ rfl s (q_cell (q_new w3 _ _)) h4 ?_; rintro A3 C3 w4 ⟨hM, hq⟩; have HM4 := hide hM; have z4 := hM.F8.lt; clear c0 c1 c2 c3; obtain ⟨⟨c0, c1, c2, c3⟩, ⟨e0, e1, e2, e3⟩⟩ := hM.F8.facts; clear hM hq)
    | (refine stepS rfl _ _ rfl ((HM.out.alloc (.cells #[.string s] 9)).alloc (.cells #[.int .i64 due] 3)).drew rfl _ rfl s (q_cell (q_old w3 _ _ _)) h4 ?_; rintro A3 C3 w4 ⟨hM, hq⟩; have HM4 := hide hM; have z4 := hM.F8.lt; clear c0 c1 c2 c3; obtain ⟨⟨c0, c1, c2, c3⟩, ⟨e0, e1, e2, e3⟩⟩ := hM.F8.facts; have kq := hq _ _ (q_new1 w3 (.cells #[.string s] 9) (.int .i64 due) _); clear hM hq)
    | (refine stepS rfl _ _ rfl ((HM.out.alloc (.cells #[.int .i64 due] 3)).alloc (.cells #[.string s] 9)).drew rfl _ rfl s (q_cell (q_new1 w3 _ _ _)) h4 ?_; rintro A3 C3 w4 ⟨hM, hq⟩; have HM4 := hide hM; have z4 := hM.F8.lt; clear c0 c1 c2 c3; obtain ⟨⟨c0, c1, c2, c3⟩, ⟨e0, e1, e2, e3⟩⟩ := hM.F8.facts; have kq := hq _ _ (q_old w3 (.cells #[.string s] 9) (.int .i64 due) _); clear hM hq)
    | (refine stepD rfl _ _ rfl HM4.out rfl _ rfl due (q_cell kq) hlD ?_; rintro A4 C4 w5 hM; have HM5 := hide hM; have z5 := hM.F8.lt; clear c0 c1 c2 c3 e0 e1 e2 e3; obtain ⟨⟨c0, c1, c2, c3⟩, ⟨e0, e1, e2, e3⟩⟩ := hM.F8.facts; clear hM)
    | (refine stepD rfl _ _ rfl (HM4.out.alloc (.cells #[.int .i64 due] 3)) rfl _ rfl due (q_cell (q_new w4 _ _)) hlD ?_; rintro A4 C4 w5 hM; have HM5 := hide hM; have z5 := hM.F8.lt; clear c0 c1 c2 c3 e0 e1 e2 e3; obtain ⟨⟨c0, c1, c2, c3⟩, ⟨e0, e1, e2, e3⟩⟩ := hM.F8.facts; clear hM))
  all_goals
    have M6 := HM5.out.set ((HM5.out.F8.set_0 (.slice A3 (S.length + 1) C3)).set_1 (.slice A4 (D.length + 1) C4)) (fun k hk => by rw [Below.heap_setCell _ _ _ _ hk, Below.heap_setCell _ _ _ _ hk]) ((HM5.out.below.setCell (p := ⟨b8, 0, none⟩) (by show w.heap.size ≤ b8; omega) (.slice A3 (S.length + 1) C3)).setCell (p := ⟨b8, 1, none⟩) (by show w.heap.size ≤ b8; omega) (.slice A4 (D.length + 1) C4))
    clear c0 c1 c2 c3 e0 e1 e2 e3
    generalize (w5.setCell ⟨b8, 0, none⟩ (.slice A3 (S.length + 1) C3)).setCell ⟨b8, 1, none⟩ (.slice A4 (D.length + 1) C4) = w6 at *
    obtain ⟨⟨c0, c1, c2, c3⟩, -⟩ := M6.F8.facts
    obtain ⟨⟨d0, d1, d2, d3⟩, ⟨f0, f1, f2, f3⟩⟩ := M6.F2.facts
    have HM6 := hide M6
    clear M6
    go_wp2
    exact HM6.out.fin rfl (by simp; omega) (by simp; omega) _ _ (by simp) (by simp) _ _ HR.out _ rfl rfl rfl
end Go.Proofs.Ytdkalcnlncjgiaa.Ln

