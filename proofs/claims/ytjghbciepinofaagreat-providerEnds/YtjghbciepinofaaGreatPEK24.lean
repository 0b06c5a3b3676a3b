/- Parts of the proof: PGR PVL SW1 RC3. -/
import Derived.Test.YtjghbciepinofaaGreatRows
import Derived.Test.YtjghbciepinofaaGreatPEK21
import Derived.Test.YtjghbciepinofaaGreatPEK23
import Derived.Test.YtjghbciepinofaaGreatPEK27
import Derived.Deep.AppendLies
set_option maxRecDepth 100000
namespace Go.Proofs.YtjghbciepinofaaGreat.Pv
open Go.RowKit
/-- but for one block and new ones the world is as it was -/
structure Alt (g : Nat) (w w' : World) : Prop where
  os : w'.os = w.os
  tape : w'.tape = w.tape
  output : w'.output = w.output
  size : w.heap.size ≤ w'.heap.size
  block : ∀ k, k < w.heap.size → k ≠ g → w'.heap[k]? = w.heap[k]?
theorem Alt.refl (g : Nat) (w : World) : Alt g w w := ⟨rfl, rfl, rfl, Nat.le_refl _, fun _ _ _ => rfl⟩
theorem Alt.trans {g : Nat} {w w1 w2 : World} (h : Alt g w w1) (k : Alt g w1 w2) : Alt g w w2 := ⟨k.os.trans h.os, k.tape.trans h.tape, k.output.trans h.output, Nat.le_trans h.size k.size, fun i hi hn => (k.block i (Nat.lt_of_lt_of_le hi h.size) hn).trans (h.block i hi hn)⟩
theorem Alt.of {g : Nat} {w w' : World} (h : Below w.heap.size w w') : Alt g w w' := ⟨h.os, h.tape, h.output, h.size, fun k hk _ => h.block k hk⟩
theorem Alt.below {g B : Nat} {w w' : World} (h : Alt g w w') (hB : B ≤ g) (hw : B ≤ w.heap.size) : Below B w w' := ⟨h.os, h.tape, h.output, h.size, fun k hk => h.block k (by omega) (by omega)⟩
theorem Alt.set {g : Nat} {w w' : World} (h : Alt g w w') (o : Nat) (v : Value) : Alt g w (w'.setCell ⟨g, o, none⟩ v) :=
  ⟨h.os, h.tape, h.output, (by simp [World.setCell]; exact h.size), fun k hk hn => (Below.heap_setCell _ _ _ _ hn).trans (h.block k hk hn)⟩
theorem Alt.sets {g : Nat} : ∀ (vs : List Value) {w w' : World} (_ : Alt g w w') (o : Nat), Alt g w (w'.setCells g o vs)
  | [], _, _, h, _ => h
  | _ :: r, _, _, h, o => Alt.sets r (h.set o _) (o + 1)
theorem Alt.cat {g : Nat} {w w' : World} (h : Alt g w w') {b : Nat} (hb : b ≠ g) {t : TypeId} {cs : Array Value} (c : CAt t w b cs) : CAt t w' b cs := (h.block b c.lt hb).trans c
theorem Alt.rep {g : Nat} {w w' : World} (h : Alt g w w') {P : Nat → Prop} (hP : ¬ P g) {v : Value} {sz bts : Nat} {cs : List Value} (hp : Rep P w v sz bts cs) : Rep P w' v sz bts cs := hp.keep fun b hb hlt => h.block b hlt (fun e => hP (e ▸ hb))
/-- blocks that were there, or that came later -/
def New (P : Nat → Prop) (w : World) (k b : Nat) : Prop := (P b ∧ b < w.heap.size) ∨ w.heap.size + k ≤ b
theorem new_no {P : Nat → Prop} {w : World} {k j : Nat} (h : j < k) : ¬ New P w k (w.heap.size + j) := fun hn => by
  rcases hn with ⟨_, h1⟩ | h1 <;> omega
end Go.Proofs.YtjghbciepinofaaGreat.Pv

set_option maxRecDepth 100000
namespace Go.Proofs.YtjghbciepinofaaGreat.Pv
open Go.RowKit
/-- a list whose room is not told -/
def RepC (P : Nat → Prop) (w : World) (v : Value) (sz bts : Nat) (cs : List Value) : Prop := ∃ (A : Option Addr) (n C C' : Nat), v = .slice A n C ∧ (A = none → C = 0) ∧ Rep P w (.slice A n C') sz bts cs
section
variable {P P' : Nat → Prop} {w w' : World} {v : Value} {sz bts : Nat} {cs : List Value}
theorem Rep.c (h : Rep P w v sz bts cs) : RepC P w v sz bts cs := by
  obtain ⟨A, n, C, rfl, h2⟩ := id h
  exact ⟨A, n, C, C, rfl, h2.2.2.1.1, h⟩
theorem RepC.nil (P : Nat → Prop) (w : World) (sz bts : Nat) : RepC P w (.slice none 0 0) sz bts [] := (Rep.nil P w sz bts).c
theorem RepC.mono (h : RepC P w v sz bts cs) (hp : ∀ b, b < w.heap.size → P b → P' b) : RepC P' w v sz bts cs := by
  obtain ⟨A, n, C, C', h1, h2, h3⟩ := h
  exact ⟨A, n, C, C', h1, h2, h3.mono hp⟩
theorem RepC.keep (h : RepC P w v sz bts cs) (hk : ∀ b, P b → b < w.heap.size → w'.heap[b]? = w.heap[b]?) : RepC P w' v sz bts cs := by
  obtain ⟨A, n, C, C', h1, h2, h3⟩ := h
  exact ⟨A, n, C, C', h1, h2, h3.keep hk⟩
theorem RepC.over (h : RepC P w v sz bts cs) (hb : Below w.heap.size w w') : RepC P w' v sz bts cs := h.keep fun b _ hlt => hb.block b hlt
theorem RepC.map (h : RepC P w v sz bts cs) (k : ∀ u, Rep P w u sz bts cs → Rep P' w' u sz bts cs) : RepC P' w' v sz bts cs := by
  obtain ⟨A, n, C, C', h1, h2, h3⟩ := h
  exact ⟨A, n, C, C', h1, h2, k _ h3⟩
theorem RepC.one (h : RepC P w v sz bts cs) : v.oneCell' = true := by
  obtain ⟨A, n, C, C', rfl, _⟩ := h
  rfl
/-- a line's two lists -/
theorem RepC.line {x : Ln.Line} {v1 v2 : Value} (h1 : RepC P w v1 1 16 (txC x.S)) (h2 : RepC P w v2 1 8 (inC x.D)) : ∃ A1 C1 A2 C2 sb so db dO, v1 = .slice A1 x.S.length C1 ∧ v2 = .slice A2 x.D.length C2 ∧ Ln.LAt w x A1 A2 C1 C2 sb so db dO ∧ (0 < x.S.length → P sb) ∧ (0 < x.D.length → P db) := by
  obtain ⟨A, n, C, C', rfl, n1, r1⟩ := h1
  obtain ⟨B, m, D, D', rfl, n2, r2⟩ := h2
  obtain ⟨A1, C1, A2, C2, sb, so, db, dO, e1, e2, L, p1, p2⟩ := Rep.line r1 r2
  cases e1
  cases e2
  exact ⟨_, _, _, _, sb, so, db, dO, rfl, rfl, ⟨L.hls, L.hld, L.hsa, L.hda, n1, n2, L.PS, L.PD⟩, p1, p2⟩
theorem rep_txt {x : Ln.Line} {sa da : Option Addr} {cs cd sb so db dO : Nat} (L : Ln.LAt w x sa da cs cd sb so db dO) (hp : 0 < x.S.length → P sb) : RepC P w (.slice sa x.S.length cs) 1 16 (txC x.S) := by
  refine ⟨sa, x.S.length, cs, x.S.length, rfl, L.ncs, sa, x.S.length, x.S.length, rfl, txC_length _, L.hls, ⟨fun e => ?_, Nat.le_refl _⟩, fun h0 => ⟨sb, so, L.hsa h0, hp h0, L.ltS h0, fun j u hu => ?_⟩⟩
  · rcases Nat.eq_zero_or_pos x.S.length with h | h
    · exact h
    · rw [L.hsa h] at e; cases e
  · have hj : j < x.S.length := by have := (List.getElem?_eq_some_iff.1 hu).1; rw [txC_length] at this; omega
    rw [L.PS j hj, ← hu, txC_get _ j hj]
theorem rep_due {x : Ln.Line} {sa da : Option Addr} {cs cd sb so db dO : Nat} (L : Ln.LAt w x sa da cs cd sb so db dO) (hp : 0 < x.D.length → P db) : RepC P w (.slice da x.D.length cd) 1 8 (inC x.D) := by
  refine ⟨da, x.D.length, cd, x.D.length, rfl, L.ncd, da, x.D.length, x.D.length, rfl, inC_length _, L.hld, ⟨fun e => ?_, Nat.le_refl _⟩, fun h0 => ⟨db, dO, L.hda h0, hp h0, L.ltD h0, fun j u hu => ?_⟩⟩
  · rcases Nat.eq_zero_or_pos x.D.length with h | h
    · exact h
    · rw [L.hda h] at e; cases e
  · have hj : j < x.D.length := by have := (List.getElem?_eq_some_iff.1 hu).1; rw [inC_length] at this; omega
    rw [L.PD j hj, ← hu, inC_get _ j hj]
end
/-- what a call on a line answers -/
def AnsL (P : Nat → Prop) (w : World) (x : Ln.Line) (er : Int) (e : Ending) (w' : World) : Prop := ∃ u1 u2, e = .returned (.tuple #[.agg #[u1, u2, .int .i64 x.g, .bool x.cl], .int .i64 er]) ∧ RepC (New P w 0) w' u1 1 16 (txC x.S) ∧ RepC (New P w 0) w' u2 1 8 (inC x.D) ∧ Below w.heap.size w w'
theorem ans_l {P : Nat → Prop} {w w' : World} {x y : Ln.Line} {er : Int} {e : Ending} {A1 A2 : Option Addr} {C1 C2 sb so db dO : Nat} (L : Ln.LAt w x A1 A2 C1 C2 sb so db dO) (p1 : 0 < x.S.length → P sb) (p2 : 0 < x.D.length → P db) (h : Ln.Ans sb db x w (y, er) e w') : AnsL P w y er e w' := by
  obtain ⟨v, rfl, ⟨sa, da, cs, cd, sb', so', db', dO', rfl, L', s1, s2⟩, hb⟩ := h
  refine ⟨_, _, rfl, rep_txt L' fun h0 => ?_, rep_due L' fun h0 => ?_, hb⟩
  · rcases (s1 h0).2 with ⟨rfl, e⟩ | h
    · rw [e] at h0; exact .inl ⟨p1 h0, L.ltS h0⟩
    · exact .inr h
  · rcases (s2 h0).2 with ⟨rfl, e⟩ | h
    · rw [e] at h0; exact .inl ⟨p2 h0, L.ltD h0⟩
    · exact .inr h
theorem say_rep (x : Ln.Line) (s : ByteArray) (due : Int) (v1 v2 : Value) (P : Nat → Prop) (w : World) (h1 : RepC P w v1 1 16 (txC x.S)) (h2 : RepC P w v2 1 8 (inC x.D)) : Calls Tryz.prog 72 #[.agg #[v1, v2, .int .i64 x.g, .bool x.cl], .string s, .int .i64 due] w (AnsL P w (Ln.sayL x s due) (Ln.sayE x due)) := by
  obtain ⟨A1, C1, A2, C2, sb, so, db, dO, rfl, rfl, L, p1, p2⟩ := RepC.line h1 h2
  exact (Ln.say_any x A1 A2 C1 C2 sb so db dO s due w L).mono fun e w' h => ans_l L p1 p2 h
theorem rsay_rep (x : Ln.Line) (s : ByteArray) (due : Int) (v1 v2 : Value) (P : Nat → Prop) (w : World) (h1 : RepC P w v1 1 16 (txC x.S)) (h2 : RepC P w v2 1 8 (inC x.D)) : Calls Tryz.prog 53 #[.agg #[v1, v2, .int .i64 x.g, .bool x.cl], .string s, .int .i64 due] w (AnsL P w (Ln.sayL x s due) (Ln.sayE x due)) := by
  obtain ⟨A1, C1, A2, C2, sb, so, db, dO, rfl, rfl, L, p1, p2⟩ := RepC.line h1 h2
  exact (Ln.rsay_any x A1 A2 C1 C2 sb so db dO s due w L).mono fun e w' h => ans_l L p1 p2 h
end Go.Proofs.YtjghbciepinofaaGreat.Pv

set_option maxRecDepth 100000
namespace Go.Proofs.YtjghbciepinofaaGreat
open Go.RowKit
def wtL (x : Wt) : List Value := [.int .i64 x.num, .int .i64 x.d, .int .i64 x.v, .int .i64 x.amt, .int .i64 x.hei, .int .i64 x.due, .int .i64 x.h0, .int .i64 x.h1]
theorem wtL_length (x : Wt) : (wtL x).length = 8 := rfl
def wsL (W : List Wt) : List Value := W.flatMap wtL
theorem wsL_length : ∀ W : List Wt, (wsL W).length = W.length * 8
  | [] => rfl
  | x :: W => by show (wtL x ++ wsL W).length = _; rw [List.length_append, wsL_length W, wtL_length, List.length_cons]; omega
theorem wsL_get : ∀ (W : List Wt) (i : Nat) (x : Wt) (j : Nat), W[i]? = some x → j < 8 → (wsL W)[i * 8 + j]? = (wtL x)[j]?
  | [], i, x, j, h, _ => by simp at h
  | y :: W, 0, x, j, h, hj => by
    simp at h
    subst h
    show (wtL y ++ wsL W)[0 * 8 + j]? = _
    rw [List.getElem?_append_left (by rw [wtL_length]; omega), Nat.zero_mul, Nat.zero_add]
  | y :: W, i + 1, x, j, h, hj => by
    show (wtL y ++ wsL W)[(i + 1) * 8 + j]? = _
    rw [List.getElem?_append_right (by rw [wtL_length]; omega), wtL_length, show (i + 1) * 8 + j - 8 = i * 8 + j by omega]
    exact wsL_get W i x j (by simpa using h) hj
theorem ws_cells {w : World} {ao : Option Addr} {b o : Nat} {W : List Wt} (h : WsAt w ao b o W) : ∀ j v, (wsL W)[j]? = some v → w.cell? ⟨b, o + j, none⟩ = some v := by
  intro j v hj
  have hl := (List.getElem?_eq_some_iff.1 hj).1
  rw [wsL_length] at hl
  have hi : j / 8 < W.length := by omega
  have hx : W[j / 8]? = some (W[j / 8]'hi) := List.getElem?_eq_getElem hi
  have e := wsL_get W (j / 8) _ (j % 8) hx (by omega)
  rw [show j / 8 * 8 + j % 8 = j by omega, hj] at e
  obtain ⟨c0, c1, c2, c3, c4, c5, c6, c7⟩ := h.cell _ _ hx
  have hd : j = j / 8 * 8 + j % 8 := by omega
  generalize W[j / 8]'hi = x at *
  generalize hq : j / 8 = q at *
  have hr : j % 8 < 8 := by omega
  generalize j % 8 = r at *
  subst hd
  rcases (show r = 0 ∨ r = 1 ∨ r = 2 ∨ r = 3 ∨ r = 4 ∨ r = 5 ∨ r = 6 ∨ r = 7 by omega) with rfl | rfl | rfl | rfl | rfl | rfl | rfl | rfl <;> simp [wtL] at e <;> subst e <;> rw [← Nat.add_assoc] <;> assumption
theorem ws_of_cells {w : World} {b : Nat} {W : List Wt} (hl : W.length * 64 ≤ 140737488351232) (h : ∀ j v, (wsL W)[j]? = some v → w.cell? ⟨b, j, none⟩ = some v) : WsAt w (some ⟨b, 0, none⟩) b 0 W := by
  refine ⟨fun _ => rfl, hl, fun i x hx => ?_⟩
  have k : ∀ j, j < 8 → ∀ v, (wtL x)[j]? = some v → w.cell? ⟨b, 0 + i * 8 + j, none⟩ = some v := fun j hj v hv => by
    rw [Nat.zero_add]
    exact h _ _ ((wsL_get W i x j hx hj).trans hv)
  exact ⟨k 0 (by omega) _ rfl, k 1 (by omega) _ rfl, k 2 (by omega) _ rfl, k 3 (by omega) _ rfl, k 4 (by omega) _ rfl, k 5 (by omega) _ rfl, k 6 (by omega) _ rfl, k 7 (by omega) _ rfl⟩
end Go.Proofs.YtjghbciepinofaaGreat

set_option maxRecDepth 100000
namespace Go.Proofs.YtjghbciepinofaaGreat
open Go.RowKit
theorem own_of {w w' : World} {b e z n : Nat} {v : Value} {xs : List Value} (h : w.ownsRow b e z v n xs) (hk : ∀ k, v.ownBlock = some k → w'.heap[k]? = w.heap[k]?) : w'.ownsRow b e z v n xs := by
  refine ⟨h.1, ?_⟩
  rcases h.2 with hn | ⟨g, cap, cur, rfl, hb, hg, rest⟩
  · exact .inl hn
  · exact .inr ⟨g, cap, cur, rfl, hb, (hk g rfl).trans hg, rest⟩
theorem own_copy (w : World) (ao : Option Addr) (n : Nat) (h : Src w ao n 8 64) : (cpW w ao n 8 127 (.agg #[.int .i64 0, .int .i64 0, .int .i64 0, .int .i64 0, .int .i64 0, .int .i64 0, .int .i64 0, .int .i64 0])).ownsRow w.heap.size 127 8 (.slice (cpA w n) n (cpC w n 127)) n (srcCells w ao (n * 8)) := by
  refine ⟨by simp [srcCells], ?_⟩
  by_cases h0 : n = 0
  · left
    subst h0
    exact ⟨rfl, rfl⟩
  · right
    have hl : (srcCells w ao (n * 8)).length = n * 8 := by simp [srcCells]
    have h1 := h.1
    rw [cpA, cpC, cpW, if_neg h0, if_neg h0, if_neg h0]
    refine ⟨w.heap.size, _, _, rfl, Nat.le_refl _, heap_alloc_new w.drew _, grownCap_ge _ _ _ _, grownCap_le_maxLen _ _ _ _ (by simp only [maxLen]; omega), ?_, ?_⟩
    · have := grownCap_ge w n 0 127
      simp only [Array.size_append, List.size_toArray, size_zeroCells, hl]
      simp only [Value.cells, List.size_toArray, List.length_cons, List.length_nil]
      omega
    · simp only [Array.toList_append]
      exact List.take_left' hl
theorem wpList_copyW3 {ops : Array Oper} {rest : List Oper} {o : Oper} {a : Act} {w : World} {Q : Exit → Act → World → Prop} (hg : o.guard = none) (hty : o.type = 30) (s x : Operand)
    (hop : o.op = Op.call { callee := Callee.builtin Builtin.append, args := #[s, x], argTypes := #[30, 30] }) (ao : Option Addr) (n c : Nat) (hs : a.eval s = .slice none 0 0) (hx : a.eval x = .slice ao n c) (h : Src w ao n 8 64)
    (hK : ∀ A C w', Copied w ao n 8 A w' ∧ w'.ownsRow w.heap.size 127 8 (.slice A n C) n (srcCells w ao (n * 8)) → wpList Tryz.prog ops Q rest (a.put o.dst (.slice A n C)) w') : wpList Tryz.prog ops Q (o :: rest) a w := by
  refine wpList_plain hg fun _ hK' => ?_
  unfold Oper.wp
  have hr := apW w ao n c h
  simp [execOp, hop, resolve, invoke, builtin, hs, hx, hty, hr, Result.andThen]
  exact hK' _ _ (hK _ _ _ ⟨copied_of w ao n 8 64 127 _ h, own_copy w ao n h⟩)
set_option maxHeartbeats 1000000 in
theorem copy_any3 (cs : Array Value) (sa : Option Addr) (n cp : Nat) (w : World) (hsz : cs.size = 63) (h61 : cs[61]? = some (.slice sa n cp)) (hone : cs.all (·.oneCell') = true) (hsrc : Src w sa n 8 64) :
    Calls Tryz.prog 42 #[.agg cs] w fun e w' => ∃ A C w0 w1, w1.ownsRow w0.heap.size 127 8 (.slice A n C) n (srcCells w0 sa (n * 8)) ∧ e = .returned (.agg (cs.setIfInBounds 61 (.slice A n C))) ∧ Below w.heap.size w w0 ∧ w.heap.size + 2 ≤ w0.heap.size ∧ Copied w0 sa n 8 A w1 ∧ Below w.heap.size w w' ∧ (∀ b, w.heap.size + 2 ≤ b → w'.heap[b]? = w1.heap[b]?) := by
  have h61' : cs[61]'(by omega) = .slice sa n cp := by simpa [Array.getElem?_eq_getElem (show 61 < cs.size by omega)] using h61
  go_enter Tryz.func42, Tryz.ntmps42
  go_upto_region 2 with (first
    | (at_builtin; refine wpList_copyW3 rfl rfl _ _ rfl sa n cp rfl (by simp [Act.eval]) (hsrc.later (((Below.refl _ w).alloc (Nat.le_refl _) _).alloc (by simp) _)) ?_; rintro A C w1 ⟨hcp, hown⟩; obtain ⟨hx1, hy1, hS2, hR2⟩ := copy_facts (C := C) hcp h61; have hrg := hS2.range; have HR2 : Hid (SAt (w1.setCell ⟨w.heap.size, 61, none⟩ (.slice A n C)) (w.heap.size + 1) Z63) := hR2; have HCP : Hid (Copied _ sa n 8 A w1) := hcp; have HOW := hide hown; clear hS2 hR2 hcp hown))
  have HBw : Hid (Below w.heap.size w w1) := (((Below.refl _ w).alloc (Nat.le_refl _) _).alloc (by simp) _).trans (HCP.out.below.mono (by simp; omega))
  apply wp_region_lit
  refine wpList_load_mid rfl 32 _ rfl w.heap.size 0 rfl _ _ hrg Tryz.underlying32 rfl (by rw [infoS]; simp [hsz]) ?_
  refine wpList_store_mid rfl 32 _ _ rfl (w.heap.size + 1) 0 (cs.setIfInBounds 61 (.slice A n C)) rfl rfl (HR2.out.there 0 _ (by simp [Z63, hsz])) (by rw [infoS]; simp [hsz]) (all_set hone rfl) ?_
  go_wp2
  have R3 := HR2.out.setAll (ds := cs.setIfInBounds 61 (.slice A n C)) (by simp [Z63, hsz])
  refine bodyPost_ret (v := .agg (cs.setIfInBounds 61 (.slice A n C))) ?_ rfl ⟨A, C, _, w1, HOW.out, rfl, ((Below.refl _ w).alloc (Nat.le_refl _) _).alloc (by simp) _, by simp, HCP.out, below_sets (by omega) _ _ _ (HBw.out.setCell (by simp) _), fun b hb => (heap_sets (by omega) _ _ _).trans (Below.heap_setCell _ _ _ _ (by simp; omega))⟩
  exact results_cell_row rfl _ _ _ _ _ _ _ rfl R3 Tryz.underlying32 rfl (by rw [infoS]; simp [hsz])
theorem src_ws {w : World} {ao : Option Addr} {sb so : Nat} {W : List Wt} (hW : WsAt w ao sb so W) : srcCells w ao (W.length * 8) = wsL W := by
  apply List.ext_getElem?
  intro j
  have hl := wsL_length W
  by_cases hj : j < W.length * 8
  · have h0 : 0 < W.length := by omega
    have hv : (wsL W)[j]? = some ((wsL W)[j]'(by omega)) := List.getElem?_eq_getElem (by omega)
    have hc := ws_cells hW j _ hv
    rw [hv, hW.adr h0]
    simp [srcCells, hj, Addr.add_lit, hc]
  · have hs : (srcCells w ao (W.length * 8)).length = W.length * 8 := by simp [srcCells]
    rw [List.getElem?_eq_none (show (srcCells w ao (W.length * 8)).length ≤ j by omega), List.getElem?_eq_none (show (wsL W).length ≤ j by omega)]
/-- the waits lie in a row of the call's own -/
def OwnW (B : Nat) (w : World) (A : Option Addr) (C : Nat) (W : List Wt) : Prop := w.ownsRow B 127 8 (.slice A W.length C) W.length (wsL W)
theorem OwnW.to {B : Nat} {w w' : World} {A : Option Addr} {C : Nat} {W : List Wt} (h : OwnW B w A C W) (hk : ∀ k, B ≤ k → k < w.heap.size → w'.heap[k]? = w.heap[k]?) : OwnW B w' A C W := own_of h fun k hv => hk k (h.lt k hv).1 (h.lt k hv).2
theorem OwnW.over {B : Nat} {w w' : World} {A : Option Addr} {C : Nat} {W : List Wt} (h : OwnW B w A C W) (hb : Below w.heap.size w w') : OwnW B w' A C W := h.to fun k _ hk => hb.block k hk
theorem OwnW.cap {B : Nat} {w : World} {A : Option Addr} {C : Nat} {W : List Wt} (h : OwnW B w A C W) : W.length ≤ C := by
  rcases h.2 with ⟨hv, hn⟩ | ⟨g, cap, cur, hv, _, _, hc, _⟩
  · omega
  · cases hv; exact hc
theorem OwnW.ws {B : Nat} {w : World} {A : Option Addr} {C : Nat} {W : List Wt} (h : OwnW B w A C W) (hl : W.length * 64 ≤ 140737488351232) : ∃ g, WsAt w A g 0 W ∧ (0 < W.length → B ≤ g ∧ g < w.heap.size) := by
  rcases h.2 with ⟨hv, hn⟩ | ⟨g, cap, cur, hv, hb, hg, hrest⟩
  · refine ⟨0, ⟨fun h => by omega, hl, fun i x hx => ?_⟩, fun h => by omega⟩
    have := (List.getElem?_eq_some_iff.1 hx).1
    omega
  · cases hv
    refine ⟨g, ws_of_cells hl fun j v hj => ?_, fun _ => ⟨hb, (Array.getElem?_eq_some_iff.1 hg).1⟩⟩
    have := World.ownsRow.cells h (g := g) rfl j v hj
    rwa [Addr.add_lit, Nat.zero_add] at this
theorem copy_st3 (s : St) (ao : Option Addr) (sb so c : Nat) (w : World) (hW : WsAt w ao sb so s.W) :
    Calls Tryz.prog 42 #[.agg (stC s (.slice ao s.W.length c))] w fun e w' => ∃ A C, e = .returned (.agg (stC s (.slice A s.W.length C))) ∧ OwnW (w.heap.size + 2) w' A C s.W ∧ Below w.heap.size w w' := by
  refine (copy_any3 (stC s (.slice ao s.W.length c)) ao s.W.length c w (stC_size _ _) (stC_61 _ _) (stC_one _ _ _ _) (ws_src hW)).mono ?_
  rintro e w' ⟨A, C, w0, w1, how, rfl, h0, h2, hcp, hb, hsame⟩
  refine ⟨A, C, rfl, ?_, hb⟩
  rw [src_ws (hW.over h0)] at how
  have hm := how.2
  have how2 : w1.ownsRow (w.heap.size + 2) 127 8 (.slice A s.W.length C) s.W.length (wsL s.W) := ⟨how.1, by
    rcases hm with h | ⟨g, cap, cur, hv, hb2, h3⟩
    · exact .inl h
    · exact .inr ⟨g, cap, cur, hv, Nat.le_trans h2 hb2, h3⟩⟩
  exact own_of how2 fun k hk => hsame k (World.ownsRow.lt how2 k hk).1
/-- one wait more, behind a row of one's own -/
theorem ap3 (B : Nat) (w : World) (A : Option Addr) (C y : Nat) (W : List Wt) (x : Wt) (h : OwnW B w A C W) (h60 : W.length ≤ 60) (hB : B ≤ w.heap.size) (hy : ∀ j v, (wtL x)[j]? = some v → w.cell? ⟨y, j, none⟩ = some v) :
    ∃ g C' w', (Builtin.append_ #[30, 30] 30 #[.slice A W.length C, .slice (some ⟨y, 0, none⟩) 1 1]).run Tryz.prog w = .ok (.slice (some ⟨g, 0, none⟩) (W.length + 1) C') w' ∧ OwnW B w' (some ⟨g, 0, none⟩) C' (W ++ [x]) ∧ B ≤ g ∧ g < w'.heap.size ∧ Below B w w' ∧ (∀ k, k < w.heap.size → some k ≠ (Value.slice A W.length C).ownBlock → g ≠ k ∧ w'.heap[k]? = w.heap[k]?) := by
  obtain ⟨i0, hi, hz0, hz1, hz2⟩ := info_parts info44
  have hL : wsL (W ++ [x]) = wsL W ++ wtL x := by unfold wsL; rw [List.flatMap_append]; simp
  obtain ⟨g, cap, w', hr, ho, hg, hat, hlt⟩ := run_append_lies (P := Tryz.prog) w 30 30 B 127 i0 _ 8 64 Tryz.underlying30 hi hz0 hz1 hz2 rfl (by omega) (.slice A W.length C) W.length (wsL W) h ⟨y, 0, none⟩ 1 1 (wtL x) rfl (fun j v hv => by rw [Addr.add_lit, Nat.zero_add]; exact hy j v hv) (by intro u hu; simp [wtL] at hu; rcases hu with rfl | rfl | rfl | rfl | rfl | rfl | rfl | rfl <;> rfl) (by omega) (by simp only [maxLen]; omega) (by omega) hB _ rfl
  have ho' : OwnW B w' (some ⟨g, 0, none⟩) cap (W ++ [x]) := by
    unfold OwnW
    rw [hL, List.length_append]
    exact ho
  refine ⟨g, cap, w', hr, ho', ?_, hlt, ⟨hg.os, hg.tape, hg.output, hg.size, fun k hk => hg.block k (by omega) (fun he => ?_)⟩, fun k hk hne => ⟨?_, hg.block k hk hne⟩⟩
  · exact (ho'.lt g rfl).1
  · have := (h.lt k he.symm).1
    omega
  · rcases hat with hat | hat
    · rintro rfl
      exact hne hat.symm
    · omega
theorem wpList_ap3 {ops : Array Oper} {rest : List Oper} {o : Oper} {a : Act} {w : World} {Q : Exit → Act → World → Prop} (hg : o.guard = none) (hty : o.type = 30) (p q : Operand)
    (hop : o.op = Op.call { callee := Callee.builtin Builtin.append, args := #[p, q], argTypes := #[30, 30] }) (B : Nat) (A : Option Addr) (C y : Nat) (W : List Wt) (x : Wt) (hs : a.eval p = .slice A W.length C) (hx : a.eval q = .slice (some ⟨y, 0, none⟩) 1 1)
    (h : OwnW B w A C W) (h60 : W.length ≤ 60) (hB : B ≤ w.heap.size) (hy : ∀ j v, (wtL x)[j]? = some v → w.cell? ⟨y, j, none⟩ = some v)
    (hK : ∀ g C' w', OwnW B w' (some ⟨g, 0, none⟩) C' (W ++ [x]) ∧ B ≤ g ∧ g < w'.heap.size ∧ Below B w w' ∧ (∀ k, k < w.heap.size → some k ≠ (Value.slice A W.length C).ownBlock → g ≠ k ∧ w'.heap[k]? = w.heap[k]?) → wpList Tryz.prog ops Q rest (a.put o.dst (.slice (some ⟨g, 0, none⟩) (W.length + 1) C')) w') : wpList Tryz.prog ops Q (o :: rest) a w := by
  refine wpList_plain hg fun _ hK' => ?_
  unfold Oper.wp
  obtain ⟨g, C', w', hr, h1⟩ := ap3 B w A C y W x h h60 hB hy
  simp [execOp, hop, resolve, invoke, builtin, hs, hx, hty, hr, Result.andThen]
  exact hK' _ _ (hK _ _ _ h1)
end Go.Proofs.YtjghbciepinofaaGreat

