/- Parts of the proof: KTA. -/
import Derived.Test.YtdkalcnlncjgiaaRows
import Derived.Test.YtdkalcnlncjgiaaBK8
import Derived.Test.YtdkalcnlncjgiaaBK15
import Derived.Maps.AppendAt
set_option maxRecDepth 100000
namespace Go.Proofs.Ytdkalcnlncjgiaa.Kc
open Go.RowKit Pv
/-- the same, with a slice that comes about -/
def Joins (F : Option Addr → Nat → Nat → Act) (R : Option Addr → Nat → Nat → World → Prop) (ex : Exit) (a : Act) (w : World) : Prop := ∃ A n C, ex = Exit.normal ∧ a = F A n C ∧ R A n C w
theorem wp_joins {P : Program} {c : Code} {Q : Exit → Act → World → Prop} {a : Act} {w : World} (R : Option Addr → Nat → Nat → World → Prop) (F : Option Addr → Nat → Nat → Act) (h1 : Code.wp P c (Joins F R) a w) (h2 : ∀ A n C w', R A n C w' → Q Exit.normal (F A n C) w') : Code.wp P c Q a w :=
  Code.wp_mono (fun e a' w' h => by obtain ⟨A, n, C, rfl, rfl, h⟩ := h; exact h2 A n C w' h) h1
theorem next_fits {n : Nat} (h : n * 16 ≤ 168884986026393) : Builtin.nextslicecap (n + 1) n * 16 ≤ 281474976710656 := by
  have : Builtin.nextslicecap (n + 1) n ≤ n + (n + 1024) / 4 + 256 := by
    unfold Builtin.nextslicecap
    split
    · omega
    · split
      · omega
      · rw [growBy_four]
        repeat' split
        all_goals omega
  omega
/-- ripes: without room, or in a row of the call's own (block o) -/
def RR (P : Nat → Prop) (B : Nat) (o : Option Nat) (w : World) (v : Value) (l : List (Int × Int)) : Prop :=
  (o = none ∧ (∃ A, v = .slice A l.length l.length) ∧ Rep P w v 2 8 (pwC l)) ∨ (∃ g cap, o = some g ∧ v = .slice (some ⟨g, 0, none⟩) l.length cap ∧ w.ownsRow B 53 2 v l.length (pwC l))
theorem infoRp : (Try.prog.info? 53).map (fun i => (i.zero, i.size, i.bytes)) = some (some (.agg #[.int .i64 0, .int .i64 0]), 2, 16) := by kernel_rfl
theorem pwC_app (l m : List (Int × Int)) : pwC (l ++ m) = pwC l ++ pwC m := by simp [pwC]
theorem RR.slice {P : Nat → Prop} {B : Nat} {o : Option Nat} {w : World} {v : Value} {l : List (Int × Int)} (h : RR P B o w v l) : ∃ A C, v = .slice A l.length C := by
  rcases h with ⟨-, ⟨A, rfl⟩, -⟩ | ⟨g, cap, -, rfl, -⟩
  · exact ⟨_, _, rfl⟩
  · exact ⟨_, _, rfl⟩
theorem RR.keep {P : Nat → Prop} {B : Nat} {o : Option Nat} {w w' : World} {v : Value} {l : List (Int × Int)} (h : RR P B o w v l) (h1 : ∀ b, P b → b < w.heap.size → w'.heap[b]? = w.heap[b]?) (h2 : ∀ b, o = some b → w'.heap[b]? = w.heap[b]?) : RR P B o w' v l := by
  rcases h with ⟨e, hA, hr⟩ | ⟨g, cap, e, hv, ho⟩
  · exact .inl ⟨e, hA, hr.keep h1⟩
  · exact .inr ⟨g, cap, e, hv, Ln.own_of ho fun k hk => h2 k (by rw [e, ← hk, hv]; rfl)⟩
theorem RR.lt {P : Nat → Prop} {B : Nat} {o : Option Nat} {w : World} {v : Value} {l : List (Int × Int)} (h : RR P B o w v l) {r : Nat} (hr : o = some r) : B ≤ r ∧ r < w.heap.size := by
  rcases h with ⟨e, -, -⟩ | ⟨g, cap, e, hv, ho⟩
  · rw [e] at hr; cases hr
  · rw [hr] at e
    cases e
    exact World.ownsRow.lt ho r (by rw [hv]; rfl)
/-- the list, whatever it is -/
theorem RR.rep {P Q : Nat → Prop} {B : Nat} {o : Option Nat} {w : World} {v : Value} {l : List (Int × Int)} (h : RR P B o w v l) (hl : l.length * 16 ≤ 168884986026393) (h1 : ∀ b, b < w.heap.size → P b → Q b) (h2 : ∀ b, o = some b → Q b) : Rep Q w v 2 8 (pwC l) := by
  rcases h with ⟨e, hA, hr⟩ | ⟨g, cap, e, hv, ho⟩
  · exact hr.mono h1
  · obtain ⟨A, n, C, a1, a2, a3, a4, a5⟩ := Rep.own (bts := 8) ho (by omega)
    refine ⟨A, n, C, a1, a2, a3, a4, fun h0 => ?_⟩
    obtain ⟨b, off, b1, b2, b3, b4⟩ := a5 h0
    rw [hv] at a1
    cases a1
    cases b1
    exact ⟨g, 0, rfl, h2 g e, b3, b4⟩
theorem ap_ripe {P : Nat → Prop} {B : Nat} {o : Option Nat} {w : World} {v : Value} {l : List (Int × Int)} (h : RR P B o w v l) (hB : B ≤ w.heap.size) (hl : l.length * 16 ≤ 168884986026393) (x : Int × Int) (y : Nat) (hy : ∀ j u, ([.int .i64 x.1, .int .i64 x.2] : List Value)[j]? = some u → w.cell? ⟨y, j, none⟩ = some u) :
    ∃ g cap w', (Builtin.append_ #[24, 24] 24 #[v, .slice (some ⟨y, 0, none⟩) 1 1]).run Try.prog w = .ok (.slice (some ⟨g, 0, none⟩) (l.length + 1) cap) w' ∧ RR P B (some g) w' (.slice (some ⟨g, 0, none⟩) (l.length + 1) cap) (l ++ [x]) ∧ w.grownBy w' o ∧ (o = some g ∨ g = w.heap.size) := by
  obtain ⟨i0, hi, hz0, hz1, hz2⟩ := info_parts infoRp
  have hnews : ∀ j u, ([.int .i64 x.1, .int .i64 x.2] : List Value)[j]? = some u → w.cell? ((⟨y, 0, none⟩ : Addr).add j) = some u := fun j v hv => by rw [Addr.add_lit, Nat.zero_add]; exact hy j v hv
  have hlen : (pwC l ++ [Value.int .i64 x.1, Value.int .i64 x.2]).length = (l.length + 1) * 2 := by rw [List.length_append, pwC_length]; simp; omega
  have hxs : pwC (l ++ [x]) = pwC l ++ [.int .i64 x.1, .int .i64 x.2] := by rw [pwC_app]; rfl
  have hll : (l ++ [x]).length = l.length + 1 := by simp
  have h63 : l.length + 1 ≤ maxLen := by unfold maxLen; omega
  have hfit := next_fits hl
  have grown : ∀ (old : Nat),
      (w.drew.alloc (.cells ((pwC l).toArray ++ ([.int .i64 x.1, .int .i64 x.2] : List Value).toArray ++ Builtin.zeroCells (Value.agg #[.int .i64 0, .int .i64 0]).cells (grownCap w (l.length + 1) old 53 - (l.length + 1))) 53)).ownsRow B 53 2
        (.slice (some ⟨w.heap.size, 0, none⟩) (l.length + 1) (grownCap w (l.length + 1) old 53)) (l.length + 1) (pwC l ++ [.int .i64 x.1, .int .i64 x.2]) ∧
      w.grownBy (w.drew.alloc (.cells ((pwC l).toArray ++ ([.int .i64 x.1, .int .i64 x.2] : List Value).toArray ++ Builtin.zeroCells (Value.agg #[.int .i64 0, .int .i64 0]).cells (grownCap w (l.length + 1) old 53 - (l.length + 1))) 53)) o := by
    intro old
    have hge := grownCap_ge w (l.length + 1) old 53
    have hcm : grownCap w (l.length + 1) old 53 ≤ maxLen := grownCap_le_maxLen w (l.length + 1) old 53 h63
    refine ⟨⟨hlen, .inr ⟨w.heap.size, _, _, rfl, hB, heap_alloc_new w.drew _, hge, hcm, ?_, ?_⟩⟩, ⟨rfl, rfl, rfl, by simp, fun k hk _ => Below.heap_alloc w.drew _ k hk⟩⟩
    · simp only [Array.size_append, List.size_toArray, size_zeroCells, pwC_length]
      simp only [Value.cells, List.size_toArray, List.length_cons, List.length_nil]
      omega
    · simp only [Array.toList_append, List.append_assoc]
      rw [← List.append_assoc, ← hlen]
      exact List.take_left
  have fin : ∀ (cap : Nat) (w' : World), w'.ownsRow B 53 2 (.slice (some ⟨w.heap.size, 0, none⟩) (l.length + 1) cap) (l.length + 1) (pwC l ++ [.int .i64 x.1, .int .i64 x.2]) → RR P B (some w.heap.size) w' (.slice (some ⟨w.heap.size, 0, none⟩) (l.length + 1) cap) (l ++ [x]) := fun cap w' ho => .inr ⟨_, cap, rfl, by rw [hll], by rw [hxs, hll]; exact ho⟩
  rcases h with ⟨e, ⟨A, rfl⟩, hr⟩ | ⟨g, cap, e, rfl, ho⟩
  · obtain ⟨A', C', e1, -, hn0, hc, hcl⟩ := hr.open (pwC_length _) (by decide)
    cases e1
    cases A with
    | none =>
      obtain ⟨h0, -⟩ := hn0 rfl
      obtain rfl : l = [] := List.length_eq_zero_iff.1 h0
      have hr2 := run_append_nil (P := Try.prog) w 24 24 53 i0 _ Try.underlying24 hi hz0 ⟨y, 0, none⟩ 1 1 [.int .i64 x.1, .int .i64 x.2] (by rw [hz1]; rfl) hnews (by omega) (by omega) (by rw [hz2]; omega)
      have hg := grown 0
      refine ⟨_, _, _, hr2, fin _ _ ?_, ?_, .inr rfl⟩
      · simpa [pwC] using hg.1
      · simpa [pwC] using hg.2
    | some a =>
      have hr2 := run_append_grow (P := Try.prog) w 24 24 53 i0 _ Try.underlying24 hi hz0 a l.length l.length (pwC l) (by rw [hz1, pwC_length]) (hcl a rfl) ⟨y, 0, none⟩ 1 1 [.int .i64 x.1, .int .i64 x.2] (by rw [hz1]; rfl) hnews (by omega) (by unfold maxLen at h63; omega) (by rw [hz2]; exact hfit)
      exact ⟨_, _, _, hr2, fin _ _ (grown l.length).1, (grown l.length).2, .inr rfl⟩
  · rcases ho.2 with ⟨hv, -⟩ | ⟨g', cap', cur, hv, hbg, hg, hnc, hcm, hcs, htake⟩
    · cases hv
    cases hv
    by_cases hroom : l.length + 1 ≤ cap
    · have hf : l.length * i0.size + ([.int .i64 x.1, .int .i64 x.2] : List Value).length ≤ cur.size := by rw [hz1, hcs]; simp; omega
      have hr2 := run_append_room (P := Try.prog) w 24 24 53 i0 Try.underlying24 hi g l.length cap cur hg ⟨y, 0, none⟩ 1 1 [.int .i64 x.1, .int .i64 x.2] (by rw [hz1]; rfl) hnews (fun u hu => by simp at hu; rcases hu with rfl | rfl <;> rfl) hroom hf
      refine ⟨_, _, _, hr2, .inr ⟨g, cap, rfl, by rw [hll], ?_⟩, ⟨rfl, rfl, rfl, by simp, fun k _ hk => setRow_other w g k _ (fun e' => hk (by rw [e, e']))⟩, .inl e⟩
      rw [hxs, hll]
      refine ⟨hlen, .inr ⟨g, cap, _, rfl, hbg, setRow_heap w g cur _ 53 _ hg, hroom, hcm, ?_, ?_⟩⟩
      · simp only [List.size_toArray, List.length_append, List.length_take, List.length_drop, Array.length_toList]
        rw [hz1]
        simp
        omega
      · rw [hz1, htake, ← hlen]
        exact List.take_left
    · have hceq : cap = l.length := by omega
      subst hceq
      have holds : ∀ j u, (pwC l)[j]? = some u → w.cell? ((⟨g, 0, none⟩ : Addr).add j) = some u := ho.cells (g := g) rfl
      have hr2 := run_append_grow (P := Try.prog) w 24 24 53 i0 _ Try.underlying24 hi hz0 ⟨g, 0, none⟩ l.length l.length (pwC l) (by rw [hz1, pwC_length]) holds ⟨y, 0, none⟩ 1 1 [.int .i64 x.1, .int .i64 x.2] (by rw [hz1]; rfl) hnews (by omega) (by unfold maxLen at h63; omega) (by rw [hz2]; exact hfit)
      exact ⟨_, _, _, hr2, fin _ _ (grown l.length).1, (grown l.length).2, .inr rfl⟩
theorem step_apT {P : Nat → Prop} {ops : Array Oper} {oo : Oper} {a : Act} {w : World} {K : Act → World → Prop} {Q : Exit → Act → World → Prop} {E : Prop} (hg : oo.guard = none) (hty : oo.type = 24) (p q : Operand)
    (hop : oo.op = Op.call { callee := Callee.builtin Builtin.append, args := #[p, q], argTypes := #[24, 24] }) {B : Nat} {o : Option Nat} {v : Value} {l : List (Int × Int)} (hs : a.eval p = v) (x : Int × Int) (y : Nat) (hx : a.eval q = .slice (some ⟨y, 0, none⟩) 1 1)
    (h : RR P B o w v l) (hB : B ≤ w.heap.size) (hl : l.length * 16 ≤ 168884986026393) (hy : ∀ j u, ([.int .i64 x.1, .int .i64 x.2] : List Value)[j]? = some u → w.cell? ⟨y, j, none⟩ = some u)
    (hK : ∀ g C w', RR P B (some g) w' (.slice (some ⟨g, 0, none⟩) (l.length + 1) C) (l ++ [x]) → w.grownBy w' o → (o = some g ∨ g = w.heap.size) → K (a.put oo.dst (.slice (some ⟨g, 0, none⟩) (l.length + 1) C)) w') :
    if Region.wanted oo (yielded ops a.tmps) = true then Oper.wp Try.prog oo a w K Q else E := by
  have hw : Region.wanted oo (yielded ops a.tmps) = true := by simp [Region.wanted, hg]
  rw [if_pos hw]
  unfold Oper.wp
  obtain ⟨g, C, w', hr, h1, h2, h3⟩ := ap_ripe h hB hl x y hy
  simp [execOp, hop, resolve, invoke, builtin, hs, hx, hty, hr, Result.andThen]
  exact hK _ _ _ h1 h2 h3
end Go.Proofs.Ytdkalcnlncjgiaa.Kc

