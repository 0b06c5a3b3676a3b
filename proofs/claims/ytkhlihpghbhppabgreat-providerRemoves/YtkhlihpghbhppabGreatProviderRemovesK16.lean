/- Parts of the proof: B C. -/
import Derived.Test.YtkhlihpghbhppabGreatRows
import Derived.Test.YtkhlihpghbhppabGreatProviderRemovesK52
import Derived.WalkKit
import Derived.Maps.AppendAt
import Derived.LoopN
import Derived.WalkSmall
set_option maxRecDepth 100000
namespace Go.Proofs.YtkhlihpghbhppabGreat
open Go.RowKit
/-- the function that points to a delegator's free tokens: its number lies in a block -/
def freeF (c : Nat) : Value := .func (.func 98) #[] #[.pointer (some ⟨c, 0, none⟩)]
def plist (c : Nat → Nat) (k : Nat) : List Value := [.func (.func 114) #[] #[], .func (.func 97) #[] #[], .func (.func 126) #[] #[]] ++ (List.range k).map (fun j => freeF (c j))
theorem plist_succ (c : Nat → Nat) (k X : Nat) : plist (fun j => if j = k then X else c j) (k + 1) = plist c k ++ [freeF X] := by
  unfold plist
  rw [List.range_succ, List.map_append, ← List.append_assoc]
  congr 2
  · apply List.map_congr_left
    intro j hj
    have : j ≠ k := by simp at hj; omega
    simp [this]
  · simp
/-- the numbers that the functions hold -/
def Caps (w : World) (B : Nat) (c : Nat → Nat) (k : Nat) : Prop := ∀ j, j < k → B ≤ c j ∧ w.heap[c j]? = some (.cells #[.int .i64 j] 3 (0, 0))
theorem caps_step {w w' : World} {B k : Nat} {c : Nat → Nat} {v : Value} {n : Nat} {xs : List Value} (hB : B ≤ w.heap.size) (h : Caps w B c k)
    (o : Obj) (ho : o = .cells #[.int .i64 (k : Int)] 3 (0, 0)) (p : Obj) (hown : w.ownsRow B 140 1 v n xs) (hg : ((w.alloc o).alloc p).grownBy w' v.ownBlock) :
    Caps w' B (fun j => if j = k then w.heap.size else c j) (k + 1) := by
  have key : ∀ b, b < ((w.alloc o).alloc p).heap.size → (∀ g, v.ownBlock = some g → g < w.heap.size ∧ ∃ cur, w.heap[g]? = some (.cells cur 140 (0, 0))) → ∀ x, ((w.alloc o).alloc p).heap[b]? = some (.cells x 3 (0, 0)) → w'.heap[b]? = some (.cells x 3 (0, 0)) := by
    intro b hb hv x hx
    rw [hg.block b hb ?_]
    · exact hx
    · intro e
      obtain ⟨hlt, cur, hc⟩ := hv b e.symm
      rw [Below.heap_alloc _ _ _ (by simp; omega), Below.heap_alloc _ _ _ hlt, hc] at hx
      simp at hx
  have hv : ∀ g, v.ownBlock = some g → g < w.heap.size ∧ ∃ cur, w.heap[g]? = some (.cells cur 140 (0, 0)) := by
    intro g hgv
    rcases hown.2 with ⟨e, _⟩ | ⟨g', cap, cur, e, _, hh, _⟩
    · subst e; simp [Value.ownBlock] at hgv
    · subst e
      simp [Value.ownBlock] at hgv
      subst hgv
      exact ⟨(Array.getElem?_eq_some_iff.1 hh).1, cur, hh⟩
  intro j hj
  by_cases e : j = k
  · subst e
    simp only [if_pos]
    refine ⟨hB, key _ (by simp; omega) hv _ ?_⟩
    rw [Below.heap_alloc _ _ _ (by simp)]
    subst ho
    exact heap_alloc_new _ _
  · simp only [if_neg e]
    obtain ⟨h1, h2⟩ := h j (by omega)
    have hlt := (Array.getElem?_eq_some_iff.1 h2).1
    refine ⟨h1, key _ (by simp; omega) hv _ ?_⟩
    rw [Below.heap_alloc _ _ _ (by simp; omega), Below.heap_alloc _ _ _ hlt]
    exact h2
theorem cell_one_new (w : World) (v : Value) (e : TypeId) : ∀ (j : Nat) (u : Value), [v][j]? = some u → (w.alloc (.cells #[v] e)).cell? ((⟨w.heap.size, 0, none⟩ : Addr).add j) = some u := by
  intro j u h
  match j, h with
  | 0, h => simp at h; subst h; simp [Addr.add]
theorem cell_two_new (w : World) (o : Obj) (v : Value) (e : TypeId) : ∀ (j : Nat) (u : Value), [v][j]? = some u → ((w.alloc o).alloc (.cells #[v] e)).cell? ((⟨w.heap.size + 1, 0, none⟩ : Addr).add j) = some u := by
  have := cell_one_new (w.alloc o) v e
  simpa using this
theorem places_any (w : World) : Calls Tryz.prog 88 #[] w fun e w' => ∃ v c, e = .returned v ∧ w'.ownsRow w.heap.size 140 1 v 7 (plist c 4) ∧ Caps w' w.heap.size c 4 ∧ Below w.heap.size w w' := by
  have hinfo : (Tryz.prog.info? 140).map (fun i => (i.zero, i.size, i.bytes)) = some (some .nilFunc, 1, 8) := by kernel_rfl
  obtain ⟨i0, hi, hz0, hz1, hz2⟩ : ∃ i, Tryz.prog.info? 140 = some i ∧ i.zero = some .nilFunc ∧ i.size = 1 ∧ i.bytes = 8 := by
    cases h : Tryz.prog.info? 140 with
    | none => rw [h] at hinfo; cases hinfo
    | some i => rw [h] at hinfo; simp at hinfo; exact ⟨i, rfl, hinfo.1, hinfo.2.1, hinfo.2.2⟩
  clear hinfo
  go_enter Tryz.func88, Tryz.ntmps88
  go_wp2_with (first
    | (go_at_call 91; refine (bonded_any _).mono ?_; rintro e w1 ⟨rfl, rfl⟩)
    | (go_at_call 79; refine (waiting_any _).mono ?_; rintro e w1 ⟨rfl, rfl⟩)
    | (go_at_call 111; refine (burnt_any _).mono ?_; rintro e w1 ⟨rfl, rfl⟩))
  go_loopw [1, 7] (fun u i wl => ∃ (k : Nat) (c : Nat → Nat), k ≤ 4 ∧ i = .int .i64 (k : Int) ∧ wl.ownsRow w.heap.size 140 1 u (3 + k) (plist c k) ∧ Hid (Caps wl w.heap.size c k ∧ Below w.heap.size w wl)) (fun _ i _ => (4 - intOf i).toNat)
  case atStart =>
    refine ⟨0, fun _ => 0, by omega, rfl, ?_, fun j hj => absurd hj (by omega), (Below.refl _ w).alloc (Nat.le_refl _) _⟩
    exact ⟨rfl, .inr ⟨_, 3, _, rfl, Nat.le_refl _, heap_alloc_new _ _, by omega, by unfold maxLen; omega, rfl, rfl⟩⟩
  case round =>
    obtain ⟨k, c, hk, rfl, hown, HC⟩ := hrel
    have hsz : w.heap.size ≤ wr.heap.size := HC.out.2.size
    by_cases hk4 : k < 4
    · go_wp2_with (first
        | (go_at_call 80; refine (freeOf_any _ _).mono ?_; rintro e w1 ⟨rfl, rfl⟩)
          | (at_builtin; refine wpList_append_own _ rfl _ _ 151 rfl w.heap.size 140 i0 .nilFunc 1 8 Tryz.underlying151 hi hz0 hz1 hz2 rfl (by decide) _ _ _ rfl (World.ownsRow.alloc (World.ownsRow.alloc hown _) _) ⟨wr.heap.size + 1, 0, none⟩ 1 1 [.func (.func 98) #[] #[.pointer (some ⟨wr.heap.size, 0, none⟩)]] rfl rfl (cell_two_new _ _ _ _) (by intro u hu; simp at hu; subst hu; rfl) (by unfold maxLen; omega) (by omega) (by simp; omega) ?_; intro v' w1 hown' hgrow _))
      go_roundw
      case rel =>
        have hg : ((wr.alloc (Obj.cells #[Value.int IntKind.i64 ↑k] 3)).alloc (Obj.cells #[Value.func (Fn.func 98) #[] #[Value.pointer (some ⟨wr.heap.size, 0, none⟩)]] 140)).grownBy w1 u1.ownBlock := hgrow
        refine ⟨k + 1, fun j => if j = k then wr.heap.size else c j, by omega, by go_num, ?_, caps_step hsz HC.out.1 _ rfl _ hown hg, ?_⟩
        · rw [plist_succ]; exact hown'
        · refine ((HC.out.2.alloc hsz _).alloc (by simp; omega) _).grown hg (by simp; omega) ?_
          intro b hb
          rcases hown.2 with ⟨e, _⟩ | ⟨g', cap, cur, e, hB, _⟩
          · subst e; simp [Value.ownBlock] at hb
          · subst e
            simp [Value.ownBlock] at hb
            omega
      case measure => simp [intOf]; omega
    · obtain rfl : k = 4 := by omega
      go_wp2
      go_ret
      exact ⟨_, c, rfl, hown, HC.out⟩
/-- the seven places lie in a row, each as a function that points to its field -/
structure PL (w : World) (B g c0 c1 c2 c3 : Nat) : Prop where
  p0 : w.cell? ⟨g, 0, none⟩ = some (.func (.func 114) #[] #[])
  p1 : w.cell? ⟨g, 1, none⟩ = some (.func (.func 97) #[] #[])
  p2 : w.cell? ⟨g, 2, none⟩ = some (.func (.func 126) #[] #[])
  p3 : w.cell? ⟨g, 3, none⟩ = some (.func (.func 98) #[] #[.pointer (some ⟨c0, 0, none⟩)])
  p4 : w.cell? ⟨g, 4, none⟩ = some (.func (.func 98) #[] #[.pointer (some ⟨c1, 0, none⟩)])
  p5 : w.cell? ⟨g, 5, none⟩ = some (.func (.func 98) #[] #[.pointer (some ⟨c2, 0, none⟩)])
  p6 : w.cell? ⟨g, 6, none⟩ = some (.func (.func 98) #[] #[.pointer (some ⟨c3, 0, none⟩)])
  q0 : w.cell? ⟨c0, 0, none⟩ = some (.int .i64 0)
  q1 : w.cell? ⟨c1, 0, none⟩ = some (.int .i64 1)
  q2 : w.cell? ⟨c2, 0, none⟩ = some (.int .i64 2)
  q3 : w.cell? ⟨c3, 0, none⟩ = some (.int .i64 3)
  bg : B ≤ g
  b0 : B ≤ c0
  b1 : B ≤ c1
  b2 : B ≤ c2
  b3 : B ≤ c3
theorem PL.later {w w' : World} {B g c0 c1 c2 c3 : Nat} (h : PL w B g c0 c1 c2 c3) (hb : ∀ k, B ≤ k → w'.heap[k]? = w.heap[k]?) : PL w' B g c0 c1 c2 c3 := by
  have k : ∀ (b o : Nat), B ≤ b → w'.cell? ⟨b, o, none⟩ = w.cell? ⟨b, o, none⟩ := fun b o hB => World.cell?_of_block (w := w) (hb b hB)
  exact ⟨(k _ _ h.bg).trans h.p0, (k _ _ h.bg).trans h.p1, (k _ _ h.bg).trans h.p2, (k _ _ h.bg).trans h.p3, (k _ _ h.bg).trans h.p4, (k _ _ h.bg).trans h.p5, (k _ _ h.bg).trans h.p6,
    (k _ _ h.b0).trans h.q0, (k _ _ h.b1).trans h.q1, (k _ _ h.b2).trans h.q2, (k _ _ h.b3).trans h.q3, h.bg, h.b0, h.b1, h.b2, h.b3⟩
theorem places_row (w : World) : Calls Tryz.prog 88 #[] w fun e w' => ∃ g cap c0 c1 c2 c3, e = .returned (.slice (some ⟨g, 0, none⟩) 7 cap) ∧ PL w' w.heap.size g c0 c1 c2 c3 ∧ Below w.heap.size w w' := by
  refine (places_any w).mono ?_
  rintro e w' ⟨v, c, rfl, hown, hc, hb⟩
  rcases hown.2 with ⟨_, h⟩ | ⟨g, cap, cur, rfl, hB, hh, _, _, _, ht⟩
  · exact absurd h (by decide)
  · have hcell : ∀ i u, (plist c 4)[i]? = some u → w'.cell? ⟨g, i, none⟩ = some u := by
      intro i u hu
      rw [← ht, List.getElem?_take] at hu
      split at hu
      · simp [World.cell?, hh]
        simpa using hu
      · cases hu
    have hq : ∀ j : Nat, j < 4 → w'.cell? ⟨c j, 0, none⟩ = some (.int .i64 j) := by
      intro j hj
      simp [World.cell?, (hc j hj).2]
    exact ⟨g, cap, c 0, c 1, c 2, c 3, rfl, ⟨hcell 0 _ rfl, hcell 1 _ rfl, hcell 2 _ rfl, hcell 3 _ rfl, hcell 4 _ rfl, hcell 5 _ rfl, hcell 6 _ rfl, hq 0 (by decide), hq 1 (by decide), hq 2 (by decide), hq 3 (by decide), hB, (hc 0 (by decide)).1, (hc 1 (by decide)).1, (hc 2 (by decide)).1, (hc 3 (by decide)).1⟩, hb⟩
end Go.Proofs.YtkhlihpghbhppabGreat

set_option maxRecDepth 100000
namespace Go.Proofs.YtkhlihpghbhppabGreat
open Go.RowKit
theorem free1_at (b c : Nat) (d : Int) (w : World) (hc : w.cell? ⟨c, 0, none⟩ = some (.int .i64 d)) (h0 : 0 ≤ d) (h1 : d < 4) :
    Calls Tryz.prog 98 #[.pointer (some ⟨b, 0, none⟩), .pointer (some ⟨c, 0, none⟩)] w fun e w' => e = .returned (.pointer (some ⟨b, d.toNat, none⟩)) ∧ ∃ nq, w' = w.drewN nq := free1_any b c d w h0 h1 hc
set_option maxHeartbeats 1000000 in
theorem sum_walk (f0 f1 f2 f3 bo wa bu s1 s2 s3 s4 s5 s6 s7 : Int) (w : World) (e1 : wrap64 bo = s1) (e2 : wrap64 (s1 + wa) = s2) (e3 : wrap64 (s2 + bu) = s3) (e4 : wrap64 (s3 + f0) = s4) (e5 : wrap64 (s4 + f1) = s5) (e6 : wrap64 (s5 + f2) = s6) (e7 : wrap64 (s6 + f3) = s7) :
    Calls Tryz.prog 63 #[.agg #[.int .i64 f0, .int .i64 f1, .int .i64 f2, .int .i64 f3, .int .i64 bo, .int .i64 wa, .int .i64 bu]] w
    fun e w' => e = .returned (.int .i64 s7) ∧ Below w.heap.size w w' := by
  go_enter Tryz.func63, Tryz.ntmps63
  go_wp2_with fail
  refine (places_row _).mono ?_
  rintro e w1 ⟨g, cap, c0, c1, c2, c3, rfl, P, hb⟩
  obtain ⟨p0, p1, p2, p3, p4, p5, p6, q0, q1, q2, q3, t0, t1, t2, t3, t4⟩ := P
  clear t0 t1 t2 t3 t4
  have hbox : ∀ o, w1.cell? ⟨w.heap.size, o, none⟩ = (w.alloc (.cells #[.int .i64 f0, .int .i64 f1, .int .i64 f2, .int .i64 f3, .int .i64 bo, .int .i64 wa, .int .i64 bu] 24)).cell? ⟨w.heap.size, o, none⟩ := fun o => hb.cell (by simp)
  have x0 : w1.cell? ⟨w.heap.size, 0, none⟩ = some (.int .i64 f0) := by rw [hbox]; simp
  have x1 : w1.cell? ⟨w.heap.size, 1, none⟩ = some (.int .i64 f1) := by rw [hbox]; simp
  have x2 : w1.cell? ⟨w.heap.size, 2, none⟩ = some (.int .i64 f2) := by rw [hbox]; simp
  have x3 : w1.cell? ⟨w.heap.size, 3, none⟩ = some (.int .i64 f3) := by rw [hbox]; simp
  have x4 : w1.cell? ⟨w.heap.size, 4, none⟩ = some (.int .i64 bo) := by rw [hbox]; simp
  have x5 : w1.cell? ⟨w.heap.size, 5, none⟩ = some (.int .i64 wa) := by rw [hbox]; simp
  have x6 : w1.cell? ⟨w.heap.size, 6, none⟩ = some (.int .i64 bu) := by rw [hbox]; simp
  have HB : Hid (Below w.heap.size w w1) := ((Below.refl _ w).alloc (Nat.le_refl _) _).trans (hb.mono (by simp))
  clear hbox hb
  go_wp2
  refine wp_loop_rounds 8 ?_
  iterate 8 (try (rw [rounds_succ]; go_wp2_with (first
    | (go_at_call 114; refine (bonded1_any _ _).mono ?_; rintro e w2 ⟨rfl, rfl⟩)
    | (go_at_call 97; refine (waiting1_any _ _).mono ?_; rintro e w2 ⟨rfl, rfl⟩)
    | (go_at_call 126; refine (burnt1_any _ _).mono ?_; rintro e w2 ⟨rfl, rfl⟩)
    | (go_at_call 98; refine (free1_at _ _ _ _ (by first | exact q0 | exact q1 | exact q2 | exact q3) (by decide) (by decide)).mono ?_; rintro e w2 ⟨rfl, nq, rfl⟩))))
  go_ret
  subst e7
  exact ⟨rfl, below_drewN HB.out _⟩
theorem wrap_add (a b : Int) : wrap64 (wrap64 a + b) = wrap64 (a + b) := by
  unfold wrap64
  omega
theorem sum_any (f0 f1 f2 f3 bo wa bu : Int) (w : World) : Calls Tryz.prog 63 #[.agg #[.int .i64 f0, .int .i64 f1, .int .i64 f2, .int .i64 f3, .int .i64 bo, .int .i64 wa, .int .i64 bu]] w
    fun e w' => e = .returned (.int .i64 (wrap64 (f0 + f1 + f2 + f3 + bo + wa + bu))) ∧ Below w.heap.size w w' := by
  refine (sum_walk f0 f1 f2 f3 bo wa bu _ _ _ _ _ _ _ w rfl rfl rfl rfl rfl rfl rfl).mono ?_
  rintro e w' ⟨rfl, h⟩
  refine ⟨?_, h⟩
  simp only [wrap_add]
  rw [show bo + wa + bu + f0 + f1 + f2 + f3 = f0 + f1 + f2 + f3 + bo + wa + bu by omega]
end Go.Proofs.YtkhlihpghbhppabGreat

