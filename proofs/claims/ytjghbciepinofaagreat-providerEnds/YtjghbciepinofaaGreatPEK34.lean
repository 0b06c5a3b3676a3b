/- Parts of the proof: B C D SM2. -/
import Derived.Test.YtjghbciepinofaaGreatRows
import Derived.Test.YtjghbciepinofaaGreatPEK22
import Derived.Test.YtjghbciepinofaaGreatPEK28
import Derived.WalkKit
import Derived.Maps.AppendAt
import Derived.LoopN
import Derived.WalkSmall
set_option maxRecDepth 100000
namespace Go.Proofs.YtjghbciepinofaaGreat
open Go.RowKit
/-- the function that points to a delegator's free tokens: its number lies in a block -/
def freeF (c : Nat) : Value := .func (.func 125) #[] #[.pointer (some ⟨c, 0, none⟩)]
def plist (c : Nat → Nat) (k : Nat) : List Value := [.func (.func 122) #[] #[], .func (.func 123) #[] #[], .func (.func 124) #[] #[]] ++ (List.range k).map (fun j => freeF (c j))
theorem plist_succ (c : Nat → Nat) (k X : Nat) : plist (fun j => if j = k then X else c j) (k + 1) = plist c k ++ [freeF X] := by
  unfold plist
  rw [List.range_succ, List.map_append, ← List.append_assoc]
  congr 2
  · apply List.map_congr_left
    intro j hj
    have : j ≠ k := by simp at hj; omega
    simp [this]
  · simp
/-- the numbers that the functions hold -/
def Caps (w : World) (B : Nat) (c : Nat → Nat) (k : Nat) : Prop := ∀ j, j < k → B ≤ c j ∧ w.heap[c j]? = some (.cells #[.int .i64 j] 3 (0, 0))
theorem caps_step {w w' : World} {B k : Nat} {c : Nat → Nat} {v : Value} {n : Nat} {xs : List Value} (hB : B ≤ w.heap.size) (h : Caps w B c k)
    (o : Obj) (ho : o = .cells #[.int .i64 (k : Int)] 3 (0, 0)) (p : Obj) (hown : w.ownsRow B 96 1 v n xs) (hg : ((w.alloc o).alloc p).grownBy w' v.ownBlock) :
    Caps w' B (fun j => if j = k then w.heap.size else c j) (k + 1) := by
  have key : ∀ b, b < ((w.alloc o).alloc p).heap.size → (∀ g, v.ownBlock = some g → g < w.heap.size ∧ ∃ cur, w.heap[g]? = some (.cells cur 96 (0, 0))) → ∀ x, ((w.alloc o).alloc p).heap[b]? = some (.cells x 3 (0, 0)) → w'.heap[b]? = some (.cells x 3 (0, 0)) := by
    intro b hb hv x hx
    rw [hg.block b hb ?_]
    · exact hx
    · intro e
      obtain ⟨hlt, cur, hc⟩ := hv b e.symm
      rw [Below.heap_alloc _ _ _ (by simp; omega), Below.heap_alloc _ _ _ hlt, hc] at hx
      simp at hx
  have hv : ∀ g, v.ownBlock = some g → g < w.heap.size ∧ ∃ cur, w.heap[g]? = some (.cells cur 96 (0, 0)) := by
    intro g hgv
    rcases hown.2 with ⟨e, _⟩ | ⟨g', cap, cur, e, _, hh, _⟩
    · subst e; simp [Value.ownBlock] at hgv
    · subst e
      simp [Value.ownBlock] at hgv
      subst hgv
      exact ⟨(Array.getElem?_eq_some_iff.1 hh).1, cur, hh⟩
  intro j hj
  by_cases e : j = k
  · subst e
    simp only [if_pos]
    refine ⟨hB, key _ (by simp; omega) hv _ ?_⟩
    rw [Below.heap_alloc _ _ _ (by simp)]
    subst ho
    exact heap_alloc_new _ _
  · simp only [if_neg e]
    obtain ⟨h1, h2⟩ := h j (by omega)
    have hlt := (Array.getElem?_eq_some_iff.1 h2).1
    refine ⟨h1, key _ (by simp; omega) hv _ ?_⟩
    rw [Below.heap_alloc _ _ _ (by simp; omega), Below.heap_alloc _ _ _ hlt]
    exact h2
theorem cell_one_new (w : World) (v : Value) (e : TypeId) : ∀ (j : Nat) (u : Value), [v][j]? = some u → (w.alloc (.cells #[v] e)).cell? ((⟨w.heap.size, 0, none⟩ : Addr).add j) = some u := by
  intro j u h
  match j, h with
  | 0, h => simp at h; subst h; simp [Addr.add]
theorem cell_two_new (w : World) (o : Obj) (v : Value) (e : TypeId) : ∀ (j : Nat) (u : Value), [v][j]? = some u → ((w.alloc o).alloc (.cells #[v] e)).cell? ((⟨w.heap.size + 1, 0, none⟩ : Addr).add j) = some u := by
  have := cell_one_new (w.alloc o) v e
  simpa using this
theorem places_any (w : World) : Calls Tryz.prog 36 #[] w fun e w' => ∃ v c, e = .returned v ∧ w'.ownsRow w.heap.size 96 1 v 7 (plist c 4) ∧ Caps w' w.heap.size c 4 ∧ Below w.heap.size w w' := by
  have hinfo : (Tryz.prog.info? 96).map (fun i => (i.zero, i.size, i.bytes)) = some (some .nilFunc, 1, 8) := by kernel_rfl
  obtain ⟨i0, hi, hz0, hz1, hz2⟩ : ∃ i, Tryz.prog.info? 96 = some i ∧ i.zero = some .nilFunc ∧ i.size = 1 ∧ i.bytes = 8 := by
    cases h : Tryz.prog.info? 96 with
    | none => rw [h] at hinfo; cases hinfo
    | some i => rw [h] at hinfo; simp at hinfo; exact ⟨i, rfl, hinfo.1, hinfo.2.1, hinfo.2.2⟩
  clear hinfo
  go_enter Tryz.func36, Tryz.ntmps36
  go_wp2_with (first
    | (go_at_call 82; refine (bonded_any _).mono ?_; rintro e w1 ⟨rfl, rfl⟩)
    | (go_at_call 83; refine (waiting_any _).mono ?_; rintro e w1 ⟨rfl, rfl⟩)
    | (go_at_call 84; refine (burnt_any _).mono ?_; rintro e w1 ⟨rfl, rfl⟩))
  go_loopw [1, 7] (fun u i wl => ∃ (k : Nat) (c : Nat → Nat), k ≤ 4 ∧ i = .int .i64 (k : Int) ∧ wl.ownsRow w.heap.size 96 1 u (3 + k) (plist c k) ∧ Hid (Caps wl w.heap.size c k ∧ Below w.heap.size w wl)) (fun _ i _ => (4 - intOf i).toNat)
  case atStart =>
    refine ⟨0, fun _ => 0, by omega, rfl, ?_, fun j hj => absurd hj (by omega), (Below.refl _ w).alloc (Nat.le_refl _) _⟩
    exact ⟨rfl, .inr ⟨_, 3, _, rfl, Nat.le_refl _, heap_alloc_new _ _, by omega, by unfold maxLen; omega, rfl, rfl⟩⟩
  case round =>
    obtain ⟨k, c, hk, rfl, hown, HC⟩ := hrel
    have hsz : w.heap.size ≤ wr.heap.size := HC.out.2.size
    by_cases hk4 : k < 4
    · go_wp2_with (first
        | (go_at_call 85; refine (freeOf_any _ _).mono ?_; rintro e w1 ⟨rfl, rfl⟩)
          | (at_builtin; refine wpList_append_own _ rfl _ _ 93 rfl w.heap.size 96 i0 .nilFunc 1 8 Tryz.underlying93 hi hz0 hz1 hz2 rfl (by decide) _ _ _ rfl (World.ownsRow.alloc (World.ownsRow.alloc hown _) _) ⟨wr.heap.size + 1, 0, none⟩ 1 1 [.func (.func 125) #[] #[.pointer (some ⟨wr.heap.size, 0, none⟩)]] rfl rfl (cell_two_new _ _ _ _) (by intro u hu; simp at hu; subst hu; rfl) (by unfold maxLen; omega) (by omega) (by simp; omega) ?_; intro v' w1 hown' hgrow _))
      go_roundw
      case rel =>
        have hg : ((wr.alloc (Obj.cells #[Value.int IntKind.i64 ↑k] 3)).alloc (Obj.cells #[Value.func (Fn.func 125) #[] #[Value.pointer (some ⟨wr.heap.size, 0, none⟩)]] 96)).grownBy w1 u1.ownBlock := hgrow
        refine ⟨k + 1, fun j => if j = k then wr.heap.size else c j, by omega, by go_num, ?_, caps_step hsz HC.out.1 _ rfl _ hown hg, ?_⟩
        · rw [plist_succ]; exact hown'
        · refine ((HC.out.2.alloc hsz _).alloc (by simp; omega) _).grown hg (by simp; omega) ?_
          intro b hb
          rcases hown.2 with ⟨e, _⟩ | ⟨g', cap, cur, e, hB, _⟩
          · subst e; simp [Value.ownBlock] at hb
          · subst e
            simp [Value.ownBlock] at hb
            omega
      case measure => simp [intOf]; omega
    · obtain rfl : k = 4 := by omega
      go_wp2
      go_ret
      exact ⟨_, c, rfl, hown, HC.out⟩
/-- the seven places lie in a row, each as a function that points to its field -/
structure PL (w : World) (B g c0 c1 c2 c3 : Nat) : Prop where
  p0 : w.cell? ⟨g, 0, none⟩ = some (.func (.func 122) #[] #[])
  p1 : w.cell? ⟨g, 1, none⟩ = some (.func (.func 123) #[] #[])
  p2 : w.cell? ⟨g, 2, none⟩ = some (.func (.func 124) #[] #[])
  p3 : w.cell? ⟨g, 3, none⟩ = some (.func (.func 125) #[] #[.pointer (some ⟨c0, 0, none⟩)])
  p4 : w.cell? ⟨g, 4, none⟩ = some (.func (.func 125) #[] #[.pointer (some ⟨c1, 0, none⟩)])
  p5 : w.cell? ⟨g, 5, none⟩ = some (.func (.func 125) #[] #[.pointer (some ⟨c2, 0, none⟩)])
  p6 : w.cell? ⟨g, 6, none⟩ = some (.func (.func 125) #[] #[.pointer (some ⟨c3, 0, none⟩)])
  q0 : w.cell? ⟨c0, 0, none⟩ = some (.int .i64 0)
  q1 : w.cell? ⟨c1, 0, none⟩ = some (.int .i64 1)
  q2 : w.cell? ⟨c2, 0, none⟩ = some (.int .i64 2)
  q3 : w.cell? ⟨c3, 0, none⟩ = some (.int .i64 3)
  bg : B ≤ g
  b0 : B ≤ c0
  b1 : B ≤ c1
  b2 : B ≤ c2
  b3 : B ≤ c3
theorem PL.later {w w' : World} {B g c0 c1 c2 c3 : Nat} (h : PL w B g c0 c1 c2 c3) (hb : ∀ k, B ≤ k → w'.heap[k]? = w.heap[k]?) : PL w' B g c0 c1 c2 c3 := by
  have k : ∀ (b o : Nat), B ≤ b → w'.cell? ⟨b, o, none⟩ = w.cell? ⟨b, o, none⟩ := fun b o hB => World.cell?_of_block (w := w) (hb b hB)
  exact ⟨(k _ _ h.bg).trans h.p0, (k _ _ h.bg).trans h.p1, (k _ _ h.bg).trans h.p2, (k _ _ h.bg).trans h.p3, (k _ _ h.bg).trans h.p4, (k _ _ h.bg).trans h.p5, (k _ _ h.bg).trans h.p6,
    (k _ _ h.b0).trans h.q0, (k _ _ h.b1).trans h.q1, (k _ _ h.b2).trans h.q2, (k _ _ h.b3).trans h.q3, h.bg, h.b0, h.b1, h.b2, h.b3⟩
theorem places_row (w : World) : Calls Tryz.prog 36 #[] w fun e w' => ∃ g cap c0 c1 c2 c3, e = .returned (.slice (some ⟨g, 0, none⟩) 7 cap) ∧ PL w' w.heap.size g c0 c1 c2 c3 ∧ Below w.heap.size w w' := by
  refine (places_any w).mono ?_
  rintro e w' ⟨v, c, rfl, hown, hc, hb⟩
  rcases hown.2 with ⟨_, h⟩ | ⟨g, cap, cur, rfl, hB, hh, _, _, _, ht⟩
  · exact absurd h (by decide)
  · have hcell : ∀ i u, (plist c 4)[i]? = some u → w'.cell? ⟨g, i, none⟩ = some u := by
      intro i u hu
      rw [← ht, List.getElem?_take] at hu
      split at hu
      · simp [World.cell?, hh]
        simpa using hu
      · cases hu
    have hq : ∀ j : Nat, j < 4 → w'.cell? ⟨c j, 0, none⟩ = some (.int .i64 j) := by
      intro j hj
      simp [World.cell?, (hc j hj).2]
    exact ⟨g, cap, c 0, c 1, c 2, c 3, rfl, ⟨hcell 0 _ rfl, hcell 1 _ rfl, hcell 2 _ rfl, hcell 3 _ rfl, hcell 4 _ rfl, hcell 5 _ rfl, hcell 6 _ rfl, hq 0 (by decide), hq 1 (by decide), hq 2 (by decide), hq 3 (by decide), hB, (hc 0 (by decide)).1, (hc 1 (by decide)).1, (hc 2 (by decide)).1, (hc 3 (by decide)).1⟩, hb⟩
end Go.Proofs.YtjghbciepinofaaGreat

set_option maxRecDepth 100000
namespace Go.Proofs.YtjghbciepinofaaGreat
open Go.RowKit
theorem free1_at (b c : Nat) (d : Int) (w : World) (hc : w.cell? ⟨c, 0, none⟩ = some (.int .i64 d)) (h0 : 0 ≤ d) (h1 : d < 4) :
    Calls Tryz.prog 125 #[.pointer (some ⟨b, 0, none⟩), .pointer (some ⟨c, 0, none⟩)] w fun e w' => e = .returned (.pointer (some ⟨b, d.toNat, none⟩)) ∧ ∃ nq, w' = w.drewN nq := free1_any b c d w h0 h1 hc
set_option maxHeartbeats 1000000 in
theorem sum_walk (f0 f1 f2 f3 bo wa bu s1 s2 s3 s4 s5 s6 s7 : Int) (w : World) (e1 : wrap64 bo = s1) (e2 : wrap64 (s1 + wa) = s2) (e3 : wrap64 (s2 + bu) = s3) (e4 : wrap64 (s3 + f0) = s4) (e5 : wrap64 (s4 + f1) = s5) (e6 : wrap64 (s5 + f2) = s6) (e7 : wrap64 (s6 + f3) = s7) :
    Calls Tryz.prog 11 #[.agg #[.int .i64 f0, .int .i64 f1, .int .i64 f2, .int .i64 f3, .int .i64 bo, .int .i64 wa, .int .i64 bu]] w
    fun e w' => e = .returned (.int .i64 s7) ∧ Below w.heap.size w w' := by
  go_enter Tryz.func11, Tryz.ntmps11
  go_wp2_with fail
  refine (places_row _).mono ?_
  rintro e w1 ⟨g, cap, c0, c1, c2, c3, rfl, P, hb⟩
  obtain ⟨p0, p1, p2, p3, p4, p5, p6, q0, q1, q2, q3, t0, t1, t2, t3, t4⟩ := P
  clear t0 t1 t2 t3 t4
  have hbox : ∀ o, w1.cell? ⟨w.heap.size, o, none⟩ = (w.alloc (.cells #[.int .i64 f0, .int .i64 f1, .int .i64 f2, .int .i64 f3, .int .i64 bo, .int .i64 wa, .int .i64 bu] 24)).cell? ⟨w.heap.size, o, none⟩ := fun o => hb.cell (by simp)
  have x0 : w1.cell? ⟨w.heap.size, 0, none⟩ = some (.int .i64 f0) := by rw [hbox]; simp
  have x1 : w1.cell? ⟨w.heap.size, 1, none⟩ = some (.int .i64 f1) := by rw [hbox]; simp
  have x2 : w1.cell? ⟨w.heap.size, 2, none⟩ = some (.int .i64 f2) := by rw [hbox]; simp
  have x3 : w1.cell? ⟨w.heap.size, 3, none⟩ = some (.int .i64 f3) := by rw [hbox]; simp
  have x4 : w1.cell? ⟨w.heap.size, 4, none⟩ = some (.int .i64 bo) := by rw [hbox]; simp
  have x5 : w1.cell? ⟨w.heap.size, 5, none⟩ = some (.int .i64 wa) := by rw [hbox]; simp
  have x6 : w1.cell? ⟨w.heap.size, 6, none⟩ = some (.int .i64 bu) := by rw [hbox]; simp
  have HB : Hid (Below w.heap.size w w1) := ((Below.refl _ w).alloc (Nat.le_refl _) _).trans (hb.mono (by simp))
  clear hbox hb
  go_wp2
  refine wp_loop_rounds 8 ?_
  iterate 8 (try (rw [rounds_succ]; go_wp2_with (first
    | (go_at_call 122; refine (bonded1_any _ _).mono ?_; rintro e w2 ⟨rfl, rfl⟩)
    | (go_at_call 123; refine (waiting1_any _ _).mono ?_; rintro e w2 ⟨rfl, rfl⟩)
    | (go_at_call 124; refine (burnt1_any _ _).mono ?_; rintro e w2 ⟨rfl, rfl⟩)
    | (go_at_call 125; refine (free1_at _ _ _ _ (by first | exact q0 | exact q1 | exact q2 | exact q3) (by decide) (by decide)).mono ?_; rintro e w2 ⟨rfl, nq, rfl⟩))))
  go_ret
  subst e7
  exact ⟨rfl, below_drewN HB.out _⟩
theorem wrap_add (a b : Int) : wrap64 (wrap64 a + b) = wrap64 (a + b) := by
  unfold wrap64
  omega
theorem sum_any (f0 f1 f2 f3 bo wa bu : Int) (w : World) : Calls Tryz.prog 11 #[.agg #[.int .i64 f0, .int .i64 f1, .int .i64 f2, .int .i64 f3, .int .i64 bo, .int .i64 wa, .int .i64 bu]] w
    fun e w' => e = .returned (.int .i64 (wrap64 (f0 + f1 + f2 + f3 + bo + wa + bu))) ∧ Below w.heap.size w w' := by
  refine (sum_walk f0 f1 f2 f3 bo wa bu _ _ _ _ _ _ _ w rfl rfl rfl rfl rfl rfl rfl).mono ?_
  rintro e w' ⟨rfl, h⟩
  refine ⟨?_, h⟩
  simp only [wrap_add]
  rw [show bo + wa + bu + f0 + f1 + f2 + f3 = f0 + f1 + f2 + f3 + bo + wa + bu by omega]
end Go.Proofs.YtjghbciepinofaaGreat

set_option maxRecDepth 100000
namespace Go.Proofs.YtjghbciepinofaaGreat
open Go.RowKit
def cl (n : Int) : Int := min (max n 0) 400000
theorem cl_cases (n : Int) : (n < 0 ∧ cl n = 0) ∨ (0 ≤ n ∧ 400000 < n ∧ cl n = 400000) ∨ (0 ≤ n ∧ n ≤ 400000 ∧ cl n = n) := by
  unfold cl
  omega
/-- how far the numbers are brought to their bounds, behind k rounds -/
def Mid (w : World) (b k : Nat) (f0 f1 f2 f3 bo wa bu : Int) : Prop :=
  BAt w b (if 3 < k then cl f0 else f0) (if 4 < k then cl f1 else f1) (if 5 < k then cl f2 else f2) (if 6 < k then cl f3 else f3) (if 0 < k then cl bo else bo) (if 1 < k then cl wa else wa) (if 2 < k then cl bu else bu)
set_option maxHeartbeats 2000000 in
theorem clamped_any (f0 f1 f2 f3 bo wa bu : Int) (w : World) :
    Calls Tryz.prog 119 #[.agg #[.int .i64 f0, .int .i64 f1, .int .i64 f2, .int .i64 f3, .int .i64 bo, .int .i64 wa, .int .i64 bu]] w
    fun e w' => e = .returned (.agg #[.int .i64 (cl f0), .int .i64 (cl f1), .int .i64 (cl f2), .int .i64 (cl f3), .int .i64 (cl bo), .int .i64 (cl wa), .int .i64 (cl bu)]) ∧ Below w.heap.size w w' := by
  go_enter Tryz.func119, Tryz.ntmps119
  go_wp2_with fail
  refine (places_row _).mono ?_
  rintro e w1 ⟨g, cap, c0, c1, c2, c3, rfl, P, hb⟩
  have B1 := ((BAt.new w f0 f1 f2 f3 bo wa bu).alloc (.cells #[.int .i64 0, .int .i64 0, .int .i64 0, .int .i64 0, .int .i64 0, .int .i64 0, .int .i64 0] 24)).later hb (by simp; omega)
  have R1 : BAt w1 (w.heap.size + 1) 0 0 0 0 0 0 0 := by
    have := (BAt.new (w.alloc (.cells #[.int .i64 f0, .int .i64 f1, .int .i64 f2, .int .i64 f3, .int .i64 bo, .int .i64 wa, .int .i64 bu] 24)) 0 0 0 0 0 0 0).later hb (by simp)
    simpa using this
  have HB : Hid (Below w.heap.size w w1) := (((Below.refl _ w).alloc (Nat.le_refl _) _).alloc (by simp) _).trans (hb.mono (by simp; omega))
  have P' : PL w1 (w.heap.size + 2) g c0 c1 c2 c3 := by simpa using P
  clear P hb
  go_wp2
  go_loopw [8] (fun i wl => ∃ (k : Nat), k ≤ 7 ∧ i = .int .i64 (k : Int) ∧ Mid wl w.heap.size k f0 f1 f2 f3 bo wa bu ∧ PL wl (w.heap.size + 2) g c0 c1 c2 c3 ∧ BAt wl (w.heap.size + 1) 0 0 0 0 0 0 0 ∧ Hid (Below w.heap.size w wl)) (fun i _ => (7 - intOf i).toNat)
  case atStart => exact ⟨0, by omega, rfl, B1, P', R1, HB⟩
  case round =>
    clear B1 R1 HB P'
    obtain ⟨k, hk, rfl, M, P, R, HB⟩ := hrel
    rcases (show k = 0 ∨ k = 1 ∨ k = 2 ∨ k = 3 ∨ k = 4 ∨ k = 5 ∨ k = 6 ∨ k = 7 by omega) with rfl | rfl | rfl | rfl | rfl | rfl | rfl | rfl
    · have M0 : BAt wr w.heap.size f0 f1 f2 f3 bo wa bu := M
      have x := M0.cells.2.2.2.2.1
      have y := M0.frees.2.2.2.2.1
      have p := P.p0
      have HM : Hid (Mid (wr.setCell ⟨w.heap.size, 4, none⟩ (.int .i64 (cl bo))) w.heap.size 1 f0 f1 f2 f3 bo wa bu ∧ PL (wr.setCell ⟨w.heap.size, 4, none⟩ (.int .i64 (cl bo))) (w.heap.size + 2) g c0 c1 c2 c3 ∧ BAt (wr.setCell ⟨w.heap.size, 4, none⟩ (.int .i64 (cl bo))) (w.heap.size + 1) 0 0 0 0 0 0 0 ∧ Below w.heap.size w (wr.setCell ⟨w.heap.size, 4, none⟩ (.int .i64 (cl bo)))) :=
        ⟨M0.set_4 _, P.later (fun k hk => Below.heap_setCell _ _ _ _ (by simp; omega)), R.other (by omega) _, HB.out.setCell (by simp) _⟩
      clear M M0 P R
      rcases cl_cases bo with ⟨h1, e1⟩ | ⟨h1, h2, e1⟩ | ⟨h1, h2, e1⟩
      all_goals
        rw [e1] at HM
        clear e1
        go_wp2_with (go_at_call 122; refine (bonded1_any _ _).mono ?_; rintro e w2 ⟨rfl, rfl⟩)
        go_roundw
        case rel => exact ⟨1, by omega, by go_num, HM.out.1, HM.out.2.1.later (fun _ _ => rfl), HM.out.2.2.1, HM.out.2.2.2.trans ⟨rfl, rfl, rfl, Nat.le_refl _, fun _ _ => rfl⟩⟩
        case measure => simp [intOf]
    · have M0 : BAt wr w.heap.size f0 f1 f2 f3 (cl bo) wa bu := M
      have x := M0.cells.2.2.2.2.2.1
      have y := M0.frees.2.2.2.2.2.1
      have p := P.p1
      have HM : Hid (Mid (wr.setCell ⟨w.heap.size, 5, none⟩ (.int .i64 (cl wa))) w.heap.size 2 f0 f1 f2 f3 bo wa bu ∧ PL (wr.setCell ⟨w.heap.size, 5, none⟩ (.int .i64 (cl wa))) (w.heap.size + 2) g c0 c1 c2 c3 ∧ BAt (wr.setCell ⟨w.heap.size, 5, none⟩ (.int .i64 (cl wa))) (w.heap.size + 1) 0 0 0 0 0 0 0 ∧ Below w.heap.size w (wr.setCell ⟨w.heap.size, 5, none⟩ (.int .i64 (cl wa)))) :=
        ⟨M0.set_5 _, P.later (fun k hk => Below.heap_setCell _ _ _ _ (by simp; omega)), R.other (by omega) _, HB.out.setCell (by simp) _⟩
      clear M M0 P R
      rcases cl_cases wa with ⟨h1, e1⟩ | ⟨h1, h2, e1⟩ | ⟨h1, h2, e1⟩
      all_goals
        rw [e1] at HM
        clear e1
        go_wp2_with (go_at_call 123; refine (waiting1_any _ _).mono ?_; rintro e w2 ⟨rfl, rfl⟩)
        go_roundw
        case rel => exact ⟨2, by omega, by go_num, HM.out.1, HM.out.2.1.later (fun _ _ => rfl), HM.out.2.2.1, HM.out.2.2.2.trans ⟨rfl, rfl, rfl, Nat.le_refl _, fun _ _ => rfl⟩⟩
        case measure => simp [intOf]
    · have M0 : BAt wr w.heap.size f0 f1 f2 f3 (cl bo) (cl wa) bu := M
      have x := M0.cells.2.2.2.2.2.2
      have y := M0.frees.2.2.2.2.2.2
      have p := P.p2
      have HM : Hid (Mid (wr.setCell ⟨w.heap.size, 6, none⟩ (.int .i64 (cl bu))) w.heap.size 3 f0 f1 f2 f3 bo wa bu ∧ PL (wr.setCell ⟨w.heap.size, 6, none⟩ (.int .i64 (cl bu))) (w.heap.size + 2) g c0 c1 c2 c3 ∧ BAt (wr.setCell ⟨w.heap.size, 6, none⟩ (.int .i64 (cl bu))) (w.heap.size + 1) 0 0 0 0 0 0 0 ∧ Below w.heap.size w (wr.setCell ⟨w.heap.size, 6, none⟩ (.int .i64 (cl bu)))) :=
        ⟨M0.set_6 _, P.later (fun k hk => Below.heap_setCell _ _ _ _ (by simp; omega)), R.other (by omega) _, HB.out.setCell (by simp) _⟩
      clear M M0 P R
      rcases cl_cases bu with ⟨h1, e1⟩ | ⟨h1, h2, e1⟩ | ⟨h1, h2, e1⟩
      all_goals
        rw [e1] at HM
        clear e1
        go_wp2_with (go_at_call 124; refine (burnt1_any _ _).mono ?_; rintro e w2 ⟨rfl, rfl⟩)
        go_roundw
        case rel => exact ⟨3, by omega, by go_num, HM.out.1, HM.out.2.1.later (fun _ _ => rfl), HM.out.2.2.1, HM.out.2.2.2.trans ⟨rfl, rfl, rfl, Nat.le_refl _, fun _ _ => rfl⟩⟩
        case measure => simp [intOf]
    · have M0 : BAt wr w.heap.size f0 f1 f2 f3 (cl bo) (cl wa) (cl bu) := M
      have x := M0.cells.1
      have y := M0.frees.1
      have p := P.p3
      have q := P.q0
      have HM : Hid (Mid (wr.setCell ⟨w.heap.size, 0, none⟩ (.int .i64 (cl f0))) w.heap.size 4 f0 f1 f2 f3 bo wa bu ∧ PL (wr.setCell ⟨w.heap.size, 0, none⟩ (.int .i64 (cl f0))) (w.heap.size + 2) g c0 c1 c2 c3 ∧ BAt (wr.setCell ⟨w.heap.size, 0, none⟩ (.int .i64 (cl f0))) (w.heap.size + 1) 0 0 0 0 0 0 0 ∧ Below w.heap.size w (wr.setCell ⟨w.heap.size, 0, none⟩ (.int .i64 (cl f0)))) :=
        ⟨M0.set_0 _, P.later (fun k hk => Below.heap_setCell _ _ _ _ (by simp; omega)), R.other (by omega) _, HB.out.setCell (by simp) _⟩
      clear M M0 P R
      rcases cl_cases f0 with ⟨h1, e1⟩ | ⟨h1, h2, e1⟩ | ⟨h1, h2, e1⟩
      all_goals
        rw [e1] at HM
        clear e1
        go_wp2_with (go_at_call 125; refine (free1_at _ _ _ _ q (by decide) (by decide)).mono ?_; rintro e w2 ⟨rfl, nq, rfl⟩)
        go_roundw
        case rel => exact ⟨4, by omega, by go_num, HM.out.1, HM.out.2.1.later (fun _ _ => rfl), HM.out.2.2.1, HM.out.2.2.2.trans ⟨rfl, rfl, rfl, Nat.le_refl _, fun _ _ => rfl⟩⟩
        case measure => simp [intOf]
    · have M0 : BAt wr w.heap.size (cl f0) f1 f2 f3 (cl bo) (cl wa) (cl bu) := M
      have x := M0.cells.2.1
      have y := M0.frees.2.1
      have p := P.p4
      have q := P.q1
      have HM : Hid (Mid (wr.setCell ⟨w.heap.size, 1, none⟩ (.int .i64 (cl f1))) w.heap.size 5 f0 f1 f2 f3 bo wa bu ∧ PL (wr.setCell ⟨w.heap.size, 1, none⟩ (.int .i64 (cl f1))) (w.heap.size + 2) g c0 c1 c2 c3 ∧ BAt (wr.setCell ⟨w.heap.size, 1, none⟩ (.int .i64 (cl f1))) (w.heap.size + 1) 0 0 0 0 0 0 0 ∧ Below w.heap.size w (wr.setCell ⟨w.heap.size, 1, none⟩ (.int .i64 (cl f1)))) :=
        ⟨M0.set_1 _, P.later (fun k hk => Below.heap_setCell _ _ _ _ (by simp; omega)), R.other (by omega) _, HB.out.setCell (by simp) _⟩
      clear M M0 P R
      rcases cl_cases f1 with ⟨h1, e1⟩ | ⟨h1, h2, e1⟩ | ⟨h1, h2, e1⟩
      all_goals
        rw [e1] at HM
        clear e1
        go_wp2_with (go_at_call 125; refine (free1_at _ _ _ _ q (by decide) (by decide)).mono ?_; rintro e w2 ⟨rfl, nq, rfl⟩)
        go_roundw
        case rel => exact ⟨5, by omega, by go_num, HM.out.1, HM.out.2.1.later (fun _ _ => rfl), HM.out.2.2.1, HM.out.2.2.2.trans ⟨rfl, rfl, rfl, Nat.le_refl _, fun _ _ => rfl⟩⟩
        case measure => simp [intOf]
    · have M0 : BAt wr w.heap.size (cl f0) (cl f1) f2 f3 (cl bo) (cl wa) (cl bu) := M
      have x := M0.cells.2.2.1
      have y := M0.frees.2.2.1
      have p := P.p5
      have q := P.q2
      have HM : Hid (Mid (wr.setCell ⟨w.heap.size, 2, none⟩ (.int .i64 (cl f2))) w.heap.size 6 f0 f1 f2 f3 bo wa bu ∧ PL (wr.setCell ⟨w.heap.size, 2, none⟩ (.int .i64 (cl f2))) (w.heap.size + 2) g c0 c1 c2 c3 ∧ BAt (wr.setCell ⟨w.heap.size, 2, none⟩ (.int .i64 (cl f2))) (w.heap.size + 1) 0 0 0 0 0 0 0 ∧ Below w.heap.size w (wr.setCell ⟨w.heap.size, 2, none⟩ (.int .i64 (cl f2)))) :=
        ⟨M0.set_2 _, P.later (fun k hk => Below.heap_setCell _ _ _ _ (by simp; omega)), R.other (by omega) _, HB.out.setCell (by simp) _⟩
      clear M M0 P R
      rcases cl_cases f2 with ⟨h1, e1⟩ | ⟨h1, h2, e1⟩ | ⟨h1, h2, e1⟩
      all_goals
        rw [e1] at HM
        clear e1
        go_wp2_with (go_at_call 125; refine (free1_at _ _ _ _ q (by decide) (by decide)).mono ?_; rintro e w2 ⟨rfl, nq, rfl⟩)
        go_roundw
        case rel => exact ⟨6, by omega, by go_num, HM.out.1, HM.out.2.1.later (fun _ _ => rfl), HM.out.2.2.1, HM.out.2.2.2.trans ⟨rfl, rfl, rfl, Nat.le_refl _, fun _ _ => rfl⟩⟩
        case measure => simp [intOf]
    · have M0 : BAt wr w.heap.size (cl f0) (cl f1) (cl f2) f3 (cl bo) (cl wa) (cl bu) := M
      have x := M0.cells.2.2.2.1
      have y := M0.frees.2.2.2.1
      have p := P.p6
      have q := P.q3
      have HM : Hid (Mid (wr.setCell ⟨w.heap.size, 3, none⟩ (.int .i64 (cl f3))) w.heap.size 7 f0 f1 f2 f3 bo wa bu ∧ PL (wr.setCell ⟨w.heap.size, 3, none⟩ (.int .i64 (cl f3))) (w.heap.size + 2) g c0 c1 c2 c3 ∧ BAt (wr.setCell ⟨w.heap.size, 3, none⟩ (.int .i64 (cl f3))) (w.heap.size + 1) 0 0 0 0 0 0 0 ∧ Below w.heap.size w (wr.setCell ⟨w.heap.size, 3, none⟩ (.int .i64 (cl f3)))) :=
        ⟨M0.set_3 _, P.later (fun k hk => Below.heap_setCell _ _ _ _ (by simp; omega)), R.other (by omega) _, HB.out.setCell (by simp) _⟩
      clear M M0 P R
      rcases cl_cases f3 with ⟨h1, e1⟩ | ⟨h1, h2, e1⟩ | ⟨h1, h2, e1⟩
      all_goals
        rw [e1] at HM
        clear e1
        go_wp2_with (go_at_call 125; refine (free1_at _ _ _ _ q (by decide) (by decide)).mono ?_; rintro e w2 ⟨rfl, nq, rfl⟩)
        go_roundw
        case rel => exact ⟨7, by omega, by go_num, HM.out.1, HM.out.2.1.later (fun _ _ => rfl), HM.out.2.2.1, HM.out.2.2.2.trans ⟨rfl, rfl, rfl, Nat.le_refl _, fun _ _ => rfl⟩⟩
        case measure => simp [intOf]
    · have M0 : BAt wr w.heap.size (cl f0) (cl f1) (cl f2) (cl f3) (cl bo) (cl wa) (cl bu) := M
      obtain ⟨x0, x1, x2, x3, x4, x5, x6⟩ := M0.cells
      obtain ⟨y0, y1, y2, y3, y4, y5, y6⟩ := R.frees
      obtain ⟨z0, z1, z2, z3, z4, z5, z6⟩ := R.cells
      have HR : Hid (BAt (set7 wr (w.heap.size + 1) (cl f0) (cl f1) (cl f2) (cl f3) (cl bo) (cl wa) (cl bu)) (w.heap.size + 1) (cl f0) (cl f1) (cl f2) (cl f3) (cl bo) (cl wa) (cl bu)) := R.set7 _ _ _ _ _ _ _
      have HW : Hid (Below w.heap.size w (set7 wr (w.heap.size + 1) (cl f0) (cl f1) (cl f2) (cl f3) (cl bo) (cl wa) (cl bu))) := set7_below HB.out (by omega) _ _ _ _ _ _ _
      clear M M0 R P
      go_wp2
      show bodyPost Tryz.prog Tryz.f119 _ Exit.ret _ (set7 wr (w.heap.size + 1) (cl f0) (cl f1) (cl f2) (cl f3) (cl bo) (cl wa) (cl bu))
      obtain ⟨u0, u1, u2, u3, u4, u5, u6⟩ := HR.out.cells
      generalize set7 wr (w.heap.size + 1) (cl f0) (cl f1) (cl f2) (cl f3) (cl bo) (cl wa) (cl bu) = w9 at *
      exact bodyPost_ret (v := .agg #[.int .i64 (cl f0), .int .i64 (cl f1), .int .i64 (cl f2), .int .i64 (cl f3), .int .i64 (cl bo), .int .i64 (cl wa), .int .i64 (cl bu)]) (by simp [results, Tryz.results119, go_sem, u0, u1, u2, u3, u4, u5, u6]) rfl ⟨rfl, HW.out⟩
end Go.Proofs.YtjghbciepinofaaGreat

set_option maxRecDepth 100000
namespace Go.Proofs.YtjghbciepinofaaGreat
/-- Delegate -/
def delegS (s : St) (d v n : Int) : St × Int :=
  if refOfE s d v = 0 then
    if (s.V v.toNat).dead = true then (s, 15)
    else if (decide (0 < n) && inA n) = true then
      if shE (s.V v.toNat) n = 0 then
        if (bondR s.b d n).2 = 0 then (addS { s with b := (bondR s.b d n).1 } d.toNat v.toNat n (shN (s.V v.toNat) n), 0)
        else (s, (bondR s.b d n).2)
      else (s, shE (s.V v.toNat) n)
    else (s, 2)
  else (s, refOfE s d v)
end Go.Proofs.YtjghbciepinofaaGreat

