/- Parts of the proof: N ME1. -/
import Derived.Test.YtkhlihpghbhppabGreatRows
import Derived.Test.YtkhlihpghbhppabGreatProviderRemovesK14
import Derived.WalkKit
import Derived.LoopN
import Derived.WalkSpells
import Derived.WalkLawsBesides
import Derived.Below
import Derived.Deep.DeepCutAuto
set_option maxRecDepth 100000
namespace Go.Proofs.YtkhlihpghbhppabGreat
open Go.RowKit
set_option maxHeartbeats 1000000 in
theorem new_any (w : World) : Calls Tryz.prog 72 #[] w fun e w' => e = .returned (.agg #[.int .i64 100000, .int .i64 100000, .int .i64 100000, .int .i64 100000, .int .i64 0, .int .i64 0, .int .i64 0]) ∧ Below w.heap.size w w' := by
  go_enter Tryz.func72, Tryz.ntmps72
  go_wp2
  refine wp_loop_rounds 5 ?_
  iterate 5 (try (rw [rounds_succ]; go_wp2))
  exact bodyPost_ret (v := .agg #[.int .i64 100000, .int .i64 100000, .int .i64 100000, .int .i64 100000, .int .i64 0, .int .i64 0, .int .i64 0]) (by simp [results, Tryz.results72, go_sem]) rfl ⟨rfl, ((Below.refl _ w).alloc (Nat.le_refl _) _).alloc (by simp) _⟩
end Go.Proofs.YtkhlihpghbhppabGreat

set_option maxRecDepth 100000
namespace Go.Proofs.YtkhlihpghbhppabGreat.Mt
open Go.RowKit
theorem hide {p : Prop} (h : p) : Hid p := h
def I64 (a : Int) : Prop := -9223372036854775808 ≤ a ∧ a ≤ 9223372036854775807
/-- P6.1 -/
def alw (a : Int) : Int := if a < 5 then 1 else a / 5
theorem below_new (w : World) (o : Obj) : Below w.heap.size w (w.alloc o) := (Below.refl _ _).alloc (Nat.le_refl _) o
theorem below_then {w w1 w2 : World} (h : Below w.heap.size w w1) (k : Below w1.heap.size w1 w2) : Below w.heap.size w w2 := h.trans (k.mono h.size)
theorem quo5 {a : Int} (h : I64 a) (h5 : 5 ≤ a) : wrap64 (a.tdiv 5) = a / 5 := by
  unfold I64 at h
  rw [Int.tdiv_eq_ediv_of_nonneg (by omega)]
  unfold wrap64
  omega
theorem quo5' {a : Int} (h : I64 a) (h5 : a < 5) : ∃ q, wrap64 (a.tdiv 5) = q ∧ q < 1 := by
  refine ⟨_, rfl, ?_⟩
  unfold I64 at h
  by_cases h0 : 0 ≤ a
  · rw [Int.tdiv_eq_ediv_of_nonneg (by omega)]
    unfold wrap64
    omega
  · have e : a.tdiv 5 = -((-a) / 5) := by
      rw [show a = -(-a) by omega, Int.neg_tdiv, Int.tdiv_eq_ediv_of_nonneg (by omega)]
      simp
    rw [e]
    unfold wrap64
    omega
theorem alw_any (a : Int) (h : I64 a) (w : World) : Calls Tryz.prog 73 #[.int .i64 a] w fun e w' => e = .returned (.int .i64 (alw a)) ∧ w = w' := by
  by_cases h5 : a < 5
  · obtain ⟨q, hq, hq1⟩ := quo5' h h5
    rw [show alw a = 1 from if_pos h5]
    clear h5 h
    go_enter Tryz.func73, Tryz.ntmps73
    go_wp2
    go_ret
    exact ⟨rfl, rfl⟩
  · have hq := quo5 h (by omega)
    rw [show alw a = a / 5 from if_neg h5]
    have hq1 : 1 ≤ a / 5 := by omega
    generalize a / 5 = q at *
    clear h5 h
    go_enter Tryz.func73, Tryz.ntmps73
    go_wp2
    go_ret
    exact ⟨rfl, rfl⟩
/-- a meter lies in a block -/
def MAt (w : World) (b : Nat) (l n : Int) : Prop := w.heap[b]? = some (.cells #[.int .i64 l, .int .i64 n] 44)
section
variable {w w' : World} {b B : Nat} {l n : Int}
theorem MAt.later (h : MAt w b l n) (hb : Below B w w') (hB : b < B) : MAt w' b l n := (hb.block b hB).trans h
theorem MAt.new (w : World) (l n : Int) : MAt (w.alloc (.cells #[.int .i64 l, .int .i64 n] 44)) w.heap.size l n := heap_alloc_new _ _
theorem MAt.new2 (w : World) (o : Obj) (l n : Int) : MAt ((w.alloc o).alloc (.cells #[.int .i64 l, .int .i64 n] 44)) (w.heap.size + 1) l n := by
  have := MAt.new (w.alloc o) l n
  rwa [show (w.alloc o).heap.size = w.heap.size + 1 by simp] at this
theorem MAt.lt (h : MAt w b l n) : b < w.heap.size := (Array.getElem?_eq_some_iff.1 h).1
theorem MAt.alloc (h : MAt w b l n) (o : Obj) : MAt (w.alloc o) b l n := (Below.heap_alloc _ _ _ h.lt).trans h
theorem MAt.other {c o : Nat} (h : MAt w b l n) (hb : b ≠ c) (v : Value) : MAt (w.setCell ⟨c, o, none⟩ v) b l n := (Below.heap_setCell _ _ _ _ hb).trans h
theorem MAt.facts (h : MAt w b l n) : (w.cell? ⟨b, 0, none⟩ = some (.int .i64 l) ∧ w.cell? ⟨b, 1, none⟩ = some (.int .i64 n)) ∧ (w.frozen? ⟨b, 0, none⟩ = false ∧ w.frozen? ⟨b, 1, none⟩ = false) := by
  unfold MAt at h
  simp [World.cell?, World.frozen?, h]
theorem MAt.set (h : MAt w b l n) (l' n' : Int) : MAt ((w.setCell ⟨b, 0, none⟩ (.int .i64 l')).setCell ⟨b, 1, none⟩ (.int .i64 n')) b l' n' := by
  unfold MAt at *
  simp [World.setCell, Array.getElem?_modify, h]
end
theorem meter_end {f : Func} {p : Tmp} (hres : f.results = #[.cell p 44]) {w wq : World} {g : Nat} {l n : Int} (R : MAt wq g l n) (H : Below w.heap.size w wq) (act : Act) (h8 : act.tmps.getD p undef = .pointer (some ⟨g, 0, none⟩)) (hd : act.defers = []) :
    bodyPost Tryz.prog f (fun e w' => e = .returned (.agg #[.int .i64 l, .int .i64 n]) ∧ Below w.heap.size w w') Exit.ret act wq := by
  obtain ⟨⟨u0, u1⟩, -⟩ := R.facts
  have h8' : act.tmps[p]?.getD undef = .pointer (some ⟨g, 0, none⟩) := by simpa using h8
  exact bodyPost_ret (v := .agg #[.int .i64 l, .int .i64 n]) (by simp [results, hres, go_sem, h8', u0, u1]) hd ⟨rfl, H⟩
theorem below_2 (w : World) (o p : Obj) : Below w.heap.size w ((w.alloc o).alloc p) := (below_new w o).alloc (by simp) p
theorem mnew_any (a t : Int) (h : I64 a) (w : World) : Calls Tryz.prog 50 #[.int .i64 a, .int .i64 t] w fun e w' => e = .returned (.agg #[.int .i64 (alw a), .int .i64 (wrap64 (t + 10))]) ∧ Below w.heap.size w w' := by
  have ha := alw_any a h
  generalize alw a = A at *
  go_enter Tryz.func50, Tryz.ntmps50
  go_wp2_with (go_at_call 73; refine (ha _).mono ?_; rintro e w2 ⟨rfl, rfl⟩)
  exact meter_end Tryz.results50 (MAt.new _ _ _) (below_new w _) _ rfl rfl
/-- P6.2 -/
theorem mtick_any (l n a t : Int) (h : I64 a) (w : World) : Calls Tryz.prog 28 #[.agg #[.int .i64 l, .int .i64 n], .int .i64 a, .int .i64 t] w fun e w' => e = .returned (.agg #[.int .i64 (if t < n then l else alw a), .int .i64 (if t < n then n else wrap64 (t + 10))]) ∧ Below w.heap.size w w' := by
  have hn := mnew_any a t h
  generalize alw a = A at *
  generalize wrap64 (t + 10) = T at *
  by_cases hlt : t < n
  · rw [if_pos hlt, if_pos hlt]
    go_enter Tryz.func28, Tryz.ntmps28
    go_wp2
    exact meter_end Tryz.results28 (MAt.new2 _ _ _ _) (below_2 w _ _) _ rfl rfl
  · rw [if_neg hlt, if_neg hlt]
    have R := MAt.new2 w (.cells #[.int .i64 l, .int .i64 n] 44) 0 0
    have B := below_2 w (.cells #[.int .i64 l, .int .i64 n] 44) (.cells #[.int .i64 0, .int .i64 0] 44)
    go_enter Tryz.func28, Tryz.ntmps28
    go_upto_region 3 with fail
    generalize ((w.alloc (.cells #[.int .i64 l, .int .i64 n] 44)).alloc (.cells #[.int .i64 0, .int .i64 0] 44)) = w1 at *
    go_wp2_with (go_at_call 50; refine (hn _).mono ?_; rintro e w2 ⟨rfl, hb⟩; have R2 := R.later hb R.lt; obtain ⟨⟨c0, c1⟩, ⟨f0, f1⟩⟩ := R2.facts)
    exact meter_end Tryz.results28 (R2.set _ _) (((below_then B hb).setCell (Nat.le_succ _) _).setCell (Nat.le_succ _) _) _ rfl rfl
end Go.Proofs.YtkhlihpghbhppabGreat.Mt

