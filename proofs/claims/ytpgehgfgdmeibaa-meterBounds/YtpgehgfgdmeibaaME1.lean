/- The walks of meter and of the reference's meter: what they answer, for all numbers of 64 bits; old memory stays as it was. -/
import Derived.Test.YtpgehgfgdmeibaaRows
import Derived.WalkKit
import Derived.WalkSpells
import Derived.WalkLawsBesides
import Derived.Below
import Derived.Deep.DeepCutAuto
set_option maxRecDepth 100000
namespace Go.Proofs.Ytpgehgfgdmeibaa.Mt
open Go.RowKit
theorem hide {p : Prop} (h : p) : Hid p := h
def I64 (a : Int) : Prop := -9223372036854775808 ≤ a ∧ a ≤ 9223372036854775807
/-- P6.1 -/
def alw (a : Int) : Int := if a < 5 then 1 else a / 5
def w64 (a : Int) : Int := IntKind.i64.wrap a
theorem alw_pos (a : Int) : 1 ≤ alw a := by unfold alw; split <;> omega
theorem alw_le {a : Int} (h : 0 ≤ a) : alw a ≤ a + 1 := by unfold alw; split <;> omega
theorem below_new (w : World) (o : Obj) : Below w.heap.size w (w.alloc o) := (Below.refl _ _).alloc (Nat.le_refl _) o
theorem below_then {w w1 w2 : World} (h : Below w.heap.size w w1) (k : Below w1.heap.size w1 w2) : Below w.heap.size w w2 := h.trans (k.mono h.size)
theorem quo5 {a : Int} (h : I64 a) (h5 : 5 ≤ a) : wrap64 (a.tdiv 5) = a / 5 := by
  unfold I64 at h
  rw [Int.tdiv_eq_ediv_of_nonneg (by omega)]
  unfold wrap64
  omega
theorem quo5' {a : Int} (h : I64 a) (h5 : a < 5) : ∃ q, wrap64 (a.tdiv 5) = q ∧ q < 1 := by
  refine ⟨_, rfl, ?_⟩
  unfold I64 at h
  by_cases h0 : 0 ≤ a
  · rw [Int.tdiv_eq_ediv_of_nonneg (by omega)]
    unfold wrap64
    omega
  · have e : a.tdiv 5 = -((-a) / 5) := by
      rw [show a = -(-a) by omega, Int.neg_tdiv, Int.tdiv_eq_ediv_of_nonneg (by omega)]
      simp
    rw [e]
    unfold wrap64
    omega
theorem alw_any (a : Int) (h : I64 a) (w : World) : Calls Try.prog 8 #[.int .i64 a] w fun e w' => e = .returned (.int .i64 (alw a)) ∧ w = w' := by
  by_cases h5 : a < 5
  · obtain ⟨q, hq, hq1⟩ := quo5' h h5
    rw [show alw a = 1 from if_pos h5]
    clear h5 h
    go_enter Try.func8, Try.ntmps8
    go_wp2
    go_ret
    exact ⟨rfl, rfl⟩
  · have hq := quo5 h (by omega)
    rw [show alw a = a / 5 from if_neg h5]
    have hq1 : 1 ≤ a / 5 := by omega
    generalize a / 5 = q at *
    clear h5 h
    go_enter Try.func8, Try.ntmps8
    go_wp2
    go_ret
    exact ⟨rfl, rfl⟩
theorem ralw_any (a : Int) (h : I64 a) (w : World) : Calls Try.prog 9 #[.int .i64 a] w fun e w' => e = .returned (.int .i64 (alw a)) ∧ w = w' := by
  by_cases h5 : a < 5
  · rw [show alw a = 1 from if_pos h5]
    go_enter Try.func9, Try.ntmps9
    go_wp2
    go_ret
    exact ⟨rfl, rfl⟩
  · have hq := quo5 h (by omega)
    rw [show alw a = a / 5 from if_neg h5]
    generalize a / 5 = q at *
    go_enter Try.func9, Try.ntmps9
    go_wp2
    go_ret
    exact ⟨rfl, rfl⟩
/-- a meter lies in a block -/
def MAt (w : World) (b : Nat) (l n : Int) : Prop := w.heap[b]? = some (.cells #[.int .i64 l, .int .i64 n] 23)
section
variable {w w' : World} {b B : Nat} {l n : Int}
theorem MAt.later (h : MAt w b l n) (hb : Below B w w') (hB : b < B) : MAt w' b l n := (hb.block b hB).trans h
theorem MAt.new (w : World) (l n : Int) : MAt (w.alloc (.cells #[.int .i64 l, .int .i64 n] 23)) w.heap.size l n := heap_alloc_new _ _
theorem MAt.new2 (w : World) (o : Obj) (l n : Int) : MAt ((w.alloc o).alloc (.cells #[.int .i64 l, .int .i64 n] 23)) (w.heap.size + 1) l n := by
  have := MAt.new (w.alloc o) l n
  rwa [show (w.alloc o).heap.size = w.heap.size + 1 by simp] at this
theorem MAt.lt (h : MAt w b l n) : b < w.heap.size := (Array.getElem?_eq_some_iff.1 h).1
theorem MAt.alloc (h : MAt w b l n) (o : Obj) : MAt (w.alloc o) b l n := (Below.heap_alloc _ _ _ h.lt).trans h
theorem MAt.other {c o : Nat} (h : MAt w b l n) (hb : b ≠ c) (v : Value) : MAt (w.setCell ⟨c, o, none⟩ v) b l n := (Below.heap_setCell _ _ _ _ hb).trans h
theorem MAt.facts (h : MAt w b l n) : (w.cell? ⟨b, 0, none⟩ = some (.int .i64 l) ∧ w.cell? ⟨b, 1, none⟩ = some (.int .i64 n)) ∧ (w.frozen? ⟨b, 0, none⟩ = false ∧ w.frozen? ⟨b, 1, none⟩ = false) := by
  unfold MAt at h
  simp [World.cell?, World.frozen?, h]
theorem MAt.set (h : MAt w b l n) (l' n' : Int) : MAt ((w.setCell ⟨b, 0, none⟩ (.int .i64 l')).setCell ⟨b, 1, none⟩ (.int .i64 n')) b l' n' := by
  unfold MAt at *
  simp [World.setCell, Array.getElem?_modify, h]
end
theorem meter_end {f : Func} {p : Tmp} (hres : f.results = #[.cell p 23]) {w wq : World} {g : Nat} {l n : Int} (R : MAt wq g l n) (H : Below w.heap.size w wq) (act : Act) (h8 : act.tmps.getD p undef = .pointer (some ⟨g, 0, none⟩)) (hd : act.defers = []) :
    bodyPost Try.prog f (fun e w' => e = .returned (.agg #[.int .i64 l, .int .i64 n]) ∧ Below w.heap.size w w') Exit.ret act wq := by
  obtain ⟨⟨u0, u1⟩, -⟩ := R.facts
  have h8' : act.tmps[p]?.getD undef = .pointer (some ⟨g, 0, none⟩) := by simpa using h8
  exact bodyPost_ret (v := .agg #[.int .i64 l, .int .i64 n]) (by simp [results, hres, go_sem, h8', u0, u1]) hd ⟨rfl, H⟩
theorem meter_end2 {f : Func} {p q : Tmp} (hres : f.results = #[.cell p 23, .tmp q]) {w wq : World} {g : Nat} {l n : Int} {t : Bool} (R : MAt wq g l n) (H : Below w.heap.size w wq) (act : Act) (h8 : act.tmps.getD p undef = .pointer (some ⟨g, 0, none⟩)) (h9 : act.tmps.getD q undef = .bool t) (hd : act.defers = []) :
    bodyPost Try.prog f (fun e w' => e = .returned (.tuple #[.agg #[.int .i64 l, .int .i64 n], .bool t]) ∧ Below w.heap.size w w') Exit.ret act wq := by
  obtain ⟨⟨u0, u1⟩, -⟩ := R.facts
  have h8' : act.tmps[p]?.getD undef = .pointer (some ⟨g, 0, none⟩) := by simpa using h8
  have h9' : act.tmps[q]?.getD undef = .bool t := by simpa using h9
  exact bodyPost_ret (v := .tuple #[.agg #[.int .i64 l, .int .i64 n], .bool t]) (by simp [results, hres, go_sem, h8', h9', u0, u1]) hd ⟨rfl, H⟩
theorem below_2 (w : World) (o p : Obj) : Below w.heap.size w ((w.alloc o).alloc p) := (below_new w o).alloc (by simp) p
theorem mnew_any (a t : Int) (h : I64 a) (w : World) : Calls Try.prog 10 #[.int .i64 a, .int .i64 t] w fun e w' => e = .returned (.agg #[.int .i64 (alw a), .int .i64 (wrap64 (t + 10))]) ∧ Below w.heap.size w w' := by
  have ha := alw_any a h
  generalize alw a = A at *
  go_enter Try.func10, Try.ntmps10
  go_wp2_with (go_at_call 8; refine (ha _).mono ?_; rintro e w2 ⟨rfl, rfl⟩)
  exact meter_end Try.results10 (MAt.new _ _ _) (below_new w _) _ rfl rfl
theorem rmnew_any (a t : Int) (h : I64 a) (w : World) : Calls Try.prog 11 #[.int .i64 a, .int .i64 t] w fun e w' => e = .returned (.agg #[.int .i64 (alw a), .int .i64 (wrap64 (t + 10))]) ∧ Below w.heap.size w w' := by
  have ha := ralw_any a h
  generalize alw a = A at *
  go_enter Try.func11, Try.ntmps11
  go_wp2_with (go_at_call 9; refine (ha _).mono ?_; rintro e w2 ⟨rfl, rfl⟩)
  exact meter_end Try.results11 (MAt.new _ _ _) (below_new w _) _ rfl rfl
/-- P6.2 -/
theorem mtick_any (l n a t : Int) (h : I64 a) (w : World) : Calls Try.prog 12 #[.agg #[.int .i64 l, .int .i64 n], .int .i64 a, .int .i64 t] w fun e w' => e = .returned (.agg #[.int .i64 (if t < n then l else alw a), .int .i64 (if t < n then n else wrap64 (t + 10))]) ∧ Below w.heap.size w w' := by
  have hn := mnew_any a t h
  generalize alw a = A at *
  generalize wrap64 (t + 10) = T at *
  by_cases hlt : t < n
  · rw [if_pos hlt, if_pos hlt]
    go_enter Try.func12, Try.ntmps12
    go_wp2
    exact meter_end Try.results12 (MAt.new2 _ _ _ _) (below_2 w _ _) _ rfl rfl
  · rw [if_neg hlt, if_neg hlt]
    have R := MAt.new2 w (.cells #[.int .i64 l, .int .i64 n] 23) 0 0
    have B := below_2 w (.cells #[.int .i64 l, .int .i64 n] 23) (.cells #[.int .i64 0, .int .i64 0] 23)
    go_enter Try.func12, Try.ntmps12
    go_upto_region 3 with fail
    generalize ((w.alloc (.cells #[.int .i64 l, .int .i64 n] 23)).alloc (.cells #[.int .i64 0, .int .i64 0] 23)) = w1 at *
    go_wp2_with (go_at_call 10; refine (hn _).mono ?_; rintro e w2 ⟨rfl, hb⟩; have R2 := R.later hb R.lt; obtain ⟨⟨c0, c1⟩, ⟨f0, f1⟩⟩ := R2.facts)
    exact meter_end Try.results12 (R2.set _ _) (((below_then B hb).setCell (Nat.le_succ _) _).setCell (Nat.le_succ _) _) _ rfl rfl
/-- P6.2 -/
theorem rmtick_any (l n a t : Int) (h : I64 a) (w : World) : Calls Try.prog 13 #[.agg #[.int .i64 l, .int .i64 n], .int .i64 a, .int .i64 t] w fun e w' => e = .returned (.agg #[.int .i64 (if t < n then l else alw a), .int .i64 (if t < n then n else wrap64 (t + 10))]) ∧ Below w.heap.size w w' := by
  have hn := rmnew_any a t h
  generalize alw a = A at *
  generalize wrap64 (t + 10) = T at *
  by_cases hlt : t < n
  · rw [if_pos hlt, if_pos hlt]
    go_enter Try.func13, Try.ntmps13
    go_wp2
    exact meter_end Try.results13 (MAt.new2 _ _ _ _) (below_2 w _ _) _ rfl rfl
  · rw [if_neg hlt, if_neg hlt]
    have R := MAt.new2 w (.cells #[.int .i64 l, .int .i64 n] 23) 0 0
    have B := below_2 w (.cells #[.int .i64 l, .int .i64 n] 23) (.cells #[.int .i64 0, .int .i64 0] 23)
    go_enter Try.func13, Try.ntmps13
    go_upto_region 3 with fail
    generalize ((w.alloc (.cells #[.int .i64 l, .int .i64 n] 23)).alloc (.cells #[.int .i64 0, .int .i64 0] 23)) = w1 at *
    go_wp2_with (go_at_call 11; refine (hn _).mono ?_; rintro e w2 ⟨rfl, hb⟩; have R2 := R.later hb R.lt; obtain ⟨⟨c0, c1⟩, ⟨f0, f1⟩⟩ := R2.facts)
    exact meter_end Try.results13 (R2.set _ _) (((below_then B hb).setCell (Nat.le_succ _) _).setCell (Nat.le_succ _) _) _ rfl rfl
/-- P6.3 -/
theorem mtake_any (l n a : Int) (w : World) : Calls Try.prog 6 #[.agg #[.int .i64 l, .int .i64 n], .int .i64 a] w fun e w' => e = .returned (.tuple #[.agg #[.int .i64 (if l < 1 then l else wrap64 (l - a)), .int .i64 n], .bool (if l < 1 then false else true)]) ∧ Below w.heap.size w w' := by
  by_cases hlt : l < 1
  · rw [if_pos hlt, if_pos hlt]
    go_enter Try.func6, Try.ntmps6
    go_wp2
    exact meter_end2 Try.results6 (MAt.new2 _ _ _ _) (below_2 w _ _) _ rfl rfl rfl
  · rw [if_neg hlt, if_neg hlt]
    go_enter Try.func6, Try.ntmps6
    go_wp2
    exact meter_end2 Try.results6 (MAt.new2 _ _ _ _) (below_2 w _ _) _ rfl rfl rfl
/-- P6.3 -/
theorem rmtake_any (l n a : Int) (w : World) : Calls Try.prog 7 #[.agg #[.int .i64 l, .int .i64 n], .int .i64 a] w fun e w' => e = .returned (.tuple #[.agg #[.int .i64 (if l < 1 then l else wrap64 (l - a)), .int .i64 n], .bool (if l < 1 then false else true)]) ∧ Below w.heap.size w w' := by
  by_cases hlt : l < 1
  · rw [if_pos hlt, if_pos hlt]
    go_enter Try.func7, Try.ntmps7
    go_wp2
    exact meter_end2 Try.results7 (MAt.new2 _ _ _ _) (below_2 w _ _) _ rfl rfl rfl
  · rw [if_neg hlt, if_neg hlt]
    go_enter Try.func7, Try.ntmps7
    go_wp2
    exact meter_end2 Try.results7 (MAt.new2 _ _ _ _) (below_2 w _ _) _ rfl rfl rfl
theorem lmeters_any (w : World) : Calls Try.prog 5 #[] w fun e w' => e = .returned (.bool true) ∧ Below w.heap.size w w' := by
  have hn := mnew_any 50 7 (by unfold I64; omega)
  rw [show alw 50 = 10 from by decide, show wrap64 (7 + 10) = 17 from by unfold wrap64; omega] at hn
  go_enter Try.func5, Try.ntmps5
  go_wp2_with (go_at_call 10; refine (hn _).mono ?_; rintro e w2 ⟨rfl, hb⟩)
  go_ret
  exact ⟨rfl, hb⟩
theorem kmeters_any (w : World) : Calls Try.prog 15 #[] w fun e w' => e = .returned (.bool true) ∧ Below w.heap.size w w' := by
  have hn := mnew_any 50 7 (by unfold I64; omega)
  rw [show alw 50 = 10 from by decide, show wrap64 (7 + 10) = 17 from by unfold wrap64; omega] at hn
  go_enter Try.func15, Try.ntmps15
  go_wp2_with (go_at_call 10; refine (hn _).mono ?_; rintro e w2 ⟨rfl, hb⟩)
  go_ret
  exact ⟨rfl, hb⟩
end Go.Proofs.Ytpgehgfgdmeibaa.Mt
