/- Parts of the proof: ME1 DF1 RG2 T2. -/
import Derived.Test.YtjghbciepinofaaGreatRows
import Derived.Test.YtjghbciepinofaaGreatPEK29
import Derived.Test.YtjghbciepinofaaGreatPEK33
import Derived.Test.YtjghbciepinofaaGreatPEK38
import Derived.Test.YtjghbciepinofaaGreatPEK46
import Derived.Test.YtjghbciepinofaaGreatPEK47
import Derived.WalkKit
import Derived.WalkSpells
import Derived.WalkLawsBesides
import Derived.Below
import Derived.Deep.DeepCutAuto
import Derived.RegionTactic
import Derived.ChangeAlike
set_option maxRecDepth 100000
namespace Go.Proofs.YtjghbciepinofaaGreat.Mt
open Go.RowKit
theorem hide {p : Prop} (h : p) : Hid p := h
def I64 (a : Int) : Prop := -9223372036854775808 ≤ a ∧ a ≤ 9223372036854775807
/-- P6.1 -/
def alw (a : Int) : Int := if a < 5 then 1 else a / 5
theorem below_new (w : World) (o : Obj) : Below w.heap.size w (w.alloc o) := (Below.refl _ _).alloc (Nat.le_refl _) o
theorem below_then {w w1 w2 : World} (h : Below w.heap.size w w1) (k : Below w1.heap.size w1 w2) : Below w.heap.size w w2 := h.trans (k.mono h.size)
theorem quo5 {a : Int} (h : I64 a) (h5 : 5 ≤ a) : wrap64 (a.tdiv 5) = a / 5 := by
  unfold I64 at h
  rw [Int.tdiv_eq_ediv_of_nonneg (by omega)]
  unfold wrap64
  omega
theorem quo5' {a : Int} (h : I64 a) (h5 : a < 5) : ∃ q, wrap64 (a.tdiv 5) = q ∧ q < 1 := by
  refine ⟨_, rfl, ?_⟩
  unfold I64 at h
  by_cases h0 : 0 ≤ a
  · rw [Int.tdiv_eq_ediv_of_nonneg (by omega)]
    unfold wrap64
    omega
  · have e : a.tdiv 5 = -((-a) / 5) := by
      rw [show a = -(-a) by omega, Int.neg_tdiv, Int.tdiv_eq_ediv_of_nonneg (by omega)]
      simp
    rw [e]
    unfold wrap64
    omega
theorem alw_any (a : Int) (h : I64 a) (w : World) : Calls Tryz.prog 109 #[.int .i64 a] w fun e w' => e = .returned (.int .i64 (alw a)) ∧ w = w' := by
  by_cases h5 : a < 5
  · obtain ⟨q, hq, hq1⟩ := quo5' h h5
    rw [show alw a = 1 from if_pos h5]
    clear h5 h
    go_enter Tryz.func109, Tryz.ntmps109
    go_wp2
    go_ret
    exact ⟨rfl, rfl⟩
  · have hq := quo5 h (by omega)
    rw [show alw a = a / 5 from if_neg h5]
    have hq1 : 1 ≤ a / 5 := by omega
    generalize a / 5 = q at *
    clear h5 h
    go_enter Tryz.func109, Tryz.ntmps109
    go_wp2
    go_ret
    exact ⟨rfl, rfl⟩
theorem ralw_any (a : Int) (h : I64 a) (w : World) : Calls Tryz.prog 139 #[.int .i64 a] w fun e w' => e = .returned (.int .i64 (alw a)) ∧ w = w' := by
  by_cases h5 : a < 5
  · rw [show alw a = 1 from if_pos h5]
    go_enter Tryz.func139, Tryz.ntmps139
    go_wp2
    go_ret
    exact ⟨rfl, rfl⟩
  · have hq := quo5 h (by omega)
    rw [show alw a = a / 5 from if_neg h5]
    generalize a / 5 = q at *
    go_enter Tryz.func139, Tryz.ntmps139
    go_wp2
    go_ret
    exact ⟨rfl, rfl⟩
/-- a meter lies in a block -/
def MAt (w : World) (b : Nat) (l n : Int) : Prop := w.heap[b]? = some (.cells #[.int .i64 l, .int .i64 n] 44)
section
variable {w w' : World} {b B : Nat} {l n : Int}
theorem MAt.later (h : MAt w b l n) (hb : Below B w w') (hB : b < B) : MAt w' b l n := (hb.block b hB).trans h
theorem MAt.new (w : World) (l n : Int) : MAt (w.alloc (.cells #[.int .i64 l, .int .i64 n] 44)) w.heap.size l n := heap_alloc_new _ _
theorem MAt.new2 (w : World) (o : Obj) (l n : Int) : MAt ((w.alloc o).alloc (.cells #[.int .i64 l, .int .i64 n] 44)) (w.heap.size + 1) l n := by
  have := MAt.new (w.alloc o) l n
  rwa [show (w.alloc o).heap.size = w.heap.size + 1 by simp] at this
theorem MAt.lt (h : MAt w b l n) : b < w.heap.size := (Array.getElem?_eq_some_iff.1 h).1
theorem MAt.alloc (h : MAt w b l n) (o : Obj) : MAt (w.alloc o) b l n := (Below.heap_alloc _ _ _ h.lt).trans h
theorem MAt.other {c o : Nat} (h : MAt w b l n) (hb : b ≠ c) (v : Value) : MAt (w.setCell ⟨c, o, none⟩ v) b l n := (Below.heap_setCell _ _ _ _ hb).trans h
theorem MAt.facts (h : MAt w b l n) : (w.cell? ⟨b, 0, none⟩ = some (.int .i64 l) ∧ w.cell? ⟨b, 1, none⟩ = some (.int .i64 n)) ∧ (w.frozen? ⟨b, 0, none⟩ = false ∧ w.frozen? ⟨b, 1, none⟩ = false) := by
  unfold MAt at h
  simp [World.cell?, World.frozen?, h]
theorem MAt.set (h : MAt w b l n) (l' n' : Int) : MAt ((w.setCell ⟨b, 0, none⟩ (.int .i64 l')).setCell ⟨b, 1, none⟩ (.int .i64 n')) b l' n' := by
  unfold MAt at *
  simp [World.setCell, Array.getElem?_modify, h]
end
theorem meter_end {f : Func} {p : Tmp} (hres : f.results = #[.cell p 44]) {w wq : World} {g : Nat} {l n : Int} (R : MAt wq g l n) (H : Below w.heap.size w wq) (act : Act) (h8 : act.tmps.getD p undef = .pointer (some ⟨g, 0, none⟩)) (hd : act.defers = []) :
    bodyPost Tryz.prog f (fun e w' => e = .returned (.agg #[.int .i64 l, .int .i64 n]) ∧ Below w.heap.size w w') Exit.ret act wq := by
  obtain ⟨⟨u0, u1⟩, -⟩ := R.facts
  have h8' : act.tmps[p]?.getD undef = .pointer (some ⟨g, 0, none⟩) := by simpa using h8
  exact bodyPost_ret (v := .agg #[.int .i64 l, .int .i64 n]) (by simp [results, hres, go_sem, h8', u0, u1]) hd ⟨rfl, H⟩
theorem meter_end2 {f : Func} {p q : Tmp} (hres : f.results = #[.cell p 44, .tmp q]) {w wq : World} {g : Nat} {l n : Int} {t : Bool} (R : MAt wq g l n) (H : Below w.heap.size w wq) (act : Act) (h8 : act.tmps.getD p undef = .pointer (some ⟨g, 0, none⟩)) (h9 : act.tmps.getD q undef = .bool t) (hd : act.defers = []) :
    bodyPost Tryz.prog f (fun e w' => e = .returned (.tuple #[.agg #[.int .i64 l, .int .i64 n], .bool t]) ∧ Below w.heap.size w w') Exit.ret act wq := by
  obtain ⟨⟨u0, u1⟩, -⟩ := R.facts
  have h8' : act.tmps[p]?.getD undef = .pointer (some ⟨g, 0, none⟩) := by simpa using h8
  have h9' : act.tmps[q]?.getD undef = .bool t := by simpa using h9
  exact bodyPost_ret (v := .tuple #[.agg #[.int .i64 l, .int .i64 n], .bool t]) (by simp [results, hres, go_sem, h8', h9', u0, u1]) hd ⟨rfl, H⟩
theorem below_2 (w : World) (o p : Obj) : Below w.heap.size w ((w.alloc o).alloc p) := (below_new w o).alloc (by simp) p
theorem mnew_any (a t : Int) (h : I64 a) (w : World) : Calls Tryz.prog 66 #[.int .i64 a, .int .i64 t] w fun e w' => e = .returned (.agg #[.int .i64 (alw a), .int .i64 (wrap64 (t + 10))]) ∧ Below w.heap.size w w' := by
  have ha := alw_any a h
  generalize alw a = A at *
  go_enter Tryz.func66, Tryz.ntmps66
  go_wp2_with (go_at_call 109; refine (ha _).mono ?_; rintro e w2 ⟨rfl, rfl⟩)
  exact meter_end Tryz.results66 (MAt.new _ _ _) (below_new w _) _ rfl rfl
theorem rmnew_any (a t : Int) (h : I64 a) (w : World) : Calls Tryz.prog 95 #[.int .i64 a, .int .i64 t] w fun e w' => e = .returned (.agg #[.int .i64 (alw a), .int .i64 (wrap64 (t + 10))]) ∧ Below w.heap.size w w' := by
  have ha := ralw_any a h
  generalize alw a = A at *
  go_enter Tryz.func95, Tryz.ntmps95
  go_wp2_with (go_at_call 139; refine (ha _).mono ?_; rintro e w2 ⟨rfl, rfl⟩)
  exact meter_end Tryz.results95 (MAt.new _ _ _) (below_new w _) _ rfl rfl
/-- P6.2 -/
theorem mtick_any (l n a t : Int) (h : I64 a) (w : World) : Calls Tryz.prog 28 #[.agg #[.int .i64 l, .int .i64 n], .int .i64 a, .int .i64 t] w fun e w' => e = .returned (.agg #[.int .i64 (if t < n then l else alw a), .int .i64 (if t < n then n else wrap64 (t + 10))]) ∧ Below w.heap.size w w' := by
  have hn := mnew_any a t h
  generalize alw a = A at *
  generalize wrap64 (t + 10) = T at *
  by_cases hlt : t < n
  · rw [if_pos hlt, if_pos hlt]
    go_enter Tryz.func28, Tryz.ntmps28
    go_wp2
    exact meter_end Tryz.results28 (MAt.new2 _ _ _ _) (below_2 w _ _) _ rfl rfl
  · rw [if_neg hlt, if_neg hlt]
    have R := MAt.new2 w (.cells #[.int .i64 l, .int .i64 n] 44) 0 0
    have B := below_2 w (.cells #[.int .i64 l, .int .i64 n] 44) (.cells #[.int .i64 0, .int .i64 0] 44)
    go_enter Tryz.func28, Tryz.ntmps28
    go_upto_region 3 with fail
    generalize ((w.alloc (.cells #[.int .i64 l, .int .i64 n] 44)).alloc (.cells #[.int .i64 0, .int .i64 0] 44)) = w1 at *
    go_wp2_with (go_at_call 66; refine (hn _).mono ?_; rintro e w2 ⟨rfl, hb⟩; have R2 := R.later hb R.lt; obtain ⟨⟨c0, c1⟩, ⟨f0, f1⟩⟩ := R2.facts)
    exact meter_end Tryz.results28 (R2.set _ _) (((below_then B hb).setCell (Nat.le_succ _) _).setCell (Nat.le_succ _) _) _ rfl rfl
/-- P6.2 -/
theorem rmtick_any (l n a t : Int) (h : I64 a) (w : World) : Calls Tryz.prog 46 #[.agg #[.int .i64 l, .int .i64 n], .int .i64 a, .int .i64 t] w fun e w' => e = .returned (.agg #[.int .i64 (if t < n then l else alw a), .int .i64 (if t < n then n else wrap64 (t + 10))]) ∧ Below w.heap.size w w' := by
  have hn := rmnew_any a t h
  generalize alw a = A at *
  generalize wrap64 (t + 10) = T at *
  by_cases hlt : t < n
  · rw [if_pos hlt, if_pos hlt]
    go_enter Tryz.func46, Tryz.ntmps46
    go_wp2
    exact meter_end Tryz.results46 (MAt.new2 _ _ _ _) (below_2 w _ _) _ rfl rfl
  · rw [if_neg hlt, if_neg hlt]
    have R := MAt.new2 w (.cells #[.int .i64 l, .int .i64 n] 44) 0 0
    have B := below_2 w (.cells #[.int .i64 l, .int .i64 n] 44) (.cells #[.int .i64 0, .int .i64 0] 44)
    go_enter Tryz.func46, Tryz.ntmps46
    go_upto_region 3 with fail
    generalize ((w.alloc (.cells #[.int .i64 l, .int .i64 n] 44)).alloc (.cells #[.int .i64 0, .int .i64 0] 44)) = w1 at *
    go_wp2_with (go_at_call 95; refine (hn _).mono ?_; rintro e w2 ⟨rfl, hb⟩; have R2 := R.later hb R.lt; obtain ⟨⟨c0, c1⟩, ⟨f0, f1⟩⟩ := R2.facts)
    exact meter_end Tryz.results46 (R2.set _ _) (((below_then B hb).setCell (Nat.le_succ _) _).setCell (Nat.le_succ _) _) _ rfl rfl
/-- P6.3 -/
theorem mtake_any (l n a : Int) (w : World) : Calls Tryz.prog 147 #[.agg #[.int .i64 l, .int .i64 n], .int .i64 a] w fun e w' => e = .returned (.tuple #[.agg #[.int .i64 (if l < 1 then l else wrap64 (l - a)), .int .i64 n], .bool (if l < 1 then false else true)]) ∧ Below w.heap.size w w' := by
  by_cases hlt : l < 1
  · rw [if_pos hlt, if_pos hlt]
    go_enter Tryz.func147, Tryz.ntmps147
    go_wp2
    exact meter_end2 Tryz.results147 (MAt.new2 _ _ _ _) (below_2 w _ _) _ rfl rfl rfl
  · rw [if_neg hlt, if_neg hlt]
    go_enter Tryz.func147, Tryz.ntmps147
    go_wp2
    exact meter_end2 Tryz.results147 (MAt.new2 _ _ _ _) (below_2 w _ _) _ rfl rfl rfl
/-- P6.3 -/
theorem rmtake_any (l n a : Int) (w : World) : Calls Tryz.prog 99 #[.agg #[.int .i64 l, .int .i64 n], .int .i64 a] w fun e w' => e = .returned (.tuple #[.agg #[.int .i64 (if l < 1 then l else wrap64 (l - a)), .int .i64 n], .bool (if l < 1 then false else true)]) ∧ Below w.heap.size w w' := by
  by_cases hlt : l < 1
  · rw [if_pos hlt, if_pos hlt]
    go_enter Tryz.func99, Tryz.ntmps99
    go_wp2
    exact meter_end2 Tryz.results99 (MAt.new2 _ _ _ _) (below_2 w _ _) _ rfl rfl rfl
  · rw [if_neg hlt, if_neg hlt]
    go_enter Tryz.func99, Tryz.ntmps99
    go_wp2
    exact meter_end2 Tryz.results99 (MAt.new2 _ _ _ _) (below_2 w _ _) _ rfl rfl rfl
end Go.Proofs.YtjghbciepinofaaGreat.Mt

set_option maxRecDepth 100000
namespace Go.Proofs.YtjghbciepinofaaGreat.Df
open Go.RowKit
/-- six numbers in a block -/
def QAt (w : World) (b : Nat) (P : Nat → Int) : Prop := w.heap[b]? = some (.cells #[.int .i64 (P 0), .int .i64 (P 1), .int .i64 (P 2), .int .i64 (P 3), .int .i64 (P 4), .int .i64 (P 5)] 28)
section
variable {w w' : World} {b B : Nat} {P : Nat → Int}
theorem QAt.later (h : QAt w b P) (hb : Below B w w') (hB : b < B) : QAt w' b P := (hb.block b hB).trans h
theorem QAt.new (w : World) (P : Nat → Int) : QAt (w.alloc (.cells #[.int .i64 (P 0), .int .i64 (P 1), .int .i64 (P 2), .int .i64 (P 3), .int .i64 (P 4), .int .i64 (P 5)] 28)) w.heap.size P := heap_alloc_new _ _
theorem QAt.lt (h : QAt w b P) : b < w.heap.size := (Array.getElem?_eq_some_iff.1 h).1
theorem QAt.alloc (h : QAt w b P) (o : Obj) : QAt (w.alloc o) b P := (Below.heap_alloc _ _ _ h.lt).trans h
theorem QAt.facts (h : QAt w b P) : (w.cell? ⟨b, 0, none⟩ = some (.int .i64 (P 0)) ∧ w.cell? ⟨b, 1, none⟩ = some (.int .i64 (P 1)) ∧ w.cell? ⟨b, 2, none⟩ = some (.int .i64 (P 2)) ∧ w.cell? ⟨b, 3, none⟩ = some (.int .i64 (P 3)) ∧ w.cell? ⟨b, 4, none⟩ = some (.int .i64 (P 4)) ∧ w.cell? ⟨b, 5, none⟩ = some (.int .i64 (P 5))) ∧ (∀ k, w.frozen? ⟨b, k, none⟩ = false) := by
  unfold QAt at h
  simp [World.cell?, World.frozen?, h]
theorem QAt.one (h : QAt w b P) {k : Nat} (hk : k < 6) : w.cell? ⟨b, k, none⟩ = some (.int .i64 (P k)) := by
  obtain ⟨⟨h0, h1, h2, h3, h4, h5⟩, -⟩ := h.facts
  rcases (show k = 0 ∨ k = 1 ∨ k = 2 ∨ k = 3 ∨ k = 4 ∨ k = 5 by omega) with rfl | rfl | rfl | rfl | rfl | rfl <;> assumption
theorem QAt.put (h : QAt w b P) {k : Nat} (hk : k < 6) (n : Int) : QAt (w.setCell ⟨b, k, none⟩ (.int .i64 n)) b (putP P ((k : Int), n)) := by
  unfold QAt at *
  simp only [put_at hk]
  rcases (show k = 0 ∨ k = 1 ∨ k = 2 ∨ k = 3 ∨ k = 4 ∨ k = 5 by omega) with rfl | rfl | rfl | rfl | rfl | rfl <;> simp [World.setCell, Array.getElem?_modify, h]
end
theorem grown_set (w : World) (b k : Nat) (u : Value) (o : Obj) : w.grownBy ((w.setCell ⟨b, k, none⟩ u).alloc o).drew (some b) :=
  have h := (Below.refl 0 w).setCell (p := ⟨b, k, none⟩) (Nat.zero_le _) u
  ⟨h.os, h.tape, h.output, by show w.heap.size ≤ ((w.setCell ⟨b, k, none⟩ u).alloc o).heap.size; simp, fun j hj hne => (Below.heap_alloc (w.setCell ⟨b, k, none⟩ u) o j (by simpa using hj)).trans (Below.heap_setCell _ _ _ _ (fun e => hne (by rw [e])))⟩
theorem grown_trans {w w1 w2 : World} {b : Nat} (h : w.grownBy w1 (some b)) (k : w1.grownBy w2 (some b)) : w.grownBy w2 (some b) :=
  ⟨k.os.trans h.os, k.tape.trans h.tape, k.output.trans h.output, Nat.le_trans h.size k.size, fun j hj hne => (k.block j (Nat.lt_of_lt_of_le hj h.size) hne).trans (h.block j hj hne)⟩
theorem grown_below {w w1 : World} {b : Nat} (h : w.grownBy w1 (some b)) {B : Nat} (hB : B ≤ b) (hz : B ≤ w.heap.size) : Below B w w1 := (Below.refl B w).grown h hz (fun k hk => by cases hk; exact hB)
set_option maxHeartbeats 1000000 in
theorem put_any (b : Nat) (v n : Int) (P : Nat → Int) (w : World) (h : QAt w b P) :
    Calls Tryz.prog 41 #[.pointer (some ⟨b, 0, none⟩), .agg #[.int .i64 v, .int .i64 n]] w fun e w' => e = .returned (.tuple #[]) ∧ QAt w' b (putP P (v, n)) ∧ w.grownBy w' (some b) := by
  have hV := isVal_any v
  have h1 := h.alloc (.cells #[.int .i64 v, .int .i64 n] 74)
  have hg1 := World.grownBy_alloc w (.cells #[.int .i64 v, .int .i64 n] 74) (some b)
  have hlt := h.lt
  by_cases hv : 0 ≤ v ∧ v < 6
  · obtain ⟨k, rfl⟩ := Int.eq_ofNat_of_zero_le hv.1
    have hk : k < 6 := by omega
    have hkI : (k : Int) < 6 := by omega
    rw [show isV (k : Int) = true from isV_iff.2 hv] at hV
    have hc := h.one hk
    have hf := h.facts.2 k
    have HQ := hide (show _ ∧ _ from ⟨(h.put hk n).alloc (.cells #[.int .i64 (k : Int), .int .i64 n] 74), grown_set w b k (.int .i64 n) (.cells #[.int .i64 (k : Int), .int .i64 n] 74)⟩)
    clear h1 hg1 hv h
    go_enter Tryz.func41, Tryz.ntmps41
    go_upto_region 2 with (go_at_call 90; refine (hV _).mono ?_; rintro e w1 ⟨rfl, rfl⟩)
    go_region
    all_goals go_end0
    all_goals exact ⟨rfl, HQ.out.1, HQ.out.2⟩
  · rw [show isV v = false by simpa [isV] using hv] at hV
    have hp : putP P (v, n) = P := by unfold putP; rw [if_neg hv]
    rw [hp]
    go_enter Tryz.func41, Tryz.ntmps41
    go_wp2_with (go_at_call 90; refine (hV _).mono ?_; rintro e w1 ⟨rfl, rfl⟩)
    go_end0
    exact ⟨rfl, h1, hg1⟩
/-- a list of powers that lies somewhere -/
structure PIn (w : World) (l : List Pw) (ao : Option Addr) (b off : Nat) : Prop where
  len : l.length ≤ 8796093022202
  adr : 0 < l.length → ao = some ⟨b, off, none⟩
  cells : ∀ i, i < l.length → w.cell? ⟨b, off + i * 2, none⟩ = some (.int .i64 (l.getD i (0, 0)).1) ∧ w.cell? ⟨b, off + i * 2 + 1, none⟩ = some (.int .i64 (l.getD i (0, 0)).2)
theorem PIn.ltB {w : World} {l : List Pw} {ao : Option Addr} {b off : Nat} (h : PIn w l ao b off) (h0 : 0 < l.length) : b < w.heap.size := World.block_lt_of_cell? w _ (h.cells 0 h0).1
theorem PIn.later {B : Nat} {w w' : World} {l : List Pw} {ao : Option Addr} {b off : Nat} (h : PIn w l ao b off) (hb : Below B w w') (hB : 0 < l.length → b < B) : PIn w' l ao b off :=
  ⟨h.len, h.adr, fun i hi => ⟨(hb.cell (p := ⟨b, off + i * 2, none⟩) (hB (by omega))).trans (h.cells i hi).1, (hb.cell (p := ⟨b, off + i * 2 + 1, none⟩) (hB (by omega))).trans (h.cells i hi).2⟩⟩
theorem PIn.over {w w' : World} {l : List Pw} {ao : Option Addr} {b off : Nat} (h : PIn w l ao b off) (hb : Below w.heap.size w w') : PIn w' l ao b off := h.later hb h.ltB
/-- six cells of a block, stored one behind the other -/
def set6 (w : World) (b : Nat) (v0 v1 v2 v3 v4 v5 : Value) : World := (((((w.setCell ⟨b, 0, none⟩ v0).setCell ⟨b, 1, none⟩ v1).setCell ⟨b, 2, none⟩ v2).setCell ⟨b, 3, none⟩ v3).setCell ⟨b, 4, none⟩ v4).setCell ⟨b, 5, none⟩ v5
theorem set6_at {w : World} {b : Nat} {R : Nat → Int} (h : QAt w b R) (P : Nat → Int) : QAt (set6 w b (.int .i64 (P 0)) (.int .i64 (P 1)) (.int .i64 (P 2)) (.int .i64 (P 3)) (.int .i64 (P 4)) (.int .i64 (P 5))) b P := by
  unfold QAt set6 at *
  simp [World.setCell, Array.getElem?_modify, h]
theorem set6_below {B : Nat} {w0 w : World} {b : Nat} (v0 v1 v2 v3 v4 v5 : Value) (h : Below B w0 w) (hB : B ≤ b) : Below B w0 (set6 w b v0 v1 v2 v3 v4 v5) := (((((h.setCell hB _).setCell hB _).setCell hB _).setCell hB _).setCell hB _).setCell hB _
set_option maxHeartbeats 2000000 in
theorem first_any (l : List Pw) (ao : Option Addr) (c b off : Nat) (w : World) (hl : PIn w l ao b off) :
    Calls Tryz.prog 115 #[.slice ao l.length c] w fun e w' => e = .returned (.agg #[.int .i64 (firstP l 0), .int .i64 (firstP l 1), .int .i64 (firstP l 2), .int .i64 (firstP l 3), .int .i64 (firstP l 4), .int .i64 (firstP l 5)]) ∧ Below w.heap.size w w' := by
  have hlen := hl.len
  have HL := hide hl
  have Q1 := (QAt.new w zeroP).alloc (.cells #[.int .i64 0, .int .i64 0, .int .i64 0, .int .i64 0, .int .i64 0, .int .i64 0] 28)
  have Q2 := QAt.new (w.alloc (.cells #[.int .i64 0, .int .i64 0, .int .i64 0, .int .i64 0, .int .i64 0, .int .i64 0] 28)) zeroP
  rw [show (w.alloc (.cells #[.int .i64 0, .int .i64 0, .int .i64 0, .int .i64 0, .int .i64 0, .int .i64 0] 28)).heap.size = w.heap.size + 1 by simp] at Q2
  have BW : Below w.heap.size w ((w.alloc (.cells #[.int .i64 0, .int .i64 0, .int .i64 0, .int .i64 0, .int .i64 0, .int .i64 0] 28)).alloc (.cells #[.int .i64 0, .int .i64 0, .int .i64 0, .int .i64 0, .int .i64 0, .int .i64 0] 28)) := ((Below.refl _ w).alloc (Nat.le_refl _) _).alloc (by simp) _
  dsimp only [zeroP] at Q1 Q2
  clear hl
  go_enter Tryz.func115, Tryz.ntmps115
  go_upto_region 2 with fail
  generalize ((w.alloc (.cells #[.int .i64 0, .int .i64 0, .int .i64 0, .int .i64 0, .int .i64 0, .int .i64 0] 28)).alloc (.cells #[.int .i64 0, .int .i64 0, .int .i64 0, .int .i64 0, .int .i64 0, .int .i64 0] 28)) = w0 at *
  have HX := hide (show _ ∧ _ ∧ _ from ⟨Q1, Q2, BW⟩)
  clear Q1 Q2 BW
  go_upto_region 3 with fail
  go_loopw [4] (fun i wl => ∃ k : Nat, k ≤ l.length ∧ i = .int .i64 ((k : Int) - 1) ∧ Hid (QAt wl w.heap.size (fun _ => 0) ∧ QAt wl (w.heap.size + 1) (firstP (l.drop k)) ∧ Below w.heap.size w wl)) (fun i _ => (intOf i + 1).toNat)
  case atStart => exact ⟨l.length, Nat.le_refl _, rfl, HX.out.1, by rw [List.drop_length]; exact HX.out.2.1, HX.out.2.2⟩
  case round =>
    obtain ⟨k, hk, rfl, HR⟩ := hrel
    clear HX
    by_cases h0 : 0 < k
    · obtain ⟨j, rfl⟩ : ∃ j, k = j + 1 := ⟨k - 1, by omega⟩
      have hj : j < l.length := by omega
      have hjI : (j : Int) < (l.length : Int) := by omega
      obtain ⟨c0, c1⟩ := (HL.out.later HR.out.2.2 HL.out.ltB).cells j hj
      have HS := hide (foldr_drop l j hj)
      have eao := HL.out.adr (by omega)
      subst eao
      generalize l.getD j (0, 0) = x at *
      obtain ⟨v, n⟩ := x
      dsimp only at c0 c1
      have ej : (((j + 1 : Nat) : Int) - 1) = (j : Int) := by omega
      rw [ej]
      go_wp2_with (go_at_call 41; refine (put_any (w.heap.size + 1) v n _ _ HR.out.2.1).mono ?_; rintro e w1 ⟨rfl, hq, hg⟩; have HQ := hide hq; have HG := hide hg; clear hq hg)
      refine ⟨⟨j, by omega, rfl, (HG.out.block _ HR.out.1.lt (by simp)).trans HR.out.1, by rw [HS.out]; exact HQ.out, HR.out.2.2.trans (grown_below HG.out (by omega) HR.out.2.2.size)⟩, by simp [intOf]⟩
    · obtain rfl : k = 0 := by omega
      have hF : firstP (l.drop 0) = firstP l := by rw [List.drop_zero]
      rw [hF] at HR
      obtain ⟨F, hFl⟩ : ∃ F, firstP l = F := ⟨_, rfl⟩
      rw [hFl] at HR
      have HFL := hide hFl
      clear hF hFl
      obtain ⟨⟨c0, c1, c2, c3, c4, c5⟩, -⟩ := HR.out.2.1.facts
      obtain ⟨⟨d0, d1, d2, d3, d4, d5⟩, hfr⟩ := HR.out.1.facts
      go_wp2
      have HQ := set6_at HR.out.1 F
      have HB := set6_below (b := w.heap.size) (.int .i64 (F 0)) (.int .i64 (F 1)) (.int .i64 (F 2)) (.int .i64 (F 3)) (.int .i64 (F 4)) (.int .i64 (F 5)) HR.out.2.2 (Nat.le_refl _)
      show bodyPost Tryz.prog Tryz.f115 _ Exit.ret _ (set6 wr w.heap.size (.int .i64 (F 0)) (.int .i64 (F 1)) (.int .i64 (F 2)) (.int .i64 (F 3)) (.int .i64 (F 4)) (.int .i64 (F 5)))
      generalize set6 wr w.heap.size (.int .i64 (F 0)) (.int .i64 (F 1)) (.int .i64 (F 2)) (.int .i64 (F 3)) (.int .i64 (F 4)) (.int .i64 (F 5)) = w9 at *
      obtain ⟨⟨z0, z1, z2, z3, z4, z5⟩, -⟩ := HQ.facts
      exact bodyPost_ret (v := .agg #[.int .i64 (F 0), .int .i64 (F 1), .int .i64 (F 2), .int .i64 (F 3), .int .i64 (F 4), .int .i64 (F 5)]) (by simp [results, Tryz.results115, go_sem, z0, z1, z2, z3, z4, z5]) rfl ⟨by rw [HFL.out], HB⟩
end Go.Proofs.YtjghbciepinofaaGreat.Df

set_option maxRecDepth 100000
namespace Go.Proofs.YtjghbciepinofaaGreat.Ra
open Go.RowKit

theorem in11 (n : Int) (w : World) : Calls Tryz.prog 138 #[.int .i64 n] w fun e w' => e = .returned (.bool (inB n)) ∧ w' = w := by
  by_cases h0 : 0 ≤ n
  · by_cases h1 : n ≤ 1125899906842624
    · rw [inB_true h0 h1]
      go_enter Tryz.func138, Tryz.ntmps138
      go_wp2
      go_ret
      exact ⟨rfl, rfl⟩
    · rw [inB_high h1]
      go_enter Tryz.func138, Tryz.ntmps138
      go_wp2
      go_ret
      exact ⟨rfl, rfl⟩
  · rw [inB_low h0]
    go_enter Tryz.func138, Tryz.ntmps138
    go_wp2
    go_ret
    exact ⟨rfl, rfl⟩

theorem part14 (n f : Int) (w : World) : Calls Tryz.prog 141 #[.int .i64 n, .int .i64 f] w fun e w' => e = .returned (.tuple #[.int .i64 (ptN n f), .int .i64 (ptE n f)]) ∧ Below w.heap.size w w' := by
  have ci := in11 n
  by_cases hi : inB n = true
  · obtain ⟨n0, n1⟩ := inB_iff.1 hi
    by_cases f0 : f < 0
    · obtain ⟨e1, e2⟩ := pt_bad (n := n) (f := f) (by omega)
      rw [e1, e2]
      rw [hi] at ci
      clear e1 e2 hi
      go_enter Tryz.func141, Tryz.ntmps141
      go_wp2_with (go_at_call 138; refine (ci _).mono ?_; rintro e w' ⟨rfl, rfl⟩)
      go_ret2
      exact ⟨rfl, ⟨rfl, rfl, rfl, Nat.le_refl _, fun _ _ => rfl⟩⟩
    · by_cases f1 : 1000 < f
      · obtain ⟨e1, e2⟩ := pt_bad (n := n) (f := f) (by omega)
        rw [e1, e2]
        rw [hi] at ci
        clear e1 e2 hi
        go_enter Tryz.func141, Tryz.ntmps141
        go_wp2_with (go_at_call 138; refine (ci _).mono ?_; rintro e w' ⟨rfl, rfl⟩)
        go_ret2
        exact ⟨rfl, ⟨rfl, rfl, rfl, Nat.le_refl _, fun _ _ => rfl⟩⟩
      · obtain ⟨e1, e2⟩ := pt_good (n := n) (f := f) ⟨hi, by omega, by omega⟩
        rw [e1, e2]
        rw [hi] at ci
        clear e1 e2 hi
        go_enter Tryz.func141, Tryz.ntmps141
        go_wp2_with (go_at_call 138; refine (ci _).mono ?_; rintro e w' ⟨rfl, rfl⟩)
        rw [part_key n0 n1 f0 f1]
        go_ret2
        exact ⟨rfl, ⟨rfl, rfl, rfl, Nat.le_refl _, fun _ _ => rfl⟩⟩
  · obtain ⟨e1, e2⟩ := pt_bad (n := n) (f := f) (by simp [hi])
    rw [e1, e2]
    have hi' : inB n = false := by simpa using hi
    rw [hi'] at ci
    clear e1 e2 hi hi'
    go_enter Tryz.func141, Tryz.ntmps141
    go_wp2_with (go_at_call 138; refine (ci _).mono ?_; rintro e w' ⟨rfl, rfl⟩)
    go_ret2
    exact ⟨rfl, ⟨rfl, rfl, rfl, Nat.le_refl _, fun _ _ => rfl⟩⟩

end Go.Proofs.YtjghbciepinofaaGreat.Ra

set_option maxRecDepth 100000
namespace Go.Proofs.YtjghbciepinofaaGreat
open Go.RowKit
theorem rmove_end {w wq : World} (R : BAt wq (w.heap.size + 1) 0 0 0 0 0 0 0) (H : Below w.heap.size w wq) (r0 r1 r2 r3 r4 r5 r6 er : Int) (act : Act)
    (h8 : act.tmps.getD 8 undef = .pointer (some ⟨w.heap.size + 1, 0, none⟩)) (h9 : act.tmps.getD 9 undef = .int .i64 er) (hd : act.defers = []) :
    bodyPost Tryz.prog Tryz.f143 (fun e w' => e = .returned (.tuple #[.agg #[.int .i64 r0, .int .i64 r1, .int .i64 r2, .int .i64 r3, .int .i64 r4, .int .i64 r5, .int .i64 r6], .int .i64 er]) ∧ Below w.heap.size w w') Exit.ret act
      (set7 wq (w.heap.size + 1) r0 r1 r2 r3 r4 r5 r6) := by
  have HR := R.set7 r0 r1 r2 r3 r4 r5 r6
  have HW := set7_below (b := w.heap.size + 1) H (by omega) r0 r1 r2 r3 r4 r5 r6
  generalize set7 wq (w.heap.size + 1) r0 r1 r2 r3 r4 r5 r6 = w9 at *
  obtain ⟨u0, u1, u2, u3, u4, u5, u6⟩ := HR.cells
  have h8' : act.tmps[8]?.getD undef = .pointer (some ⟨w.heap.size + 1, 0, none⟩) := by simpa using h8
  have h9' : act.tmps[9]?.getD undef = .int .i64 er := by simpa using h9
  exact bodyPost_ret (v := .tuple #[.agg #[.int .i64 r0, .int .i64 r1, .int .i64 r2, .int .i64 r3, .int .i64 r4, .int .i64 r5, .int .i64 r6], .int .i64 er]) (by simp [results, Tryz.results143, go_sem, h8', h9', u0, u1, u2, u3, u4, u5, u6]) hd ⟨rfl, HW⟩
theorem rmove_fin {w w9 : World} {r0 r1 r2 r3 r4 r5 r6 : Int} (HR : BAt w9 (w.heap.size + 1) r0 r1 r2 r3 r4 r5 r6) (HW : Below w.heap.size w w9) (er : Int) (act : Act)
    (h8 : act.tmps.getD 8 undef = .pointer (some ⟨w.heap.size + 1, 0, none⟩)) (h9 : act.tmps.getD 9 undef = .int .i64 er) (hd : act.defers = []) :
    bodyPost Tryz.prog Tryz.f143 (fun e w' => e = .returned (.tuple #[.agg #[.int .i64 r0, .int .i64 r1, .int .i64 r2, .int .i64 r3, .int .i64 r4, .int .i64 r5, .int .i64 r6], .int .i64 er]) ∧ Below w.heap.size w w') Exit.ret act w9 := by
  obtain ⟨u0, u1, u2, u3, u4, u5, u6⟩ := HR.cells
  have h8' : act.tmps[8]?.getD undef = .pointer (some ⟨w.heap.size + 1, 0, none⟩) := by simpa using h8
  have h9' : act.tmps[9]?.getD undef = .int .i64 er := by simpa using h9
  exact bodyPost_ret (v := .tuple #[.agg #[.int .i64 r0, .int .i64 r1, .int .i64 r2, .int .i64 r3, .int .i64 r4, .int .i64 r5, .int .i64 r6], .int .i64 er]) (by simp [results, Tryz.results143, go_sem, h8', h9', u0, u1, u2, u3, u4, u5, u6]) hd ⟨rfl, HW⟩
set_option maxHeartbeats 2000000 in
theorem rmove_funds_4 (f0 f1 f2 f3 bo wa bu t n : Int) (w : World) (hg : goodB f0 f1 f2 f3 bo wa bu = true) (hn0 : 0 ≤ n) (hn1 : n ≤ 1125899906842624) (hle : bo < n) :
    Calls Tryz.prog 143 #[.agg #[.int .i64 f0, .int .i64 f1, .int .i64 f2, .int .i64 f3, .int .i64 bo, .int .i64 wa, .int .i64 bu], .int .i64 4, .int .i64 t, .int .i64 n] w fun e w' => e = .returned (.tuple #[.agg #[.int .i64 f0, .int .i64 f1, .int .i64 f2, .int .i64 f3, .int .i64 bo, .int .i64 wa, .int .i64 bu], .int .i64 7]) ∧ Below w.heap.size w w' := by
  have hG := rgood_any f0 f1 f2 f3 bo wa bu
  rw [hg] at hG
  have hI := rin_any n
  rw [decide_eq_true ⟨hn0, hn1⟩] at hI
  clear hg hn0 hn1
  go_enter Tryz.func143, Tryz.ntmps143
  go_wp2_with fail
  refine (hG _).mono ?_
  rintro e w1 ⟨rfl, hb⟩
  have B1 := ((BAt.new w f0 f1 f2 f3 bo wa bu).alloc (.cells #[.int .i64 0, .int .i64 0, .int .i64 0, .int .i64 0, .int .i64 0, .int .i64 0, .int .i64 0] 24)).later hb (by simp; omega)
  have R1 : BAt w1 (w.heap.size + 1) 0 0 0 0 0 0 0 := by
    have := (BAt.new (w.alloc (.cells #[.int .i64 f0, .int .i64 f1, .int .i64 f2, .int .i64 f3, .int .i64 bo, .int .i64 wa, .int .i64 bu] 24)) 0 0 0 0 0 0 0).later hb (by simp)
    simpa using this
  have HB : Hid (Below w.heap.size w w1) := (((Below.refl _ w).alloc (Nat.le_refl _) _).alloc (by simp) _).trans (hb.mono (by simp; omega))
  clear hb
  obtain ⟨x0, x1, x2, x3, x4, x5, x6⟩ := B1.cells
  go_wp2_with (first
    | (go_at_call 138; refine (hI _).mono ?_; rintro e wI ⟨rfl, rfl⟩)
    | (go_at_call 157; refine (rplaces_any f0 f1 f2 f3 bo wa bu _).mono ?_; rintro e w2 ⟨rfl, h2⟩; have R2 := R1.later h2 R1.lt; have B2 := B1.later h2 B1.lt; have HB2 : Hid (Below w.heap.size w w2) := HB.out.trans (h2.mono HB.out.size); have hz2 : w.heap.size < w2.heap.size := B2.lt; have hz3 : w.heap.size + 1 < w2.heap.size := R2.lt; clear h2; clear x0 x1 x2 x3 x4 x5 x6; obtain ⟨x0, x1, x2, x3, x4, x5, x6⟩ := B2.cells; obtain ⟨u0, u1, u2, u3, u4, u5, u6⟩ := R2.frees; obtain ⟨v0, v1, v2, v3, v4, v5, v6⟩ := R2.cells; have HR2 : Hid (BAt w2 (w.heap.size + 1) 0 0 0 0 0 0 0) := R2; clear B1 R1 HB B2 R2))
  exact rmove_fin (w9 := (set7 w2 (w.heap.size + 1) f0 f1 f2 f3 bo wa bu).alloc _) ((HR2.out.set7 f0 f1 f2 f3 bo wa bu).alloc _) (let h := set7_below (b := w.heap.size + 1) HB2.out (by omega) f0 f1 f2 f3 bo wa bu; h.alloc h.size _) 7 _ rfl rfl rfl
set_option maxHeartbeats 2000000 in
theorem rmove_funds_5 (f0 f1 f2 f3 bo wa bu t n : Int) (w : World) (hg : goodB f0 f1 f2 f3 bo wa bu = true) (hn0 : 0 ≤ n) (hn1 : n ≤ 1125899906842624) (hle : wa < n) :
    Calls Tryz.prog 143 #[.agg #[.int .i64 f0, .int .i64 f1, .int .i64 f2, .int .i64 f3, .int .i64 bo, .int .i64 wa, .int .i64 bu], .int .i64 5, .int .i64 t, .int .i64 n] w fun e w' => e = .returned (.tuple #[.agg #[.int .i64 f0, .int .i64 f1, .int .i64 f2, .int .i64 f3, .int .i64 bo, .int .i64 wa, .int .i64 bu], .int .i64 7]) ∧ Below w.heap.size w w' := by
  have hG := rgood_any f0 f1 f2 f3 bo wa bu
  rw [hg] at hG
  have hI := rin_any n
  rw [decide_eq_true ⟨hn0, hn1⟩] at hI
  clear hg hn0 hn1
  go_enter Tryz.func143, Tryz.ntmps143
  go_wp2_with fail
  refine (hG _).mono ?_
  rintro e w1 ⟨rfl, hb⟩
  have B1 := ((BAt.new w f0 f1 f2 f3 bo wa bu).alloc (.cells #[.int .i64 0, .int .i64 0, .int .i64 0, .int .i64 0, .int .i64 0, .int .i64 0, .int .i64 0] 24)).later hb (by simp; omega)
  have R1 : BAt w1 (w.heap.size + 1) 0 0 0 0 0 0 0 := by
    have := (BAt.new (w.alloc (.cells #[.int .i64 f0, .int .i64 f1, .int .i64 f2, .int .i64 f3, .int .i64 bo, .int .i64 wa, .int .i64 bu] 24)) 0 0 0 0 0 0 0).later hb (by simp)
    simpa using this
  have HB : Hid (Below w.heap.size w w1) := (((Below.refl _ w).alloc (Nat.le_refl _) _).alloc (by simp) _).trans (hb.mono (by simp; omega))
  clear hb
  obtain ⟨x0, x1, x2, x3, x4, x5, x6⟩ := B1.cells
  go_wp2_with (first
    | (go_at_call 138; refine (hI _).mono ?_; rintro e wI ⟨rfl, rfl⟩)
    | (go_at_call 157; refine (rplaces_any f0 f1 f2 f3 bo wa bu _).mono ?_; rintro e w2 ⟨rfl, h2⟩; have R2 := R1.later h2 R1.lt; have B2 := B1.later h2 B1.lt; have HB2 : Hid (Below w.heap.size w w2) := HB.out.trans (h2.mono HB.out.size); have hz2 : w.heap.size < w2.heap.size := B2.lt; have hz3 : w.heap.size + 1 < w2.heap.size := R2.lt; clear h2; clear x0 x1 x2 x3 x4 x5 x6; obtain ⟨x0, x1, x2, x3, x4, x5, x6⟩ := B2.cells; obtain ⟨u0, u1, u2, u3, u4, u5, u6⟩ := R2.frees; obtain ⟨v0, v1, v2, v3, v4, v5, v6⟩ := R2.cells; have HR2 : Hid (BAt w2 (w.heap.size + 1) 0 0 0 0 0 0 0) := R2; clear B1 R1 HB B2 R2))
  exact rmove_fin (w9 := (set7 w2 (w.heap.size + 1) f0 f1 f2 f3 bo wa bu).alloc _) ((HR2.out.set7 f0 f1 f2 f3 bo wa bu).alloc _) (let h := set7_below (b := w.heap.size + 1) HB2.out (by omega) f0 f1 f2 f3 bo wa bu; h.alloc h.size _) 7 _ rfl rfl rfl
set_option maxHeartbeats 2000000 in
theorem rmove_range_bad (f0 f1 f2 f3 bo wa bu f t n : Int) (w : World) (hg : goodB f0 f1 f2 f3 bo wa bu = false) :
    Calls Tryz.prog 143 #[.agg #[.int .i64 f0, .int .i64 f1, .int .i64 f2, .int .i64 f3, .int .i64 bo, .int .i64 wa, .int .i64 bu], .int .i64 f, .int .i64 t, .int .i64 n] w fun e w' => e = .returned (.tuple #[.agg #[.int .i64 f0, .int .i64 f1, .int .i64 f2, .int .i64 f3, .int .i64 bo, .int .i64 wa, .int .i64 bu], .int .i64 2]) ∧ Below w.heap.size w w' := by
  have hG := rgood_any f0 f1 f2 f3 bo wa bu
  rw [hg] at hG
  clear hg
  go_enter Tryz.func143, Tryz.ntmps143
  go_wp2_with fail
  refine (hG _).mono ?_
  rintro e w1 ⟨rfl, hb⟩
  have B1 := ((BAt.new w f0 f1 f2 f3 bo wa bu).alloc (.cells #[.int .i64 0, .int .i64 0, .int .i64 0, .int .i64 0, .int .i64 0, .int .i64 0, .int .i64 0] 24)).later hb (by simp; omega)
  have R1 : BAt w1 (w.heap.size + 1) 0 0 0 0 0 0 0 := by
    have := (BAt.new (w.alloc (.cells #[.int .i64 f0, .int .i64 f1, .int .i64 f2, .int .i64 f3, .int .i64 bo, .int .i64 wa, .int .i64 bu] 24)) 0 0 0 0 0 0 0).later hb (by simp)
    simpa using this
  have HB : Hid (Below w.heap.size w w1) := (((Below.refl _ w).alloc (Nat.le_refl _) _).alloc (by simp) _).trans (hb.mono (by simp; omega))
  clear hb
  obtain ⟨x0, x1, x2, x3, x4, x5, x6⟩ := B1.cells
  obtain ⟨u0, u1, u2, u3, u4, u5, u6⟩ := R1.frees
  obtain ⟨v0, v1, v2, v3, v4, v5, v6⟩ := R1.cells
  have HR1 : Hid (BAt w1 (w.heap.size + 1) 0 0 0 0 0 0 0) := R1
  clear B1 R1
  go_wp2
  exact rmove_end HR1.out HB.out f0 f1 f2 f3 bo wa bu 2 _ rfl rfl rfl
set_option maxHeartbeats 2000000 in
theorem rmove_range_in (f0 f1 f2 f3 bo wa bu f t n : Int) (w : World) (hg : goodB f0 f1 f2 f3 bo wa bu = true) (hn : ¬ (0 ≤ n ∧ n ≤ 1125899906842624)) :
    Calls Tryz.prog 143 #[.agg #[.int .i64 f0, .int .i64 f1, .int .i64 f2, .int .i64 f3, .int .i64 bo, .int .i64 wa, .int .i64 bu], .int .i64 f, .int .i64 t, .int .i64 n] w fun e w' => e = .returned (.tuple #[.agg #[.int .i64 f0, .int .i64 f1, .int .i64 f2, .int .i64 f3, .int .i64 bo, .int .i64 wa, .int .i64 bu], .int .i64 2]) ∧ Below w.heap.size w w' := by
  have hG := rgood_any f0 f1 f2 f3 bo wa bu
  rw [hg] at hG
  clear hg
  have hI := rin_any n
  rw [decide_eq_false hn] at hI
  clear hn
  go_enter Tryz.func143, Tryz.ntmps143
  go_wp2_with fail
  refine (hG _).mono ?_
  rintro e w1 ⟨rfl, hb⟩
  have B1 := ((BAt.new w f0 f1 f2 f3 bo wa bu).alloc (.cells #[.int .i64 0, .int .i64 0, .int .i64 0, .int .i64 0, .int .i64 0, .int .i64 0, .int .i64 0] 24)).later hb (by simp; omega)
  have R1 : BAt w1 (w.heap.size + 1) 0 0 0 0 0 0 0 := by
    have := (BAt.new (w.alloc (.cells #[.int .i64 f0, .int .i64 f1, .int .i64 f2, .int .i64 f3, .int .i64 bo, .int .i64 wa, .int .i64 bu] 24)) 0 0 0 0 0 0 0).later hb (by simp)
    simpa using this
  have HB : Hid (Below w.heap.size w w1) := (((Below.refl _ w).alloc (Nat.le_refl _) _).alloc (by simp) _).trans (hb.mono (by simp; omega))
  clear hb
  obtain ⟨x0, x1, x2, x3, x4, x5, x6⟩ := B1.cells
  obtain ⟨u0, u1, u2, u3, u4, u5, u6⟩ := R1.frees
  obtain ⟨v0, v1, v2, v3, v4, v5, v6⟩ := R1.cells
  have HR1 : Hid (BAt w1 (w.heap.size + 1) 0 0 0 0 0 0 0) := R1
  clear B1 R1
  go_wp2_with (go_at_call 138; refine (hI _).mono ?_; rintro e wI ⟨rfl, rfl⟩)
  exact rmove_end HR1.out HB.out f0 f1 f2 f3 bo wa bu 2 _ rfl rfl rfl
end Go.Proofs.YtjghbciepinofaaGreat

