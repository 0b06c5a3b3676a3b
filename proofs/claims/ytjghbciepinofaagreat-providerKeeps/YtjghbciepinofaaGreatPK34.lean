/- Parts of the proof: LO OS0. -/
import Derived.Test.YtjghbciepinofaaGreatRows
import Derived.Test.YtjghbciepinofaaGreatPK39
import Derived.ProofKit
import Derived.OpenShut
import Derived.Deep.Slices
import Derived.SliceStrings
import Derived.SizedLaws
import Derived.WalkKit
import Derived.Laws.IdiomArrays
set_option maxRecDepth 100000
namespace Go.Proofs.YtjghbciepinofaaGreat.Ln
open Go.ChangeShapes Go.WideShapes Go.ChangeAt Go.RowKit Go.Deep
theorem cI : Tryz.prog.cellsOf 3 = 1 := by kernel_rfl
theorem cT : Tryz.prog.cellsOf 4 = 1 := by kernel_rfl
theorem cStr : Tryz.prog.cellsOf 9 = 1 := by kernel_rfl
theorem cStrs : Tryz.prog.cellsOf 35 = 1 := by kernel_rfl
theorem cIs : Tryz.prog.cellsOf 34 = 1 := by kernel_rfl
theorem cLn : Tryz.prog.cellsOf 37 = 4 := by kernel_rfl
section
variable {H : Type} {enc : TypeId × Value → H} {W : World}
theorem open_num {r : Reach} {b0 : Nat} {v : Value} {d : DataW H} {p : List MemPlace} (hv : Value.okWide Tryz.prog W r b0 3 v) (h : DataW.Trod enc Tryz.prog W 0 (fun _ => true) true 3 v d p) : ∃ n : Int, v = .int .i64 n := by
  obtain ⟨n, e, _⟩ := open_int Tryz.underlying3 hv h
  exact ⟨n, e⟩
end
end Go.Proofs.YtjghbciepinofaaGreat.Ln

set_option maxRecDepth 100000
namespace Go.Proofs.YtjghbciepinofaaGreat
open Go.ChangeShapes Go.WideShapes Go.ChangeAt Go.RowKit Go.Deep
theorem chunks {α : Type} (k : Nat) : ∀ (n : Nat) (l : List α), l.length = n * k → l = (List.range n).flatMap fun i => (l.drop (i * k)).take k
  | 0, l, h => by simp at h; subst h; rfl
  | n + 1, l, h => by
    rw [List.range_succ, List.flatMap_append]
    have hm : (n + 1) * k = n * k + k := Nat.succ_mul n k
    have h1 := chunks k n (l.take (n * k)) (by rw [List.length_take]; omega)
    have h2 : ((List.range n).flatMap fun i => ((l.take (n * k)).drop (i * k)).take k) = (List.range n).flatMap fun i => (l.drop (i * k)).take k := by
      refine flatMap_congr_range fun i hi => ?_
      have hik : i * k + k ≤ n * k := by rw [← Nat.succ_mul]; exact Nat.mul_le_mul_right k hi
      rw [List.drop_take, List.take_take, Nat.min_eq_left (by omega)]
    rw [← h2, ← h1]
    simp only [List.flatMap_cons, List.flatMap_nil, List.append_nil]
    rw [List.take_of_length_le (l := l.drop (n * k)) (by rw [List.length_drop]; omega), List.take_append_drop]
theorem pick_all {β : Type} {p : Nat → β → Prop} (d : β) {n : Nat} (h : ∀ i, i < n → ∃ y, p i y) : ∃ f : Nat → β, ∀ i, i < n → p i (f i) := by
  refine ⟨fun i => if hi : i < n then Classical.choose (h i hi) else d, fun i hi => ?_⟩
  simp only [dif_pos hi]
  exact Classical.choose_spec (h i hi)
section
variable {H : Type} {enc : TypeId × Value → H} {W : World}
theorem open_arr {β : Type} (d : β) (f : β → List Value) {t e : TypeId} {n fuel : Nat} {cs : List Value} {x : DataW H × List MemPlace} (ht : Tryz.prog.underlying t = some (.array n e)) (hc : Tryz.prog.cellsOf t = n * Tryz.prog.cellsOf e)
    (h : DataW.trod enc Tryz.prog W 0 (fun _ => true) true fuel t cs = some x)
    (he : ∀ {m : Nat} {l : List Value} {y : DataW H × List MemPlace}, DataW.trod enc Tryz.prog W 0 (fun _ => true) true m e l = some y → ∃ b, l = f b) : ∃ g : Nat → β, cs = (List.range n).flatMap fun i => f (g i) := by
  obtain ⟨xs, m, _, _, hl, hxl, hx⟩ := DataW.trod_array ht h
  obtain ⟨g, hg⟩ := pick_all (n := n) (p := fun i b => (cs.drop (i * Tryz.prog.cellsOf e)).take (Tryz.prog.cellsOf e) = f b) d (fun i hi => by
    have := hx i hi
    rw [List.getElem?_eq_getElem (by omega)] at this
    exact he this)
  refine ⟨g, ?_⟩
  rw [chunks (Tryz.prog.cellsOf e) n cs (by rw [hl, hc])]
  exact flatMap_congr_range hg
theorem open_i {m : Nat} {l : List Value} {y : DataW H × List MemPlace} (h : DataW.trod enc Tryz.prog W 0 (fun _ => true) true m 3 l = some y) : ∃ b : Int, l = [.int .i64 b] := by
  obtain ⟨q, e, _⟩ := DataW.trod_int Tryz.underlying3 h
  exact ⟨q, e⟩
theorem open_t {m : Nat} {l : List Value} {y : DataW H × List MemPlace} (h : DataW.trod enc Tryz.prog W 0 (fun _ => true) true m 4 l = some y) : ∃ b : Bool, l = [.bool b] := by
  obtain ⟨q, e, _⟩ := DataW.trod_bool Tryz.underlying4 h
  exact ⟨q, e⟩
theorem cI : Tryz.prog.cellsOf 3 = 1 := by kernel_rfl
theorem cT : Tryz.prog.cellsOf 4 = 1 := by kernel_rfl
end
end Go.Proofs.YtjghbciepinofaaGreat

