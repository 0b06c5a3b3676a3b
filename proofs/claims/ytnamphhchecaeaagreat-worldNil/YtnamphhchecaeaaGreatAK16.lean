/- Parts of the proof: CD. -/
import Derived.Test.YtnamphhchecaeaaGreatRows
import Derived.Test.YtnamphhchecaeaaGreatAK15
import Derived.Laws.BytesArg
set_option maxRecDepth 100000
namespace Go.Proofs.YtnamphhchecaeaaGreat.Cd
open Go.RowKit

/-- a packet lies in a box -/
def PkAt (w : World) (b : Nat) (k i v n : Int) (s d : Value) : Prop :=
  w.cell? ⟨b, 0, none⟩ = some (.int .i64 k) ∧ w.cell? ⟨b, 1, none⟩ = some (.int .i64 i) ∧ w.cell? ⟨b, 2, none⟩ = some (.int .i64 v) ∧
  w.cell? ⟨b, 3, none⟩ = some (.int .i64 n) ∧ w.cell? ⟨b, 4, none⟩ = some s ∧ w.cell? ⟨b, 5, none⟩ = some d
theorem PkAt.later {w w' : World} {B b : Nat} {k i v n : Int} {s d : Value} (h : PkAt w b k i v n s d) (hb : Below B w w') (hB : b < B) : PkAt w' b k i v n s d := by
  obtain ⟨h0, h1, h2, h3, h4, h5⟩ := h
  exact ⟨(hb.cell (p := ⟨b, 0, none⟩) hB).trans h0, (hb.cell (p := ⟨b, 1, none⟩) hB).trans h1, (hb.cell (p := ⟨b, 2, none⟩) hB).trans h2, (hb.cell (p := ⟨b, 3, none⟩) hB).trans h3, (hb.cell (p := ⟨b, 4, none⟩) hB).trans h4, (hb.cell (p := ⟨b, 5, none⟩) hB).trans h5⟩
theorem Row.below {W w w' : World} {B : Nat} {v : Value} {xs : List Int} (h : Row w B v xs) (hb : Below B W w) (hB : B ≤ W.heap.size) (hg : w.grownBy w' v.ownBlock) : Below B W w' :=
  hb.grown hg (Nat.le_trans hB hb.size) (fun k hk => (World.ownsRow.lt h k hk).1)

def encP (p : Int × Int) : List Int := be p.1 1 ++ be p.2 7
def encH (k i v n : Int) (ls : Nat) : List Int := be k 1 ++ be i 6 ++ be v 1 ++ be n 7 ++ be ls 1
def enc (k i v n : Int) (S : List (Int × Int)) (D : List Int) : List Int :=
  encH k i v n S.length ++ S.flatMap encP ++ be D.length 1 ++ D.flatMap (be · 1)
theorem cell_of_heap {w w' : World} {b : Nat} (h : w'.heap[b]? = w.heap[b]?) (o : Nat) : w'.cell? ⟨b, o, none⟩ = w.cell? ⟨b, o, none⟩ := World.cell?_of_block (w := w) (a := ⟨b, o, none⟩) h

theorem Row.conv {w : World} {B : Nat} {v : Value} {E : List Int} (h : Row w B v E) : (convert 216 9 v).run Tryz.prog w = .ok (.string (strOfNums E)) w := by
  rcases h.2 with ⟨rfl, h0⟩ | ⟨g, cap, cur, rfl, hb, hh, hn, hm, hs, ht⟩
  · have : E = [] := List.eq_nil_of_length_eq_zero h0
    subst this
    exact run_convert_bytes_nil (P := Tryz.prog) w 216 5 Tryz.underlying216 Tryz.underlying5 0 0 9 Tryz.underlying9
  · refine run_convert_bytes_arg (P := Tryz.prog) w 216 5 Tryz.underlying216 Tryz.underlying5 g 0 E.length cap E rfl (fun j hj => ?_) 9 Tryz.underlying9
    have h' : w.ownsRow B 5 1 (.slice (some ⟨g, 0, none⟩) E.length cap) E.length (E.map (Value.int .u8)) := h
    rw [Nat.zero_add, h'.cellAt j (by omega)]
    simp [List.getD, hj]
theorem PwsAt.laterB {w w' : World} {B b off : Nat} {l : List (Int × Int)} (h : PwsAt w b off l) (hb : Below B w w') (hB : 0 < l.length → b < B) : PwsAt w' b off l := fun i hi =>
  ⟨(hb.cell (p := ⟨b, off + i * 2, none⟩) (hB (by omega))).trans (h i hi).1, (hb.cell (p := ⟨b, off + i * 2 + 1, none⟩) (hB (by omega))).trans (h i hi).2⟩
theorem IntsAt.laterB {w w' : World} {B b off : Nat} {l : List Int} (h : IntsAt w b off l) (hb : Below B w w') (hB : 0 < l.length → b < B) : IntsAt w' b off l := fun i hi =>
  (hb.cell (p := ⟨b, off + i, none⟩) (hB (by omega))).trans (h i hi)
theorem PwsAt.lt {w : World} {b off : Nat} {l : List (Int × Int)} (h : PwsAt w b off l) (hl : 0 < l.length) : b < w.heap.size := World.block_lt_of_cell? w _ (h 0 hl).1
theorem IntsAt.lt {w : World} {b off : Nat} {l : List Int} (h : IntsAt w b off l) (hl : 0 < l.length) : b < w.heap.size := World.block_lt_of_cell? w _ (h 0 hl)
end Go.Proofs.YtnamphhchecaeaaGreat.Cd

