/- Parts of the proof: CDP0. -/
import Derived.Test.YtnfigdecgkcgcaaRows
import Derived.Test.YtnfigdecgkcgcaaAK32
import Derived.Test.YtnfigdecgkcgcaaAK33
import Derived.Test.YtnfigdecgkcgcaaAK53
import Derived.Deep.DeepCutAuto
import Derived.Deep.RegionWith
import Derived.Deep.RegionHeld3
set_option maxRecDepth 100000
namespace Go.Proofs.Ytnfigdecgkcgcaa.Cd
open Go.RowKit
/-- where DecodePacket stands: the packet's box, and what lies below it as it was -/
structure QSt (c : Nat) (W wl : World) (pb : Nat) (k i v n s d : Value) : Prop where
  Bx : BoxAt wl pb k i v n s d
  Be : Below c W wl
  hp : c ≤ pb
  hW : c ≤ W.heap.size
theorem QSt.later {c : Nat} {W wl wl' : World} {pb : Nat} {k i v n s d : Value} (h : QSt c W wl pb k i v n s d) (hb : Below wl.heap.size wl wl') : QSt c W wl' pb k i v n s d :=
  ⟨(hb.block pb h.Bx.lt).trans h.Bx, h.Be.trans (hb.mono (Nat.le_trans h.hW h.Be.size)), h.hp, h.hW⟩
theorem QSt.alloc {c : Nat} {W wl : World} {pb : Nat} {k i v n s d : Value} (h : QSt c W wl pb k i v n s d) (o : Obj) : QSt c W (wl.alloc o) pb k i v n s d := h.later (below_new wl o)
theorem QSt.own {c : Nat} {W wl wl' : World} {pb : Nat} {k i v n s d : Value} {r : Option Nat} (h : QSt c W wl pb k i v n s d) (g : wl.grownBy wl' r) (hr : ∀ j, r = some j → pb + 1 ≤ j) : QSt c W wl' pb k i v n s d :=
  ⟨h.Bx.keep g (fun e => by have := hr pb e.symm; omega), h.Be.grown g (Nat.le_trans h.hW h.Be.size) (fun j hj => by have := hr j hj; have := h.hp; omega), h.hp, h.hW⟩
theorem QSt.set4 {c : Nat} {W wl : World} {pb : Nat} {k i v n s d : Value} (h : QSt c W wl pb k i v n s d) (u : Value) : QSt c W (wl.setCell ⟨pb, 4, none⟩ u) pb k i v n u d := ⟨(h.Bx.set u).2.2.2.2.1, h.Be.setCell h.hp _, h.hp, h.hW⟩
theorem QSt.set5 {c : Nat} {W wl : World} {pb : Nat} {k i v n s d : Value} (h : QSt c W wl pb k i v n s d) (u : Value) : QSt c W (wl.setCell ⟨pb, 5, none⟩ u) pb k i v n s u := ⟨(h.Bx.set u).2.2.2.2.2, h.Be.setCell h.hp _, h.hp, h.hW⟩
theorem own_later {wl wl' : World} {base e size m : Nat} {v : Value} {xs : List Value} (h : wl.ownsRow base e size v m xs) (hb : Below wl.heap.size wl wl') : wl'.ownsRow base e size v m xs :=
  h.kept (row := none) ⟨hb.os, hb.tape, hb.output, hb.size, fun k hk _ => hb.block k hk⟩ (by cases hv : v.ownBlock <;> simp)
theorem own_setb {wl : World} {base c o e size m : Nat} {v u : Value} {xs : List Value} (h : wl.ownsRow base e size v m xs) (hc : c < base) : (wl.setCell ⟨c, o, none⟩ u).ownsRow base e size v m xs :=
  h.kept (grown_set _ _ _ _) (by
    cases hv : v.ownBlock with
    | none => exact .inl rfl
    | some g => right; intro e; cases e; have := (h.lt _ hv).1; omega)
theorem bs_ext (s : ByteArray) (a b : Nat) : bs (s.extract a b) = ((bs s).drop a).take (b - a) := by
  unfold bs
  rw [ByteArray.data_extract, Array.toList_extract, List.extract_eq_take_drop, ← List.map_drop, ← List.map_take]
theorem ext_size (s : ByteArray) (a b : Nat) : (s.extract a b).size ≤ b - a := by
  have h := congrArg List.length (bs_ext s a b)
  rw [bs_length, List.length_take] at h
  omega
theorem BoxAt.set6 {w : World} {b : Nat} {k i v n s d : Value} (h : BoxAt w b k i v n s d) (v0 v1 v2 v3 v4 v5 : Value) : BoxAt (set6 w b v0 v1 v2 v3 v4 v5) b v0 v1 v2 v3 v4 v5 :=
  (((((((h.set v0).1.set v1).2.1.set v2).2.2.1.set v3).2.2.2.1.set v4).2.2.2.2.1).set v5).2.2.2.2.2
theorem dpA {Z wA wB : World} (o : Obj) (hA : Below Z.drew.heap.size Z.drew wA) (hB : Below wA.heap.size wA wB) : Z.heap.size ≤ wB.heap.size ∧ Below Z.heap.size Z (wB.alloc o) := by
  have h1 := below_then (below_drew Z) hA
  have h2 := below_then h1 hB
  exact ⟨h2.size, below_then h2 (below_new wB o)⟩
theorem dpB {Z wA wB : World} {k i v n s d : Value} (v0 v1 v2 v3 v4 v5 : Value) (hA : Below Z.drew.heap.size Z.drew wA) (hB : Below (wA.alloc (.cells #[k, i, v, n, s, d] 57)).heap.size (wA.alloc (.cells #[k, i, v, n, s, d] 57)) wB) :
    Z.heap.size ≤ wA.heap.size ∧ BoxAt (set6 wB wA.heap.size v0 v1 v2 v3 v4 v5) wA.heap.size v0 v1 v2 v3 v4 v5 ∧ Below Z.heap.size Z (set6 wB wA.heap.size v0 v1 v2 v3 v4 v5) := by
  have h1 := below_then (below_drew Z) hA
  have h2 := below_then (below_then h1 (below_new wA _)) hB
  have hb : BoxAt wB wA.heap.size k i v n s d := (hB.block _ (by simp)).trans (heap_alloc_new _ _)
  exact ⟨h1.size, hb.set6 _ _ _ _ _ _, set6_below _ _ _ _ _ _ h2 h1.size⟩
theorem dpC {Z wA wB : World} {k i v n s d : Value} (v0 v1 v2 v3 v4 v5 : Value) (hA : Below (Z.alloc (.cells #[k, i, v, n, s, d] 57)).drew.heap.size (Z.alloc (.cells #[k, i, v, n, s, d] 57)).drew wA) (hB : Below wA.heap.size wA wB) :
    BoxAt (set6 wB Z.heap.size v0 v1 v2 v3 v4 v5) Z.heap.size v0 v1 v2 v3 v4 v5 ∧ Below Z.heap.size Z (set6 wB Z.heap.size v0 v1 v2 v3 v4 v5) := by
  have h1 := below_then (below_then (below_new Z _) (below_drew _)) hA
  have h2 := below_then h1 hB
  have hb0 : BoxAt wA Z.heap.size k i v n s d := (hA.block _ (by simp)).trans (heap_alloc_new _ _)
  have hb : BoxAt wB Z.heap.size k i v n s d := (hB.block _ hb0.lt).trans hb0
  exact ⟨hb.set6 _ _ _ _ _ _, set6_below _ _ _ _ _ _ h2 (Nat.le_refl _)⟩
theorem dec_form {l : List Int} (h : (parse l).2 ≠ ([], false)) : decE l = 1 ∧ decP l = (0, 0, 0, 0, [], []) := by
  have h1 : decE l = 1 := by rw [decE, if_neg h]
  exact ⟨h1, by rw [decP, h1, if_neg (by decide)]⟩
end Go.Proofs.Ytnfigdecgkcgcaa.Cd

