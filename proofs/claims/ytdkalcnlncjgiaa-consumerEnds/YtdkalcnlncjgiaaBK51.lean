/- Parts of the proof: CY CN. -/
import Derived.Test.YtdkalcnlncjgiaaRows
import Derived.Test.YtdkalcnlncjgiaaBK45
import Derived.Test.YtdkalcnlncjgiaaBK46
import Derived.Test.YtdkalcnlncjgiaaBK50
import Derived.Maps.AppendAt
import Derived.Deep.AppendLies
import Derived.Deep.RegionLaw
set_option maxRecDepth 100000
namespace Go.Proofs.Ytdkalcnlncjgiaa.Cd
open Go.RowKit
/-- a packet's box, whole -/
def BoxAt (w : World) (b : Nat) (k i v n s d : Value) : Prop := w.heap[b]? = some (.cells #[k, i, v, n, s, d] 46)
theorem BoxAt.cells {w : World} {b : Nat} {k i v n s d : Value} (h : BoxAt w b k i v n s d) : w.cell? ⟨b, 0, none⟩ = some k ∧ w.cell? ⟨b, 1, none⟩ = some i ∧ w.cell? ⟨b, 2, none⟩ = some v ∧ w.cell? ⟨b, 3, none⟩ = some n ∧ w.cell? ⟨b, 4, none⟩ = some s ∧ w.cell? ⟨b, 5, none⟩ = some d ∧ (∀ o, w.frozen? ⟨b, o, none⟩ = false) := by
  unfold BoxAt at h
  simp [World.cell?, World.frozen?, h]
theorem BoxAt.set {w : World} {b : Nat} {k i v n s d : Value} (h : BoxAt w b k i v n s d) (u : Value) :
    BoxAt (w.setCell ⟨b, 0, none⟩ u) b u i v n s d ∧ BoxAt (w.setCell ⟨b, 1, none⟩ u) b k u v n s d ∧ BoxAt (w.setCell ⟨b, 2, none⟩ u) b k i u n s d ∧ BoxAt (w.setCell ⟨b, 3, none⟩ u) b k i v u s d ∧ BoxAt (w.setCell ⟨b, 4, none⟩ u) b k i v n u d ∧ BoxAt (w.setCell ⟨b, 5, none⟩ u) b k i v n s u := by
  unfold BoxAt at *
  simp [World.setCell, Array.getElem?_modify, h]
theorem BoxAt.lt {w : World} {b : Nat} {k i v n s d : Value} (h : BoxAt w b k i v n s d) : b < w.heap.size := (Array.getElem?_eq_some_iff.1 h).1
theorem BoxAt.keep {w w' : World} {b : Nat} {k i v n s d : Value} {r : Option Nat} (h : BoxAt w b k i v n s d) (hg : w.grownBy w' r) (hne : some b ≠ r) : BoxAt w' b k i v n s d := (hg.block b h.lt hne).trans h
def Row2 (w : World) (B : Nat) (v : Value) (l : List (Int × Int)) : Prop := w.ownsRow B 64 2 v l.length (l.flatMap fun p => [Value.int .i64 p.1, Value.int .i64 p.2])
def Row1 (w : World) (B : Nat) (v : Value) (l : List Int) : Prop := w.ownsRow B 3 1 v l.length (l.map (Value.int .i64))
/-- the next pairs of numbers; the next numbers -/
def tkP : Nat → List Int × Bool → List (Int × Int) × (List Int × Bool)
  | 0, st => ([], st)
  | m + 1, st => (((tk 1 st).1, (tk 7 (tk 1 st).2).1) :: (tkP m (tk 7 (tk 1 st).2).2).1, (tkP m (tk 7 (tk 1 st).2).2).2)
def tkD : Nat → List Int × Bool → List Int × (List Int × Bool)
  | 0, st => ([], st)
  | m + 1, st => ((tk 1 st).1 :: (tkD m (tk 1 st).2).1, (tkD m (tk 1 st).2).2)
theorem own_form {w : World} {base e size n : Nat} {v : Value} {xs : List Value} (h : w.ownsRow base e size v n xs) : ∃ a c, v = .slice a n c := by
  rcases h.2 with ⟨rfl, rfl⟩ | ⟨g, cap, _, rfl, _⟩
  · exact ⟨_, _, rfl⟩
  · exact ⟨_, _, rfl⟩
theorem step_wanted {ops : Array Oper} {o : Oper} {a : Act} {w : World} {K : Act → World → Prop} {Q : Exit → Act → World → Prop} {E : Prop} (hg : o.guard = none) (h : Oper.wp Try.prog o a w K Q) :
    if Region.wanted o (yielded ops a.tmps) = true then Oper.wp Try.prog o a w K Q else E := by
  have hw : Region.wanted o (yielded ops a.tmps) = true := by simp [Region.wanted, hg]
  rw [if_pos hw]; exact h
end Go.Proofs.Ytdkalcnlncjgiaa.Cd

set_option maxRecDepth 100000
namespace Go.Proofs.Ytdkalcnlncjgiaa.Cd
open Go.RowKit
/-- Encode, in one: its bytes, or none -/
def encS (k i v n : Int) (S : List (Int × Int)) (D : List Int) : ByteArray := if goodN k i v n S D = 0 then strOfNums (enc k i v n S D) else ⟨#[]⟩
theorem encode_any (k i v n : Int) (S : List (Int × Int)) (D : List Int) (sa da : Option Addr) (cs cd sb so db dO : Nat) (w : World) (L : Lies w S D sa da sb so db dO) :
    Calls Try.prog 48 #[.agg #[.int .i64 k, .int .i64 i, .int .i64 v, .int .i64 n, .slice sa S.length cs, .slice da D.length cd]] w fun e w' => e = .returned (.tuple #[.string (encS k i v n S D), .int .i64 (goodN k i v n S D)]) ∧ Below w.heap.size w w' := by
  by_cases h : goodN k i v n S D = 0
  · rw [encS, if_pos h, h]; exact encode_ok k i v n S D sa da cs cd sb so db dO w L.hls L.hld L.hsa L.hda L.PS L.PD h
  · rw [encS, if_neg h]; exact encode_bad k i v n S D sa da cs cd sb so db dO w L.hls L.hld L.hsa L.hda L.PS L.PD h
end Go.Proofs.Ytdkalcnlncjgiaa.Cd

