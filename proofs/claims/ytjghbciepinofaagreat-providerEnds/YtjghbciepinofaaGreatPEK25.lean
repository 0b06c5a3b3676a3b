/- Parts of the proof: CM CX CY CN. -/
import Derived.Test.YtjghbciepinofaaGreatRows
import Derived.Test.YtjghbciepinofaaGreatPEK23
import Derived.Maps.AppendAt
import Derived.Deep.AppendLies
import Derived.Deep.RegionLaw
set_option maxRecDepth 100000
namespace Go.Proofs.YtjghbciepinofaaGreat.Cd
open Go.RowKit

/-- the number of bytes, behind a number -/
def numF (acc : Int) (l : List Int) : Int := l.foldl (fun n c => n * 256 + c) acc
theorem pow_succ8 (m : Nat) : (2 : Int) ^ (8 * (m + 1)) = 2 ^ (8 * m) * 256 := by
  rw [show 8 * (m + 1) = 8 * m + 8 by omega, Int.pow_add]; rfl
theorem pow_pos8 (m : Nat) : (0 : Int) < 2 ^ (8 * m) := Int.pow_pos (by decide)
theorem good_bounds {k i v n : Int} {S : List (Int × Int)} {D : List Int} (h : goodN k i v n S D = 0) :
    1 ≤ k ∧ k ≤ 4 ∧ 1 ≤ i ∧ i ≤ 1099511627776 ∧ 0 ≤ v ∧ v < 6 ∧ 0 ≤ n ∧ n ≤ 1125899906842624 := by
  have hf : ∀ {k v n : Int} {a b : Nat}, accB k = false → forB k v n a b = false → v = 0 ∧ n = 0 := by
    intro k v n a b h1 h2
    simp only [forB, h1, Bool.or_eq_false_iff, Bool.and_eq_false_iff] at h2
    simp at h2
    exact h2.1
  rcases goodN_cases k i v n S D with h' | h' | ⟨h1, h2, h' | h' | ⟨h3, h4, h' | h' | h' | ⟨h5 | h5, h' | h' | h' | h'⟩⟩⟩
  all_goals first | (exfalso; omega) | skip
  · have hv : isV v = true := h5.2.1
    simp only [isV, decide_eq_true_eq] at hv
    omega
  · obtain ⟨e1, e2⟩ := hf h5 h'.1
    omega

theorem pws_bounds (S : List (Int × Int)) : ∀ last : Int, -1 ≤ last → prisesFrom last S = true → ∀ p ∈ S, 0 ≤ p.1 ∧ p.1 < 6 ∧ 0 ≤ p.2 ∧ p.2 ≤ 1125899906842624 := by
  induction S with
  | nil => simp
  | cons x t ih =>
    intro last hl h p hp
    simp only [prisesFrom, Bool.and_eq_true, decide_eq_true_eq, isV] at h
    obtain ⟨⟨⟨⟨h1, h2⟩, h3⟩, h4⟩, h5⟩ := h
    rcases List.mem_cons.1 hp with rfl | hp
    · omega
    · exact ih x.1 (by omega) h5 p hp
theorem nums_bounds (D : List Int) : ∀ last : Int, -1 ≤ last → risesFrom last D = true → ∀ p ∈ D, 0 ≤ p ∧ p < 6 := by
  induction D with
  | nil => simp
  | cons x t ih =>
    intro last hl h p hp
    simp only [risesFrom, Bool.and_eq_true, decide_eq_true_eq, isV] at h
    obtain ⟨⟨h1, h2⟩, h3⟩ := h
    rcases List.mem_cons.1 hp with rfl | hp
    · omega
    · exact ih x (by omega) h3 p hp

end Go.Proofs.YtjghbciepinofaaGreat.Cd

set_option maxRecDepth 100000
namespace Go.Proofs.YtjghbciepinofaaGreat.Cd
open Go.RowKit
/-- the bytes of a text, as numbers -/
def bs (s : ByteArray) : List Int := s.data.toList.map fun u => (u.toNat : Int)
/-- the taker lies in a block: what is left, and whether bytes were wanting -/
def TAt (w : World) (b : Nat) (r : ByteArray) (sh : Bool) : Prop := w.heap[b]? = some (.cells #[.string r, .bool sh] 103)
theorem TAt.cells {w : World} {b : Nat} {r : ByteArray} {sh : Bool} (h : TAt w b r sh) : w.cell? ⟨b, 0, none⟩ = some (.string r) ∧ w.cell? ⟨b, 1, none⟩ = some (.bool sh) ∧ w.frozen? ⟨b, 0, none⟩ = false ∧ w.frozen? ⟨b, 1, none⟩ = false := by
  unfold TAt at h
  simp [World.cell?, World.frozen?, h]
theorem grown_set (w : World) (b o : Nat) (v : Value) : w.grownBy (w.setCell ⟨b, o, none⟩ v) (some b) :=
  ⟨rfl, rfl, rfl, by simp [World.setCell], fun k _ hk => Below.heap_setCell _ _ _ _ (fun e => hk (by rw [e]))⟩
theorem grown_then {w w1 w2 : World} {r : Option Nat} (h : w.grownBy w1 r) (k : w1.grownBy w2 r) : w.grownBy w2 r :=
  ⟨k.os.trans h.os, k.tape.trans h.tape, k.output.trans h.output, Nat.le_trans h.size k.size, fun i hi hne => (k.block i (Nat.lt_of_lt_of_le hi h.size) hne).trans (h.block i hi hne)⟩
/-- the next number of m bytes, and what is left behind it -/
def tk (m : Nat) (st : List Int × Bool) : Int × (List Int × Bool) := if st.1.length < m then (0, ([], true)) else (numF 0 (st.1.take m), (st.1.drop m, st.2))
/-- the taker's state lies in a block -/
def TS (w : World) (b : Nat) (st : List Int × Bool) : Prop := ∃ r, TAt w b r st.2 ∧ bs r = st.1 ∧ r.size ≤ maxLen

end Go.Proofs.YtjghbciepinofaaGreat.Cd

set_option maxRecDepth 100000
namespace Go.Proofs.YtjghbciepinofaaGreat.Cd
open Go.RowKit
/-- a packet's box, whole -/
def BoxAt (w : World) (b : Nat) (k i v n s d : Value) : Prop := w.heap[b]? = some (.cells #[k, i, v, n, s, d] 49)
theorem BoxAt.cells {w : World} {b : Nat} {k i v n s d : Value} (h : BoxAt w b k i v n s d) : w.cell? ⟨b, 0, none⟩ = some k ∧ w.cell? ⟨b, 1, none⟩ = some i ∧ w.cell? ⟨b, 2, none⟩ = some v ∧ w.cell? ⟨b, 3, none⟩ = some n ∧ w.cell? ⟨b, 4, none⟩ = some s ∧ w.cell? ⟨b, 5, none⟩ = some d ∧ (∀ o, w.frozen? ⟨b, o, none⟩ = false) := by
  unfold BoxAt at h
  simp [World.cell?, World.frozen?, h]
theorem BoxAt.set {w : World} {b : Nat} {k i v n s d : Value} (h : BoxAt w b k i v n s d) (u : Value) :
    BoxAt (w.setCell ⟨b, 0, none⟩ u) b u i v n s d ∧ BoxAt (w.setCell ⟨b, 1, none⟩ u) b k u v n s d ∧ BoxAt (w.setCell ⟨b, 2, none⟩ u) b k i u n s d ∧ BoxAt (w.setCell ⟨b, 3, none⟩ u) b k i v u s d ∧ BoxAt (w.setCell ⟨b, 4, none⟩ u) b k i v n u d ∧ BoxAt (w.setCell ⟨b, 5, none⟩ u) b k i v n s u := by
  unfold BoxAt at *
  simp [World.setCell, Array.getElem?_modify, h]
theorem BoxAt.lt {w : World} {b : Nat} {k i v n s d : Value} (h : BoxAt w b k i v n s d) : b < w.heap.size := (Array.getElem?_eq_some_iff.1 h).1
theorem BoxAt.keep {w w' : World} {b : Nat} {k i v n s d : Value} {r : Option Nat} (h : BoxAt w b k i v n s d) (hg : w.grownBy w' r) (hne : some b ≠ r) : BoxAt w' b k i v n s d := (hg.block b h.lt hne).trans h
theorem TS.lt {w : World} {b : Nat} {st : List Int × Bool} (h : TS w b st) : b < w.heap.size := by obtain ⟨r, h, _⟩ := h; exact (Array.getElem?_eq_some_iff.1 h).1
theorem TS.keep {w w' : World} {b : Nat} {st : List Int × Bool} {r : Option Nat} (h : TS w b st) (hg : w.grownBy w' r) (hne : some b ≠ r) : TS w' b st := by
  have hlt := h.lt
  obtain ⟨x, h, h2⟩ := h
  exact ⟨x, (hg.block b hlt hne).trans h, h2⟩
def Row2 (w : World) (B : Nat) (v : Value) (l : List (Int × Int)) : Prop := w.ownsRow B 74 2 v l.length (l.flatMap fun p => [Value.int .i64 p.1, Value.int .i64 p.2])
def Row1 (w : World) (B : Nat) (v : Value) (l : List Int) : Prop := w.ownsRow B 3 1 v l.length (l.map (Value.int .i64))
/-- the next pairs of numbers; the next numbers -/
def tkP : Nat → List Int × Bool → List (Int × Int) × (List Int × Bool)
  | 0, st => ([], st)
  | m + 1, st => (((tk 1 st).1, (tk 7 (tk 1 st).2).1) :: (tkP m (tk 7 (tk 1 st).2).2).1, (tkP m (tk 7 (tk 1 st).2).2).2)
theorem grown_any {w w1 w2 : World} {r : Option Nat} (h : w.grownBy w1 r) (k : ∀ i, i < w.heap.size → some i ≠ r → w2.heap[i]? = w1.heap[i]?) (ho : w2.os = w1.os) (ht : w2.tape = w1.tape) (hu : w2.output = w1.output) (hs : w1.heap.size ≤ w2.heap.size) : w.grownBy w2 r :=
  ⟨ho.trans h.os, ht.trans h.tape, hu.trans h.output, Nat.le_trans h.size hs, fun i hi hne => (k i hi hne).trans (h.block i hi hne)⟩
theorem grown_box {w w1 : World} {r : Option Nat} {b o : Nat} {u : Value} (h : w.grownBy w1 r) (hb : w.heap.size ≤ b) : w.grownBy (w1.setCell ⟨b, o, none⟩ u) r :=
  grown_any h (fun i hi _ => Below.heap_setCell _ _ _ _ (by simp; omega)) rfl rfl rfl (by simp [World.setCell])
/-- where the method packet stands: the taker, the packet's box, the result's box; nothing else of old memory has turned -/
structure PSt (w wl : World) (b : Nat) (st : List Int × Bool) (k i v n s d : Value) : Prop where
  T : TS wl b st
  Bx : BoxAt wl (w.heap.size + 1) k i v n s d
  Rs : BoxAt wl w.heap.size (.int .i64 0) (.int .i64 0) (.int .i64 0) (.int .i64 0) (.slice none 0 0) (.slice none 0 0)
  G : w.grownBy wl (some b)
  hb : b < w.heap.size
theorem PSt.num {w wl wl' : World} {b : Nat} {st st' : List Int × Bool} {k i v n s d : Value} (h : PSt w wl b st k i v n s d) (T' : TS wl' b st') (g : wl.grownBy wl' (some b)) : PSt w wl' b st' k i v n s d :=
  ⟨T', h.Bx.keep g (by intro e; cases e; have := h.hb; omega), h.Rs.keep g (by intro e; cases e; have := h.hb; omega), grown_then h.G g, h.hb⟩
theorem TS.other {w : World} {b : Nat} {st : List Int × Bool} (h : TS w b st) {c o : Nat} {u : Value} (hc : b ≠ c) : TS (w.setCell ⟨c, o, none⟩ u) b st := by
  obtain ⟨x, h, h2⟩ := h
  exact ⟨x, (Below.heap_setCell _ _ _ _ hc).trans h, h2⟩
theorem PSt.set {w wl : World} {b : Nat} {st : List Int × Bool} {k i v n s d : Value} (h : PSt w wl b st k i v n s d) (u : Value) :
    PSt w (wl.setCell ⟨w.heap.size + 1, 0, none⟩ u) b st u i v n s d ∧ PSt w (wl.setCell ⟨w.heap.size + 1, 1, none⟩ u) b st k u v n s d ∧ PSt w (wl.setCell ⟨w.heap.size + 1, 2, none⟩ u) b st k i u n s d ∧
    PSt w (wl.setCell ⟨w.heap.size + 1, 3, none⟩ u) b st k i v u s d ∧ PSt w (wl.setCell ⟨w.heap.size + 1, 4, none⟩ u) b st k i v n u d ∧ PSt w (wl.setCell ⟨w.heap.size + 1, 5, none⟩ u) b st k i v n s u := by
  have hb := h.hb
  obtain ⟨x0, x1, x2, x3, x4, x5⟩ := h.Bx.set u
  have hr : ∀ o, BoxAt (wl.setCell ⟨w.heap.size + 1, o, none⟩ u) w.heap.size (.int .i64 0) (.int .i64 0) (.int .i64 0) (.int .i64 0) (.slice none 0 0) (.slice none 0 0) := fun o => (Below.heap_setCell _ _ _ _ (by simp)).trans h.Rs
  have ht : ∀ o, TS (wl.setCell ⟨w.heap.size + 1, o, none⟩ u) b st := fun o => h.T.other (by omega)
  have hg : ∀ o, w.grownBy (wl.setCell ⟨w.heap.size + 1, o, none⟩ u) (some b) := fun o => grown_box h.G (Nat.le_succ _)
  exact ⟨⟨ht _, x0, hr _, hg _, hb⟩, ⟨ht _, x1, hr _, hg _, hb⟩, ⟨ht _, x2, hr _, hg _, hb⟩, ⟨ht _, x3, hr _, hg _, hb⟩, ⟨ht _, x4, hr _, hg _, hb⟩, ⟨ht _, x5, hr _, hg _, hb⟩⟩
theorem PSt.alloc {w wl : World} {b : Nat} {st : List Int × Bool} {k i v n s d : Value} (h : PSt w wl b st k i v n s d) (o : Obj) : PSt w (wl.alloc o) b st k i v n s d :=
  have g := World.grownBy_alloc wl o none
  ⟨h.T.keep g (by simp), h.Bx.keep g (by simp), h.Rs.keep g (by simp), grown_then h.G (World.grownBy_alloc wl o _), h.hb⟩
theorem PSt.own {w wl wl' : World} {b : Nat} {st : List Int × Bool} {k i v n s d : Value} {r : Option Nat} (h : PSt w wl b st k i v n s d) (g : wl.grownBy wl' r) (hr : ∀ j, r = some j → w.heap.size + 2 ≤ j) : PSt w wl' b st k i v n s d := by
  have hb := h.hb
  have ne : ∀ c, c < w.heap.size + 2 → some c ≠ r := fun c hc e => by have := hr c e.symm; omega
  exact ⟨h.T.keep g (ne _ (by omega)), h.Bx.keep g (ne _ (by omega)), h.Rs.keep g (ne _ (by omega)), grown_any h.G (fun j hj _ => g.block j (Nat.lt_of_lt_of_le hj h.G.size) (ne j (by omega))) g.os g.tape g.output g.size, h.hb⟩
theorem own_form {w : World} {base e size n : Nat} {v : Value} {xs : List Value} (h : w.ownsRow base e size v n xs) : ∃ a c, v = .slice a n c := by
  rcases h.2 with ⟨rfl, rfl⟩ | ⟨g, cap, _, rfl, _⟩
  · exact ⟨_, _, rfl⟩
  · exact ⟨_, _, rfl⟩
theorem PSt.drew {w wl : World} {b : Nat} {st : List Int × Bool} {k i v n s d : Value} (h : PSt w wl b st k i v n s d) : PSt w wl.drew b st k i v n s d :=
  ⟨h.T, h.Bx, h.Rs, ⟨h.G.os, h.G.tape, h.G.output, h.G.size, h.G.block⟩, h.hb⟩
theorem TS.set6 {w : World} {b c : Nat} {st : List Int × Bool} (v0 v1 v2 v3 v4 v5 : Value) (h : TS w b st) (hc : b ≠ c) : TS (set6 w c v0 v1 v2 v3 v4 v5) b st :=
  (((((h.other hc).other hc).other hc).other hc).other hc).other hc
end Go.Proofs.YtjghbciepinofaaGreat.Cd

set_option maxRecDepth 100000
namespace Go.Proofs.YtjghbciepinofaaGreat.Cd
open Go.RowKit
/-- Encode, in one: its bytes, or none -/
def encS (k i v n : Int) (S : List (Int × Int)) (D : List Int) : ByteArray := if goodN k i v n S D = 0 then strOfNums (enc k i v n S D) else ⟨#[]⟩
theorem encode_any (k i v n : Int) (S : List (Int × Int)) (D : List Int) (sa da : Option Addr) (cs cd sb so db dO : Nat) (w : World) (L : Lies w S D sa da sb so db dO) :
    Calls Tryz.prog 6 #[.agg #[.int .i64 k, .int .i64 i, .int .i64 v, .int .i64 n, .slice sa S.length cs, .slice da D.length cd]] w fun e w' => e = .returned (.tuple #[.string (encS k i v n S D), .int .i64 (goodN k i v n S D)]) ∧ Below w.heap.size w w' := by
  by_cases h : goodN k i v n S D = 0
  · rw [encS, if_pos h, h]; exact encode_ok k i v n S D sa da cs cd sb so db dO w L.hls L.hld L.hsa L.hda L.PS L.PD h
  · rw [encS, if_neg h]; exact encode_bad k i v n S D sa da cs cd sb so db dO w L.hls L.hld L.hsa L.hda L.PS L.PD h
end Go.Proofs.YtjghbciepinofaaGreat.Cd

