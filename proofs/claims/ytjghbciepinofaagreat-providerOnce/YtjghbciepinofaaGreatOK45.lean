/- Parts of the proof: CM CX CY CN. -/
import Derived.Test.YtjghbciepinofaaGreatRows
import Derived.Test.YtjghbciepinofaaGreatOK43
import Derived.Maps.AppendAt
import Derived.Deep.AppendLies
import Derived.Deep.RegionLaw
set_option maxRecDepth 100000
namespace Go.Proofs.YtjghbciepinofaaGreat.Cd
open Go.RowKit

/-- the number of bytes, behind a number -/
def numF (acc : Int) (l : List Int) : Int := l.foldl (fun n c => n * 256 + c) acc
theorem pow_succ8 (m : Nat) : (2 : Int) ^ (8 * (m + 1)) = 2 ^ (8 * m) * 256 := by
  rw [show 8 * (m + 1) = 8 * m + 8 by omega, Int.pow_add]; rfl
theorem pow_pos8 (m : Nat) : (0 : Int) < 2 ^ (8 * m) := Int.pow_pos (by decide)
theorem emod_mul256 (n a : Int) (ha : 0 < a) : n % (a * 256) = n % a + a * (n / a % 256) := by
  have h1 := Int.emod_add_mul_ediv n a
  have h2 := Int.emod_add_mul_ediv (n / a) 256
  have h3 := Int.emod_nonneg n (show a ≠ 0 by omega)
  have h4 := Int.emod_lt_of_pos n ha
  have h5 := Int.emod_nonneg (n / a) (show (256 : Int) ≠ 0 by decide)
  have h6 := Int.emod_lt_of_pos (n / a) (show (0 : Int) < 256 by decide)
  generalize n / a / 256 = q at *
  generalize n / a % 256 = r at *
  generalize n % a = s at *
  generalize n / a = t at *
  subst h2
  have e : n = (s + a * r) + (a * 256) * q := by rw [← h1, Int.mul_add, ← Int.mul_assoc]; omega
  have hle : a * r ≤ a * 255 := Int.mul_le_mul_of_nonneg_left (by omega) (by omega)
  have hge : 0 ≤ a * r := Int.mul_nonneg (by omega) h5
  rw [e, Int.add_mul_emod_self_left, Int.emod_eq_of_lt (by omega) (by omega)]
theorem numF_be (n : Int) : ∀ (m : Nat) (acc : Int), numF acc (be n m) = acc * 2 ^ (8 * m) + n % 2 ^ (8 * m) := by
  intro m
  induction m with
  | zero => intro acc; simp [be, numF, Int.emod_one]
  | succ m ih =>
    intro acc
    have h : numF acc (be n (m + 1)) = numF (acc * 256 + n / 2 ^ (8 * m) % 256) (be n m) := rfl
    rw [h, ih, pow_succ8, emod_mul256 _ _ (pow_pos8 m), Int.add_mul, Int.mul_assoc, Int.mul_comm 256, Int.mul_comm (n / 2 ^ (8 * m) % 256)]
    omega
theorem num_be {n : Int} {m : Nat} (h : 0 ≤ n) (h2 : n < 2 ^ (8 * m)) : numF 0 (be n m) = n := by
  rw [numF_be, Int.zero_mul, Int.zero_add, Int.emod_eq_of_lt h h2]
theorem be_byte (n : Int) (m : Nat) : ∀ c ∈ be n m, 0 ≤ c ∧ c < 256 := by
  induction m with
  | zero => simp [be]
  | succ m ih =>
    intro c hc
    rcases List.mem_cons.1 hc with rfl | hc
    · omega
    · exact ih c hc

theorem good_bounds {k i v n : Int} {S : List (Int × Int)} {D : List Int} (h : goodN k i v n S D = 0) :
    1 ≤ k ∧ k ≤ 4 ∧ 1 ≤ i ∧ i ≤ 1099511627776 ∧ 0 ≤ v ∧ v < 6 ∧ 0 ≤ n ∧ n ≤ 1125899906842624 := by
  have hf : ∀ {k v n : Int} {a b : Nat}, accB k = false → forB k v n a b = false → v = 0 ∧ n = 0 := by
    intro k v n a b h1 h2
    simp only [forB, h1, Bool.or_eq_false_iff, Bool.and_eq_false_iff] at h2
    simp at h2
    exact h2.1
  rcases goodN_cases k i v n S D with h' | h' | ⟨h1, h2, h' | h' | ⟨h3, h4, h' | h' | h' | ⟨h5 | h5, h' | h' | h' | h'⟩⟩⟩
  all_goals first | (exfalso; omega) | skip
  · have hv : isV v = true := h5.2.1
    simp only [isV, decide_eq_true_eq] at hv
    omega
  · obtain ⟨e1, e2⟩ := hf h5 h'.1
    omega

theorem pws_bounds (S : List (Int × Int)) : ∀ last : Int, -1 ≤ last → prisesFrom last S = true → ∀ p ∈ S, 0 ≤ p.1 ∧ p.1 < 6 ∧ 0 ≤ p.2 ∧ p.2 ≤ 1125899906842624 := by
  induction S with
  | nil => simp
  | cons x t ih =>
    intro last hl h p hp
    simp only [prisesFrom, Bool.and_eq_true, decide_eq_true_eq, isV] at h
    obtain ⟨⟨⟨⟨h1, h2⟩, h3⟩, h4⟩, h5⟩ := h
    rcases List.mem_cons.1 hp with rfl | hp
    · omega
    · exact ih x.1 (by omega) h5 p hp
theorem nums_bounds (D : List Int) : ∀ last : Int, -1 ≤ last → risesFrom last D = true → ∀ p ∈ D, 0 ≤ p ∧ p < 6 := by
  induction D with
  | nil => simp
  | cons x t ih =>
    intro last hl h p hp
    simp only [risesFrom, Bool.and_eq_true, decide_eq_true_eq, isV] at h
    obtain ⟨⟨h1, h2⟩, h3⟩ := h
    rcases List.mem_cons.1 hp with rfl | hp
    · omega
    · exact ih x (by omega) h3 p hp

theorem enc_byte (k i v n : Int) (S : List (Int × Int)) (D : List Int) : ∀ c ∈ enc k i v n S D, 0 ≤ c ∧ c < 256 := by
  intro c hc
  unfold enc encH at hc
  simp only [List.mem_append, List.mem_flatMap, encP] at hc
  rcases hc with ((((((h | h) | h) | h) | h) | ⟨p, _, h | h⟩) | h) | ⟨p, _, h⟩ <;> exact be_byte _ _ c h
end Go.Proofs.YtjghbciepinofaaGreat.Cd

set_option maxRecDepth 100000
namespace Go.Proofs.YtjghbciepinofaaGreat.Cd
open Go.RowKit
/-- the bytes of a text, as numbers -/
def bs (s : ByteArray) : List Int := s.data.toList.map fun u => (u.toNat : Int)
theorem bs_length (s : ByteArray) : (bs s).length = s.size := by simp [bs]
theorem bs_byte (s : ByteArray) : ∀ c ∈ bs s, 0 ≤ c ∧ c < 256 := by
  intro c hc
  obtain ⟨u, _, rfl⟩ := List.mem_map.1 hc
  have := u.toNat_lt
  omega
theorem bs_get (s : ByteArray) (j : Nat) (h : j < s.size) : (bs s).getD j 0 = (s[j].toNat : Int) := by
  have h' : j < s.data.size := h
  rw [bs, List.getD, List.getElem?_map, Array.getElem?_toList, Array.getElem?_eq_getElem h']
  rfl
theorem bs_extract (s : ByteArray) (m : Nat) : bs (s.extract m s.size) = (bs s).drop m := by
  unfold bs
  rw [ByteArray.data_extract, Array.toList_extract, List.extract_eq_take_drop, ← List.map_drop]
  congr 1
  rw [List.take_of_length_le]
  simp
/-- the taker lies in a block: what is left, and whether bytes were wanting -/
def TAt (w : World) (b : Nat) (r : ByteArray) (sh : Bool) : Prop := w.heap[b]? = some (.cells #[.string r, .bool sh] 103)
theorem TAt.cells {w : World} {b : Nat} {r : ByteArray} {sh : Bool} (h : TAt w b r sh) : w.cell? ⟨b, 0, none⟩ = some (.string r) ∧ w.cell? ⟨b, 1, none⟩ = some (.bool sh) ∧ w.frozen? ⟨b, 0, none⟩ = false ∧ w.frozen? ⟨b, 1, none⟩ = false := by
  unfold TAt at h
  simp [World.cell?, World.frozen?, h]
theorem TAt.set0 {w : World} {b : Nat} {r : ByteArray} {sh : Bool} (h : TAt w b r sh) (r' : ByteArray) : TAt (w.setCell ⟨b, 0, none⟩ (.string r')) b r' sh := by
  unfold TAt at *
  simp [World.setCell, Array.getElem?_modify, h]
theorem TAt.set1 {w : World} {b : Nat} {r : ByteArray} {sh : Bool} (h : TAt w b r sh) (s' : Bool) : TAt (w.setCell ⟨b, 1, none⟩ (.bool s')) b r s' := by
  unfold TAt at *
  simp [World.setCell, Array.getElem?_modify, h]
theorem grown_set (w : World) (b o : Nat) (v : Value) : w.grownBy (w.setCell ⟨b, o, none⟩ v) (some b) :=
  ⟨rfl, rfl, rfl, by simp [World.setCell], fun k _ hk => Below.heap_setCell _ _ _ _ (fun e => hk (by rw [e]))⟩
theorem grown_then {w w1 w2 : World} {r : Option Nat} (h : w.grownBy w1 r) (k : w1.grownBy w2 r) : w.grownBy w2 r :=
  ⟨k.os.trans h.os, k.tape.trans h.tape, k.output.trans h.output, Nat.le_trans h.size k.size, fun i hi hne => (k.block i (Nat.lt_of_lt_of_le hi h.size) hne).trans (h.block i hi hne)⟩
/-- the next number of m bytes, and what is left behind it -/
def tk (m : Nat) (st : List Int × Bool) : Int × (List Int × Bool) := if st.1.length < m then (0, ([], true)) else (numF 0 (st.1.take m), (st.1.drop m, st.2))
/-- the taker's state lies in a block -/
def TS (w : World) (b : Nat) (st : List Int × Bool) : Prop := ∃ r, TAt w b r st.2 ∧ bs r = st.1 ∧ r.size ≤ maxLen

theorem pow_le6 {j : Nat} (h : j ≤ 6) : (2 : Int) ^ (8 * j) ≤ 281474976710656 := by
  match j, h with
  | 0, _ => decide
  | 1, _ => decide
  | 2, _ => decide
  | 3, _ => decide
  | 4, _ => decide
  | 5, _ => decide
  | 6, _ => decide
theorem size_ext (r : ByteArray) (j : Nat) : (r.extract j r.size).size ≤ r.size := by
  have h := bs_extract r j
  have h2 := congrArg List.length h
  rw [bs_length, List.length_drop, bs_length] at h2
  omega
theorem numF_bound : ∀ (l : List Int) (acc : Int) (B : Nat), (∀ c ∈ l, 0 ≤ c ∧ c < 256) → 0 ≤ acc → acc < 2 ^ (8 * B) → 0 ≤ numF acc l ∧ numF acc l < 2 ^ (8 * (B + l.length)) := by
  intro l
  induction l with
  | nil => intro acc B _ h0 h1; exact ⟨h0, by simpa [numF] using h1⟩
  | cons c t ih =>
    intro acc B hc h0 h1
    have hcc := hc c (List.mem_cons_self ..)
    have h2 : acc * 256 + c < 2 ^ (8 * (B + 1)) := by rw [pow_succ8]; omega
    have := ih (acc * 256 + c) (B + 1) (fun x hx => hc x (List.mem_cons_of_mem _ hx)) (by omega) h2
    rw [show B + 1 + t.length = B + (c :: t).length by simp; omega] at this
    exact this
theorem numF_take (l : List Int) (j : Nat) (h : j < l.length) : numF 0 (l.take (j + 1)) = numF 0 (l.take j) * 256 + l.getD j 0 := by
  rw [List.take_succ_eq_append_getElem h, numF, List.foldl_append]
  simp [numF, List.getD, h]
theorem or_byte (q c : Int) (hq : 0 ≤ q) (hq2 : q < 281474976710656) (hc : 0 ≤ c) (hc2 : c < 256) : bits BinOp.or IntKind.i64 (q * 256) (wrap64 c) = q * 256 + c := by
  have hw : wrap64 c = c := by unfold wrap64; omega
  rw [hw]
  obtain ⟨a, rfl⟩ := Int.eq_ofNat_of_zero_le hq
  obtain ⟨b, rfl⟩ := Int.eq_ofNat_of_zero_le hc
  have hor : a * 256 ||| b = a * 256 + b := by
    have := Nat.two_pow_add_eq_or_of_lt (i := 8) (b := b) (by omega) a
    rw [Nat.mul_comm a 256]; exact this.symm
  have h1 : (BitVec.ofInt 64 ((a * 256 : Nat) : Int)).toNat = a * 256 := by
    rw [BitVec.ofInt_natCast, BitVec.toNat_ofNat]; exact Nat.mod_eq_of_lt (by omega)
  have h2 : (BitVec.ofInt 64 (b : Int)).toNat = b := by
    rw [BitVec.ofInt_natCast, BitVec.toNat_ofNat]; exact Nat.mod_eq_of_lt (by omega)
  have e : (a : Int) * 256 = ((a * 256 : Nat) : Int) := by omega
  rw [e]
  show IntKind.i64.wrap ((BitVec.ofInt 64 ((a * 256 : Nat) : Int) ||| BitVec.ofInt 64 (b : Int)).toNat : Int) = _
  rw [BitVec.toNat_or, h1, h2, hor]
  simp [IntKind.wrap, IntKind.bits, IntKind.signed]
  omega
set_option maxHeartbeats 400000 in
theorem number_any (b : Nat) (st : List Int × Bool) (m : Nat) (w : World) (hT : TS w b st) (hm : m ≤ 7) :
    Calls Tryz.prog 89 #[.pointer (some ⟨b, 0, none⟩), .int .i64 m] w fun e w' => e = .returned (.int .i64 (tk m st).1) ∧ TS w' b (tk m st).2 ∧ w.grownBy w' (some b) := by
  obtain ⟨r, hT, hl, hr⟩ := hT
  obtain ⟨l, sh⟩ := st
  dsimp only at hT hl
  subst hl
  have hr' := hr
  unfold maxLen at hr
  obtain ⟨c0, c1, f0, f1⟩ := hT.cells
  by_cases hlt : r.size < m
  · have e : tk m (bs r, sh) = (0, ([], true)) := by rw [tk, if_pos (by rw [bs_length]; exact hlt)]
    rw [e]
    have HT : Hid _ := (hT.set1 true).set0 ⟨#[]⟩
    clear hT
    go_enter Tryz.func89, Tryz.ntmps89
    go_wp2
    go_ret
    exact ⟨rfl, ⟨⟨#[]⟩, HT.out, rfl, by decide⟩, grown_then (grown_set _ _ _ _) (grown_set _ _ _ _)⟩
  · have e : tk m (bs r, sh) = (numF 0 ((bs r).take m), ((bs r).drop m, sh)) := by rw [tk, if_neg (by rw [bs_length]; exact hlt)]
    rw [e]
    have HT : Hid _ := hT.set0 (r.extract m r.size)
    have HX : Hid _ := bs_extract r m
    clear hT
    go_enter Tryz.func89, Tryz.ntmps89
    go_wp2
    go_loop [5, 21] (fun n i => ∃ j : Nat, j ≤ m ∧ i = .int .i64 j ∧ n = .int .i64 (numF 0 ((bs r).take j))) (fun _ i => m - (intOf i).toNat)
    case atStart => exact ⟨0, Nat.zero_le _, rfl, by simp [numF]⟩
    case round =>
      obtain ⟨j, hj, rfl, rfl⟩ := hrel
      by_cases h : j < m
      · have hjr : j < r.size := by omega
        have hbd := numF_bound ((bs r).take j) 0 0 (fun c hc => bs_byte r c (List.mem_of_mem_take hc)) (by omega) (by omega)
        have hlj : ((bs r).take j).length = j := by rw [List.length_take, bs_length]; omega
        rw [hlj, Nat.zero_add] at hbd
        have hb1 : 0 ≤ numF 0 ((bs r).take j) := hbd.1
        have hb2 : numF 0 ((bs r).take j) < 281474976710656 := by
          have hp : (2 : Int) ^ (8 * j) ≤ 281474976710656 := pow_le6 (by omega)
          have := hbd.2
          omega
        have hcb := r[j].toNat_lt
        have HN : Hid (numF 0 ((bs r).take (j + 1)) = numF 0 ((bs r).take j) * 256 + (r[j].toNat : Int)) := by
          show _ = _
          rw [numF_take _ _ (by rw [bs_length]; exact hjr), bs_get r j hjr]
        clear hbd hlj
        generalize numF 0 ((bs r).take j) = q at *
        have HO : Hid _ := or_byte q (r[j].toNat : Int) hb1 hb2 (by omega) (by omega)
        clear hcb
        go_wp2
        go_round
        case rel => exact ⟨j + 1, by omega, by go_num, by rw [HO.out, HN.out]⟩
        case measure => simp [intOf]; omega
      · have hjm : j = m := by omega
        subst hjm
        go_wp2
        go_ret
        exact ⟨rfl, ⟨_, HT.out, HX.out, Nat.le_trans (size_ext r j) hr'⟩, grown_set _ _ _ _⟩
end Go.Proofs.YtjghbciepinofaaGreat.Cd

set_option maxRecDepth 100000
namespace Go.Proofs.YtjghbciepinofaaGreat.Cd
open Go.RowKit
/-- a packet's box, whole -/
def BoxAt (w : World) (b : Nat) (k i v n s d : Value) : Prop := w.heap[b]? = some (.cells #[k, i, v, n, s, d] 49)
theorem BoxAt.cells {w : World} {b : Nat} {k i v n s d : Value} (h : BoxAt w b k i v n s d) : w.cell? ⟨b, 0, none⟩ = some k ∧ w.cell? ⟨b, 1, none⟩ = some i ∧ w.cell? ⟨b, 2, none⟩ = some v ∧ w.cell? ⟨b, 3, none⟩ = some n ∧ w.cell? ⟨b, 4, none⟩ = some s ∧ w.cell? ⟨b, 5, none⟩ = some d ∧ (∀ o, w.frozen? ⟨b, o, none⟩ = false) := by
  unfold BoxAt at h
  simp [World.cell?, World.frozen?, h]
theorem BoxAt.set {w : World} {b : Nat} {k i v n s d : Value} (h : BoxAt w b k i v n s d) (u : Value) :
    BoxAt (w.setCell ⟨b, 0, none⟩ u) b u i v n s d ∧ BoxAt (w.setCell ⟨b, 1, none⟩ u) b k u v n s d ∧ BoxAt (w.setCell ⟨b, 2, none⟩ u) b k i u n s d ∧ BoxAt (w.setCell ⟨b, 3, none⟩ u) b k i v u s d ∧ BoxAt (w.setCell ⟨b, 4, none⟩ u) b k i v n u d ∧ BoxAt (w.setCell ⟨b, 5, none⟩ u) b k i v n s u := by
  unfold BoxAt at *
  simp [World.setCell, Array.getElem?_modify, h]
theorem BoxAt.lt {w : World} {b : Nat} {k i v n s d : Value} (h : BoxAt w b k i v n s d) : b < w.heap.size := (Array.getElem?_eq_some_iff.1 h).1
theorem BoxAt.keep {w w' : World} {b : Nat} {k i v n s d : Value} {r : Option Nat} (h : BoxAt w b k i v n s d) (hg : w.grownBy w' r) (hne : some b ≠ r) : BoxAt w' b k i v n s d := (hg.block b h.lt hne).trans h
theorem TS.lt {w : World} {b : Nat} {st : List Int × Bool} (h : TS w b st) : b < w.heap.size := by obtain ⟨r, h, _⟩ := h; exact (Array.getElem?_eq_some_iff.1 h).1
theorem TS.keep {w w' : World} {b : Nat} {st : List Int × Bool} {r : Option Nat} (h : TS w b st) (hg : w.grownBy w' r) (hne : some b ≠ r) : TS w' b st := by
  have hlt := h.lt
  obtain ⟨x, h, h2⟩ := h
  exact ⟨x, (hg.block b hlt hne).trans h, h2⟩
def Row2 (w : World) (B : Nat) (v : Value) (l : List (Int × Int)) : Prop := w.ownsRow B 74 2 v l.length (l.flatMap fun p => [Value.int .i64 p.1, Value.int .i64 p.2])
def Row1 (w : World) (B : Nat) (v : Value) (l : List Int) : Prop := w.ownsRow B 3 1 v l.length (l.map (Value.int .i64))
/-- the next pairs of numbers; the next numbers -/
def tkP : Nat → List Int × Bool → List (Int × Int) × (List Int × Bool)
  | 0, st => ([], st)
  | m + 1, st => (((tk 1 st).1, (tk 7 (tk 1 st).2).1) :: (tkP m (tk 7 (tk 1 st).2).2).1, (tkP m (tk 7 (tk 1 st).2).2).2)
def tkD : Nat → List Int × Bool → List Int × (List Int × Bool)
  | 0, st => ([], st)
  | m + 1, st => ((tk 1 st).1 :: (tkD m (tk 1 st).2).1, (tkD m (tk 1 st).2).2)
theorem number_at (b : Nat) (st st' : List Int × Bool) (x mi : Int) (m : Nat) (w : World) (hT : TS w b st) (hmi : mi = (m : Int)) (hm : m ≤ 7) (he : tk m st = (x, st')) :
    Calls Tryz.prog 89 #[.pointer (some ⟨b, 0, none⟩), .int .i64 mi] w fun e w' => e = .returned (.int .i64 x) ∧ TS w' b st' ∧ w.grownBy w' (some b) := by
  subst hmi
  have := number_any b st m w hT hm
  rw [he] at this
  exact this
theorem grown_any {w w1 w2 : World} {r : Option Nat} (h : w.grownBy w1 r) (k : ∀ i, i < w.heap.size → some i ≠ r → w2.heap[i]? = w1.heap[i]?) (ho : w2.os = w1.os) (ht : w2.tape = w1.tape) (hu : w2.output = w1.output) (hs : w1.heap.size ≤ w2.heap.size) : w.grownBy w2 r :=
  ⟨ho.trans h.os, ht.trans h.tape, hu.trans h.output, Nat.le_trans h.size hs, fun i hi hne => (k i hi hne).trans (h.block i hi hne)⟩
theorem grown_box {w w1 : World} {r : Option Nat} {b o : Nat} {u : Value} (h : w.grownBy w1 r) (hb : w.heap.size ≤ b) : w.grownBy (w1.setCell ⟨b, o, none⟩ u) r :=
  grown_any h (fun i hi _ => Below.heap_setCell _ _ _ _ (by simp; omega)) rfl rfl rfl (by simp [World.setCell])
/-- where the method packet stands: the taker, the packet's box, the result's box; nothing else of old memory has turned -/
structure PSt (w wl : World) (b : Nat) (st : List Int × Bool) (k i v n s d : Value) : Prop where
  T : TS wl b st
  Bx : BoxAt wl (w.heap.size + 1) k i v n s d
  Rs : BoxAt wl w.heap.size (.int .i64 0) (.int .i64 0) (.int .i64 0) (.int .i64 0) (.slice none 0 0) (.slice none 0 0)
  G : w.grownBy wl (some b)
  hb : b < w.heap.size
theorem PSt.num {w wl wl' : World} {b : Nat} {st st' : List Int × Bool} {k i v n s d : Value} (h : PSt w wl b st k i v n s d) (T' : TS wl' b st') (g : wl.grownBy wl' (some b)) : PSt w wl' b st' k i v n s d :=
  ⟨T', h.Bx.keep g (by intro e; cases e; have := h.hb; omega), h.Rs.keep g (by intro e; cases e; have := h.hb; omega), grown_then h.G g, h.hb⟩
theorem TS.other {w : World} {b : Nat} {st : List Int × Bool} (h : TS w b st) {c o : Nat} {u : Value} (hc : b ≠ c) : TS (w.setCell ⟨c, o, none⟩ u) b st := by
  obtain ⟨x, h, h2⟩ := h
  exact ⟨x, (Below.heap_setCell _ _ _ _ hc).trans h, h2⟩
theorem PSt.set {w wl : World} {b : Nat} {st : List Int × Bool} {k i v n s d : Value} (h : PSt w wl b st k i v n s d) (u : Value) :
    PSt w (wl.setCell ⟨w.heap.size + 1, 0, none⟩ u) b st u i v n s d ∧ PSt w (wl.setCell ⟨w.heap.size + 1, 1, none⟩ u) b st k u v n s d ∧ PSt w (wl.setCell ⟨w.heap.size + 1, 2, none⟩ u) b st k i u n s d ∧
    PSt w (wl.setCell ⟨w.heap.size + 1, 3, none⟩ u) b st k i v u s d ∧ PSt w (wl.setCell ⟨w.heap.size + 1, 4, none⟩ u) b st k i v n u d ∧ PSt w (wl.setCell ⟨w.heap.size + 1, 5, none⟩ u) b st k i v n s u := by
  have hb := h.hb
  obtain ⟨x0, x1, x2, x3, x4, x5⟩ := h.Bx.set u
  have hr : ∀ o, BoxAt (wl.setCell ⟨w.heap.size + 1, o, none⟩ u) w.heap.size (.int .i64 0) (.int .i64 0) (.int .i64 0) (.int .i64 0) (.slice none 0 0) (.slice none 0 0) := fun o => (Below.heap_setCell _ _ _ _ (by simp)).trans h.Rs
  have ht : ∀ o, TS (wl.setCell ⟨w.heap.size + 1, o, none⟩ u) b st := fun o => h.T.other (by omega)
  have hg : ∀ o, w.grownBy (wl.setCell ⟨w.heap.size + 1, o, none⟩ u) (some b) := fun o => grown_box h.G (Nat.le_succ _)
  exact ⟨⟨ht _, x0, hr _, hg _, hb⟩, ⟨ht _, x1, hr _, hg _, hb⟩, ⟨ht _, x2, hr _, hg _, hb⟩, ⟨ht _, x3, hr _, hg _, hb⟩, ⟨ht _, x4, hr _, hg _, hb⟩, ⟨ht _, x5, hr _, hg _, hb⟩⟩
theorem PSt.alloc {w wl : World} {b : Nat} {st : List Int × Bool} {k i v n s d : Value} (h : PSt w wl b st k i v n s d) (o : Obj) : PSt w (wl.alloc o) b st k i v n s d :=
  have g := World.grownBy_alloc wl o none
  ⟨h.T.keep g (by simp), h.Bx.keep g (by simp), h.Rs.keep g (by simp), grown_then h.G (World.grownBy_alloc wl o _), h.hb⟩
theorem PSt.own {w wl wl' : World} {b : Nat} {st : List Int × Bool} {k i v n s d : Value} {r : Option Nat} (h : PSt w wl b st k i v n s d) (g : wl.grownBy wl' r) (hr : ∀ j, r = some j → w.heap.size + 2 ≤ j) : PSt w wl' b st k i v n s d := by
  have hb := h.hb
  have ne : ∀ c, c < w.heap.size + 2 → some c ≠ r := fun c hc e => by have := hr c e.symm; omega
  exact ⟨h.T.keep g (ne _ (by omega)), h.Bx.keep g (ne _ (by omega)), h.Rs.keep g (ne _ (by omega)), grown_any h.G (fun j hj _ => g.block j (Nat.lt_of_lt_of_le hj h.G.size) (ne j (by omega))) g.os g.tape g.output g.size, h.hb⟩
theorem PSt.big {w wl : World} {b : Nat} {st : List Int × Bool} {k i v n s d : Value} (h : PSt w wl b st k i v n s d) : w.heap.size + 2 ≤ wl.heap.size := h.Bx.lt
theorem own_num {w wl wl' : World} {b e size m : Nat} {v : Value} {xs : List Value} (h : wl.ownsRow (w.heap.size + 2) e size v m xs) (g : wl.grownBy wl' (some b)) (hb : b < w.heap.size) : wl'.ownsRow (w.heap.size + 2) e size v m xs :=
  h.kept g (by
    cases hv : v.ownBlock with
    | none => exact .inl rfl
    | some g => right; intro e; cases e; have := (h.lt _ hv).1; omega)
theorem own_set {w wl : World} {c o e size m : Nat} {v u : Value} {xs : List Value} (h : wl.ownsRow (w.heap.size + 2) e size v m xs) (hc : c < w.heap.size + 2) : (wl.setCell ⟨c, o, none⟩ u).ownsRow (w.heap.size + 2) e size v m xs :=
  h.kept (grown_set _ _ _ _) (by
    cases hv : v.ownBlock with
    | none => exact .inl rfl
    | some g => right; intro e; cases e; have := (h.lt _ hv).1; omega)
theorem own_form {w : World} {base e size n : Nat} {v : Value} {xs : List Value} (h : w.ownsRow base e size v n xs) : ∃ a c, v = .slice a n c := by
  rcases h.2 with ⟨rfl, rfl⟩ | ⟨g, cap, _, rfl, _⟩
  · exact ⟨_, _, rfl⟩
  · exact ⟨_, _, rfl⟩
theorem step_wanted {ops : Array Oper} {o : Oper} {a : Act} {w : World} {K : Act → World → Prop} {Q : Exit → Act → World → Prop} {E : Prop} (hg : o.guard = none) (h : Oper.wp Tryz.prog o a w K Q) :
    if Region.wanted o (yielded ops a.tmps) = true then Oper.wp Tryz.prog o a w K Q else E := by
  have hw : Region.wanted o (yielded ops a.tmps) = true := by simp [Region.wanted, hg]
  rw [if_pos hw]; exact h
theorem PSt.drew {w wl : World} {b : Nat} {st : List Int × Bool} {k i v n s d : Value} (h : PSt w wl b st k i v n s d) : PSt w wl.drew b st k i v n s d :=
  ⟨h.T, h.Bx, h.Rs, ⟨h.G.os, h.G.tape, h.G.output, h.G.size, h.G.block⟩, h.hb⟩
theorem own_drew {wl : World} {base e size m : Nat} {v : Value} {xs : List Value} (h : wl.ownsRow base e size v m xs) : wl.drew.ownsRow base e size v m xs := h
theorem own_set6 {w wl : World} {c e size m : Nat} {v : Value} {xs : List Value} (v0 v1 v2 v3 v4 v5 : Value) (h : wl.ownsRow (w.heap.size + 2) e size v m xs) (hc : c < w.heap.size + 2) : (set6 wl c v0 v1 v2 v3 v4 v5).ownsRow (w.heap.size + 2) e size v m xs :=
  own_set (own_set (own_set (own_set (own_set (own_set h hc) hc) hc) hc) hc) hc
theorem grown_set6 {w wl : World} {c : Nat} {r : Option Nat} (v0 v1 v2 v3 v4 v5 : Value) (h : w.grownBy wl r) (hc : w.heap.size ≤ c) : w.grownBy (set6 wl c v0 v1 v2 v3 v4 v5) r :=
  grown_box (grown_box (grown_box (grown_box (grown_box (grown_box h hc) hc) hc) hc) hc) hc
theorem TS.set6 {w : World} {b c : Nat} {st : List Int × Bool} (v0 v1 v2 v3 v4 v5 : Value) (h : TS w b st) (hc : b ≠ c) : TS (set6 w c v0 v1 v2 v3 v4 v5) b st :=
  (((((h.other hc).other hc).other hc).other hc).other hc).other hc
theorem two_new (w : World) (x y : Value) (t : TypeId) : ∀ j u, [x, y][j]? = some u → (w.alloc (.cells #[x, y] t)).cell? ((⟨w.heap.size, 0, none⟩ : Addr).add j) = some u :=
  World.news_of_block (heap_alloc_new w (.cells #[x, y] t))
set_option maxHeartbeats 1000000 in
theorem packet_any (b : Nat) (st s1 s2 s3 s4 s5 s6 s7 s8 : List Int × Bool) (k i v n : Int) (cn dn : Nat) (Ps : List (Int × Int)) (Ds : List Int) (w : World) (hT : TS w b st)
    (h1 : tk 1 st = (k, s1)) (h2 : tk 6 s1 = (i, s2)) (h3 : tk 1 s2 = (v, s3)) (h4 : tk 7 s3 = (n, s4)) (h5 : tk 1 s4 = ((cn : Int), s5)) (h6 : tkP cn s5 = (Ps, s6)) (h7 : tk 1 s6 = ((dn : Int), s7)) (h8 : tkD dn s7 = (Ds, s8)) (hcn : cn ≤ 255) (hdn : dn ≤ 255) :
    Calls Tryz.prog 40 #[.pointer (some ⟨b, 0, none⟩)] w fun e w' => ∃ u d, e = .returned (.agg #[.int .i64 k, .int .i64 i, .int .i64 v, .int .i64 n, u, d]) ∧ Row2 w' (w.heap.size + 2) u Ps ∧ Row1 w' (w.heap.size + 2) d Ds ∧ TS w' b s8 ∧ w.grownBy w' (some b) := by
  obtain ⟨i0, hi, hz0, hz1, hz2⟩ := info_parts info42
  obtain ⟨j0, hj, jz0, jz1, jz2⟩ := info_parts info3
  have hblt := hT.lt
  have X : Hid (tk 1 st = (k, s1) ∧ tk 6 s1 = (i, s2) ∧ tk 1 s2 = (v, s3) ∧ tk 7 s3 = (n, s4) ∧ tk 1 s4 = ((cn : Int), s5) ∧ tkP cn s5 = (Ps, s6) ∧ tk 1 s6 = ((dn : Int), s7) ∧ tkD dn s7 = (Ds, s8)) := ⟨h1, h2, h3, h4, h5, h6, h7, h8⟩
  clear h1 h2 h3 h4 h5 h6 h7 h8
  have P0 : PSt w ((w.alloc (.cells #[.int .i64 0, .int .i64 0, .int .i64 0, .int .i64 0, .slice none 0 0, .slice none 0 0] 49)).alloc (.cells #[.int .i64 0, .int .i64 0, .int .i64 0, .int .i64 0, .slice none 0 0, .slice none 0 0] 49)) b st (.int .i64 0) (.int .i64 0) (.int .i64 0) (.int .i64 0) (.slice none 0 0) (.slice none 0 0) := by
    have g1 := World.grownBy_alloc w (.cells #[.int .i64 0, .int .i64 0, .int .i64 0, .int .i64 0, .slice none 0 0, .slice none 0 0] 49) none
    have g2 := World.grownBy_alloc (w.alloc (.cells #[.int .i64 0, .int .i64 0, .int .i64 0, .int .i64 0, .slice none 0 0, .slice none 0 0] 49)) (.cells #[.int .i64 0, .int .i64 0, .int .i64 0, .int .i64 0, .slice none 0 0, .slice none 0 0] 49) none
    refine ⟨(hT.keep g1 (by simp)).keep g2 (by simp), ?_, ?_, grown_then (World.grownBy_alloc _ _ _) (World.grownBy_alloc _ _ _), hblt⟩
    · unfold BoxAt
      have e : w.heap.size + 1 = (w.alloc (.cells #[.int .i64 0, .int .i64 0, .int .i64 0, .int .i64 0, .slice none 0 0, .slice none 0 0] 49)).heap.size := by simp
      rw [e]; exact heap_alloc_new _ _
    · exact (Below.heap_alloc _ _ _ (by simp)).trans (heap_alloc_new _ _)
  clear hT
  go_enter Tryz.func40, Tryz.ntmps40
  go_wp2_with fail
  refine (number_at b st s1 k _ 1 _ P0.T rfl (by omega) X.out.1).mono ?_
  rintro e w1 ⟨rfl, hT1, hg1⟩
  have P1 := P0.num hT1 hg1
  clear hT1 hg1 P0
  obtain ⟨c0, c1, c2, c3, c4, c5, cf⟩ := P1.Bx.cells
  go_wp2_with fail
  clear c0 c1 c2 c3 c4 c5 cf
  have P1' := (P1.set (.int .i64 k)).1
  refine (number_at b s1 s2 i _ 6 _ P1'.T rfl (by omega) X.out.2.1).mono ?_
  rintro e w2 ⟨rfl, hT2, hg2⟩
  have P2 := P1'.num hT2 hg2
  clear hT2 hg2 P1 P1'
  obtain ⟨c0, c1, c2, c3, c4, c5, cf⟩ := P2.Bx.cells
  go_wp2_with fail
  clear c0 c1 c2 c3 c4 c5 cf
  have P2' := (P2.set (.int .i64 i)).2.1
  refine (number_at b s2 s3 v _ 1 _ P2'.T rfl (by omega) X.out.2.2.1).mono ?_
  rintro e w3 ⟨rfl, hT3, hg3⟩
  have P3 := P2'.num hT3 hg3
  clear hT3 hg3 P2 P2'
  obtain ⟨c0, c1, c2, c3, c4, c5, cf⟩ := P3.Bx.cells
  go_wp2_with fail
  clear c0 c1 c2 c3 c4 c5 cf
  have P3' := (P3.set (.int .i64 v)).2.2.1
  refine (number_at b s3 s4 n _ 7 _ P3'.T rfl (by omega) X.out.2.2.2.1).mono ?_
  rintro e w4 ⟨rfl, hT4, hg4⟩
  have P4 := P3'.num hT4 hg4
  clear hT4 hg4 P3 P3'
  obtain ⟨c0, c1, c2, c3, c4, c5, cf⟩ := P4.Bx.cells
  go_wp2_with fail
  clear c0 c1 c2 c3 c4 c5 cf
  have P4' := (P4.set (.int .i64 n)).2.2.2.1
  refine (number_at b s4 s5 (cn : Int) _ 1 _ P4'.T rfl (by omega) X.out.2.2.2.2.1).mono ?_
  rintro e w5 ⟨rfl, hT5, hg5⟩
  have P5 := P4'.num hT5 hg5
  clear hT5 hg5 P4 P4'
  go_wp2_with fail
  go_loopw [20] (fun j wl => ∃ (m : Nat) (Pj : List (Int × Int)) (sj : List Int × Bool) (u : Value), m ≤ cn ∧ j = .int .i64 m ∧ PSt w wl b sj (.int .i64 k) (.int .i64 i) (.int .i64 v) (.int .i64 n) u (.slice none 0 0) ∧ Row2 wl (w.heap.size + 2) u Pj ∧ Hid (Pj.length = m ∧ Pj ++ (tkP (cn - m) sj).1 = Ps ∧ (tkP (cn - m) sj).2 = s6)) (fun j _ => cn - (intOf j).toNat)
  case atStart =>
    refine ⟨0, [], s5, _, Nat.zero_le _, rfl, P5, World.ownsRow_nil _ _ _ _, rfl, ?_, ?_⟩
    · have h6 := X.out.2.2.2.2.2.1
      simp [h6]
    · have h6 := X.out.2.2.2.2.2.1
      simp [h6]
  case round =>
    obtain ⟨m, Pj, sj, u, hm, rfl, P6, hrow, HE⟩ := hrel
    clear P5
    by_cases hlt : m < cn
    · obtain ⟨f, hf⟩ : ∃ f, cn - m = f + 1 := ⟨cn - m - 1, by omega⟩
      have HE' := HE.out
      rw [hf, tkP] at HE'
      obtain ⟨y, sa, hy⟩ : ∃ y sa, tk 1 sj = (y, sa) := ⟨_, _, rfl⟩
      obtain ⟨z, sc, hz⟩ : ∃ z sc, tk 7 sa = (z, sc) := ⟨_, _, rfl⟩
      rw [hy] at HE'
      dsimp only at HE'
      rw [hz] at HE'
      dsimp only at HE'
      have HT : Hid _ := HE'
      have HYZ : Hid (tk 1 sj = (y, sa) ∧ tk 7 sa = (z, sc)) := ⟨hy, hz⟩
      have hfc : f = cn - (m + 1) := by omega
      have HFC : Hid (f = cn - (m + 1)) := hfc
      have hPl : Pj.length ≤ 255 := by have := HE.out.1; omega
      have HPm : Hid (Pj.length = m) := HE.out.1
      clear HE HE' hy hz hf hfc
      go_wp2_with fail
      refine (number_at b sj sa y _ 1 _ P6.T rfl (by omega) HYZ.out.1).mono ?_
      rintro e wa ⟨rfl, hTa, hga⟩
      have Pa := P6.num hTa hga
      have hra : Row2 wa (w.heap.size + 2) u Pj := own_num hrow hga hblt
      clear hTa hga hrow P6
      go_wp2_with fail
      refine (number_at b sa sc z _ 7 _ Pa.T rfl (by omega) HYZ.out.2).mono ?_
      rintro e wb ⟨rfl, hTb, hgb⟩
      have Pb := Pa.num hTb hgb
      have hrb : Row2 wb (w.heap.size + 2) u Pj := own_num hra hgb hblt
      clear hTb hgb hra Pa
      obtain ⟨c0, c1, c2, c3, c4, c5, cf⟩ := Pb.Bx.cells
      obtain ⟨ua, uc, rfl⟩ := own_form hrb
      have hbig := Pb.big
      go_wp2_with (at_builtin; refine wpList_append_lies _ rfl _ _ 33 rfl (w.heap.size + 2) 74 i0 (.agg #[.int .i64 0, .int .i64 0]) 2 16 Tryz.underlying33 hi hz0 hz1 hz2 rfl (by decide) _ _ _ rfl (World.ownsRow.alloc hrb _) ⟨wb.heap.size, 0, none⟩ 1 1 [.int .i64 y, .int .i64 z] rfl rfl ?_ ?_ (by decide) (by unfold maxLen; omega) (by omega) (by simp; omega) _ rfl ?_)
      · exact two_new _ _ _ _
      · intro u hu; simp at hu; rcases hu with rfl | rfl <;> rfl
      · intro g cap wd hown hgrow _ _
        have Pd := (Pb.alloc (Obj.cells #[Value.int IntKind.i64 y, Value.int IntKind.i64 z] 74)).own hgrow (fun j hj => (World.ownsRow.lt hrb j hj).1)
        have hrd : Row2 wd (w.heap.size + 2) (.slice (some ⟨g, 0, none⟩) (Pj.length + 1) cap) (Pj ++ [(y, z)]) := by simpa [Row2] using hown
        clear hown hgrow hrb c0 c1 c2 c3 c4 c5 cf Pb
        obtain ⟨c0, c1, c2, c3, c4, c5, cf⟩ := Pd.Bx.cells
        have HP : Hid _ := (Pd.set (.slice (some ⟨g, 0, none⟩) (Pj.length + 1) cap)).2.2.2.2.1
        have HR : Hid _ := own_set (c := w.heap.size + 1) (o := 4) (u := .slice (some ⟨g, 0, none⟩) (Pj.length + 1) cap) hrd (by omega)
        clear hrd Pd
        go_wp2
        clear c0 c1 c2 c3 c4 c5 cf
        go_roundw
        case rel =>
          refine ⟨m + 1, Pj ++ [(y, z)], sc, _, by omega, by go_num, HP.out, HR.out, by rw [List.length_append, HPm.out]; rfl, ?_, ?_⟩
          · rw [← HFC.out, List.append_assoc]; exact HT.out.2.1
          · rw [← HFC.out]; exact HT.out.2.2
        case measure => simp [intOf]; omega
    · have hmc : m = cn := by omega
      subst hmc
      have HE' := HE.out
      rw [Nat.sub_self, tkP, List.append_nil] at HE'
      obtain ⟨hPm, rfl, rfl⟩ := HE'
      clear HE hPm
      go_wp2_with fail
      refine (number_at b sj s7 (dn : Int) _ 1 _ P6.T rfl (by omega) X.out.2.2.2.2.2.2.1).mono ?_
      rintro e w7 ⟨rfl, hT7, hg7⟩
      have P7 := P6.num hT7 hg7
      have hrow7 : Row2 w7 (w.heap.size + 2) u Pj := own_num hrow hg7 hblt
      clear hT7 hg7 P6 hrow
      obtain ⟨ua, uc, rfl⟩ := own_form hrow7
      go_wp2_with fail
      go_loopw [37] (fun j wl => ∃ (q : Nat) (Dj : List Int) (sj : List Int × Bool) (d : Value), q ≤ dn ∧ j = .int .i64 q ∧ PSt w wl b sj (.int .i64 k) (.int .i64 i) (.int .i64 v) (.int .i64 n) (.slice ua Pj.length uc) d ∧ Row2 wl (w.heap.size + 2) (.slice ua Pj.length uc) Pj ∧ Row1 wl (w.heap.size + 2) d Dj ∧
          Hid ((Value.slice ua Pj.length uc).ownBlock = none ∨ (Value.slice ua Pj.length uc).ownBlock ≠ d.ownBlock) ∧ Hid (Dj.length = q ∧ Dj ++ (tkD (dn - q) sj).1 = Ds ∧ (tkD (dn - q) sj).2 = s8)) (fun j _ => dn - (intOf j).toNat)
      case atStart =>
        have h8 := X.out.2.2.2.2.2.2.2
        refine ⟨0, [], s7, _, Nat.zero_le _, rfl, P7, hrow7, World.ownsRow_nil _ _ _ _, ?_, rfl, ?_, ?_⟩
        · cases ua with
          | none => exact .inl rfl
          | some x => exact .inr (by simp [Value.ownBlock])
        · simp [h8]
        · simp [h8]
      case round =>
        obtain ⟨q, Dj, sj', d, hq, rfl, P8, hrow2, hrow1, HN, HE⟩ := hrel
        clear P7 hrow7
        by_cases hlt : q < dn
        · obtain ⟨f, hf⟩ : ∃ f, dn - q = f + 1 := ⟨dn - q - 1, by omega⟩
          have HE' := HE.out
          rw [hf, tkD] at HE'
          obtain ⟨y, sa, hy⟩ : ∃ y sa, tk 1 sj' = (y, sa) := ⟨_, _, rfl⟩
          rw [hy] at HE'
          dsimp only at HE'
          have HT : Hid _ := HE'
          have HY : Hid (tk 1 sj' = (y, sa)) := hy
          have hfc : f = dn - (q + 1) := by omega
          have HFC : Hid (f = dn - (q + 1)) := hfc
          have hDl : Dj.length ≤ 255 := by have := HE.out.1; omega
          have HDm : Hid (Dj.length = q) := HE.out.1
          clear HE HE' hy hf hfc
          obtain ⟨c0, c1, c2, c3, c4, c5, cf⟩ := P8.Bx.cells
          obtain ⟨xa, xc, rfl⟩ := own_form hrow1
          go_wp2_with fail
          have P8d := P8.drew
          have hr2d : Row2 wr.drew (w.heap.size + 2) (.slice ua Pj.length uc) Pj := own_drew hrow2
          have hr1d : Row1 wr.drew (w.heap.size + 2) (.slice xa Dj.length xc) Dj := own_drew hrow1
          clear P8 hrow2 hrow1
          go_region_law (first
            | (refine step_wanted rfl ?_; go_simp; go_at_call 89; refine (number_at b sj' sa y _ 1 _ P8d.T rfl (by omega) HY.out).mono ?_; rintro e we ⟨rfl, hTe, hge⟩; have Pe := P8d.num hTe hge; have hr2e : Row2 we (w.heap.size + 2) (.slice ua Pj.length uc) Pj := own_num hr2d hge hblt; have hr1e : Row1 we (w.heap.size + 2) (.slice xa Dj.length xc) Dj := own_num hr1d hge hblt; have hce := Pe.Bx.cells; have hbig := Pe.big; have hbig1 : w.heap.size + 1 < we.heap.size := Pe.big; clear hTe hge)
            | (refine step_append_lies _ rfl _ _ 34 rfl (w.heap.size + 2) 3 j0 (.int .i64 0) 1 8 Tryz.underlying34 hj jz0 jz1 jz2 rfl (by decide) _ _ _ rfl (World.ownsRow.alloc hr1e _) ⟨we.heap.size, 0, none⟩ 1 1 [.int .i64 y] rfl rfl (cell_one_new _ _ _) (by intro u hu; simp at hu; subst hu; rfl) (by decide) (by unfold maxLen; omega) (by omega) (by simp; omega) _ rfl ?_; intro g cap wf hown hgrow hat hglt; have Pf := (Pe.alloc (Obj.cells #[Value.int IntKind.i64 y] 3)).own hgrow (fun j hj => (World.ownsRow.lt hr1e j hj).1); have hcf := Pf.Bx.cells))
          all_goals
            have hr2f : Row2 wf (w.heap.size + 2) (.slice ua Pj.length uc) Pj := World.ownsRow.kept (World.ownsRow.alloc hr2e _) hgrow HN.out
            have hr1f : Row1 wf (w.heap.size + 2) (.slice (some ⟨g, 0, none⟩) (Dj.length + 1) cap) (Dj ++ [y]) := by simpa [Row1] using hown
            have hNf : (Value.slice ua Pj.length uc).ownBlock = none ∨ (Value.slice ua Pj.length uc).ownBlock ≠ (Value.slice (some ⟨g, 0, none⟩) (Dj.length + 1) cap).ownBlock := by
              rcases hat with h | h
              · have e : (Value.slice (some ⟨g, 0, none⟩) (Dj.length + 1) cap).ownBlock = (Value.slice xa Dj.length xc).ownBlock := h.symm
                rw [e]; exact HN.out
              · right
                intro e
                have e2 : (Value.slice ua Pj.length uc).ownBlock = some g := e
                have := (World.ownsRow.lt hr2e _ e2).2
                simp at h
                omega
            have HP : Hid _ := (Pf.set (.slice (some ⟨g, 0, none⟩) (Dj.length + 1) cap)).2.2.2.2.2
            have HR2 : Hid _ := own_set (c := w.heap.size + 1) (o := 5) (u := .slice (some ⟨g, 0, none⟩) (Dj.length + 1) cap) hr2f (by omega)
            have HR1 : Hid _ := own_set (c := w.heap.size + 1) (o := 5) (u := .slice (some ⟨g, 0, none⟩) (Dj.length + 1) cap) hr1f (by omega)
            have HNf : Hid _ := hNf
            clear hown hgrow hat hr2f hr1f hr2e hr1e hce hcf Pe Pf hNf hr2d hr1d P8d c0 c1 c2 c3 c4 c5 cf
            go_wp2
            go_roundw
            case rel =>
              refine ⟨q + 1, Dj ++ [y], sa, _, by omega, by go_num, HP.out, HR2.out, HR1.out, HNf, by rw [List.length_append, HDm.out]; rfl, ?_, ?_⟩
              · rw [← HFC.out, List.append_assoc]; exact HT.out.2.1
              · rw [← HFC.out]; exact HT.out.2.2
            case measure => simp [intOf]; omega
        · have hqd : q = dn := by omega
          subst hqd
          have HE' := HE.out
          rw [Nat.sub_self, tkD, List.append_nil] at HE'
          obtain ⟨hDm, rfl, rfl⟩ := HE'
          clear HE hDm
          obtain ⟨xa, xc, rfl⟩ := own_form hrow1
          obtain ⟨c0, c1, c2, c3, c4, c5, cf⟩ := P8.Bx.cells
          obtain ⟨d0, d1, d2, d3, d4, d5, df⟩ := P8.Rs.cells
          have hex : ∀ o, o < 6 → ∃ u, wr.cell? ⟨w.heap.size, o, none⟩ = some u := fun o ho => by
            match o, ho with
            | 0, _ => exact ⟨_, d0⟩
            | 1, _ => exact ⟨_, d1⟩
            | 2, _ => exact ⟨_, d2⟩
            | 3, _ => exact ⟨_, d3⟩
            | 4, _ => exact ⟨_, d4⟩
            | 5, _ => exact ⟨_, d5⟩
          have HEX : Hid _ := hex
          clear hex
          have HF : Hid (Row2 wr (w.heap.size + 2) (.slice ua Pj.length uc) Pj ∧ Row1 wr (w.heap.size + 2) (.slice xa Dj.length xc) Dj ∧ TS wr b sj' ∧ w.grownBy wr (some b)) := ⟨hrow2, hrow1, P8.T, P8.G⟩
          clear hrow2 hrow1 P8
          go_wp2
          show bodyPost Tryz.prog Tryz.f40 _ Exit.ret _ (set6 wr w.heap.size (.int .i64 k) (.int .i64 i) (.int .i64 v) (.int .i64 n) (.slice ua Pj.length uc) (.slice xa Dj.length xc))
          obtain ⟨e0, e1, e2, e3, e4, e5⟩ := set6_cells (w := wr) (b := w.heap.size) (.int .i64 k) (.int .i64 i) (.int .i64 v) (.int .i64 n) (.slice ua Pj.length uc) (.slice xa Dj.length xc) HEX.out
          have q2 : Row2 (set6 wr w.heap.size (.int .i64 k) (.int .i64 i) (.int .i64 v) (.int .i64 n) (.slice ua Pj.length uc) (.slice xa Dj.length xc)) (w.heap.size + 2) (.slice ua Pj.length uc) Pj := own_set6 _ _ _ _ _ _ HF.out.1 (by omega)
          have q1 : Row1 (set6 wr w.heap.size (.int .i64 k) (.int .i64 i) (.int .i64 v) (.int .i64 n) (.slice ua Pj.length uc) (.slice xa Dj.length xc)) (w.heap.size + 2) (.slice xa Dj.length xc) Dj := own_set6 _ _ _ _ _ _ HF.out.2.1 (by omega)
          have q3 := TS.set6 (c := w.heap.size) (.int .i64 k) (.int .i64 i) (.int .i64 v) (.int .i64 n) (.slice ua Pj.length uc) (.slice xa Dj.length xc) HF.out.2.2.1 (by omega)
          have q4 := grown_set6 (c := w.heap.size) (.int .i64 k) (.int .i64 i) (.int .i64 v) (.int .i64 n) (.slice ua Pj.length uc) (.slice xa Dj.length xc) HF.out.2.2.2 (Nat.le_refl _)
          generalize set6 wr w.heap.size (.int .i64 k) (.int .i64 i) (.int .i64 v) (.int .i64 n) (.slice ua Pj.length uc) (.slice xa Dj.length xc) = w9 at *
          exact bodyPost_ret (v := .agg #[.int .i64 k, .int .i64 i, .int .i64 v, .int .i64 n, .slice ua Pj.length uc, .slice xa Dj.length xc]) (by simp [results, Tryz.results40, go_sem, e0, e1, e2, e3, e4, e5]) rfl ⟨_, _, rfl, q2, q1, q3, q4⟩
end Go.Proofs.YtjghbciepinofaaGreat.Cd

set_option maxRecDepth 100000
namespace Go.Proofs.YtjghbciepinofaaGreat.Cd
open Go.RowKit
/-- Encode, in one: its bytes, or none -/
def encS (k i v n : Int) (S : List (Int × Int)) (D : List Int) : ByteArray := if goodN k i v n S D = 0 then strOfNums (enc k i v n S D) else ⟨#[]⟩
theorem encode_any (k i v n : Int) (S : List (Int × Int)) (D : List Int) (sa da : Option Addr) (cs cd sb so db dO : Nat) (w : World) (L : Lies w S D sa da sb so db dO) :
    Calls Tryz.prog 6 #[.agg #[.int .i64 k, .int .i64 i, .int .i64 v, .int .i64 n, .slice sa S.length cs, .slice da D.length cd]] w fun e w' => e = .returned (.tuple #[.string (encS k i v n S D), .int .i64 (goodN k i v n S D)]) ∧ Below w.heap.size w w' := by
  by_cases h : goodN k i v n S D = 0
  · rw [encS, if_pos h, h]; exact encode_ok k i v n S D sa da cs cd sb so db dO w L.hls L.hld L.hsa L.hda L.PS L.PD h
  · rw [encS, if_neg h]; exact encode_bad k i v n S D sa da cs cd sb so db dO w L.hls L.hld L.hsa L.hda L.PS L.PD h
end Go.Proofs.YtjghbciepinofaaGreat.Cd

