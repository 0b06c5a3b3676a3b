/- Parts of the proof: CX. -/
import Derived.Test.YtnfigdecgkcgcaaRows
import Derived.Test.YtnfigdecgkcgcaaCK10
set_option maxRecDepth 100000
namespace Go.Proofs.Ytnfigdecgkcgcaa.Cd
open Go.RowKit
/-- the bytes of a text, as numbers -/
def bs (s : ByteArray) : List Int := s.data.toList.map fun u => (u.toNat : Int)
theorem bs_length (s : ByteArray) : (bs s).length = s.size := by simp [bs]
theorem bs_byte (s : ByteArray) : ∀ c ∈ bs s, 0 ≤ c ∧ c < 256 := by
  intro c hc
  obtain ⟨u, _, rfl⟩ := List.mem_map.1 hc
  have := u.toNat_lt
  omega
theorem bs_get (s : ByteArray) (j : Nat) (h : j < s.size) : (bs s).getD j 0 = (s[j].toNat : Int) := by
  have h' : j < s.data.size := h
  rw [bs, List.getD, List.getElem?_map, Array.getElem?_toList, Array.getElem?_eq_getElem h']
  rfl
theorem bs_extract (s : ByteArray) (m : Nat) : bs (s.extract m s.size) = (bs s).drop m := by
  unfold bs
  rw [ByteArray.data_extract, Array.toList_extract, List.extract_eq_take_drop, ← List.map_drop]
  congr 1
  rw [List.take_of_length_le]
  simp
/-- the taker lies in a block: what is left, and whether bytes were wanting -/
def TAt (w : World) (b : Nat) (r : ByteArray) (sh : Bool) : Prop := w.heap[b]? = some (.cells #[.string r, .bool sh] 92)
theorem TAt.cells {w : World} {b : Nat} {r : ByteArray} {sh : Bool} (h : TAt w b r sh) : w.cell? ⟨b, 0, none⟩ = some (.string r) ∧ w.cell? ⟨b, 1, none⟩ = some (.bool sh) ∧ w.frozen? ⟨b, 0, none⟩ = false ∧ w.frozen? ⟨b, 1, none⟩ = false := by
  unfold TAt at h
  simp [World.cell?, World.frozen?, h]
theorem TAt.set0 {w : World} {b : Nat} {r : ByteArray} {sh : Bool} (h : TAt w b r sh) (r' : ByteArray) : TAt (w.setCell ⟨b, 0, none⟩ (.string r')) b r' sh := by
  unfold TAt at *
  simp [World.setCell, Array.getElem?_modify, h]
theorem TAt.set1 {w : World} {b : Nat} {r : ByteArray} {sh : Bool} (h : TAt w b r sh) (s' : Bool) : TAt (w.setCell ⟨b, 1, none⟩ (.bool s')) b r s' := by
  unfold TAt at *
  simp [World.setCell, Array.getElem?_modify, h]
theorem grown_set (w : World) (b o : Nat) (v : Value) : w.grownBy (w.setCell ⟨b, o, none⟩ v) (some b) :=
  ⟨rfl, rfl, rfl, by simp [World.setCell], fun k _ hk => Below.heap_setCell _ _ _ _ (fun e => hk (by rw [e]))⟩
theorem grown_then {w w1 w2 : World} {r : Option Nat} (h : w.grownBy w1 r) (k : w1.grownBy w2 r) : w.grownBy w2 r :=
  ⟨k.os.trans h.os, k.tape.trans h.tape, k.output.trans h.output, Nat.le_trans h.size k.size, fun i hi hne => (k.block i (Nat.lt_of_lt_of_le hi h.size) hne).trans (h.block i hi hne)⟩
/-- the next number of m bytes, and what is left behind it -/
def tk (m : Nat) (st : List Int × Bool) : Int × (List Int × Bool) := if st.1.length < m then (0, ([], true)) else (numF 0 (st.1.take m), (st.1.drop m, st.2))
/-- the taker's state lies in a block -/
def TS (w : World) (b : Nat) (st : List Int × Bool) : Prop := ∃ r, TAt w b r st.2 ∧ bs r = st.1 ∧ r.size ≤ maxLen

theorem pow_le6 {j : Nat} (h : j ≤ 6) : (2 : Int) ^ (8 * j) ≤ 281474976710656 := by
  match j, h with
  | 0, _ => decide
  | 1, _ => decide
  | 2, _ => decide
  | 3, _ => decide
  | 4, _ => decide
  | 5, _ => decide
  | 6, _ => decide
theorem size_ext (r : ByteArray) (j : Nat) : (r.extract j r.size).size ≤ r.size := by
  have h := bs_extract r j
  have h2 := congrArg List.length h
  rw [bs_length, List.length_drop, bs_length] at h2
  omega
theorem numF_bound : ∀ (l : List Int) (acc : Int) (B : Nat), (∀ c ∈ l, 0 ≤ c ∧ c < 256) → 0 ≤ acc → acc < 2 ^ (8 * B) → 0 ≤ numF acc l ∧ numF acc l < 2 ^ (8 * (B + l.length)) := by
  intro l
  induction l with
  | nil => intro acc B _ h0 h1; exact ⟨h0, by simpa [numF] using h1⟩
  | cons c t ih =>
    intro acc B hc h0 h1
    have hcc := hc c (List.mem_cons_self ..)
    have h2 : acc * 256 + c < 2 ^ (8 * (B + 1)) := by rw [pow_succ8]; omega
    have := ih (acc * 256 + c) (B + 1) (fun x hx => hc x (List.mem_cons_of_mem _ hx)) (by omega) h2
    rw [show B + 1 + t.length = B + (c :: t).length by simp; omega] at this
    exact this
theorem numF_take (l : List Int) (j : Nat) (h : j < l.length) : numF 0 (l.take (j + 1)) = numF 0 (l.take j) * 256 + l.getD j 0 := by
  rw [List.take_succ_eq_append_getElem h, numF, List.foldl_append]
  simp [numF, List.getD, h]
theorem or_byte (q c : Int) (hq : 0 ≤ q) (hq2 : q < 281474976710656) (hc : 0 ≤ c) (hc2 : c < 256) : bits BinOp.or IntKind.i64 (q * 256) (wrap64 c) = q * 256 + c := by
  have hw : wrap64 c = c := by unfold wrap64; omega
  rw [hw]
  obtain ⟨a, rfl⟩ := Int.eq_ofNat_of_zero_le hq
  obtain ⟨b, rfl⟩ := Int.eq_ofNat_of_zero_le hc
  have hor : a * 256 ||| b = a * 256 + b := by
    have := Nat.two_pow_add_eq_or_of_lt (i := 8) (b := b) (by omega) a
    rw [Nat.mul_comm a 256]; exact this.symm
  have h1 : (BitVec.ofInt 64 ((a * 256 : Nat) : Int)).toNat = a * 256 := by
    rw [BitVec.ofInt_natCast, BitVec.toNat_ofNat]; exact Nat.mod_eq_of_lt (by omega)
  have h2 : (BitVec.ofInt 64 (b : Int)).toNat = b := by
    rw [BitVec.ofInt_natCast, BitVec.toNat_ofNat]; exact Nat.mod_eq_of_lt (by omega)
  have e : (a : Int) * 256 = ((a * 256 : Nat) : Int) := by omega
  rw [e]
  show IntKind.i64.wrap ((BitVec.ofInt 64 ((a * 256 : Nat) : Int) ||| BitVec.ofInt 64 (b : Int)).toNat : Int) = _
  rw [BitVec.toNat_or, h1, h2, hor]
  simp [IntKind.wrap, IntKind.bits, IntKind.signed]
  omega
set_option maxHeartbeats 400000 in
theorem number_any (b : Nat) (st : List Int × Bool) (m : Nat) (w : World) (hT : TS w b st) (hm : m ≤ 7) :
    Calls Try.prog 77 #[.pointer (some ⟨b, 0, none⟩), .int .i64 m] w fun e w' => e = .returned (.int .i64 (tk m st).1) ∧ TS w' b (tk m st).2 ∧ w.grownBy w' (some b) := by
  obtain ⟨r, hT, hl, hr⟩ := hT
  obtain ⟨l, sh⟩ := st
  dsimp only at hT hl
  subst hl
  have hr' := hr
  unfold maxLen at hr
  obtain ⟨c0, c1, f0, f1⟩ := hT.cells
  by_cases hlt : r.size < m
  · have e : tk m (bs r, sh) = (0, ([], true)) := by rw [tk, if_pos (by rw [bs_length]; exact hlt)]
    rw [e]
    have HT : Hid _ := (hT.set1 true).set0 ⟨#[]⟩
    clear hT
    go_enter Try.func77, Try.ntmps77
    go_wp2
    go_ret
    exact ⟨rfl, ⟨⟨#[]⟩, HT.out, rfl, by decide⟩, grown_then (grown_set _ _ _ _) (grown_set _ _ _ _)⟩
  · have e : tk m (bs r, sh) = (numF 0 ((bs r).take m), ((bs r).drop m, sh)) := by rw [tk, if_neg (by rw [bs_length]; exact hlt)]
    rw [e]
    have HT : Hid _ := hT.set0 (r.extract m r.size)
    have HX : Hid _ := bs_extract r m
    clear hT
    go_enter Try.func77, Try.ntmps77
    go_wp2
    go_loop [5, 21] (fun n i => ∃ j : Nat, j ≤ m ∧ i = .int .i64 j ∧ n = .int .i64 (numF 0 ((bs r).take j))) (fun _ i => m - (intOf i).toNat)
    case atStart => exact ⟨0, Nat.zero_le _, rfl, by simp [numF]⟩
    case round =>
      obtain ⟨j, hj, rfl, rfl⟩ := hrel
      by_cases h : j < m
      · have hjr : j < r.size := by omega
        have hbd := numF_bound ((bs r).take j) 0 0 (fun c hc => bs_byte r c (List.mem_of_mem_take hc)) (by omega) (by omega)
        have hlj : ((bs r).take j).length = j := by rw [List.length_take, bs_length]; omega
        rw [hlj, Nat.zero_add] at hbd
        have hb1 : 0 ≤ numF 0 ((bs r).take j) := hbd.1
        have hb2 : numF 0 ((bs r).take j) < 281474976710656 := by
          have hp : (2 : Int) ^ (8 * j) ≤ 281474976710656 := pow_le6 (by omega)
          have := hbd.2
          omega
        have hcb := r[j].toNat_lt
        have HN : Hid (numF 0 ((bs r).take (j + 1)) = numF 0 ((bs r).take j) * 256 + (r[j].toNat : Int)) := by
          show _ = _
          rw [numF_take _ _ (by rw [bs_length]; exact hjr), bs_get r j hjr]
        clear hbd hlj
        generalize numF 0 ((bs r).take j) = q at *
        have HO : Hid _ := or_byte q (r[j].toNat : Int) hb1 hb2 (by omega) (by omega)
        clear hcb
        go_wp2
        go_round
        case rel => exact ⟨j + 1, by omega, by go_num, by rw [HO.out, HN.out]⟩
        case measure => simp [intOf]; omega
      · have hjm : j = m := by omega
        subst hjm
        go_wp2
        go_ret
        exact ⟨rfl, ⟨_, HT.out, HX.out, Nat.le_trans (size_ext r j) hr'⟩, grown_set _ _ _ _⟩
end Go.Proofs.Ytnfigdecgkcgcaa.Cd

