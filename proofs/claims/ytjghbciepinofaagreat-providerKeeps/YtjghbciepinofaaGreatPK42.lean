/- Parts of the proof: CM CX LG LH. -/
import Derived.Test.YtjghbciepinofaaGreatRows
import Derived.Test.YtjghbciepinofaaGreatPK39
import Derived.Test.YtjghbciepinofaaGreatPK40
import Derived.Deep.QuietTactic
import Derived.BigQuiet
import Derived.WalkSmall
set_option maxRecDepth 100000
namespace Go.Proofs.YtjghbciepinofaaGreat.Cd
open Go.RowKit

/-- the number of bytes, behind a number -/
def numF (acc : Int) (l : List Int) : Int := l.foldl (fun n c => n * 256 + c) acc
theorem pow_succ8 (m : Nat) : (2 : Int) ^ (8 * (m + 1)) = 2 ^ (8 * m) * 256 := by
  rw [show 8 * (m + 1) = 8 * m + 8 by omega, Int.pow_add]; rfl
theorem pow_pos8 (m : Nat) : (0 : Int) < 2 ^ (8 * m) := Int.pow_pos (by decide)
theorem emod_mul256 (n a : Int) (ha : 0 < a) : n % (a * 256) = n % a + a * (n / a % 256) := by
  have h1 := Int.emod_add_mul_ediv n a
  have h2 := Int.emod_add_mul_ediv (n / a) 256
  have h3 := Int.emod_nonneg n (show a ≠ 0 by omega)
  have h4 := Int.emod_lt_of_pos n ha
  have h5 := Int.emod_nonneg (n / a) (show (256 : Int) ≠ 0 by decide)
  have h6 := Int.emod_lt_of_pos (n / a) (show (0 : Int) < 256 by decide)
  generalize n / a / 256 = q at *
  generalize n / a % 256 = r at *
  generalize n % a = s at *
  generalize n / a = t at *
  subst h2
  have e : n = (s + a * r) + (a * 256) * q := by rw [← h1, Int.mul_add, ← Int.mul_assoc]; omega
  have hle : a * r ≤ a * 255 := Int.mul_le_mul_of_nonneg_left (by omega) (by omega)
  have hge : 0 ≤ a * r := Int.mul_nonneg (by omega) h5
  rw [e, Int.add_mul_emod_self_left, Int.emod_eq_of_lt (by omega) (by omega)]
theorem numF_be (n : Int) : ∀ (m : Nat) (acc : Int), numF acc (be n m) = acc * 2 ^ (8 * m) + n % 2 ^ (8 * m) := by
  intro m
  induction m with
  | zero => intro acc; simp [be, numF, Int.emod_one]
  | succ m ih =>
    intro acc
    have h : numF acc (be n (m + 1)) = numF (acc * 256 + n / 2 ^ (8 * m) % 256) (be n m) := rfl
    rw [h, ih, pow_succ8, emod_mul256 _ _ (pow_pos8 m), Int.add_mul, Int.mul_assoc, Int.mul_comm 256, Int.mul_comm (n / 2 ^ (8 * m) % 256)]
    omega
theorem num_be {n : Int} {m : Nat} (h : 0 ≤ n) (h2 : n < 2 ^ (8 * m)) : numF 0 (be n m) = n := by
  rw [numF_be, Int.zero_mul, Int.zero_add, Int.emod_eq_of_lt h h2]
theorem be_byte (n : Int) (m : Nat) : ∀ c ∈ be n m, 0 ≤ c ∧ c < 256 := by
  induction m with
  | zero => simp [be]
  | succ m ih =>
    intro c hc
    rcases List.mem_cons.1 hc with rfl | hc
    · omega
    · exact ih c hc

theorem good_bounds {k i v n : Int} {S : List (Int × Int)} {D : List Int} (h : goodN k i v n S D = 0) :
    1 ≤ k ∧ k ≤ 4 ∧ 1 ≤ i ∧ i ≤ 1099511627776 ∧ 0 ≤ v ∧ v < 6 ∧ 0 ≤ n ∧ n ≤ 1125899906842624 := by
  have hf : ∀ {k v n : Int} {a b : Nat}, accB k = false → forB k v n a b = false → v = 0 ∧ n = 0 := by
    intro k v n a b h1 h2
    simp only [forB, h1, Bool.or_eq_false_iff, Bool.and_eq_false_iff] at h2
    simp at h2
    exact h2.1
  rcases goodN_cases k i v n S D with h' | h' | ⟨h1, h2, h' | h' | ⟨h3, h4, h' | h' | h' | ⟨h5 | h5, h' | h' | h' | h'⟩⟩⟩
  all_goals first | (exfalso; omega) | skip
  · have hv : isV v = true := h5.2.1
    simp only [isV, decide_eq_true_eq] at hv
    omega
  · obtain ⟨e1, e2⟩ := hf h5 h'.1
    omega

theorem pws_bounds (S : List (Int × Int)) : ∀ last : Int, -1 ≤ last → prisesFrom last S = true → ∀ p ∈ S, 0 ≤ p.1 ∧ p.1 < 6 ∧ 0 ≤ p.2 ∧ p.2 ≤ 1125899906842624 := by
  induction S with
  | nil => simp
  | cons x t ih =>
    intro last hl h p hp
    simp only [prisesFrom, Bool.and_eq_true, decide_eq_true_eq, isV] at h
    obtain ⟨⟨⟨⟨h1, h2⟩, h3⟩, h4⟩, h5⟩ := h
    rcases List.mem_cons.1 hp with rfl | hp
    · omega
    · exact ih x.1 (by omega) h5 p hp
theorem nums_bounds (D : List Int) : ∀ last : Int, -1 ≤ last → risesFrom last D = true → ∀ p ∈ D, 0 ≤ p ∧ p < 6 := by
  induction D with
  | nil => simp
  | cons x t ih =>
    intro last hl h p hp
    simp only [risesFrom, Bool.and_eq_true, decide_eq_true_eq, isV] at h
    obtain ⟨⟨h1, h2⟩, h3⟩ := h
    rcases List.mem_cons.1 hp with rfl | hp
    · omega
    · exact ih x (by omega) h3 p hp

theorem enc_byte (k i v n : Int) (S : List (Int × Int)) (D : List Int) : ∀ c ∈ enc k i v n S D, 0 ≤ c ∧ c < 256 := by
  intro c hc
  unfold enc encH at hc
  simp only [List.mem_append, List.mem_flatMap, encP] at hc
  rcases hc with ((((((h | h) | h) | h) | h) | ⟨p, _, h | h⟩) | h) | ⟨p, _, h⟩ <;> exact be_byte _ _ c h
end Go.Proofs.YtjghbciepinofaaGreat.Cd

set_option maxRecDepth 100000
namespace Go.Proofs.YtjghbciepinofaaGreat.Cd
open Go.RowKit
/-- the bytes of a text, as numbers -/
def bs (s : ByteArray) : List Int := s.data.toList.map fun u => (u.toNat : Int)
theorem bs_length (s : ByteArray) : (bs s).length = s.size := by simp [bs]
theorem bs_byte (s : ByteArray) : ∀ c ∈ bs s, 0 ≤ c ∧ c < 256 := by
  intro c hc
  obtain ⟨u, _, rfl⟩ := List.mem_map.1 hc
  have := u.toNat_lt
  omega
theorem bs_get (s : ByteArray) (j : Nat) (h : j < s.size) : (bs s).getD j 0 = (s[j].toNat : Int) := by
  have h' : j < s.data.size := h
  rw [bs, List.getD, List.getElem?_map, Array.getElem?_toList, Array.getElem?_eq_getElem h']
  rfl
theorem bs_extract (s : ByteArray) (m : Nat) : bs (s.extract m s.size) = (bs s).drop m := by
  unfold bs
  rw [ByteArray.data_extract, Array.toList_extract, List.extract_eq_take_drop, ← List.map_drop]
  congr 1
  rw [List.take_of_length_le]
  simp
/-- the taker lies in a block: what is left, and whether bytes were wanting -/
def TAt (w : World) (b : Nat) (r : ByteArray) (sh : Bool) : Prop := w.heap[b]? = some (.cells #[.string r, .bool sh] 103)
theorem TAt.cells {w : World} {b : Nat} {r : ByteArray} {sh : Bool} (h : TAt w b r sh) : w.cell? ⟨b, 0, none⟩ = some (.string r) ∧ w.cell? ⟨b, 1, none⟩ = some (.bool sh) ∧ w.frozen? ⟨b, 0, none⟩ = false ∧ w.frozen? ⟨b, 1, none⟩ = false := by
  unfold TAt at h
  simp [World.cell?, World.frozen?, h]
theorem TAt.set0 {w : World} {b : Nat} {r : ByteArray} {sh : Bool} (h : TAt w b r sh) (r' : ByteArray) : TAt (w.setCell ⟨b, 0, none⟩ (.string r')) b r' sh := by
  unfold TAt at *
  simp [World.setCell, Array.getElem?_modify, h]
theorem TAt.set1 {w : World} {b : Nat} {r : ByteArray} {sh : Bool} (h : TAt w b r sh) (s' : Bool) : TAt (w.setCell ⟨b, 1, none⟩ (.bool s')) b r s' := by
  unfold TAt at *
  simp [World.setCell, Array.getElem?_modify, h]
theorem grown_set (w : World) (b o : Nat) (v : Value) : w.grownBy (w.setCell ⟨b, o, none⟩ v) (some b) :=
  ⟨rfl, rfl, rfl, by simp [World.setCell], fun k _ hk => Below.heap_setCell _ _ _ _ (fun e => hk (by rw [e]))⟩
theorem grown_then {w w1 w2 : World} {r : Option Nat} (h : w.grownBy w1 r) (k : w1.grownBy w2 r) : w.grownBy w2 r :=
  ⟨k.os.trans h.os, k.tape.trans h.tape, k.output.trans h.output, Nat.le_trans h.size k.size, fun i hi hne => (k.block i (Nat.lt_of_lt_of_le hi h.size) hne).trans (h.block i hi hne)⟩
/-- the next number of m bytes, and what is left behind it -/
def tk (m : Nat) (st : List Int × Bool) : Int × (List Int × Bool) := if st.1.length < m then (0, ([], true)) else (numF 0 (st.1.take m), (st.1.drop m, st.2))
/-- the taker's state lies in a block -/
def TS (w : World) (b : Nat) (st : List Int × Bool) : Prop := ∃ r, TAt w b r st.2 ∧ bs r = st.1 ∧ r.size ≤ maxLen

theorem pow_le6 {j : Nat} (h : j ≤ 6) : (2 : Int) ^ (8 * j) ≤ 281474976710656 := by
  match j, h with
  | 0, _ => decide
  | 1, _ => decide
  | 2, _ => decide
  | 3, _ => decide
  | 4, _ => decide
  | 5, _ => decide
  | 6, _ => decide
theorem size_ext (r : ByteArray) (j : Nat) : (r.extract j r.size).size ≤ r.size := by
  have h := bs_extract r j
  have h2 := congrArg List.length h
  rw [bs_length, List.length_drop, bs_length] at h2
  omega
theorem numF_bound : ∀ (l : List Int) (acc : Int) (B : Nat), (∀ c ∈ l, 0 ≤ c ∧ c < 256) → 0 ≤ acc → acc < 2 ^ (8 * B) → 0 ≤ numF acc l ∧ numF acc l < 2 ^ (8 * (B + l.length)) := by
  intro l
  induction l with
  | nil => intro acc B _ h0 h1; exact ⟨h0, by simpa [numF] using h1⟩
  | cons c t ih =>
    intro acc B hc h0 h1
    have hcc := hc c (List.mem_cons_self ..)
    have h2 : acc * 256 + c < 2 ^ (8 * (B + 1)) := by rw [pow_succ8]; omega
    have := ih (acc * 256 + c) (B + 1) (fun x hx => hc x (List.mem_cons_of_mem _ hx)) (by omega) h2
    rw [show B + 1 + t.length = B + (c :: t).length by simp; omega] at this
    exact this
theorem numF_take (l : List Int) (j : Nat) (h : j < l.length) : numF 0 (l.take (j + 1)) = numF 0 (l.take j) * 256 + l.getD j 0 := by
  rw [List.take_succ_eq_append_getElem h, numF, List.foldl_append]
  simp [numF, List.getD, h]
theorem or_byte (q c : Int) (hq : 0 ≤ q) (hq2 : q < 281474976710656) (hc : 0 ≤ c) (hc2 : c < 256) : bits BinOp.or IntKind.i64 (q * 256) (wrap64 c) = q * 256 + c := by
  have hw : wrap64 c = c := by unfold wrap64; omega
  rw [hw]
  obtain ⟨a, rfl⟩ := Int.eq_ofNat_of_zero_le hq
  obtain ⟨b, rfl⟩ := Int.eq_ofNat_of_zero_le hc
  have hor : a * 256 ||| b = a * 256 + b := by
    have := Nat.two_pow_add_eq_or_of_lt (i := 8) (b := b) (by omega) a
    rw [Nat.mul_comm a 256]; exact this.symm
  have h1 : (BitVec.ofInt 64 ((a * 256 : Nat) : Int)).toNat = a * 256 := by
    rw [BitVec.ofInt_natCast, BitVec.toNat_ofNat]; exact Nat.mod_eq_of_lt (by omega)
  have h2 : (BitVec.ofInt 64 (b : Int)).toNat = b := by
    rw [BitVec.ofInt_natCast, BitVec.toNat_ofNat]; exact Nat.mod_eq_of_lt (by omega)
  have e : (a : Int) * 256 = ((a * 256 : Nat) : Int) := by omega
  rw [e]
  show IntKind.i64.wrap ((BitVec.ofInt 64 ((a * 256 : Nat) : Int) ||| BitVec.ofInt 64 (b : Int)).toNat : Int) = _
  rw [BitVec.toNat_or, h1, h2, hor]
  simp [IntKind.wrap, IntKind.bits, IntKind.signed]
  omega
set_option maxHeartbeats 400000 in
theorem number_any (b : Nat) (st : List Int × Bool) (m : Nat) (w : World) (hT : TS w b st) (hm : m ≤ 7) :
    Calls Tryz.prog 89 #[.pointer (some ⟨b, 0, none⟩), .int .i64 m] w fun e w' => e = .returned (.int .i64 (tk m st).1) ∧ TS w' b (tk m st).2 ∧ w.grownBy w' (some b) := by
  obtain ⟨r, hT, hl, hr⟩ := hT
  obtain ⟨l, sh⟩ := st
  dsimp only at hT hl
  subst hl
  have hr' := hr
  unfold maxLen at hr
  obtain ⟨c0, c1, f0, f1⟩ := hT.cells
  by_cases hlt : r.size < m
  · have e : tk m (bs r, sh) = (0, ([], true)) := by rw [tk, if_pos (by rw [bs_length]; exact hlt)]
    rw [e]
    have HT : Hid _ := (hT.set1 true).set0 ⟨#[]⟩
    clear hT
    go_enter Tryz.func89, Tryz.ntmps89
    go_wp2
    go_ret
    exact ⟨rfl, ⟨⟨#[]⟩, HT.out, rfl, by decide⟩, grown_then (grown_set _ _ _ _) (grown_set _ _ _ _)⟩
  · have e : tk m (bs r, sh) = (numF 0 ((bs r).take m), ((bs r).drop m, sh)) := by rw [tk, if_neg (by rw [bs_length]; exact hlt)]
    rw [e]
    have HT : Hid _ := hT.set0 (r.extract m r.size)
    have HX : Hid _ := bs_extract r m
    clear hT
    go_enter Tryz.func89, Tryz.ntmps89
    go_wp2
    go_loop [5, 21] (fun n i => ∃ j : Nat, j ≤ m ∧ i = .int .i64 j ∧ n = .int .i64 (numF 0 ((bs r).take j))) (fun _ i => m - (intOf i).toNat)
    case atStart => exact ⟨0, Nat.zero_le _, rfl, by simp [numF]⟩
    case round =>
      obtain ⟨j, hj, rfl, rfl⟩ := hrel
      by_cases h : j < m
      · have hjr : j < r.size := by omega
        have hbd := numF_bound ((bs r).take j) 0 0 (fun c hc => bs_byte r c (List.mem_of_mem_take hc)) (by omega) (by omega)
        have hlj : ((bs r).take j).length = j := by rw [List.length_take, bs_length]; omega
        rw [hlj, Nat.zero_add] at hbd
        have hb1 : 0 ≤ numF 0 ((bs r).take j) := hbd.1
        have hb2 : numF 0 ((bs r).take j) < 281474976710656 := by
          have hp : (2 : Int) ^ (8 * j) ≤ 281474976710656 := pow_le6 (by omega)
          have := hbd.2
          omega
        have hcb := r[j].toNat_lt
        have HN : Hid (numF 0 ((bs r).take (j + 1)) = numF 0 ((bs r).take j) * 256 + (r[j].toNat : Int)) := by
          show _ = _
          rw [numF_take _ _ (by rw [bs_length]; exact hjr), bs_get r j hjr]
        clear hbd hlj
        generalize numF 0 ((bs r).take j) = q at *
        have HO : Hid _ := or_byte q (r[j].toNat : Int) hb1 hb2 (by omega) (by omega)
        clear hcb
        go_wp2
        go_round
        case rel => exact ⟨j + 1, by omega, by go_num, by rw [HO.out, HN.out]⟩
        case measure => simp [intOf]; omega
      · have hjm : j = m := by omega
        subst hjm
        go_wp2
        go_ret
        exact ⟨rfl, ⟨_, HT.out, HX.out, Nat.le_trans (size_ext r j) hr'⟩, grown_set _ _ _ _⟩
end Go.Proofs.YtjghbciepinofaaGreat.Cd

set_option maxRecDepth 100000
namespace Go.Proofs.YtjghbciepinofaaGreat.Ln
open Go.RowKit
set_option maxHeartbeats 1000000 in
/-- numbers that are alike -/
theorem nums_same (l : List Int) (a a' : Option Addr) (c c' b off b' off' : Nat) (w : World) (hlen : l.length * 8 ≤ 140737488351232) (ha : 0 < l.length → a = some ⟨b, off, none⟩) (ha' : 0 < l.length → a' = some ⟨b', off', none⟩)
    (hc : IntsAt w b off l) (hc' : IntsAt w b' off' l) :
    Calls Tryz.prog 18 #[.slice a l.length c, .slice a' l.length c'] w fun e w' => e = .returned (.bool true) ∧ Below w.heap.size w w' := by
  have HA := hide ha
  have HA' := hide ha'
  have HC := hide hc
  have HC' := hide hc'
  clear ha ha' hc hc'
  go_enter Tryz.func18, Tryz.ntmps18
  go_upto_region 4 with fail
  go_loopw [13] (fun i wl => ∃ (k : Nat), k ≤ l.length ∧ i = .int .i64 (k : Int) ∧ Hid (Below w.heap.size w wl)) (fun i _ => l.length - (intOf i).toNat)
  case atStart => exact ⟨0, Nat.zero_le _, rfl, Below.refl _ _⟩
  case round =>
    obtain ⟨k, hk, rfl, HR⟩ := hrel
    by_cases hlt : k < l.length
    · have c1 := HC.out.later HR.out k hlt
      have c2 := HC'.out.later HR.out k hlt
      have e := HA.out (by omega)
      subst e
      have e := HA'.out (by omega)
      subst e
      generalize l.getD k 0 = n at *
      have hkI : (k : Int) < (l.length : Int) := by omega
      go_upto_region 6 with fail
      go_quiet (fail)
      go_wp2
      exact ⟨⟨k + 1, by omega, by go_num, ⟨HR.out.os, HR.out.tape, HR.out.output, HR.out.size, HR.out.block⟩⟩, by simp [intOf]; omega⟩
    · obtain rfl : k = l.length := by omega
      go_wp2
      go_ret
      exact ⟨rfl, HR.out⟩
set_option maxHeartbeats 1000000 in
/-- lines that are alike -/
theorem same_any (x : Line) (sa da sa' da' : Option Addr) (cs cd sb so db dO cs' cd' sb' so' db' dO' : Nat) (w : World) (L : LAt w x sa da cs cd sb so db dO) (L' : LAt w x sa' da' cs' cd' sb' so' db' dO') :
    Calls Tryz.prog 56 #[.agg #[.slice sa x.S.length cs, .slice da x.D.length cd, .int .i64 x.g, .bool x.cl], .agg #[.slice sa' x.S.length cs', .slice da' x.D.length cd', .int .i64 x.g, .bool x.cl]] w fun e w' => e = .returned (.bool true) ∧ Below w.heap.size w w' := by
  obtain ⟨S, D, g, cl⟩ := x
  dsimp only
  have hlS : S.length * 16 ≤ 140737488351232 := L.hls
  have hlD : D.length * 8 ≤ 140737488351232 := L.hld
  have HL := hide L
  have HL' := hide L'
  have F1 := (FAt.new w (.slice sa S.length cs) (.slice da D.length cd) (.int .i64 g) (.bool cl)).alloc (.cells #[.slice sa' S.length cs', .slice da' D.length cd', .int .i64 g, .bool cl] 37)
  have F2 := FAt.new2 w (.cells #[.slice sa S.length cs, .slice da D.length cd, .int .i64 g, .bool cl] 37) (.slice sa' S.length cs') (.slice da' D.length cd') (.int .i64 g) (.bool cl)
  have BW : Below w.heap.size w ((w.alloc (.cells #[.slice sa S.length cs, .slice da D.length cd, .int .i64 g, .bool cl] 37)).alloc (.cells #[.slice sa' S.length cs', .slice da' D.length cd', .int .i64 g, .bool cl] 37)) := (below_new w _).alloc (by simp) _
  have HX := hide (show _ ∧ _ ∧ _ from ⟨F1, F2, BW⟩)
  clear L L' F1 F2 BW
  go_enter Tryz.func56, Tryz.ntmps56
  go_upto_region 1 with fail
  generalize ((w.alloc (.cells #[.slice sa S.length cs, .slice da D.length cd, .int .i64 g, .bool cl] 37)).alloc (.cells #[.slice sa' S.length cs', .slice da' D.length cd', .int .i64 g, .bool cl] 37)) = w0 at *
  obtain ⟨⟨c0, c1, c2, c3⟩, -⟩ := HX.out.1.facts
  obtain ⟨⟨d0, d1, d2, d3⟩, -⟩ := HX.out.2.1.facts
  go_upto_region 4 with fail
  go_loopw [30] (fun i wl => ∃ (k : Nat), k ≤ S.length ∧ i = .int .i64 (k : Int) ∧ Hid (Below w0.heap.size w0 wl)) (fun i _ => S.length - (intOf i).toNat)
  case atStart => exact ⟨0, Nat.zero_le _, rfl, Below.refl _ _⟩
  case round =>
    obtain ⟨k, hk, rfl, HR⟩ := hrel
    have HBR := hide (below_then HX.out.2.2 HR.out)
    obtain ⟨⟨c0, c1, c2, c3⟩, -⟩ := (HX.out.1.later HR.out HX.out.1.lt).facts
    obtain ⟨⟨d0, d1, d2, d3⟩, -⟩ := (HX.out.2.1.later HR.out HX.out.2.1.lt).facts
    by_cases hlt : k < S.length
    · have s1 := HL.out.PS.later HBR.out k hlt
      have s2 := HL'.out.PS.later HBR.out k hlt
      have e := HL.out.hsa (by show 0 < S.length; omega)
      subst e
      have e := HL'.out.hsa (by show 0 < S.length; omega)
      subst e
      dsimp only at s1 s2
      generalize S.getD k ByteArray.empty = n at *
      have hkI : (k : Int) < (S.length : Int) := by omega
      go_upto_region 6 with fail
      go_quiet (fail)
      go_wp2
      exact ⟨⟨k + 1, by omega, by go_num, ⟨HR.out.os, HR.out.tape, HR.out.output, HR.out.size, HR.out.block⟩⟩, by simp [intOf]; omega⟩
    · have H5 := hide (nums_same D da da' cd cd' db dO db' dO' wr hlD HL.out.hda HL'.out.hda (HL.out.PD.later HBR.out) (HL'.out.PD.later HBR.out))
      go_wp2_with (go_at_call 18; refine H5.out.mono ?_; rintro e w5 ⟨rfl, hb⟩)
      go_ret
      exact ⟨rfl, below_then HBR.out hb⟩
end Go.Proofs.YtjghbciepinofaaGreat.Ln

set_option maxRecDepth 100000
namespace Go.Proofs.YtjghbciepinofaaGreat.Ln
open Go.RowKit
/-- a row's block is none that holds cells of another type -/
theorem own_ne {w : World} {b e e' z n k : Nat} {v : Value} {xs : List Value} {cs : Array Value} {f : Nat × Nat} (h : w.ownsRow b e z v n xs) (hf : w.heap[k]? = some (.cells cs e' f)) (he : e ≠ e') : some k ≠ v.ownBlock := by
  rcases h.2 with ⟨rfl, _⟩ | ⟨g, cap, cur, rfl, hb, hg, rest⟩
  · simp [Value.ownBlock]
  · intro h2
    have e2 : k = g := by simpa [Value.ownBlock] using h2
    subst e2
    rw [hg] at hf
    cases hf
    exact he rfl
/-- the copy lies in a block, and its two lists are rows of their own -/
structure Mid (w wq : World) (b8 : Nat) (v0 v1 : Value) (g : Int) (cl : Bool) (S : List ByteArray) (A1 : Option Addr) (C1 : Nat) (D : List Int) (A2 : Option Addr) (C2 : Nat) : Prop where
  F8 : FAt wq b8 v0 v1 (.int .i64 g) (.bool cl)
  F2 : FAt wq (w.heap.size + 1) (.slice none 0 0) (.slice none 0 0) (.int .i64 0) (.bool false)
  oS : OwnS (w.heap.size + 2) wq A1 C1 S
  oD : OwnI (w.heap.size + 2) wq A2 C2 D
  below : Below w.heap.size w wq
  hb8 : w.heap.size + 2 ≤ b8
section
variable {w wq : World} {b8 : Nat} {v0 v1 : Value} {g : Int} {cl : Bool} {S : List ByteArray} {A1 : Option Addr} {C1 : Nat} {D : List Int} {A2 : Option Addr} {C2 : Nat}
theorem Mid.alloc (h : Mid w wq b8 v0 v1 g cl S A1 C1 D A2 C2) (o : Obj) : Mid w (wq.alloc o) b8 v0 v1 g cl S A1 C1 D A2 C2 :=
  ⟨h.F8.alloc o, h.F2.alloc o, World.ownsRow.alloc h.oS o, World.ownsRow.alloc h.oD o, h.below.alloc h.below.size o, h.hb8⟩
theorem Mid.drew (h : Mid w wq b8 v0 v1 g cl S A1 C1 D A2 C2) : Mid w wq.drew b8 v0 v1 g cl S A1 C1 D A2 C2 := ⟨h.F8, h.F2, h.oS, h.oD, h.below.drew, h.hb8⟩
theorem Mid.set {v0' v1' : Value} {g' : Int} {cl' : Bool} (h : Mid w wq b8 v0 v1 g cl S A1 C1 D A2 C2) {w' : World} (hF : FAt w' b8 v0' v1' (.int .i64 g') (.bool cl')) (hk : ∀ k, k ≠ b8 → w'.heap[k]? = wq.heap[k]?) (hb : Below w.heap.size w w') : Mid w w' b8 v0' v1' g' cl' S A1 C1 D A2 C2 :=
  ⟨hF, (hk _ (by have := h.hb8; omega)).trans h.F2, own_of h.oS fun k e => hk k (fun e2 => own_ne h.oS h.F8 (by decide) (e2 ▸ e).symm), own_of h.oD fun k e => hk k (fun e2 => own_ne h.oD h.F8 (by decide) (e2 ▸ e).symm), hb, h.hb8⟩
end
section
variable {w wq : World} {b8 : Nat} {v0 v1 : Value} {g : Int} {cl : Bool} {S : List ByteArray} {A1 : Option Addr} {C1 : Nat} {D : List Int} {A2 : Option Addr} {C2 : Nat}
end
end Go.Proofs.YtjghbciepinofaaGreat.Ln

