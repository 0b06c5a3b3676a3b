/- Parts of the proof: CZ CK PVO. -/
import Derived.Test.YtjghbciepinofaaGreatRows
import Derived.Test.YtjghbciepinofaaGreatPK34
import Derived.Test.YtjghbciepinofaaGreatPK35
import Derived.Test.YtjghbciepinofaaGreatPK43
import Derived.Test.YtjghbciepinofaaGreatPK46
import Derived.Deep.Slices
import Derived.SizedLaws
set_option maxRecDepth 100000
namespace Go.Proofs.YtjghbciepinofaaGreat.Cd
open Go.RowKit
def Bytes (l : List Int) : Prop := ∀ c ∈ l, 0 ≤ c ∧ c < 256
theorem tk_bytes {m : Nat} {st : List Int × Bool} (h : Bytes st.1) : Bytes (tk m st).2.1 := by
  unfold tk
  split
  · intro c hc; simp at hc
  · intro c hc; exact h c (List.mem_of_mem_drop hc)
theorem tk_one {st : List Int × Bool} (h : Bytes st.1) : 0 ≤ (tk 1 st).1 ∧ (tk 1 st).1 < 256 := by
  unfold tk
  split
  · simp
  · rename_i hl
    match hs : st.1, hl with
    | c :: t, _ =>
      have := h c (by rw [hs]; exact List.mem_cons_self ..)
      simp [numF]; omega
theorem tkP_bytes : ∀ (m : Nat) (st : List Int × Bool), Bytes st.1 → Bytes (tkP m st).2.1 := by
  intro m
  induction m with
  | zero => intro st h; exact h
  | succ m ih => intro st h; exact ih _ (tk_bytes (tk_bytes h))
/-- the steps of a packet's bytes -/
def p1 (l : List Int) : Int × (List Int × Bool) := tk 1 (l, false)
def p2 (l : List Int) : Int × (List Int × Bool) := tk 6 (p1 l).2
def p3 (l : List Int) : Int × (List Int × Bool) := tk 1 (p2 l).2
def p4 (l : List Int) : Int × (List Int × Bool) := tk 7 (p3 l).2
def p5 (l : List Int) : Int × (List Int × Bool) := tk 1 (p4 l).2
def p6 (l : List Int) : List (Int × Int) × (List Int × Bool) := tkP (p5 l).1.toNat (p5 l).2
def p7 (l : List Int) : Int × (List Int × Bool) := tk 1 (p6 l).2
def p8 (l : List Int) : List Int × (List Int × Bool) := tkD (p7 l).1.toNat (p7 l).2
/-- the next packet of bytes, and what is left behind it -/
def parse (l : List Int) : (Int × Int × Int × Int × List (Int × Int) × List Int) × (List Int × Bool) := (((p1 l).1, (p2 l).1, (p3 l).1, (p4 l).1, (p6 l).1, (p8 l).1), (p8 l).2)
theorem parse_bounds (l : List Int) (h : Bytes l) : 0 ≤ (p5 l).1 ∧ (p5 l).1 < 256 ∧ 0 ≤ (p7 l).1 ∧ (p7 l).1 < 256 := by
  have h1 : Bytes (p1 l).2.1 := by unfold p1; exact tk_bytes h
  have h2 : Bytes (p2 l).2.1 := by unfold p2; exact tk_bytes h1
  have h3 : Bytes (p3 l).2.1 := by unfold p3; exact tk_bytes h2
  have h4 : Bytes (p4 l).2.1 := by unfold p4; exact tk_bytes h3
  have h5 : Bytes (p5 l).2.1 := by unfold p5; exact tk_bytes h4
  have b5 : 0 ≤ (p5 l).1 ∧ (p5 l).1 < 256 := by unfold p5; exact tk_one h4
  have h6 : Bytes (p6 l).2.1 := by unfold p6; exact tkP_bytes _ _ h5
  have b6 : 0 ≤ (p7 l).1 ∧ (p7 l).1 < 256 := by unfold p7; exact tk_one h6
  exact ⟨b5.1, b5.2, b6.1, b6.2⟩
/-- what Decode answers -/
def decE (l : List Int) : Int := if (parse l).2 = ([], false) then goodN (parse l).1.1 (parse l).1.2.1 (parse l).1.2.2.1 (parse l).1.2.2.2.1 (parse l).1.2.2.2.2.1 (parse l).1.2.2.2.2.2 else 1
def decP (l : List Int) : Int × Int × Int × Int × List (Int × Int) × List Int := if decE l = 0 then (parse l).1 else (0, 0, 0, 0, [], [])
theorem flat_get (l : List (Int × Int)) : ∀ i, i < l.length → (l.flatMap fun p => [Value.int .i64 p.1, Value.int .i64 p.2])[i * 2]? = some (.int .i64 (l.getD i (0, 0)).1) ∧ (l.flatMap fun p => [Value.int .i64 p.1, Value.int .i64 p.2])[i * 2 + 1]? = some (.int .i64 (l.getD i (0, 0)).2) := by
  induction l with
  | nil => intro i hi; simp at hi
  | cons a t ih =>
    intro i hi
    match i with
    | 0 => simp
    | i + 1 =>
      have := ih i (by simpa using hi)
      rw [List.flatMap_cons, show (i + 1) * 2 = i * 2 + 1 + 1 by omega]
      simpa using this
theorem Row2.lies {w : World} {B : Nat} {u : Value} {l : List (Int × Int)} (h : Row2 w B u l) : ∃ a c g, u = .slice a l.length c ∧ l.length ≤ maxLen ∧ (0 < l.length → a = some ⟨g, 0, none⟩) ∧ PwsAt w g 0 l ∧ (0 < l.length → B ≤ g) ∧ ((a = none → c = 0) ∧ l.length ≤ c) := by
  rcases h.2 with ⟨rfl, h0⟩ | ⟨g, cap, cur, rfl, hb, hh, hn, hm, hs, ht⟩
  · exact ⟨none, 0, 0, by rw [h0], by omega, by omega, fun i hi => by omega, by omega, fun _ => rfl, by omega⟩
  · refine ⟨_, cap, g, rfl, by omega, fun _ => rfl, fun i hi => ?_, fun _ => hb, fun h => (by cases h), hn⟩
    have h' : w.ownsRow B 74 2 (.slice (some ⟨g, 0, none⟩) l.length cap) l.length (l.flatMap fun p => [Value.int .i64 p.1, Value.int .i64 p.2]) := h
    rw [Nat.zero_add, h'.cellAt _ (by omega), h'.cellAt _ (by omega)]
    exact flat_get l i hi
theorem Row1.lies {w : World} {B : Nat} {u : Value} {l : List Int} (h : Row1 w B u l) : ∃ a c g, u = .slice a l.length c ∧ l.length ≤ maxLen ∧ (0 < l.length → a = some ⟨g, 0, none⟩) ∧ IntsAt w g 0 l ∧ (0 < l.length → B ≤ g) ∧ ((a = none → c = 0) ∧ l.length ≤ c) := by
  rcases h.2 with ⟨rfl, h0⟩ | ⟨g, cap, cur, rfl, hb, hh, hn, hm, hs, ht⟩
  · exact ⟨none, 0, 0, by rw [h0], by omega, by omega, fun i hi => by omega, by omega, fun _ => rfl, by omega⟩
  · refine ⟨_, cap, g, rfl, by omega, fun _ => rfl, fun i hi => ?_, fun _ => hb, fun h => (by cases h), hn⟩
    have h' : w.ownsRow B 3 1 (.slice (some ⟨g, 0, none⟩) l.length cap) l.length (l.map (Value.int .i64)) := h
    rw [Nat.zero_add, h'.cellAt _ (by omega)]
    simp [List.getD, hi]
theorem packet_parse (b : Nat) (l : List Int) (w : World) (hT : TS w b (l, false)) (hl : Bytes l) :
    Calls Tryz.prog 40 #[.pointer (some ⟨b, 0, none⟩)] w fun e w' => ∃ u d, e = .returned (.agg #[.int .i64 (parse l).1.1, .int .i64 (parse l).1.2.1, .int .i64 (parse l).1.2.2.1, .int .i64 (parse l).1.2.2.2.1, u, d]) ∧ Row2 w' (w.heap.size + 2) u (parse l).1.2.2.2.2.1 ∧ Row1 w' (w.heap.size + 2) d (parse l).1.2.2.2.2.2 ∧ TS w' b (parse l).2 ∧ w.grownBy w' (some b) := by
  obtain ⟨a1, a2, a3, a4⟩ := parse_bounds l hl
  rcases e1 : p1 l with ⟨k, s1⟩
  rcases e2 : p2 l with ⟨i, s2⟩
  rcases e3 : p3 l with ⟨v, s3⟩
  rcases e4 : p4 l with ⟨n, s4⟩
  rcases e5 : p5 l with ⟨c, s5⟩
  rcases e6 : p6 l with ⟨S, s6⟩
  rcases e7 : p7 l with ⟨d, s7⟩
  rcases e8 : p8 l with ⟨D, s8⟩
  have ep : parse l = ((k, i, v, n, S, D), s8) := by rw [parse, e1, e2, e3, e4, e6, e8]
  rw [ep]
  rw [e5] at a1 a2
  rw [e7] at a3 a4
  rw [p1] at e1
  rw [p2, p1, e1] at e2
  rw [p3, p2, p1, e1, e2] at e3
  rw [p4, p3, p2, p1, e1, e2, e3] at e4
  rw [p5, p4, p3, p2, p1, e1, e2, e3, e4] at e5
  rw [p6, p5, p4, p3, p2, p1, e1, e2, e3, e4, e5] at e6
  rw [p7, p6, p5, p4, p3, p2, p1, e1, e2, e3, e4, e5, e6] at e7
  rw [p8, p7, p6, p5, p4, p3, p2, p1, e1, e2, e3, e4, e5, e6, e7] at e8
  dsimp only at a1 a2 a3 a4 e6 e8
  refine packet_any b (l, false) s1 s2 s3 s4 s5 s6 s7 s8 k i v n c.toNat d.toNat S D w hT e1 e2 e3 e4 ?_ e6 ?_ e8 (by omega) (by omega)
  · rw [Int.toNat_of_nonneg a1]; exact e5
  · rw [Int.toNat_of_nonneg a3]; exact e7
theorem BoxAt.six {w : World} {b : Nat} {k i v n s d : Value} (h : BoxAt w b k i v n s d) : ∀ o, o < 6 → ∃ u, w.cell? ⟨b, o, none⟩ = some u := fun o ho => by
  obtain ⟨d0, d1, d2, d3, d4, d5, _⟩ := h.cells
  match o, ho with
  | 0, _ => exact ⟨_, d0⟩
  | 1, _ => exact ⟨_, d1⟩
  | 2, _ => exact ⟨_, d2⟩
  | 3, _ => exact ⟨_, d3⟩
  | 4, _ => exact ⟨_, d4⟩
  | 5, _ => exact ⟨_, d5⟩
theorem dec_end {w w1 : World} {k i v n s d : Value} (hR : BoxAt w1 w.heap.size k i v n s d) (hB : Below w.heap.size w w1) (v0 v1 v2 v3 v4 v5 : Value) (o : Obj) :
    ((set6 w1 w.heap.size v0 v1 v2 v3 v4 v5).alloc o).cell? ⟨w.heap.size, 0, none⟩ = some v0 ∧ ((set6 w1 w.heap.size v0 v1 v2 v3 v4 v5).alloc o).cell? ⟨w.heap.size, 1, none⟩ = some v1 ∧ ((set6 w1 w.heap.size v0 v1 v2 v3 v4 v5).alloc o).cell? ⟨w.heap.size, 2, none⟩ = some v2 ∧
    ((set6 w1 w.heap.size v0 v1 v2 v3 v4 v5).alloc o).cell? ⟨w.heap.size, 3, none⟩ = some v3 ∧ ((set6 w1 w.heap.size v0 v1 v2 v3 v4 v5).alloc o).cell? ⟨w.heap.size, 4, none⟩ = some v4 ∧ ((set6 w1 w.heap.size v0 v1 v2 v3 v4 v5).alloc o).cell? ⟨w.heap.size, 5, none⟩ = some v5 ∧
    Below w.heap.size w ((set6 w1 w.heap.size v0 v1 v2 v3 v4 v5).alloc o) := by
  obtain ⟨e0, e1, e2, e3, e4, e5⟩ := set6_cells (w := w1) (b := w.heap.size) v0 v1 v2 v3 v4 v5 hR.six
  have hb := below_new (set6 w1 w.heap.size v0 v1 v2 v3 v4 v5) o
  have hlt : w.heap.size < (set6 w1 w.heap.size v0 v1 v2 v3 v4 v5).heap.size := World.block_lt_of_cell? _ _ e0
  exact ⟨(hb.cell (p := ⟨w.heap.size, 0, none⟩) hlt).trans e0, (hb.cell (p := ⟨w.heap.size, 1, none⟩) hlt).trans e1, (hb.cell (p := ⟨w.heap.size, 2, none⟩) hlt).trans e2, (hb.cell (p := ⟨w.heap.size, 3, none⟩) hlt).trans e3, (hb.cell (p := ⟨w.heap.size, 4, none⟩) hlt).trans e4, (hb.cell (p := ⟨w.heap.size, 5, none⟩) hlt).trans e5,
    below_then (set6_below v0 v1 v2 v3 v4 v5 hB (Nat.le_refl _)) hb⟩
theorem lies_nil (w : World) : Lies w [] [] none none 0 0 0 0 := ⟨by simp, by simp, by simp, by simp, fun i hi => absurd hi (by simp), fun i hi => absurd hi (by simp)⟩
theorem Lies.set6 {w : World} {S : List (Int × Int)} {D : List Int} {sa da : Option Addr} {sb so db dO : Nat} (L : Lies w S D sa da sb so db dO) (c : Nat) (hc : (0 < S.length → sb ≠ c) ∧ (0 < D.length → db ≠ c)) (v0 v1 v2 v3 v4 v5 : Value) : Lies (set6 w c v0 v1 v2 v3 v4 v5) S D sa da sb so db dO := by
  refine ⟨L.hls, L.hld, L.hsa, L.hda, fun i hi => ?_, fun i hi => ?_⟩
  · have h := L.PS i hi
    exact ⟨(cell_of_heap (set6_other v0 v1 v2 v3 v4 v5 (hc.1 (by omega))) _).trans h.1, (cell_of_heap (set6_other v0 v1 v2 v3 v4 v5 (hc.1 (by omega))) _).trans h.2⟩
  · exact (cell_of_heap (set6_other v0 v1 v2 v3 v4 v5 (hc.2 (by omega))) _).trans (L.PD i hi)
/-- a list's room, and where it lies -/
def Rm (B : Nat) (a : Option Addr) (n c g : Nat) : Prop := (a = none → c = 0) ∧ n ≤ c ∧ (0 < n → B ≤ g)
theorem rm_nil (B : Nat) : Rm B none ([] : List (Int × Int)).length 0 0 ∧ Rm B none ([] : List Int).length 0 0 := ⟨⟨fun _ => rfl, by simp, by simp⟩, ⟨fun _ => rfl, by simp, by simp⟩⟩
set_option maxHeartbeats 1000000 in
theorem decode_any (s : ByteArray) (w : World) (hs : s.size ≤ maxLen) :
    Calls Tryz.prog 14 #[.string s] w fun e w' => ∃ sa da cs cd sb so db dO,
      e = .returned (.tuple #[.agg #[.int .i64 (decP (bs s)).1, .int .i64 (decP (bs s)).2.1, .int .i64 (decP (bs s)).2.2.1, .int .i64 (decP (bs s)).2.2.2.1, .slice sa (decP (bs s)).2.2.2.2.1.length cs, .slice da (decP (bs s)).2.2.2.2.2.length cd], .int .i64 (decE (bs s))]) ∧
      Lies w' (decP (bs s)).2.2.2.2.1 (decP (bs s)).2.2.2.2.2 sa da sb so db dO ∧ (Rm w.heap.size sa (decP (bs s)).2.2.2.2.1.length cs sb ∧ Rm w.heap.size da (decP (bs s)).2.2.2.2.2.length cd db) ∧ Below w.heap.size w w' := by
  have HE : Hid (decE (bs s) = if (parse (bs s)).2 = ([], false) then goodN (parse (bs s)).1.1 (parse (bs s)).1.2.1 (parse (bs s)).1.2.2.1 (parse (bs s)).1.2.2.2.1 (parse (bs s)).1.2.2.2.2.1 (parse (bs s)).1.2.2.2.2.2 else 1) := rfl
  have HP : Hid (decP (bs s) = if decE (bs s) = 0 then (parse (bs s)).1 else (0, 0, 0, 0, [], [])) := rfl
  generalize decE (bs s) = E at *
  generalize decP (bs s) = R at *
  have hpk := fun (w : World) (b : Nat) (h : TS w b (bs s, false)) => packet_parse b (bs s) w h (bs_byte s)
  have HPK : Hid _ := hpk
  clear hpk
  generalize parse (bs s) = pr at *
  obtain ⟨⟨k, i, v, n, S, D⟩, st⟩ := pr
  dsimp only at HE HP HPK
  go_enter Tryz.func14, Tryz.ntmps14
  go_wp2_with fail
  have hTS : TS ((w.alloc (Obj.cells #[Value.int IntKind.i64 0, Value.int IntKind.i64 0, Value.int IntKind.i64 0, Value.int IntKind.i64 0, Value.slice none 0 0, Value.slice none 0 0] 49)).alloc (Obj.cells #[Value.string s, Value.bool false] 103)) (w.heap.size + 1) (bs s, false) := by
    refine ⟨s, ?_, rfl, hs⟩
    unfold TAt
    have e : w.heap.size + 1 = (w.alloc (Obj.cells #[Value.int IntKind.i64 0, Value.int IntKind.i64 0, Value.int IntKind.i64 0, Value.int IntKind.i64 0, Value.slice none 0 0, Value.slice none 0 0] 49)).heap.size := by simp
    rw [e]; exact heap_alloc_new _ _
  refine (HPK.out _ _ hTS).mono ?_
  rintro e w1 ⟨u, d, rfl, hr2, hr1, hT1, hg1⟩
  have hz1 : w.heap.size + 2 ≤ w1.heap.size := by have := hg1.size; simpa using this
  have hB1 : Below w.heap.size w w1 := by
    have hb0 : Below w.heap.size w ((w.alloc (Obj.cells #[Value.int IntKind.i64 0, Value.int IntKind.i64 0, Value.int IntKind.i64 0, Value.int IntKind.i64 0, Value.slice none 0 0, Value.slice none 0 0] 49)).alloc (Obj.cells #[Value.string s, Value.bool false] 103)) := (below_new w _).alloc (by simp) _
    exact hb0.grown hg1 (by simp; omega) (fun k hk => by cases hk; omega)
  have hR1 : BoxAt w1 w.heap.size (.int .i64 0) (.int .i64 0) (.int .i64 0) (.int .i64 0) (.slice none 0 0) (.slice none 0 0) := by
    refine BoxAt.keep (w := (w.alloc (Obj.cells #[Value.int IntKind.i64 0, Value.int IntKind.i64 0, Value.int IntKind.i64 0, Value.int IntKind.i64 0, Value.slice none 0 0, Value.slice none 0 0] 49)).alloc (Obj.cells #[Value.string s, Value.bool false] 103)) ?_ hg1 (by simp)
    exact (Below.heap_alloc _ _ _ (by simp)).trans (heap_alloc_new _ _)
  obtain ⟨ua, uc, ug, rfl, l1, l2, l3, l4, l5⟩ := hr2.lies
  obtain ⟨xa, xc, xg, rfl, m1, m2, m3, m4, m5⟩ := hr1.lies
  have HRM : Hid (Rm w.heap.size ua S.length uc ug ∧ Rm w.heap.size xa D.length xc xg) := ⟨⟨l5.1, l5.2, fun h => by have := l4 h; simp at this; omega⟩, ⟨m5.1, m5.2, fun h => by have := m4 h; simp at this; omega⟩⟩
  clear l5 m5
  have HNE : Hid ((0 < S.length → ug ≠ w.heap.size) ∧ (0 < D.length → xg ≠ w.heap.size)) := ⟨fun h e => by have := l4 h; simp at this; omega, fun h e => by have := m4 h; simp at this; omega⟩
  have L1 : Lies w1 S D ua xa ug 0 xg 0 := ⟨l1, m1, l2, m2, l3, m3⟩
  obtain ⟨r, hTA, hbr, hrs⟩ := hT1
  clear hr2 hr1 l1 l2 l3 l4 m1 m2 m3 m4 hg1 HPK hTS
  obtain ⟨rest, sh⟩ := st
  dsimp only at hTA hbr
  subst hbr
  obtain ⟨t0, t1, tf0, tf1⟩ := hTA.cells
  have hz1a : w.heap.size < w1.heap.size := by omega
  have hz1b : w.heap.size + 1 < w1.heap.size := by omega
  obtain ⟨d0, d1, d2, d3, d4, d5, df⟩ := hR1.cells
  unfold maxLen at hrs
  by_cases hst : (bs r, sh) = (([] : List Int), false)
  · have HE1 : Hid (E = goodN k i v n S D) := by show _ = _; rw [HE.out, if_pos hst]
    obtain ⟨hcl, rfl⟩ := Prod.mk.inj hst
    have hr0 : r.size = 0 := by rw [← bs_length, hcl]; rfl
    have hn : ((r.size : Int) != 0) = false := by rw [hr0]; rfl
    clear HE hst hcl hr0
    have LB := L1.later (below_new w1 (Obj.cells #[Value.int IntKind.i64 k, Value.int IntKind.i64 i, Value.int IntKind.i64 v, Value.int IntKind.i64 n, Value.slice ua S.length uc, Value.slice xa D.length xc] 49))
    have hgood := good_any k i v n S D ua xa uc xc ug 0 xg 0 _ LB.hls LB.hld LB.hsa LB.hda LB.PS LB.PD
    have PKB := pkAt_new w1 k i v n (.slice ua S.length uc) (.slice xa D.length xc)
    go_wp2_with fail
    refine hgood.mono ?_
    rintro e w2 ⟨rfl, hb2⟩
    have PK2 := PKB.later hb2 (by simp)
    have hbs := below_step hb2
    have L2 := L1.later hbs
    have hB2 := below_then hB1 hbs
    have hR2 : BoxAt w2 w.heap.size (.int .i64 0) (.int .i64 0) (.int .i64 0) (.int .i64 0) (.slice none 0 0) (.slice none 0 0) := hR1.keep (r := none) ⟨hbs.os, hbs.tape, hbs.output, hbs.size, fun k hk _ => hbs.block k hk⟩ (by simp)
    clear hgood hb2 PKB hbs L1 hB1 hR1 LB t0 t1 tf0 tf1 d0 d1 d2 d3 d4 d5 df hTA
    obtain ⟨d0, d1, d2, d3, d4, d5, df⟩ := hR2.cells
    obtain ⟨c0, c1, c2, c3, c4, c5⟩ := id PK2
    by_cases hG : goodN k i v n S D = 0
    · have HP1 : Hid (R = (k, i, v, n, S, D)) := by show _ = _; rw [HP.out, HE1.out, if_pos hG]
      have HE2 : Hid (E = 0) := HE1.out.trans hG
      rw [hG] at *
      have HC : Hid _ := set6_cells (w := w2) (b := w.heap.size) (.int .i64 k) (.int .i64 i) (.int .i64 v) (.int .i64 n) (.slice ua S.length uc) (.slice xa D.length xc) hR2.six
      have HBB : Hid _ := set6_below (b := w.heap.size) (.int .i64 k) (.int .i64 i) (.int .i64 v) (.int .i64 n) (.slice ua S.length uc) (.slice xa D.length xc) hB2 (Nat.le_refl _)
      have HLL : Hid _ := L2.set6 w.heap.size HNE.out (.int .i64 k) (.int .i64 i) (.int .i64 v) (.int .i64 n) (.slice ua S.length uc) (.slice xa D.length xc)
      clear HP HE1 hB2 hR2 L2 HNE PK2
      go_wp2
      show bodyPost Tryz.prog Tryz.f14 _ Exit.ret _ (set6 w2 w.heap.size (.int .i64 k) (.int .i64 i) (.int .i64 v) (.int .i64 n) (.slice ua S.length uc) (.slice xa D.length xc))
      obtain ⟨e0, e1, e2, e3, e4, e5⟩ := HC.out
      have hBB := HBB.out
      have hLL := HLL.out
      clear HC HBB HLL
      generalize set6 w2 w.heap.size (.int .i64 k) (.int .i64 i) (.int .i64 v) (.int .i64 n) (.slice ua S.length uc) (.slice xa D.length xc) = w9 at *
      exact bodyPost_ret (v := .tuple #[.agg #[.int .i64 k, .int .i64 i, .int .i64 v, .int .i64 n, .slice ua S.length uc, .slice xa D.length xc], .int .i64 0]) (by simp [results, Tryz.results14, go_sem, e0, e1, e2, e3, e4, e5]) rfl
        ⟨ua, xa, uc, xc, ug, 0, xg, 0, by rw [HE2.out, HP1.out], by rw [HP1.out]; exact hLL, by rw [HP1.out]; exact HRM.out, hBB⟩
    · have HP1 : Hid (R = (0, 0, 0, 0, [], [])) := by show _ = _; rw [HP.out, HE1.out, if_neg hG]
      have hGb : (goodN k i v n S D != 0) = true := by simpa using hG
      have HC : Hid _ := set6_cells (w := w2) (b := w.heap.size) (.int .i64 0) (.int .i64 0) (.int .i64 0) (.int .i64 0) (.slice none 0 0) (.slice none 0 0) hR2.six
      have HBB : Hid _ := set6_below (b := w.heap.size) (.int .i64 0) (.int .i64 0) (.int .i64 0) (.int .i64 0) (.slice none 0 0) (.slice none 0 0) hB2 (Nat.le_refl _)
      clear HP hB2 hR2 L2 HNE PK2 hG
      generalize goodN k i v n S D = G at *
      go_wp2
      show bodyPost Tryz.prog Tryz.f14 _ Exit.ret _ (set6 w2 w.heap.size (.int .i64 0) (.int .i64 0) (.int .i64 0) (.int .i64 0) (.slice none 0 0) (.slice none 0 0))
      obtain ⟨e0, e1, e2, e3, e4, e5⟩ := HC.out
      have hBB := HBB.out
      clear HC HBB
      generalize set6 w2 w.heap.size (.int .i64 0) (.int .i64 0) (.int .i64 0) (.int .i64 0) (.slice none 0 0) (.slice none 0 0) = w9 at *
      exact bodyPost_ret (v := .tuple #[.agg #[.int .i64 0, .int .i64 0, .int .i64 0, .int .i64 0, .slice none 0 0, .slice none 0 0], .int .i64 G]) (by simp [results, Tryz.results14, go_sem, e0, e1, e2, e3, e4, e5]) rfl
        ⟨none, none, 0, 0, 0, 0, 0, 0, by rw [HE1.out, HP1.out]; rfl, by rw [HP1.out]; exact lies_nil _, by rw [HP1.out]; exact rm_nil _, hBB⟩
  · have HE1 : Hid (E = 1) := by show _ = _; rw [HE.out, if_neg hst]
    have HP1 : Hid (R = (0, 0, 0, 0, [], [])) := by show _ = _; rw [HP.out, HE1.out, if_neg (by decide)]
    have HEND : Hid _ := dec_end hR1 hB1 (.int .i64 0) (.int .i64 0) (.int .i64 0) (.int .i64 0) (.slice none 0 0) (.slice none 0 0) (Obj.cells #[Value.int IntKind.i64 k, Value.int IntKind.i64 i, Value.int IntKind.i64 v, Value.int IntKind.i64 n, Value.slice ua S.length uc, Value.slice xa D.length xc] 49)
    have hn : sh = true ∨ (sh = false ∧ ((r.size : Int) != 0) = true) := by
      cases sh with
      | true => exact .inl rfl
      | false =>
        refine .inr ⟨rfl, ?_⟩
        have : r.size ≠ 0 := fun h => hst (by rw [List.eq_nil_of_length_eq_zero (show (bs r).length = 0 by rw [bs_length]; exact h)])
        rw [bne_iff_ne]; omega
    clear HE HP hst hR1 hB1 L1 HNE hTA
    rcases hn with rfl | ⟨rfl, hn⟩
    all_goals
      go_wp2
      show bodyPost Tryz.prog Tryz.f14 _ Exit.ret _ ((set6 w1 w.heap.size (.int .i64 0) (.int .i64 0) (.int .i64 0) (.int .i64 0) (.slice none 0 0) (.slice none 0 0)).alloc (Obj.cells #[Value.int IntKind.i64 k, Value.int IntKind.i64 i, Value.int IntKind.i64 v, Value.int IntKind.i64 n, Value.slice ua S.length uc, Value.slice xa D.length xc] 49))
      obtain ⟨e0, e1, e2, e3, e4, e5, hB⟩ := HEND.out
      generalize (set6 w1 w.heap.size (.int .i64 0) (.int .i64 0) (.int .i64 0) (.int .i64 0) (.slice none 0 0) (.slice none 0 0)).alloc (Obj.cells #[Value.int IntKind.i64 k, Value.int IntKind.i64 i, Value.int IntKind.i64 v, Value.int IntKind.i64 n, Value.slice ua S.length uc, Value.slice xa D.length xc] 49) = w9 at *
      exact bodyPost_ret (v := .tuple #[.agg #[.int .i64 0, .int .i64 0, .int .i64 0, .int .i64 0, .slice none 0 0, .slice none 0 0], .int .i64 1]) (by simp [results, Tryz.results14, go_sem, e0, e1, e2, e3, e4, e5]) rfl
        ⟨none, none, 0, 0, 0, 0, 0, 0, by rw [HE1.out, HP1.out]; rfl, by rw [HP1.out]; exact lies_nil _, by rw [HP1.out]; exact rm_nil _, hB⟩
end Go.Proofs.YtjghbciepinofaaGreat.Cd

set_option maxRecDepth 100000
namespace Go.Proofs.YtjghbciepinofaaGreat.Cd
open Go.RowKit
theorem tk_app (a l : List Int) (m : Nat) (hm : a.length = m) : tk m (a ++ l, false) = (numF 0 a, (l, false)) := by
  subst hm
  rw [tk, if_neg (by simp)]
  simp
theorem tkP_app (X : List Int) : ∀ (S : List (Int × Int)), (∀ p ∈ S, 0 ≤ p.1 ∧ p.1 < 256 ∧ 0 ≤ p.2 ∧ p.2 < 72057594037927936) → tkP S.length (S.flatMap encP ++ X, false) = (S, (X, false)) := by
  intro S
  induction S with
  | nil => intro _; rfl
  | cons p t ih =>
    intro h
    have hp := h p (List.mem_cons_self ..)
    have e1 : tk 1 ((p :: t).flatMap encP ++ X, false) = (p.1, (be p.2 7 ++ (t.flatMap encP ++ X), false)) := by
      rw [List.flatMap_cons, encP, List.append_assoc, List.append_assoc, tk_app _ _ 1 (be_length _ _), num_be hp.1 (by omega)]
    have e2 : tk 7 (be p.2 7 ++ (t.flatMap encP ++ X), false) = (p.2, (t.flatMap encP ++ X, false)) := by
      rw [tk_app _ _ 7 (be_length _ _), num_be hp.2.2.1 (by omega)]
    rw [List.length_cons, tkP, e1]
    dsimp only
    rw [e2]
    dsimp only
    rw [ih (fun q hq => h q (List.mem_cons_of_mem _ hq))]
theorem tkD_app (X : List Int) : ∀ (D : List Int), (∀ p ∈ D, 0 ≤ p ∧ p < 256) → tkD D.length (D.flatMap (be · 1) ++ X, false) = (D, (X, false)) := by
  intro D
  induction D with
  | nil => intro _; rfl
  | cons p t ih =>
    intro h
    have hp := h p (List.mem_cons_self ..)
    have e1 : tk 1 ((p :: t).flatMap (be · 1) ++ X, false) = (p, (t.flatMap (be · 1) ++ X, false)) := by
      rw [List.flatMap_cons, List.append_assoc, tk_app _ _ 1 (be_length _ _), num_be hp.1 (by omega)]
    rw [List.length_cons, tkD, e1]
    dsimp only
    rw [ih (fun q hq => h q (List.mem_cons_of_mem _ hq))]
/-- the bytes of a right packet, and something behind, are read as it was, and what is behind is left -/
theorem parse_enc {k i v n : Int} {S : List (Int × Int)} {D : List Int} (h : goodN k i v n S D = 0) (X : List Int) : parse (enc k i v n S D ++ X) = ((k, i, v, n, S, D), (X, false)) := by
  obtain ⟨b1, b2, b3, b4, b5, b6, b7, b8⟩ := good_bounds h
  obtain ⟨l1, l2, l3, l4⟩ := good_lists h
  have hS := pws_bounds S (-1) (by omega) l1
  have hD := nums_bounds D (-1) (by omega) l2
  have e0 : enc k i v n S D ++ X = be k 1 ++ (be i 6 ++ (be v 1 ++ (be n 7 ++ (be S.length 1 ++ (S.flatMap encP ++ (be D.length 1 ++ (D.flatMap (be · 1) ++ X))))))) := by simp [enc, encH]
  rw [e0]
  have e1 : p1 (be k 1 ++ (be i 6 ++ (be v 1 ++ (be n 7 ++ (be S.length 1 ++ (S.flatMap encP ++ (be D.length 1 ++ (D.flatMap (be · 1) ++ X)))))))) = (k, (be i 6 ++ (be v 1 ++ (be n 7 ++ (be S.length 1 ++ (S.flatMap encP ++ (be D.length 1 ++ (D.flatMap (be · 1) ++ X)))))), false)) := by
    rw [p1, tk_app _ _ 1 (be_length _ _), num_be (by omega) (by omega)]
  generalize be k 1 ++ (be i 6 ++ (be v 1 ++ (be n 7 ++ (be S.length 1 ++ (S.flatMap encP ++ (be D.length 1 ++ (D.flatMap (be · 1) ++ X))))))) = l at *
  have e2 : p2 l = (i, (be v 1 ++ (be n 7 ++ (be S.length 1 ++ (S.flatMap encP ++ (be D.length 1 ++ (D.flatMap (be · 1) ++ X))))), false)) := by
    rw [p2, e1]; dsimp only; rw [tk_app _ _ 6 (be_length _ _), num_be (by omega) (by omega)]
  have e3 : p3 l = (v, (be n 7 ++ (be S.length 1 ++ (S.flatMap encP ++ (be D.length 1 ++ (D.flatMap (be · 1) ++ X)))), false)) := by
    rw [p3, e2]; dsimp only; rw [tk_app _ _ 1 (be_length _ _), num_be (by omega) (by omega)]
  have e4 : p4 l = (n, (be S.length 1 ++ (S.flatMap encP ++ (be D.length 1 ++ (D.flatMap (be · 1) ++ X))), false)) := by
    rw [p4, e3]; dsimp only; rw [tk_app _ _ 7 (be_length _ _), num_be (by omega) (by omega)]
  have e5 : p5 l = ((S.length : Int), (S.flatMap encP ++ (be D.length 1 ++ (D.flatMap (be · 1) ++ X)), false)) := by
    rw [p5, e4]; dsimp only; rw [tk_app _ _ 1 (be_length _ _), num_be (by omega) (by omega)]
  have e6 : p6 l = (S, (be D.length 1 ++ (D.flatMap (be · 1) ++ X), false)) := by
    rw [p6, e5]; dsimp only; rw [Int.toNat_natCast, tkP_app _ S (fun p hp => by have := hS p hp; omega)]
  have e7 : p7 l = ((D.length : Int), (D.flatMap (be · 1) ++ X, false)) := by
    rw [p7, e6]; dsimp only; rw [tk_app _ _ 1 (be_length _ _), num_be (by omega) (by omega)]
  have e8 : p8 l = (D, (X, false)) := by
    rw [p8, e7]; dsimp only; rw [Int.toNat_natCast, tkD_app _ D (fun p hp => by have := hD p hp; omega)]
  rw [parse, e1, e2, e3, e4, e6, e8]
theorem dec_enc {k i v n : Int} {S : List (Int × Int)} {D : List Int} (h : goodN k i v n S D = 0) : decE (enc k i v n S D) = 0 ∧ decP (enc k i v n S D) = (k, i, v, n, S, D) := by
  have h4 := parse_enc h []
  rw [List.append_nil] at h4
  have hE : decE (enc k i v n S D) = 0 := by rw [decE, h4, if_pos rfl]; exact h
  exact ⟨hE, by rw [decP, if_pos hE, h4]⟩
end Go.Proofs.YtjghbciepinofaaGreat.Cd

set_option maxRecDepth 100000
namespace Go.Proofs.YtjghbciepinofaaGreat.Pv
open Go.ChangeShapes Go.WideShapes Go.ChangeAt Go.RowKit Go.Deep
section
variable {H : Type} {enc : TypeId × Value → H} {W : World}
theorem cAs : Tryz.prog.cellsOf 79 = 7 := by kernel_rfl
theorem cAss : Tryz.prog.cellsOf 45 = 1 := by kernel_rfl
theorem cMe : Tryz.prog.cellsOf 44 = 2 := by kernel_rfl
theorem cLk : Tryz.prog.cellsOf 41 = 14 := by kernel_rfl
theorem cLks : Tryz.prog.cellsOf 42 = 28 := by kernel_rfl
theorem cPv : Tryz.prog.cellsOf 47 = 97 := by kernel_rfl
theorem yAs : Tryz.prog.bytesOf 79 = 88 := by kernel_rfl
theorem open_as {m : Nat} {l : List Value} {y : DataW H × List MemPlace} (h : DataW.trod enc Tryz.prog W 0 (fun _ => true) true m 79 l = some y) (hw : ∀ x ∈ DataW.weights Tryz.prog 79 y.1, x ≤ reachBytes) : ∃ b : (Int × Pkt) × (Value × Value), l = akL b.1 b.2 ∧ (Rep (fun _ => True) W b.2.1 2 16 (pwC b.1.2.S) ∧ Rep (fun _ => True) W b.2.2 1 8 (inC b.1.2.D)) := by
  obtain ⟨xs, n, _, hxs, hl, hxl, hx⟩ := DataW.trod_struct Tryz.underlying79 h
  rw [cAs] at hl
  match l, hl with
  | [a0, a1, a2, a3, a4, a5, a6], _ =>
    match xs, hxl with
    | [y0, y1], _ =>
      have t0 := hx 0 _ rfl
      have t1 := hx 1 _ rfl
      simp [cI, cPk] at t0 t1
      subst hxs
      have w1 : ∀ x ∈ DataW.weights Tryz.prog 49 y1.1, x ≤ reachBytes := fun x hx => hw x (by simp [DataW.weights, Tryz.underlying79, DataW.weightsEach, hx])
      obtain ⟨q0, e0⟩ := open_i t0
      obtain ⟨x, u, e1, r1, r2⟩ := open_pk t1 w1
      simp at e0 e1
      obtain ⟨f1, f2, f3, f4, f5, f6⟩ := e1
      subst e0 f1 f2 f3 f4 f5 f6
      exact ⟨((q0, x), u), rfl, r1, r2⟩
theorem quL_flat : ∀ L : List ((Int × Pkt) × (Value × Value)), L.flatMap (fun b => akL b.1 b.2) = quL (L.map (·.1)) (L.map (·.2))
  | [] => rfl
  | a :: L => by rw [List.flatMap_cons, quL_flat L]; rfl
theorem rep_queue {m : Nat} {l : List Value} {y : DataW H × List MemPlace} (h : DataW.trod enc Tryz.prog W 0 (fun _ => true) true m 45 l = some y) (hw : ∀ x ∈ DataW.weights Tryz.prog 45 y.1, x ≤ reachBytes) : ∃ (q : List (Int × Pkt)) (v : Value), l = [v] ∧ QRep (fun _ => True) W v q ∧ q.length * 88 ≤ 140737488351232 := by
  obtain ⟨L, v, e, hr, hq, hl⟩ := open_rep ((0, ⟨0, 0, 0, 0, [], []⟩), (.slice none 0 0, .slice none 0 0)) (fun b : (Int × Pkt) × (Value × Value) => akL b.1 b.2) (fun b => Rep (fun _ => True) W b.2.1 2 16 (pwC b.1.2.S) ∧ Rep (fun _ => True) W b.2.2 1 8 (inC b.1.2.D)) Tryz.underlying45 cAs yAs (fun _ => rfl) (by decide) h hw (fun h hw => open_as h hw)
  rw [quL_flat] at hr
  refine ⟨L.map (·.1), v, e, ⟨L.map (·.2), by simp, ?_, fun i x y hx hy => ?_⟩, by simpa using hl⟩
  · obtain ⟨A, n, C, h1, h2, h3, h4, h5⟩ := hr
    exact ⟨A, n, C, h1, h2, by omega, h4, h5⟩
  · rw [List.getElem?_map] at hx hy
    rcases hb : L[i]? with _ | b
    · rw [hb] at hx; simp at hx
    · rw [hb] at hx hy
      simp at hx hy
      subst hx hy
      exact hq b (List.mem_of_getElem? hb)
theorem open_lk {m : Nat} {l : List Value} {y : DataW H × List MemPlace} (h : DataW.trod enc Tryz.prog W 0 (fun _ => true) true m 41 l = some y) (hw : ∀ x ∈ DataW.weights Tryz.prog 41 y.1, x ≤ reachBytes) : ∃ (x : Lk) (u : LkV), l = lkL x u ∧ LkIn (fun _ => True) W x u := by
  obtain ⟨xs, n, _, hxs, hl, hxl, hx⟩ := DataW.trod_struct Tryz.underlying41 h
  rw [cLk] at hl
  match l, hl with
  | [a0, a1, a2, a3, a4, a5, a6, a7, a8, a9, a10, a11, a12, a13], _ =>
    match xs, hxl with
    | [y0, y1, y2, y3, y4, y5, y6, y7], _ =>
      have t0 := hx 0 _ rfl
      have t1 := hx 1 _ rfl
      have t2 := hx 2 _ rfl
      have t3 := hx 3 _ rfl
      have t4 := hx 4 _ rfl
      have t5 := hx 5 _ rfl
      have t6 := hx 6 _ rfl
      have t7 := hx 7 _ rfl
      simp [cI, cT, cPws, cIs, cLn, cHd] at t0 t1 t2 t3 t4 t5 t6 t7
      subst hxs
      have w3 : ∀ x ∈ DataW.weights Tryz.prog 33 y3.1, x ≤ reachBytes := fun x hx => hw x (by simp [DataW.weights, Tryz.underlying41, DataW.weightsEach, hx])
      have w5 : ∀ x ∈ DataW.weights Tryz.prog 34 y5.1, x ≤ reachBytes := fun x hx => hw x (by simp [DataW.weights, Tryz.underlying41, DataW.weightsEach, hx])
      have w6 : ∀ x ∈ DataW.weights Tryz.prog 37 y6.1, x ≤ reachBytes := fun x hx => hw x (by simp [DataW.weights, Tryz.underlying41, DataW.weightsEach, hx])
      obtain ⟨q0, e0⟩ := open_t t0
      obtain ⟨q1, e1⟩ := open_t t1
      obtain ⟨q2, e2⟩ := open_i t2
      obtain ⟨T, u3, e3, r3⟩ := rep_pws t3 w3
      obtain ⟨q4, e4⟩ := open_t t4
      obtain ⟨D, u5, e5, r5⟩ := rep_ints t5 w5
      obtain ⟨x6, u6, e6, r6, r7⟩ := open_ln t6 w6
      obtain ⟨h0, h1, h2, h3, e7⟩ := open_hd t7
      simp at e0 e1 e2 e3 e4 e5 e6 e7
      obtain ⟨f6, f7, f8, f9⟩ := e6
      obtain ⟨g0, g1, g2, g3⟩ := e7
      subst e0 e1 e2 e3 e4 e5 f6 f7 f8 f9 g0 g1 g2 g3
      exact ⟨⟨q0, q1, q2, T, q4, D, x6, h0, h1, h2, h3⟩, ⟨_, _, u6.1, u6.2⟩, rfl, r3, r5, r6.c, r7.c⟩
theorem rep_waits {m : Nat} {l : List Value} {y : DataW H × List MemPlace} (h : DataW.trod enc Tryz.prog W 0 (fun _ => true) true m 30 l = some y) (hw : ∀ x ∈ DataW.weights Tryz.prog 30 y.1, x ≤ reachBytes) : ∃ (L : List Wt) (v : Value), l = [v] ∧ Rep (fun _ => True) W v 8 64 (wsL L) := by
  obtain ⟨L, v, e, hr, -, -⟩ := open_rep ⟨0, 0, 0, 0, 0, 0, 0, 0⟩ wtL (fun _ => True) Tryz.underlying30 cW bytesW (fun _ => rfl) (by decide) h hw (fun h _ => by obtain ⟨b, e⟩ := open_wt h; exact ⟨b, e, trivial⟩)
  exact ⟨L, v, e, hr⟩
theorem open_st {m : Nat} {l : List Value} {y : DataW H × List MemPlace} (h : DataW.trod enc Tryz.prog W 0 (fun _ => true) true m 32 l = some y) (hw : ∀ x ∈ DataW.weights Tryz.prog 32 y.1, x ≤ reachBytes) : ∃ (s : St) (v : Value), l = (stC s v).toList ∧ Rep (fun _ => True) W v 8 64 (wsL s.W) := by
  obtain ⟨xs, n, _, hxs, hl, hxl, hx⟩ := DataW.trod_struct Tryz.underlying32 h
  rw [cS] at hl
  match xs, hxl with
  | [y0, y1, y2, y3, y4], _ =>
    have t0 := hx 0 _ rfl
    have t1 := hx 1 _ rfl
    have t2 := hx 2 _ rfl
    have t3 := hx 3 _ rfl
    have t4 := hx 4 _ rfl
    simp [cI, cB, cVs, cSh, cWs] at t0 t1 t2 t3 t4
    subst hxs
    have w3 : ∀ x ∈ DataW.weights Tryz.prog 30 y3.1, x ≤ reachBytes := fun x hx => hw x (by simp [DataW.weights, Tryz.underlying32, DataW.weightsEach, hx])
    obtain ⟨b, e0⟩ := open_bk t0
    obtain ⟨V, e1⟩ := open_vds t1
    obtain ⟨S, e2⟩ := open_shs t2
    obtain ⟨L, v, e3, r3⟩ := rep_waits t3 w3
    obtain ⟨q, e4⟩ := open_i t4
    have hcs : l = l.take 7 ++ ((l.drop 7).take 30 ++ ((l.drop 37).take 24 ++ ((l.drop 61).take 1 ++ (l.drop 62).take 1))) := by
      have a1 := parts (l := l) (o := 7) (n := 30)
      have a2 := parts (l := l) (o := 37) (n := 24)
      have a3 := parts (l := l) (o := 61) (n := 1)
      have a4 : l.drop 62 = (l.drop 62).take 1 := by rw [List.take_of_length_le]; rw [List.length_drop]; omega
      rw [← a4, ← a3, ← a2, ← a1]
      simp
    rw [e0, e1, e2, e3, e4] at hcs
    exact ⟨⟨b, V, S, L, q⟩, v, by rw [hcs]; rfl, r3⟩
theorem open_me {m : Nat} {l : List Value} {y : DataW H × List MemPlace} (h : DataW.trod enc Tryz.prog W 0 (fun _ => true) true m 44 l = some y) : ∃ a b : Int, l = [.int .i64 a, .int .i64 b] := by
  obtain ⟨xs, n, _, _, hl, hxl, hx⟩ := DataW.trod_struct Tryz.underlying44 h
  rw [cMe] at hl
  match l, hl with
  | [a0, a1], _ =>
    match xs, hxl with
    | [y0, y1], _ =>
      have t0 := hx 0 _ rfl
      have t1 := hx 1 _ rfl
      simp [cI] at t0 t1
      obtain ⟨q0, e0⟩ := open_i t0
      obtain ⟨q1, e1⟩ := open_i t1
      simp at e0 e1
      subst e0 e1
      exact ⟨q0, q1, rfl⟩
theorem open_lks {m : Nat} {l : List Value} {y : DataW H × List MemPlace} (h : DataW.trod enc Tryz.prog W 0 (fun _ => true) true m 42 l = some y) (hw : ∀ x ∈ DataW.weights Tryz.prog 42 y.1, x ≤ reachBytes) : ∃ (L : Nat → Lk) (u : Nat → LkV), l = lkL (L 0) (u 0) ++ lkL (L 1) (u 1) ∧ ∀ c, c < 2 → LkIn (fun _ => True) W (L c) (u c) := by
  obtain ⟨xs, n, _, hxs, hl, hxl, hx⟩ := DataW.trod_array Tryz.underlying42 h
  rw [cLks] at hl
  subst hxs
  have hwe : ∀ i, i < 2 → ∀ d, xs[i]? = some d → ∀ x ∈ DataW.weights Tryz.prog 41 d.1, x ≤ reachBytes := fun i hi d hd x hx => hw x (by
    simp only [DataW.weights, Tryz.underlying42]
    exact weights_all (d := d.1) (List.mem_map.2 ⟨d, List.mem_of_getElem? hd, rfl⟩) x hx)
  obtain ⟨f, hf⟩ := pick_all (n := 2) (p := fun i (b : Lk × LkV) => (l.drop (i * 14)).take 14 = lkL b.1 b.2 ∧ LkIn (fun _ => True) W b.1 b.2) (⟨false, false, 0, [], false, [], ⟨[], [], 0, false⟩, 0, 0, 0, 0⟩, ⟨.slice none 0 0, .slice none 0 0, .slice none 0 0, .slice none 0 0⟩) (fun i hi => by
    have := hx i hi
    rw [cLk, List.getElem?_eq_getElem (by omega)] at this
    obtain ⟨x, u, e, r⟩ := open_lk this (hwe i hi _ (List.getElem?_eq_getElem (by omega)))
    exact ⟨(x, u), e, r⟩)
  refine ⟨fun i => (f i).1, fun i => (f i).2, ?_, fun c hc => (hf c hc).2⟩
  rw [← (hf 0 (by omega)).1, ← (hf 1 (by omega)).1]
  have a1 := parts (l := l) (o := 0) (n := 14)
  have a2 : l.drop 14 = (l.drop 14).take 14 := by rw [List.take_of_length_le]; rw [List.length_drop]; omega
  simp only [Nat.zero_mul, Nat.one_mul, Nat.zero_add] at a1 ⊢
  rw [← a2, ← a1, List.drop_zero]
/-- a provider that came in -/
theorem open_prov {r : Reach} {b0 : Nat} {v : Value} {d : DataW H} {p : List MemPlace} (hv : Value.okWide Tryz.prog W r b0 47 v) (h : DataW.Trod enc Tryz.prog W 0 (fun _ => true) true 47 v d p) (hw : ∀ x ∈ DataW.weights Tryz.prog 47 d, x ≤ reachBytes) :
    ∃ (x : Pr) (u : PrV), v = .agg (prC x u) ∧ PIn (fun _ => True) W x u ∧ x.q.length * 88 ≤ 140737488351232 := by
  obtain ⟨cs, rfl, hsz⟩ := okWide_struct Tryz.underlying47 hv
  rw [cPv] at hsz
  obtain ⟨cs⟩ := cs
  obtain ⟨fuel, hf⟩ := h
  obtain ⟨xs, n, _, hxs, hl, hxl, hx⟩ := DataW.trod_struct Tryz.underlying47 hf
  match xs, hxl with
  | [y0, y1, y2, y3, y4, y5, y6], _ =>
    have t0 := hx 0 _ rfl
    have t1 := hx 1 _ rfl
    have t2 := hx 2 _ rfl
    have t3 := hx 3 _ rfl
    have t4 := hx 4 _ rfl
    have t5 := hx 5 _ rfl
    have t6 := hx 6 _ rfl
    simp [Value.cells, cI, cS, cPws, cLks, cMe, cAss] at t0 t1 t2 t3 t4 t5 t6 hsz
    simp only [Prod.mk.injEq] at hxs
    obtain ⟨rfl, _⟩ := hxs
    have w2 : ∀ x ∈ DataW.weights Tryz.prog 32 y2.1, x ≤ reachBytes := fun x hx => hw x (by simp [DataW.weights, Tryz.underlying47, DataW.weightsEach, hx])
    have w3 : ∀ x ∈ DataW.weights Tryz.prog 33 y3.1, x ≤ reachBytes := fun x hx => hw x (by simp [DataW.weights, Tryz.underlying47, DataW.weightsEach, hx])
    have w4 : ∀ x ∈ DataW.weights Tryz.prog 42 y4.1, x ≤ reachBytes := fun x hx => hw x (by simp [DataW.weights, Tryz.underlying47, DataW.weightsEach, hx])
    have w6 : ∀ x ∈ DataW.weights Tryz.prog 45 y6.1, x ≤ reachBytes := fun x hx => hw x (by simp [DataW.weights, Tryz.underlying47, DataW.weightsEach, hx])
    obtain ⟨q0, e0⟩ := open_i t0
    obtain ⟨q1, e1⟩ := open_i t1
    obtain ⟨s, us, e2, r2⟩ := open_st t2 w2
    obtain ⟨set, ut, e3, r3⟩ := rep_pws t3 w3
    obtain ⟨L, ul, e4, r4⟩ := open_lks t4 w4
    obtain ⟨ml, mn, e5⟩ := open_me t5
    obtain ⟨q, uq, e6, r6, hq⟩ := rep_queue t6 w6
    have hcs : cs = cs.take 1 ++ (cs.tail.take 1 ++ ((cs.drop 2).take 63 ++ ((cs.drop 65).take 1 ++ ((cs.drop 66).take 28 ++ ((cs.drop 94).take 2 ++ (cs.drop 96).take 1))))) := by
      have a1 := parts (l := cs) (o := 1) (n := 1)
      have a2 := parts (l := cs) (o := 2) (n := 63)
      have a3 := parts (l := cs) (o := 65) (n := 1)
      have a4 := parts (l := cs) (o := 66) (n := 28)
      have a5 := parts (l := cs) (o := 94) (n := 2)
      have a6 : cs.drop 96 = (cs.drop 96).take 1 := by rw [List.take_of_length_le]; rw [List.length_drop]; omega
      rw [← List.drop_one, ← a6, ← a5, ← a4, ← a3, ← a2, ← a1]
      exact (List.take_append_drop 1 cs).symm
    rw [e0, e1, e2, e3, e4, e5, e6] at hcs
    refine ⟨⟨q0, q1, s, set, L, ml, mn, q⟩, ⟨us, ut, ul, uq⟩, ?_, ⟨r2, r3, r4, r6⟩, hq⟩
    rw [hcs]
    simp [prC]
end
end Go.Proofs.YtjghbciepinofaaGreat.Pv

