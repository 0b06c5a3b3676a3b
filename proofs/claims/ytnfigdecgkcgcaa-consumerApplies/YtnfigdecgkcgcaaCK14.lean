/- Parts of the proof: CZ. -/
import Derived.Test.YtnfigdecgkcgcaaRows
import Derived.Test.YtnfigdecgkcgcaaCK12
import Derived.Test.YtnfigdecgkcgcaaCK13
set_option maxRecDepth 100000
namespace Go.Proofs.Ytnfigdecgkcgcaa.Cd
open Go.RowKit
def Bytes (l : List Int) : Prop := ∀ c ∈ l, 0 ≤ c ∧ c < 256
theorem tk_bytes {m : Nat} {st : List Int × Bool} (h : Bytes st.1) : Bytes (tk m st).2.1 := by
  unfold tk
  split
  · intro c hc; simp at hc
  · intro c hc; exact h c (List.mem_of_mem_drop hc)
theorem tk_one {st : List Int × Bool} (h : Bytes st.1) : 0 ≤ (tk 1 st).1 ∧ (tk 1 st).1 < 256 := by
  unfold tk
  split
  · simp
  · rename_i hl
    match hs : st.1, hl with
    | c :: t, _ =>
      have := h c (by rw [hs]; exact List.mem_cons_self ..)
      simp [numF]; omega
theorem tkP_bytes : ∀ (m : Nat) (st : List Int × Bool), Bytes st.1 → Bytes (tkP m st).2.1 := by
  intro m
  induction m with
  | zero => intro st h; exact h
  | succ m ih => intro st h; exact ih _ (tk_bytes (tk_bytes h))
/-- the steps of a packet's bytes -/
def p1 (l : List Int) : Int × (List Int × Bool) := tk 1 (l, false)
def p2 (l : List Int) : Int × (List Int × Bool) := tk 6 (p1 l).2
def p3 (l : List Int) : Int × (List Int × Bool) := tk 1 (p2 l).2
def p4 (l : List Int) : Int × (List Int × Bool) := tk 7 (p3 l).2
def p5 (l : List Int) : Int × (List Int × Bool) := tk 1 (p4 l).2
def p6 (l : List Int) : List (Int × Int) × (List Int × Bool) := tkP (p5 l).1.toNat (p5 l).2
def p7 (l : List Int) : Int × (List Int × Bool) := tk 1 (p6 l).2
def p8 (l : List Int) : List Int × (List Int × Bool) := tkD (p7 l).1.toNat (p7 l).2
/-- the next packet of bytes, and what is left behind it -/
def parse (l : List Int) : (Int × Int × Int × Int × List (Int × Int) × List Int) × (List Int × Bool) := (((p1 l).1, (p2 l).1, (p3 l).1, (p4 l).1, (p6 l).1, (p8 l).1), (p8 l).2)
theorem parse_bounds (l : List Int) (h : Bytes l) : 0 ≤ (p5 l).1 ∧ (p5 l).1 < 256 ∧ 0 ≤ (p7 l).1 ∧ (p7 l).1 < 256 := by
  have h1 : Bytes (p1 l).2.1 := by unfold p1; exact tk_bytes h
  have h2 : Bytes (p2 l).2.1 := by unfold p2; exact tk_bytes h1
  have h3 : Bytes (p3 l).2.1 := by unfold p3; exact tk_bytes h2
  have h4 : Bytes (p4 l).2.1 := by unfold p4; exact tk_bytes h3
  have h5 : Bytes (p5 l).2.1 := by unfold p5; exact tk_bytes h4
  have b5 : 0 ≤ (p5 l).1 ∧ (p5 l).1 < 256 := by unfold p5; exact tk_one h4
  have h6 : Bytes (p6 l).2.1 := by unfold p6; exact tkP_bytes _ _ h5
  have b6 : 0 ≤ (p7 l).1 ∧ (p7 l).1 < 256 := by unfold p7; exact tk_one h6
  exact ⟨b5.1, b5.2, b6.1, b6.2⟩
/-- what Decode answers -/
def decE (l : List Int) : Int := if (parse l).2 = ([], false) then goodN (parse l).1.1 (parse l).1.2.1 (parse l).1.2.2.1 (parse l).1.2.2.2.1 (parse l).1.2.2.2.2.1 (parse l).1.2.2.2.2.2 else 1
def decP (l : List Int) : Int × Int × Int × Int × List (Int × Int) × List Int := if decE l = 0 then (parse l).1 else (0, 0, 0, 0, [], [])
theorem flat_get (l : List (Int × Int)) : ∀ i, i < l.length → (l.flatMap fun p => [Value.int .i64 p.1, Value.int .i64 p.2])[i * 2]? = some (.int .i64 (l.getD i (0, 0)).1) ∧ (l.flatMap fun p => [Value.int .i64 p.1, Value.int .i64 p.2])[i * 2 + 1]? = some (.int .i64 (l.getD i (0, 0)).2) := by
  induction l with
  | nil => intro i hi; simp at hi
  | cons a t ih =>
    intro i hi
    match i with
    | 0 => simp
    | i + 1 =>
      have := ih i (by simpa using hi)
      rw [List.flatMap_cons, show (i + 1) * 2 = i * 2 + 1 + 1 by omega]
      simpa using this
theorem Row2.lies {w : World} {B : Nat} {u : Value} {l : List (Int × Int)} (h : Row2 w B u l) : ∃ a c g, u = .slice a l.length c ∧ l.length ≤ maxLen ∧ (0 < l.length → a = some ⟨g, 0, none⟩) ∧ PwsAt w g 0 l ∧ (0 < l.length → B ≤ g) ∧ ((a = none → c = 0) ∧ l.length ≤ c) := by
  rcases h.2 with ⟨rfl, h0⟩ | ⟨g, cap, cur, rfl, hb, hh, hn, hm, hs, ht⟩
  · exact ⟨none, 0, 0, by rw [h0], by omega, by omega, fun i hi => by omega, by omega, fun _ => rfl, by omega⟩
  · refine ⟨_, cap, g, rfl, by omega, fun _ => rfl, fun i hi => ?_, fun _ => hb, fun h => (by cases h), hn⟩
    have h' : w.ownsRow B 61 2 (.slice (some ⟨g, 0, none⟩) l.length cap) l.length (l.flatMap fun p => [Value.int .i64 p.1, Value.int .i64 p.2]) := h
    rw [Nat.zero_add, h'.cellAt _ (by omega), h'.cellAt _ (by omega)]
    exact flat_get l i hi
theorem Row1.lies {w : World} {B : Nat} {u : Value} {l : List Int} (h : Row1 w B u l) : ∃ a c g, u = .slice a l.length c ∧ l.length ≤ maxLen ∧ (0 < l.length → a = some ⟨g, 0, none⟩) ∧ IntsAt w g 0 l ∧ (0 < l.length → B ≤ g) ∧ ((a = none → c = 0) ∧ l.length ≤ c) := by
  rcases h.2 with ⟨rfl, h0⟩ | ⟨g, cap, cur, rfl, hb, hh, hn, hm, hs, ht⟩
  · exact ⟨none, 0, 0, by rw [h0], by omega, by omega, fun i hi => by omega, by omega, fun _ => rfl, by omega⟩
  · refine ⟨_, cap, g, rfl, by omega, fun _ => rfl, fun i hi => ?_, fun _ => hb, fun h => (by cases h), hn⟩
    have h' : w.ownsRow B 3 1 (.slice (some ⟨g, 0, none⟩) l.length cap) l.length (l.map (Value.int .i64)) := h
    rw [Nat.zero_add, h'.cellAt _ (by omega)]
    simp [List.getD, hi]
theorem packet_parse (b : Nat) (l : List Int) (w : World) (hT : TS w b (l, false)) (hl : Bytes l) :
    Calls Try.prog 64 #[.pointer (some ⟨b, 0, none⟩)] w fun e w' => ∃ u d, e = .returned (.agg #[.int .i64 (parse l).1.1, .int .i64 (parse l).1.2.1, .int .i64 (parse l).1.2.2.1, .int .i64 (parse l).1.2.2.2.1, u, d]) ∧ Row2 w' (w.heap.size + 2) u (parse l).1.2.2.2.2.1 ∧ Row1 w' (w.heap.size + 2) d (parse l).1.2.2.2.2.2 ∧ TS w' b (parse l).2 ∧ w.grownBy w' (some b) := by
  obtain ⟨a1, a2, a3, a4⟩ := parse_bounds l hl
  rcases e1 : p1 l with ⟨k, s1⟩
  rcases e2 : p2 l with ⟨i, s2⟩
  rcases e3 : p3 l with ⟨v, s3⟩
  rcases e4 : p4 l with ⟨n, s4⟩
  rcases e5 : p5 l with ⟨c, s5⟩
  rcases e6 : p6 l with ⟨S, s6⟩
  rcases e7 : p7 l with ⟨d, s7⟩
  rcases e8 : p8 l with ⟨D, s8⟩
  have ep : parse l = ((k, i, v, n, S, D), s8) := by rw [parse, e1, e2, e3, e4, e6, e8]
  rw [ep]
  rw [e5] at a1 a2
  rw [e7] at a3 a4
  rw [p1] at e1
  rw [p2, p1, e1] at e2
  rw [p3, p2, p1, e1, e2] at e3
  rw [p4, p3, p2, p1, e1, e2, e3] at e4
  rw [p5, p4, p3, p2, p1, e1, e2, e3, e4] at e5
  rw [p6, p5, p4, p3, p2, p1, e1, e2, e3, e4, e5] at e6
  rw [p7, p6, p5, p4, p3, p2, p1, e1, e2, e3, e4, e5, e6] at e7
  rw [p8, p7, p6, p5, p4, p3, p2, p1, e1, e2, e3, e4, e5, e6, e7] at e8
  dsimp only at a1 a2 a3 a4 e6 e8
  refine packet_any b (l, false) s1 s2 s3 s4 s5 s6 s7 s8 k i v n c.toNat d.toNat S D w hT e1 e2 e3 e4 ?_ e6 ?_ e8 (by omega) (by omega)
  · rw [Int.toNat_of_nonneg a1]; exact e5
  · rw [Int.toNat_of_nonneg a3]; exact e7
theorem BoxAt.six {w : World} {b : Nat} {k i v n s d : Value} (h : BoxAt w b k i v n s d) : ∀ o, o < 6 → ∃ u, w.cell? ⟨b, o, none⟩ = some u := fun o ho => by
  obtain ⟨d0, d1, d2, d3, d4, d5, _⟩ := h.cells
  match o, ho with
  | 0, _ => exact ⟨_, d0⟩
  | 1, _ => exact ⟨_, d1⟩
  | 2, _ => exact ⟨_, d2⟩
  | 3, _ => exact ⟨_, d3⟩
  | 4, _ => exact ⟨_, d4⟩
  | 5, _ => exact ⟨_, d5⟩
theorem dec_end {w w1 : World} {k i v n s d : Value} (hR : BoxAt w1 w.heap.size k i v n s d) (hB : Below w.heap.size w w1) (v0 v1 v2 v3 v4 v5 : Value) (o : Obj) :
    ((set6 w1 w.heap.size v0 v1 v2 v3 v4 v5).alloc o).cell? ⟨w.heap.size, 0, none⟩ = some v0 ∧ ((set6 w1 w.heap.size v0 v1 v2 v3 v4 v5).alloc o).cell? ⟨w.heap.size, 1, none⟩ = some v1 ∧ ((set6 w1 w.heap.size v0 v1 v2 v3 v4 v5).alloc o).cell? ⟨w.heap.size, 2, none⟩ = some v2 ∧
    ((set6 w1 w.heap.size v0 v1 v2 v3 v4 v5).alloc o).cell? ⟨w.heap.size, 3, none⟩ = some v3 ∧ ((set6 w1 w.heap.size v0 v1 v2 v3 v4 v5).alloc o).cell? ⟨w.heap.size, 4, none⟩ = some v4 ∧ ((set6 w1 w.heap.size v0 v1 v2 v3 v4 v5).alloc o).cell? ⟨w.heap.size, 5, none⟩ = some v5 ∧
    Below w.heap.size w ((set6 w1 w.heap.size v0 v1 v2 v3 v4 v5).alloc o) := by
  obtain ⟨e0, e1, e2, e3, e4, e5⟩ := set6_cells (w := w1) (b := w.heap.size) v0 v1 v2 v3 v4 v5 hR.six
  have hb := below_new (set6 w1 w.heap.size v0 v1 v2 v3 v4 v5) o
  have hlt : w.heap.size < (set6 w1 w.heap.size v0 v1 v2 v3 v4 v5).heap.size := World.block_lt_of_cell? _ _ e0
  exact ⟨(hb.cell (p := ⟨w.heap.size, 0, none⟩) hlt).trans e0, (hb.cell (p := ⟨w.heap.size, 1, none⟩) hlt).trans e1, (hb.cell (p := ⟨w.heap.size, 2, none⟩) hlt).trans e2, (hb.cell (p := ⟨w.heap.size, 3, none⟩) hlt).trans e3, (hb.cell (p := ⟨w.heap.size, 4, none⟩) hlt).trans e4, (hb.cell (p := ⟨w.heap.size, 5, none⟩) hlt).trans e5,
    below_then (set6_below v0 v1 v2 v3 v4 v5 hB (Nat.le_refl _)) hb⟩
theorem lies_nil (w : World) : Lies w [] [] none none 0 0 0 0 := ⟨by simp, by simp, by simp, by simp, fun i hi => absurd hi (by simp), fun i hi => absurd hi (by simp)⟩
theorem Lies.set6 {w : World} {S : List (Int × Int)} {D : List Int} {sa da : Option Addr} {sb so db dO : Nat} (L : Lies w S D sa da sb so db dO) (c : Nat) (hc : (0 < S.length → sb ≠ c) ∧ (0 < D.length → db ≠ c)) (v0 v1 v2 v3 v4 v5 : Value) : Lies (set6 w c v0 v1 v2 v3 v4 v5) S D sa da sb so db dO := by
  refine ⟨L.hls, L.hld, L.hsa, L.hda, fun i hi => ?_, fun i hi => ?_⟩
  · have h := L.PS i hi
    exact ⟨(cell_of_heap (set6_other v0 v1 v2 v3 v4 v5 (hc.1 (by omega))) _).trans h.1, (cell_of_heap (set6_other v0 v1 v2 v3 v4 v5 (hc.1 (by omega))) _).trans h.2⟩
  · exact (cell_of_heap (set6_other v0 v1 v2 v3 v4 v5 (hc.2 (by omega))) _).trans (L.PD i hi)
/-- a list's room, and where it lies -/
def Rm (B : Nat) (a : Option Addr) (n c g : Nat) : Prop := (a = none → c = 0) ∧ n ≤ c ∧ (0 < n → B ≤ g)
theorem rm_nil (B : Nat) : Rm B none ([] : List (Int × Int)).length 0 0 ∧ Rm B none ([] : List Int).length 0 0 := ⟨⟨fun _ => rfl, by simp, by simp⟩, ⟨fun _ => rfl, by simp, by simp⟩⟩
set_option maxHeartbeats 1000000 in
theorem decode_any (s : ByteArray) (w : World) (hs : s.size ≤ maxLen) :
    Calls Try.prog 33 #[.string s] w fun e w' => ∃ sa da cs cd sb so db dO,
      e = .returned (.tuple #[.agg #[.int .i64 (decP (bs s)).1, .int .i64 (decP (bs s)).2.1, .int .i64 (decP (bs s)).2.2.1, .int .i64 (decP (bs s)).2.2.2.1, .slice sa (decP (bs s)).2.2.2.2.1.length cs, .slice da (decP (bs s)).2.2.2.2.2.length cd], .int .i64 (decE (bs s))]) ∧
      Lies w' (decP (bs s)).2.2.2.2.1 (decP (bs s)).2.2.2.2.2 sa da sb so db dO ∧ (Rm w.heap.size sa (decP (bs s)).2.2.2.2.1.length cs sb ∧ Rm w.heap.size da (decP (bs s)).2.2.2.2.2.length cd db) ∧ Below w.heap.size w w' := by
  have HE : Hid (decE (bs s) = if (parse (bs s)).2 = ([], false) then goodN (parse (bs s)).1.1 (parse (bs s)).1.2.1 (parse (bs s)).1.2.2.1 (parse (bs s)).1.2.2.2.1 (parse (bs s)).1.2.2.2.2.1 (parse (bs s)).1.2.2.2.2.2 else 1) := rfl
  have HP : Hid (decP (bs s) = if decE (bs s) = 0 then (parse (bs s)).1 else (0, 0, 0, 0, [], [])) := rfl
  generalize decE (bs s) = E at *
  generalize decP (bs s) = R at *
  have hpk := fun (w : World) (b : Nat) (h : TS w b (bs s, false)) => packet_parse b (bs s) w h (bs_byte s)
  have HPK : Hid _ := hpk
  clear hpk
  generalize parse (bs s) = pr at *
  obtain ⟨⟨k, i, v, n, S, D⟩, st⟩ := pr
  dsimp only at HE HP HPK
  go_enter Try.func33, Try.ntmps33
  go_wp2_with fail
  have hTS : TS ((w.alloc (Obj.cells #[Value.int IntKind.i64 0, Value.int IntKind.i64 0, Value.int IntKind.i64 0, Value.int IntKind.i64 0, Value.slice none 0 0, Value.slice none 0 0] 57)).alloc (Obj.cells #[Value.string s, Value.bool false] 92)) (w.heap.size + 1) (bs s, false) := by
    refine ⟨s, ?_, rfl, hs⟩
    unfold TAt
    have e : w.heap.size + 1 = (w.alloc (Obj.cells #[Value.int IntKind.i64 0, Value.int IntKind.i64 0, Value.int IntKind.i64 0, Value.int IntKind.i64 0, Value.slice none 0 0, Value.slice none 0 0] 57)).heap.size := by simp
    rw [e]; exact heap_alloc_new _ _
  refine (HPK.out _ _ hTS).mono ?_
  rintro e w1 ⟨u, d, rfl, hr2, hr1, hT1, hg1⟩
  have hz1 : w.heap.size + 2 ≤ w1.heap.size := by have := hg1.size; simpa using this
  have hB1 : Below w.heap.size w w1 := by
    have hb0 : Below w.heap.size w ((w.alloc (Obj.cells #[Value.int IntKind.i64 0, Value.int IntKind.i64 0, Value.int IntKind.i64 0, Value.int IntKind.i64 0, Value.slice none 0 0, Value.slice none 0 0] 57)).alloc (Obj.cells #[Value.string s, Value.bool false] 92)) := (below_new w _).alloc (by simp) _
    exact hb0.grown hg1 (by simp; omega) (fun k hk => by cases hk; omega)
  have hR1 : BoxAt w1 w.heap.size (.int .i64 0) (.int .i64 0) (.int .i64 0) (.int .i64 0) (.slice none 0 0) (.slice none 0 0) := by
    refine BoxAt.keep (w := (w.alloc (Obj.cells #[Value.int IntKind.i64 0, Value.int IntKind.i64 0, Value.int IntKind.i64 0, Value.int IntKind.i64 0, Value.slice none 0 0, Value.slice none 0 0] 57)).alloc (Obj.cells #[Value.string s, Value.bool false] 92)) ?_ hg1 (by simp)
    exact (Below.heap_alloc _ _ _ (by simp)).trans (heap_alloc_new _ _)
  obtain ⟨ua, uc, ug, rfl, l1, l2, l3, l4, l5⟩ := hr2.lies
  obtain ⟨xa, xc, xg, rfl, m1, m2, m3, m4, m5⟩ := hr1.lies
  have HRM : Hid (Rm w.heap.size ua S.length uc ug ∧ Rm w.heap.size xa D.length xc xg) := ⟨⟨l5.1, l5.2, fun h => by have := l4 h; simp at this; omega⟩, ⟨m5.1, m5.2, fun h => by have := m4 h; simp at this; omega⟩⟩
  clear l5 m5
  have HNE : Hid ((0 < S.length → ug ≠ w.heap.size) ∧ (0 < D.length → xg ≠ w.heap.size)) := ⟨fun h e => by have := l4 h; simp at this; omega, fun h e => by have := m4 h; simp at this; omega⟩
  have L1 : Lies w1 S D ua xa ug 0 xg 0 := ⟨l1, m1, l2, m2, l3, m3⟩
  obtain ⟨r, hTA, hbr, hrs⟩ := hT1
  clear hr2 hr1 l1 l2 l3 l4 m1 m2 m3 m4 hg1 HPK hTS
  obtain ⟨rest, sh⟩ := st
  dsimp only at hTA hbr
  subst hbr
  obtain ⟨t0, t1, tf0, tf1⟩ := hTA.cells
  have hz1a : w.heap.size < w1.heap.size := by omega
  have hz1b : w.heap.size + 1 < w1.heap.size := by omega
  obtain ⟨d0, d1, d2, d3, d4, d5, df⟩ := hR1.cells
  unfold maxLen at hrs
  by_cases hst : (bs r, sh) = (([] : List Int), false)
  · have HE1 : Hid (E = goodN k i v n S D) := by show _ = _; rw [HE.out, if_pos hst]
    obtain ⟨hcl, rfl⟩ := Prod.mk.inj hst
    have hr0 : r.size = 0 := by rw [← bs_length, hcl]; rfl
    have hn : ((r.size : Int) != 0) = false := by rw [hr0]; rfl
    clear HE hst hcl hr0
    have LB := L1.later (below_new w1 (Obj.cells #[Value.int IntKind.i64 k, Value.int IntKind.i64 i, Value.int IntKind.i64 v, Value.int IntKind.i64 n, Value.slice ua S.length uc, Value.slice xa D.length xc] 57))
    have hgood := good_any k i v n S D ua xa uc xc ug 0 xg 0 _ LB.hls LB.hld LB.hsa LB.hda LB.PS LB.PD
    have PKB := pkAt_new w1 k i v n (.slice ua S.length uc) (.slice xa D.length xc)
    go_wp2_with fail
    refine hgood.mono ?_
    rintro e w2 ⟨rfl, hb2⟩
    have PK2 := PKB.later hb2 (by simp)
    have hbs := below_step hb2
    have L2 := L1.later hbs
    have hB2 := below_then hB1 hbs
    have hR2 : BoxAt w2 w.heap.size (.int .i64 0) (.int .i64 0) (.int .i64 0) (.int .i64 0) (.slice none 0 0) (.slice none 0 0) := hR1.keep (r := none) ⟨hbs.os, hbs.tape, hbs.output, hbs.size, fun k hk _ => hbs.block k hk⟩ (by simp)
    clear hgood hb2 PKB hbs L1 hB1 hR1 LB t0 t1 tf0 tf1 d0 d1 d2 d3 d4 d5 df hTA
    obtain ⟨d0, d1, d2, d3, d4, d5, df⟩ := hR2.cells
    obtain ⟨c0, c1, c2, c3, c4, c5⟩ := id PK2
    by_cases hG : goodN k i v n S D = 0
    · have HP1 : Hid (R = (k, i, v, n, S, D)) := by show _ = _; rw [HP.out, HE1.out, if_pos hG]
      have HE2 : Hid (E = 0) := HE1.out.trans hG
      rw [hG] at *
      have HC : Hid _ := set6_cells (w := w2) (b := w.heap.size) (.int .i64 k) (.int .i64 i) (.int .i64 v) (.int .i64 n) (.slice ua S.length uc) (.slice xa D.length xc) hR2.six
      have HBB : Hid _ := set6_below (b := w.heap.size) (.int .i64 k) (.int .i64 i) (.int .i64 v) (.int .i64 n) (.slice ua S.length uc) (.slice xa D.length xc) hB2 (Nat.le_refl _)
      have HLL : Hid _ := L2.set6 w.heap.size HNE.out (.int .i64 k) (.int .i64 i) (.int .i64 v) (.int .i64 n) (.slice ua S.length uc) (.slice xa D.length xc)
      clear HP HE1 hB2 hR2 L2 HNE PK2
      go_wp2
      show bodyPost Try.prog Try.f33 _ Exit.ret _ (set6 w2 w.heap.size (.int .i64 k) (.int .i64 i) (.int .i64 v) (.int .i64 n) (.slice ua S.length uc) (.slice xa D.length xc))
      obtain ⟨e0, e1, e2, e3, e4, e5⟩ := HC.out
      have hBB := HBB.out
      have hLL := HLL.out
      clear HC HBB HLL
      generalize set6 w2 w.heap.size (.int .i64 k) (.int .i64 i) (.int .i64 v) (.int .i64 n) (.slice ua S.length uc) (.slice xa D.length xc) = w9 at *
      exact bodyPost_ret (v := .tuple #[.agg #[.int .i64 k, .int .i64 i, .int .i64 v, .int .i64 n, .slice ua S.length uc, .slice xa D.length xc], .int .i64 0]) (by simp [results, Try.results33, go_sem, e0, e1, e2, e3, e4, e5]) rfl
        ⟨ua, xa, uc, xc, ug, 0, xg, 0, by rw [HE2.out, HP1.out], by rw [HP1.out]; exact hLL, by rw [HP1.out]; exact HRM.out, hBB⟩
    · have HP1 : Hid (R = (0, 0, 0, 0, [], [])) := by show _ = _; rw [HP.out, HE1.out, if_neg hG]
      have hGb : (goodN k i v n S D != 0) = true := by simpa using hG
      have HC : Hid _ := set6_cells (w := w2) (b := w.heap.size) (.int .i64 0) (.int .i64 0) (.int .i64 0) (.int .i64 0) (.slice none 0 0) (.slice none 0 0) hR2.six
      have HBB : Hid _ := set6_below (b := w.heap.size) (.int .i64 0) (.int .i64 0) (.int .i64 0) (.int .i64 0) (.slice none 0 0) (.slice none 0 0) hB2 (Nat.le_refl _)
      clear HP hB2 hR2 L2 HNE PK2 hG
      generalize goodN k i v n S D = G at *
      go_wp2
      show bodyPost Try.prog Try.f33 _ Exit.ret _ (set6 w2 w.heap.size (.int .i64 0) (.int .i64 0) (.int .i64 0) (.int .i64 0) (.slice none 0 0) (.slice none 0 0))
      obtain ⟨e0, e1, e2, e3, e4, e5⟩ := HC.out
      have hBB := HBB.out
      clear HC HBB
      generalize set6 w2 w.heap.size (.int .i64 0) (.int .i64 0) (.int .i64 0) (.int .i64 0) (.slice none 0 0) (.slice none 0 0) = w9 at *
      exact bodyPost_ret (v := .tuple #[.agg #[.int .i64 0, .int .i64 0, .int .i64 0, .int .i64 0, .slice none 0 0, .slice none 0 0], .int .i64 G]) (by simp [results, Try.results33, go_sem, e0, e1, e2, e3, e4, e5]) rfl
        ⟨none, none, 0, 0, 0, 0, 0, 0, by rw [HE1.out, HP1.out]; rfl, by rw [HP1.out]; exact lies_nil _, by rw [HP1.out]; exact rm_nil _, hBB⟩
  · have HE1 : Hid (E = 1) := by show _ = _; rw [HE.out, if_neg hst]
    have HP1 : Hid (R = (0, 0, 0, 0, [], [])) := by show _ = _; rw [HP.out, HE1.out, if_neg (by decide)]
    have HEND : Hid _ := dec_end hR1 hB1 (.int .i64 0) (.int .i64 0) (.int .i64 0) (.int .i64 0) (.slice none 0 0) (.slice none 0 0) (Obj.cells #[Value.int IntKind.i64 k, Value.int IntKind.i64 i, Value.int IntKind.i64 v, Value.int IntKind.i64 n, Value.slice ua S.length uc, Value.slice xa D.length xc] 57)
    have hn : sh = true ∨ (sh = false ∧ ((r.size : Int) != 0) = true) := by
      cases sh with
      | true => exact .inl rfl
      | false =>
        refine .inr ⟨rfl, ?_⟩
        have : r.size ≠ 0 := fun h => hst (by rw [List.eq_nil_of_length_eq_zero (show (bs r).length = 0 by rw [bs_length]; exact h)])
        rw [bne_iff_ne]; omega
    clear HE HP hst hR1 hB1 L1 HNE hTA
    rcases hn with rfl | ⟨rfl, hn⟩
    all_goals
      go_wp2
      show bodyPost Try.prog Try.f33 _ Exit.ret _ ((set6 w1 w.heap.size (.int .i64 0) (.int .i64 0) (.int .i64 0) (.int .i64 0) (.slice none 0 0) (.slice none 0 0)).alloc (Obj.cells #[Value.int IntKind.i64 k, Value.int IntKind.i64 i, Value.int IntKind.i64 v, Value.int IntKind.i64 n, Value.slice ua S.length uc, Value.slice xa D.length xc] 57))
      obtain ⟨e0, e1, e2, e3, e4, e5, hB⟩ := HEND.out
      generalize (set6 w1 w.heap.size (.int .i64 0) (.int .i64 0) (.int .i64 0) (.int .i64 0) (.slice none 0 0) (.slice none 0 0)).alloc (Obj.cells #[Value.int IntKind.i64 k, Value.int IntKind.i64 i, Value.int IntKind.i64 v, Value.int IntKind.i64 n, Value.slice ua S.length uc, Value.slice xa D.length xc] 57) = w9 at *
      exact bodyPost_ret (v := .tuple #[.agg #[.int .i64 0, .int .i64 0, .int .i64 0, .int .i64 0, .slice none 0 0, .slice none 0 0], .int .i64 1]) (by simp [results, Try.results33, go_sem, e0, e1, e2, e3, e4, e5]) rfl
        ⟨none, none, 0, 0, 0, 0, 0, 0, by rw [HE1.out, HP1.out]; rfl, by rw [HP1.out]; exact lies_nil _, by rw [HP1.out]; exact rm_nil _, hB⟩
end Go.Proofs.Ytnfigdecgkcgcaa.Cd

