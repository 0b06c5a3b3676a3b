/- Parts of the proof: CZ CK PDR PVGR. -/
import Derived.Test.YtjghbciepinofaaGreatRows
import Derived.Test.YtjghbciepinofaaGreatOK44
import Derived.Test.YtjghbciepinofaaGreatOK45
set_option maxRecDepth 100000
namespace Go.Proofs.YtjghbciepinofaaGreat.Cd
open Go.RowKit
def Bytes (l : List Int) : Prop := ∀ c ∈ l, 0 ≤ c ∧ c < 256
theorem tk_bytes {m : Nat} {st : List Int × Bool} (h : Bytes st.1) : Bytes (tk m st).2.1 := by
  unfold tk
  split
  · intro c hc; simp at hc
  · intro c hc; exact h c (List.mem_of_mem_drop hc)
theorem tk_one {st : List Int × Bool} (h : Bytes st.1) : 0 ≤ (tk 1 st).1 ∧ (tk 1 st).1 < 256 := by
  unfold tk
  split
  · simp
  · rename_i hl
    match hs : st.1, hl with
    | c :: t, _ =>
      have := h c (by rw [hs]; exact List.mem_cons_self ..)
      simp [numF]; omega
theorem tkP_bytes : ∀ (m : Nat) (st : List Int × Bool), Bytes st.1 → Bytes (tkP m st).2.1 := by
  intro m
  induction m with
  | zero => intro st h; exact h
  | succ m ih => intro st h; exact ih _ (tk_bytes (tk_bytes h))
/-- the steps of a packet's bytes -/
def p1 (l : List Int) : Int × (List Int × Bool) := tk 1 (l, false)
def p2 (l : List Int) : Int × (List Int × Bool) := tk 6 (p1 l).2
def p3 (l : List Int) : Int × (List Int × Bool) := tk 1 (p2 l).2
def p4 (l : List Int) : Int × (List Int × Bool) := tk 7 (p3 l).2
def p5 (l : List Int) : Int × (List Int × Bool) := tk 1 (p4 l).2
def p6 (l : List Int) : List (Int × Int) × (List Int × Bool) := tkP (p5 l).1.toNat (p5 l).2
def p7 (l : List Int) : Int × (List Int × Bool) := tk 1 (p6 l).2
def p8 (l : List Int) : List Int × (List Int × Bool) := tkD (p7 l).1.toNat (p7 l).2
/-- the next packet of bytes, and what is left behind it -/
def parse (l : List Int) : (Int × Int × Int × Int × List (Int × Int) × List Int) × (List Int × Bool) := (((p1 l).1, (p2 l).1, (p3 l).1, (p4 l).1, (p6 l).1, (p8 l).1), (p8 l).2)
theorem parse_bounds (l : List Int) (h : Bytes l) : 0 ≤ (p5 l).1 ∧ (p5 l).1 < 256 ∧ 0 ≤ (p7 l).1 ∧ (p7 l).1 < 256 := by
  have h1 : Bytes (p1 l).2.1 := by unfold p1; exact tk_bytes h
  have h2 : Bytes (p2 l).2.1 := by unfold p2; exact tk_bytes h1
  have h3 : Bytes (p3 l).2.1 := by unfold p3; exact tk_bytes h2
  have h4 : Bytes (p4 l).2.1 := by unfold p4; exact tk_bytes h3
  have h5 : Bytes (p5 l).2.1 := by unfold p5; exact tk_bytes h4
  have b5 : 0 ≤ (p5 l).1 ∧ (p5 l).1 < 256 := by unfold p5; exact tk_one h4
  have h6 : Bytes (p6 l).2.1 := by unfold p6; exact tkP_bytes _ _ h5
  have b6 : 0 ≤ (p7 l).1 ∧ (p7 l).1 < 256 := by unfold p7; exact tk_one h6
  exact ⟨b5.1, b5.2, b6.1, b6.2⟩
/-- what Decode answers -/
def decE (l : List Int) : Int := if (parse l).2 = ([], false) then goodN (parse l).1.1 (parse l).1.2.1 (parse l).1.2.2.1 (parse l).1.2.2.2.1 (parse l).1.2.2.2.2.1 (parse l).1.2.2.2.2.2 else 1
def decP (l : List Int) : Int × Int × Int × Int × List (Int × Int) × List Int := if decE l = 0 then (parse l).1 else (0, 0, 0, 0, [], [])
theorem flat_get (l : List (Int × Int)) : ∀ i, i < l.length → (l.flatMap fun p => [Value.int .i64 p.1, Value.int .i64 p.2])[i * 2]? = some (.int .i64 (l.getD i (0, 0)).1) ∧ (l.flatMap fun p => [Value.int .i64 p.1, Value.int .i64 p.2])[i * 2 + 1]? = some (.int .i64 (l.getD i (0, 0)).2) := by
  induction l with
  | nil => intro i hi; simp at hi
  | cons a t ih =>
    intro i hi
    match i with
    | 0 => simp
    | i + 1 =>
      have := ih i (by simpa using hi)
      rw [List.flatMap_cons, show (i + 1) * 2 = i * 2 + 1 + 1 by omega]
      simpa using this
theorem Row2.lies {w : World} {B : Nat} {u : Value} {l : List (Int × Int)} (h : Row2 w B u l) : ∃ a c g, u = .slice a l.length c ∧ l.length ≤ maxLen ∧ (0 < l.length → a = some ⟨g, 0, none⟩) ∧ PwsAt w g 0 l ∧ (0 < l.length → B ≤ g) ∧ ((a = none → c = 0) ∧ l.length ≤ c) := by
  rcases h.2 with ⟨rfl, h0⟩ | ⟨g, cap, cur, rfl, hb, hh, hn, hm, hs, ht⟩
  · exact ⟨none, 0, 0, by rw [h0], by omega, by omega, fun i hi => by omega, by omega, fun _ => rfl, by omega⟩
  · refine ⟨_, cap, g, rfl, by omega, fun _ => rfl, fun i hi => ?_, fun _ => hb, fun h => (by cases h), hn⟩
    have h' : w.ownsRow B 74 2 (.slice (some ⟨g, 0, none⟩) l.length cap) l.length (l.flatMap fun p => [Value.int .i64 p.1, Value.int .i64 p.2]) := h
    rw [Nat.zero_add, h'.cellAt _ (by omega), h'.cellAt _ (by omega)]
    exact flat_get l i hi
theorem Row1.lies {w : World} {B : Nat} {u : Value} {l : List Int} (h : Row1 w B u l) : ∃ a c g, u = .slice a l.length c ∧ l.length ≤ maxLen ∧ (0 < l.length → a = some ⟨g, 0, none⟩) ∧ IntsAt w g 0 l ∧ (0 < l.length → B ≤ g) ∧ ((a = none → c = 0) ∧ l.length ≤ c) := by
  rcases h.2 with ⟨rfl, h0⟩ | ⟨g, cap, cur, rfl, hb, hh, hn, hm, hs, ht⟩
  · exact ⟨none, 0, 0, by rw [h0], by omega, by omega, fun i hi => by omega, by omega, fun _ => rfl, by omega⟩
  · refine ⟨_, cap, g, rfl, by omega, fun _ => rfl, fun i hi => ?_, fun _ => hb, fun h => (by cases h), hn⟩
    have h' : w.ownsRow B 3 1 (.slice (some ⟨g, 0, none⟩) l.length cap) l.length (l.map (Value.int .i64)) := h
    rw [Nat.zero_add, h'.cellAt _ (by omega)]
    simp [List.getD, hi]
theorem packet_parse (b : Nat) (l : List Int) (w : World) (hT : TS w b (l, false)) (hl : Bytes l) :
    Calls Tryz.prog 40 #[.pointer (some ⟨b, 0, none⟩)] w fun e w' => ∃ u d, e = .returned (.agg #[.int .i64 (parse l).1.1, .int .i64 (parse l).1.2.1, .int .i64 (parse l).1.2.2.1, .int .i64 (parse l).1.2.2.2.1, u, d]) ∧ Row2 w' (w.heap.size + 2) u (parse l).1.2.2.2.2.1 ∧ Row1 w' (w.heap.size + 2) d (parse l).1.2.2.2.2.2 ∧ TS w' b (parse l).2 ∧ w.grownBy w' (some b) := by
  obtain ⟨a1, a2, a3, a4⟩ := parse_bounds l hl
  rcases e1 : p1 l with ⟨k, s1⟩
  rcases e2 : p2 l with ⟨i, s2⟩
  rcases e3 : p3 l with ⟨v, s3⟩
  rcases e4 : p4 l with ⟨n, s4⟩
  rcases e5 : p5 l with ⟨c, s5⟩
  rcases e6 : p6 l with ⟨S, s6⟩
  rcases e7 : p7 l with ⟨d, s7⟩
  rcases e8 : p8 l with ⟨D, s8⟩
  have ep : parse l = ((k, i, v, n, S, D), s8) := by rw [parse, e1, e2, e3, e4, e6, e8]
  rw [ep]
  rw [e5] at a1 a2
  rw [e7] at a3 a4
  rw [p1] at e1
  rw [p2, p1, e1] at e2
  rw [p3, p2, p1, e1, e2] at e3
  rw [p4, p3, p2, p1, e1, e2, e3] at e4
  rw [p5, p4, p3, p2, p1, e1, e2, e3, e4] at e5
  rw [p6, p5, p4, p3, p2, p1, e1, e2, e3, e4, e5] at e6
  rw [p7, p6, p5, p4, p3, p2, p1, e1, e2, e3, e4, e5, e6] at e7
  rw [p8, p7, p6, p5, p4, p3, p2, p1, e1, e2, e3, e4, e5, e6, e7] at e8
  dsimp only at a1 a2 a3 a4 e6 e8
  refine packet_any b (l, false) s1 s2 s3 s4 s5 s6 s7 s8 k i v n c.toNat d.toNat S D w hT e1 e2 e3 e4 ?_ e6 ?_ e8 (by omega) (by omega)
  · rw [Int.toNat_of_nonneg a1]; exact e5
  · rw [Int.toNat_of_nonneg a3]; exact e7
theorem BoxAt.six {w : World} {b : Nat} {k i v n s d : Value} (h : BoxAt w b k i v n s d) : ∀ o, o < 6 → ∃ u, w.cell? ⟨b, o, none⟩ = some u := fun o ho => by
  obtain ⟨d0, d1, d2, d3, d4, d5, _⟩ := h.cells
  match o, ho with
  | 0, _ => exact ⟨_, d0⟩
  | 1, _ => exact ⟨_, d1⟩
  | 2, _ => exact ⟨_, d2⟩
  | 3, _ => exact ⟨_, d3⟩
  | 4, _ => exact ⟨_, d4⟩
  | 5, _ => exact ⟨_, d5⟩
theorem dec_end {w w1 : World} {k i v n s d : Value} (hR : BoxAt w1 w.heap.size k i v n s d) (hB : Below w.heap.size w w1) (v0 v1 v2 v3 v4 v5 : Value) (o : Obj) :
    ((set6 w1 w.heap.size v0 v1 v2 v3 v4 v5).alloc o).cell? ⟨w.heap.size, 0, none⟩ = some v0 ∧ ((set6 w1 w.heap.size v0 v1 v2 v3 v4 v5).alloc o).cell? ⟨w.heap.size, 1, none⟩ = some v1 ∧ ((set6 w1 w.heap.size v0 v1 v2 v3 v4 v5).alloc o).cell? ⟨w.heap.size, 2, none⟩ = some v2 ∧
    ((set6 w1 w.heap.size v0 v1 v2 v3 v4 v5).alloc o).cell? ⟨w.heap.size, 3, none⟩ = some v3 ∧ ((set6 w1 w.heap.size v0 v1 v2 v3 v4 v5).alloc o).cell? ⟨w.heap.size, 4, none⟩ = some v4 ∧ ((set6 w1 w.heap.size v0 v1 v2 v3 v4 v5).alloc o).cell? ⟨w.heap.size, 5, none⟩ = some v5 ∧
    Below w.heap.size w ((set6 w1 w.heap.size v0 v1 v2 v3 v4 v5).alloc o) := by
  obtain ⟨e0, e1, e2, e3, e4, e5⟩ := set6_cells (w := w1) (b := w.heap.size) v0 v1 v2 v3 v4 v5 hR.six
  have hb := below_new (set6 w1 w.heap.size v0 v1 v2 v3 v4 v5) o
  have hlt : w.heap.size < (set6 w1 w.heap.size v0 v1 v2 v3 v4 v5).heap.size := World.block_lt_of_cell? _ _ e0
  exact ⟨(hb.cell (p := ⟨w.heap.size, 0, none⟩) hlt).trans e0, (hb.cell (p := ⟨w.heap.size, 1, none⟩) hlt).trans e1, (hb.cell (p := ⟨w.heap.size, 2, none⟩) hlt).trans e2, (hb.cell (p := ⟨w.heap.size, 3, none⟩) hlt).trans e3, (hb.cell (p := ⟨w.heap.size, 4, none⟩) hlt).trans e4, (hb.cell (p := ⟨w.heap.size, 5, none⟩) hlt).trans e5,
    below_then (set6_below v0 v1 v2 v3 v4 v5 hB (Nat.le_refl _)) hb⟩
theorem lies_nil (w : World) : Lies w [] [] none none 0 0 0 0 := ⟨by simp, by simp, by simp, by simp, fun i hi => absurd hi (by simp), fun i hi => absurd hi (by simp)⟩
theorem Lies.set6 {w : World} {S : List (Int × Int)} {D : List Int} {sa da : Option Addr} {sb so db dO : Nat} (L : Lies w S D sa da sb so db dO) (c : Nat) (hc : (0 < S.length → sb ≠ c) ∧ (0 < D.length → db ≠ c)) (v0 v1 v2 v3 v4 v5 : Value) : Lies (set6 w c v0 v1 v2 v3 v4 v5) S D sa da sb so db dO := by
  refine ⟨L.hls, L.hld, L.hsa, L.hda, fun i hi => ?_, fun i hi => ?_⟩
  · have h := L.PS i hi
    exact ⟨(cell_of_heap (set6_other v0 v1 v2 v3 v4 v5 (hc.1 (by omega))) _).trans h.1, (cell_of_heap (set6_other v0 v1 v2 v3 v4 v5 (hc.1 (by omega))) _).trans h.2⟩
  · exact (cell_of_heap (set6_other v0 v1 v2 v3 v4 v5 (hc.2 (by omega))) _).trans (L.PD i hi)
/-- a list's room, and where it lies -/
def Rm (B : Nat) (a : Option Addr) (n c g : Nat) : Prop := (a = none → c = 0) ∧ n ≤ c ∧ (0 < n → B ≤ g)
theorem rm_nil (B : Nat) : Rm B none ([] : List (Int × Int)).length 0 0 ∧ Rm B none ([] : List Int).length 0 0 := ⟨⟨fun _ => rfl, by simp, by simp⟩, ⟨fun _ => rfl, by simp, by simp⟩⟩
set_option maxHeartbeats 1000000 in
theorem decode_any (s : ByteArray) (w : World) (hs : s.size ≤ maxLen) :
    Calls Tryz.prog 14 #[.string s] w fun e w' => ∃ sa da cs cd sb so db dO,
      e = .returned (.tuple #[.agg #[.int .i64 (decP (bs s)).1, .int .i64 (decP (bs s)).2.1, .int .i64 (decP (bs s)).2.2.1, .int .i64 (decP (bs s)).2.2.2.1, .slice sa (decP (bs s)).2.2.2.2.1.length cs, .slice da (decP (bs s)).2.2.2.2.2.length cd], .int .i64 (decE (bs s))]) ∧
      Lies w' (decP (bs s)).2.2.2.2.1 (decP (bs s)).2.2.2.2.2 sa da sb so db dO ∧ (Rm w.heap.size sa (decP (bs s)).2.2.2.2.1.length cs sb ∧ Rm w.heap.size da (decP (bs s)).2.2.2.2.2.length cd db) ∧ Below w.heap.size w w' := by
  have HE : Hid (decE (bs s) = if (parse (bs s)).2 = ([], false) then goodN (parse (bs s)).1.1 (parse (bs s)).1.2.1 (parse (bs s)).1.2.2.1 (parse (bs s)).1.2.2.2.1 (parse (bs s)).1.2.2.2.2.1 (parse (bs s)).1.2.2.2.2.2 else 1) := rfl
  have HP : Hid (decP (bs s) = if decE (bs s) = 0 then (parse (bs s)).1 else (0, 0, 0, 0, [], [])) := rfl
  generalize decE (bs s) = E at *
  generalize decP (bs s) = R at *
  have hpk := fun (w : World) (b : Nat) (h : TS w b (bs s, false)) => packet_parse b (bs s) w h (bs_byte s)
  have HPK : Hid _ := hpk
  clear hpk
  generalize parse (bs s) = pr at *
  obtain ⟨⟨k, i, v, n, S, D⟩, st⟩ := pr
  dsimp only at HE HP HPK
  go_enter Tryz.func14, Tryz.ntmps14
  go_wp2_with fail
  have hTS : TS ((w.alloc (Obj.cells #[Value.int IntKind.i64 0, Value.int IntKind.i64 0, Value.int IntKind.i64 0, Value.int IntKind.i64 0, Value.slice none 0 0, Value.slice none 0 0] 49)).alloc (Obj.cells #[Value.string s, Value.bool false] 103)) (w.heap.size + 1) (bs s, false) := by
    refine ⟨s, ?_, rfl, hs⟩
    unfold TAt
    have e : w.heap.size + 1 = (w.alloc (Obj.cells #[Value.int IntKind.i64 0, Value.int IntKind.i64 0, Value.int IntKind.i64 0, Value.int IntKind.i64 0, Value.slice none 0 0, Value.slice none 0 0] 49)).heap.size := by simp
    rw [e]; exact heap_alloc_new _ _
  refine (HPK.out _ _ hTS).mono ?_
  rintro e w1 ⟨u, d, rfl, hr2, hr1, hT1, hg1⟩
  have hz1 : w.heap.size + 2 ≤ w1.heap.size := by have := hg1.size; simpa using this
  have hB1 : Below w.heap.size w w1 := by
    have hb0 : Below w.heap.size w ((w.alloc (Obj.cells #[Value.int IntKind.i64 0, Value.int IntKind.i64 0, Value.int IntKind.i64 0, Value.int IntKind.i64 0, Value.slice none 0 0, Value.slice none 0 0] 49)).alloc (Obj.cells #[Value.string s, Value.bool false] 103)) := (below_new w _).alloc (by simp) _
    exact hb0.grown hg1 (by simp; omega) (fun k hk => by cases hk; omega)
  have hR1 : BoxAt w1 w.heap.size (.int .i64 0) (.int .i64 0) (.int .i64 0) (.int .i64 0) (.slice none 0 0) (.slice none 0 0) := by
    refine BoxAt.keep (w := (w.alloc (Obj.cells #[Value.int IntKind.i64 0, Value.int IntKind.i64 0, Value.int IntKind.i64 0, Value.int IntKind.i64 0, Value.slice none 0 0, Value.slice none 0 0] 49)).alloc (Obj.cells #[Value.string s, Value.bool false] 103)) ?_ hg1 (by simp)
    exact (Below.heap_alloc _ _ _ (by simp)).trans (heap_alloc_new _ _)
  obtain ⟨ua, uc, ug, rfl, l1, l2, l3, l4, l5⟩ := hr2.lies
  obtain ⟨xa, xc, xg, rfl, m1, m2, m3, m4, m5⟩ := hr1.lies
  have HRM : Hid (Rm w.heap.size ua S.length uc ug ∧ Rm w.heap.size xa D.length xc xg) := ⟨⟨l5.1, l5.2, fun h => by have := l4 h; simp at this; omega⟩, ⟨m5.1, m5.2, fun h => by have := m4 h; simp at this; omega⟩⟩
  clear l5 m5
  have HNE : Hid ((0 < S.length → ug ≠ w.heap.size) ∧ (0 < D.length → xg ≠ w.heap.size)) := ⟨fun h e => by have := l4 h; simp at this; omega, fun h e => by have := m4 h; simp at this; omega⟩
  have L1 : Lies w1 S D ua xa ug 0 xg 0 := ⟨l1, m1, l2, m2, l3, m3⟩
  obtain ⟨r, hTA, hbr, hrs⟩ := hT1
  clear hr2 hr1 l1 l2 l3 l4 m1 m2 m3 m4 hg1 HPK hTS
  obtain ⟨rest, sh⟩ := st
  dsimp only at hTA hbr
  subst hbr
  obtain ⟨t0, t1, tf0, tf1⟩ := hTA.cells
  have hz1a : w.heap.size < w1.heap.size := by omega
  have hz1b : w.heap.size + 1 < w1.heap.size := by omega
  obtain ⟨d0, d1, d2, d3, d4, d5, df⟩ := hR1.cells
  unfold maxLen at hrs
  by_cases hst : (bs r, sh) = (([] : List Int), false)
  · have HE1 : Hid (E = goodN k i v n S D) := by show _ = _; rw [HE.out, if_pos hst]
    obtain ⟨hcl, rfl⟩ := Prod.mk.inj hst
    have hr0 : r.size = 0 := by rw [← bs_length, hcl]; rfl
    have hn : ((r.size : Int) != 0) = false := by rw [hr0]; rfl
    clear HE hst hcl hr0
    have LB := L1.later (below_new w1 (Obj.cells #[Value.int IntKind.i64 k, Value.int IntKind.i64 i, Value.int IntKind.i64 v, Value.int IntKind.i64 n, Value.slice ua S.length uc, Value.slice xa D.length xc] 49))
    have hgood := good_any k i v n S D ua xa uc xc ug 0 xg 0 _ LB.hls LB.hld LB.hsa LB.hda LB.PS LB.PD
    have PKB := pkAt_new w1 k i v n (.slice ua S.length uc) (.slice xa D.length xc)
    go_wp2_with fail
    refine hgood.mono ?_
    rintro e w2 ⟨rfl, hb2⟩
    have PK2 := PKB.later hb2 (by simp)
    have hbs := below_step hb2
    have L2 := L1.later hbs
    have hB2 := below_then hB1 hbs
    have hR2 : BoxAt w2 w.heap.size (.int .i64 0) (.int .i64 0) (.int .i64 0) (.int .i64 0) (.slice none 0 0) (.slice none 0 0) := hR1.keep (r := none) ⟨hbs.os, hbs.tape, hbs.output, hbs.size, fun k hk _ => hbs.block k hk⟩ (by simp)
    clear hgood hb2 PKB hbs L1 hB1 hR1 LB t0 t1 tf0 tf1 d0 d1 d2 d3 d4 d5 df hTA
    obtain ⟨d0, d1, d2, d3, d4, d5, df⟩ := hR2.cells
    obtain ⟨c0, c1, c2, c3, c4, c5⟩ := id PK2
    by_cases hG : goodN k i v n S D = 0
    · have HP1 : Hid (R = (k, i, v, n, S, D)) := by show _ = _; rw [HP.out, HE1.out, if_pos hG]
      have HE2 : Hid (E = 0) := HE1.out.trans hG
      rw [hG] at *
      have HC : Hid _ := set6_cells (w := w2) (b := w.heap.size) (.int .i64 k) (.int .i64 i) (.int .i64 v) (.int .i64 n) (.slice ua S.length uc) (.slice xa D.length xc) hR2.six
      have HBB : Hid _ := set6_below (b := w.heap.size) (.int .i64 k) (.int .i64 i) (.int .i64 v) (.int .i64 n) (.slice ua S.length uc) (.slice xa D.length xc) hB2 (Nat.le_refl _)
      have HLL : Hid _ := L2.set6 w.heap.size HNE.out (.int .i64 k) (.int .i64 i) (.int .i64 v) (.int .i64 n) (.slice ua S.length uc) (.slice xa D.length xc)
      clear HP HE1 hB2 hR2 L2 HNE PK2
      go_wp2
      show bodyPost Tryz.prog Tryz.f14 _ Exit.ret _ (set6 w2 w.heap.size (.int .i64 k) (.int .i64 i) (.int .i64 v) (.int .i64 n) (.slice ua S.length uc) (.slice xa D.length xc))
      obtain ⟨e0, e1, e2, e3, e4, e5⟩ := HC.out
      have hBB := HBB.out
      have hLL := HLL.out
      clear HC HBB HLL
      generalize set6 w2 w.heap.size (.int .i64 k) (.int .i64 i) (.int .i64 v) (.int .i64 n) (.slice ua S.length uc) (.slice xa D.length xc) = w9 at *
      exact bodyPost_ret (v := .tuple #[.agg #[.int .i64 k, .int .i64 i, .int .i64 v, .int .i64 n, .slice ua S.length uc, .slice xa D.length xc], .int .i64 0]) (by simp [results, Tryz.results14, go_sem, e0, e1, e2, e3, e4, e5]) rfl
        ⟨ua, xa, uc, xc, ug, 0, xg, 0, by rw [HE2.out, HP1.out], by rw [HP1.out]; exact hLL, by rw [HP1.out]; exact HRM.out, hBB⟩
    · have HP1 : Hid (R = (0, 0, 0, 0, [], [])) := by show _ = _; rw [HP.out, HE1.out, if_neg hG]
      have hGb : (goodN k i v n S D != 0) = true := by simpa using hG
      have HC : Hid _ := set6_cells (w := w2) (b := w.heap.size) (.int .i64 0) (.int .i64 0) (.int .i64 0) (.int .i64 0) (.slice none 0 0) (.slice none 0 0) hR2.six
      have HBB : Hid _ := set6_below (b := w.heap.size) (.int .i64 0) (.int .i64 0) (.int .i64 0) (.int .i64 0) (.slice none 0 0) (.slice none 0 0) hB2 (Nat.le_refl _)
      clear HP hB2 hR2 L2 HNE PK2 hG
      generalize goodN k i v n S D = G at *
      go_wp2
      show bodyPost Tryz.prog Tryz.f14 _ Exit.ret _ (set6 w2 w.heap.size (.int .i64 0) (.int .i64 0) (.int .i64 0) (.int .i64 0) (.slice none 0 0) (.slice none 0 0))
      obtain ⟨e0, e1, e2, e3, e4, e5⟩ := HC.out
      have hBB := HBB.out
      clear HC HBB
      generalize set6 w2 w.heap.size (.int .i64 0) (.int .i64 0) (.int .i64 0) (.int .i64 0) (.slice none 0 0) (.slice none 0 0) = w9 at *
      exact bodyPost_ret (v := .tuple #[.agg #[.int .i64 0, .int .i64 0, .int .i64 0, .int .i64 0, .slice none 0 0, .slice none 0 0], .int .i64 G]) (by simp [results, Tryz.results14, go_sem, e0, e1, e2, e3, e4, e5]) rfl
        ⟨none, none, 0, 0, 0, 0, 0, 0, by rw [HE1.out, HP1.out]; rfl, by rw [HP1.out]; exact lies_nil _, by rw [HP1.out]; exact rm_nil _, hBB⟩
  · have HE1 : Hid (E = 1) := by show _ = _; rw [HE.out, if_neg hst]
    have HP1 : Hid (R = (0, 0, 0, 0, [], [])) := by show _ = _; rw [HP.out, HE1.out, if_neg (by decide)]
    have HEND : Hid _ := dec_end hR1 hB1 (.int .i64 0) (.int .i64 0) (.int .i64 0) (.int .i64 0) (.slice none 0 0) (.slice none 0 0) (Obj.cells #[Value.int IntKind.i64 k, Value.int IntKind.i64 i, Value.int IntKind.i64 v, Value.int IntKind.i64 n, Value.slice ua S.length uc, Value.slice xa D.length xc] 49)
    have hn : sh = true ∨ (sh = false ∧ ((r.size : Int) != 0) = true) := by
      cases sh with
      | true => exact .inl rfl
      | false =>
        refine .inr ⟨rfl, ?_⟩
        have : r.size ≠ 0 := fun h => hst (by rw [List.eq_nil_of_length_eq_zero (show (bs r).length = 0 by rw [bs_length]; exact h)])
        rw [bne_iff_ne]; omega
    clear HE HP hst hR1 hB1 L1 HNE hTA
    rcases hn with rfl | ⟨rfl, hn⟩
    all_goals
      go_wp2
      show bodyPost Tryz.prog Tryz.f14 _ Exit.ret _ ((set6 w1 w.heap.size (.int .i64 0) (.int .i64 0) (.int .i64 0) (.int .i64 0) (.slice none 0 0) (.slice none 0 0)).alloc (Obj.cells #[Value.int IntKind.i64 k, Value.int IntKind.i64 i, Value.int IntKind.i64 v, Value.int IntKind.i64 n, Value.slice ua S.length uc, Value.slice xa D.length xc] 49))
      obtain ⟨e0, e1, e2, e3, e4, e5, hB⟩ := HEND.out
      generalize (set6 w1 w.heap.size (.int .i64 0) (.int .i64 0) (.int .i64 0) (.int .i64 0) (.slice none 0 0) (.slice none 0 0)).alloc (Obj.cells #[Value.int IntKind.i64 k, Value.int IntKind.i64 i, Value.int IntKind.i64 v, Value.int IntKind.i64 n, Value.slice ua S.length uc, Value.slice xa D.length xc] 49) = w9 at *
      exact bodyPost_ret (v := .tuple #[.agg #[.int .i64 0, .int .i64 0, .int .i64 0, .int .i64 0, .slice none 0 0, .slice none 0 0], .int .i64 1]) (by simp [results, Tryz.results14, go_sem, e0, e1, e2, e3, e4, e5]) rfl
        ⟨none, none, 0, 0, 0, 0, 0, 0, by rw [HE1.out, HP1.out]; rfl, by rw [HP1.out]; exact lies_nil _, by rw [HP1.out]; exact rm_nil _, hB⟩
end Go.Proofs.YtjghbciepinofaaGreat.Cd

set_option maxRecDepth 100000
namespace Go.Proofs.YtjghbciepinofaaGreat.Cd
open Go.RowKit
theorem numF_split : ∀ (t : List Int) (x : Int), numF x t = x * 2 ^ (8 * t.length) + numF 0 t := by
  intro t
  induction t with
  | nil => intro x; simp [numF]
  | cons c t ih =>
    intro x
    have h1 : numF x (c :: t) = numF (x * 256 + c) t := rfl
    have h2 : numF 0 (c :: t) = numF (0 * 256 + c) t := rfl
    rw [h1, h2, ih (x * 256 + c), ih (0 * 256 + c), List.length_cons, pow_succ8, Int.add_mul, Int.zero_mul, Int.zero_add, Int.mul_assoc, Int.mul_comm 256]
    omega
theorem be_num (a : List Int) (h : Bytes a) : ∀ acc : Int, be (numF acc a) a.length = a := by
  induction a with
  | nil => intro _; rfl
  | cons c t ih =>
    intro acc
    have ht : Bytes t := fun x hx => h x (List.mem_cons_of_mem _ hx)
    have hc := h c (List.mem_cons_self ..)
    have h1 : numF acc (c :: t) = numF (acc * 256 + c) t := rfl
    have hb := numF_bound t 0 0 ht (by omega) (by omega)
    rw [Nat.zero_add] at hb
    rw [h1, List.length_cons, be, ih ht (acc * 256 + c), numF_split t (acc * 256 + c)]
    congr 1
    rw [Int.mul_comm, Int.add_comm, Int.add_mul_ediv_left _ _ (by have := pow_pos8 t.length; omega), Int.ediv_eq_zero_of_lt hb.1 hb.2]
    omega
theorem tk_flag {m : Nat} {st : List Int × Bool} (h : (tk m st).2.2 = false) : st.2 = false ∧ m ≤ st.1.length := by
  unfold tk at h
  split at h
  · cases h
  · exact ⟨h, by omega⟩
theorem tk_app (a l : List Int) (m : Nat) (hm : a.length = m) : tk m (a ++ l, false) = (numF 0 a, (l, false)) := by
  subst hm
  rw [tk, if_neg (by simp)]
  simp
theorem tk_read {m : Nat} {l : List Int} {x : Int} {l' : List Int} (h : tk m (l, false) = (x, (l', false))) : ∃ a, a.length = m ∧ l = a ++ l' ∧ x = numF 0 a := by
  have hf := tk_flag (m := m) (st := (l, false)) (by rw [h])
  rw [tk, if_neg (by have := hf.2; dsimp only at this ⊢; omega)] at h
  simp only [Prod.mk.injEq] at h
  obtain ⟨rfl, rfl, _⟩ := h
  exact ⟨l.take m, by rw [List.length_take]; have := hf.2; dsimp only at this; omega, (List.take_append_drop m l).symm, rfl⟩
theorem tkP_flag : ∀ (m : Nat) {st : List Int × Bool}, (tkP m st).2.2 = false → st.2 = false := by
  intro m
  induction m with
  | zero => intro st h; exact h
  | succ m ih => intro st h; exact (tk_flag (tk_flag (ih h)).1).1
theorem tkD_flag : ∀ (m : Nat) {st : List Int × Bool}, (tkD m st).2.2 = false → st.2 = false := by
  intro m
  induction m with
  | zero => intro st h; exact h
  | succ m ih => intro st h; exact (tk_flag (ih h)).1
theorem tkP_app (X : List Int) : ∀ (S : List (Int × Int)), (∀ p ∈ S, 0 ≤ p.1 ∧ p.1 < 256 ∧ 0 ≤ p.2 ∧ p.2 < 72057594037927936) → tkP S.length (S.flatMap encP ++ X, false) = (S, (X, false)) := by
  intro S
  induction S with
  | nil => intro _; rfl
  | cons p t ih =>
    intro h
    have hp := h p (List.mem_cons_self ..)
    have e1 : tk 1 ((p :: t).flatMap encP ++ X, false) = (p.1, (be p.2 7 ++ (t.flatMap encP ++ X), false)) := by
      rw [List.flatMap_cons, encP, List.append_assoc, List.append_assoc, tk_app _ _ 1 (be_length _ _), num_be hp.1 (by omega)]
    have e2 : tk 7 (be p.2 7 ++ (t.flatMap encP ++ X), false) = (p.2, (t.flatMap encP ++ X, false)) := by
      rw [tk_app _ _ 7 (be_length _ _), num_be hp.2.2.1 (by omega)]
    rw [List.length_cons, tkP, e1]
    dsimp only
    rw [e2]
    dsimp only
    rw [ih (fun q hq => h q (List.mem_cons_of_mem _ hq))]
theorem tkD_app (X : List Int) : ∀ (D : List Int), (∀ p ∈ D, 0 ≤ p ∧ p < 256) → tkD D.length (D.flatMap (be · 1) ++ X, false) = (D, (X, false)) := by
  intro D
  induction D with
  | nil => intro _; rfl
  | cons p t ih =>
    intro h
    have hp := h p (List.mem_cons_self ..)
    have e1 : tk 1 ((p :: t).flatMap (be · 1) ++ X, false) = (p, (t.flatMap (be · 1) ++ X, false)) := by
      rw [List.flatMap_cons, List.append_assoc, tk_app _ _ 1 (be_length _ _), num_be hp.1 (by omega)]
    rw [List.length_cons, tkD, e1]
    dsimp only
    rw [ih (fun q hq => h q (List.mem_cons_of_mem _ hq))]
/-- the bytes of a right packet, and something behind, are read as it was, and what is behind is left -/
theorem parse_enc {k i v n : Int} {S : List (Int × Int)} {D : List Int} (h : goodN k i v n S D = 0) (X : List Int) : parse (enc k i v n S D ++ X) = ((k, i, v, n, S, D), (X, false)) := by
  obtain ⟨b1, b2, b3, b4, b5, b6, b7, b8⟩ := good_bounds h
  obtain ⟨l1, l2, l3, l4⟩ := good_lists h
  have hS := pws_bounds S (-1) (by omega) l1
  have hD := nums_bounds D (-1) (by omega) l2
  have e0 : enc k i v n S D ++ X = be k 1 ++ (be i 6 ++ (be v 1 ++ (be n 7 ++ (be S.length 1 ++ (S.flatMap encP ++ (be D.length 1 ++ (D.flatMap (be · 1) ++ X))))))) := by simp [enc, encH]
  rw [e0]
  have e1 : p1 (be k 1 ++ (be i 6 ++ (be v 1 ++ (be n 7 ++ (be S.length 1 ++ (S.flatMap encP ++ (be D.length 1 ++ (D.flatMap (be · 1) ++ X)))))))) = (k, (be i 6 ++ (be v 1 ++ (be n 7 ++ (be S.length 1 ++ (S.flatMap encP ++ (be D.length 1 ++ (D.flatMap (be · 1) ++ X)))))), false)) := by
    rw [p1, tk_app _ _ 1 (be_length _ _), num_be (by omega) (by omega)]
  generalize be k 1 ++ (be i 6 ++ (be v 1 ++ (be n 7 ++ (be S.length 1 ++ (S.flatMap encP ++ (be D.length 1 ++ (D.flatMap (be · 1) ++ X))))))) = l at *
  have e2 : p2 l = (i, (be v 1 ++ (be n 7 ++ (be S.length 1 ++ (S.flatMap encP ++ (be D.length 1 ++ (D.flatMap (be · 1) ++ X))))), false)) := by
    rw [p2, e1]; dsimp only; rw [tk_app _ _ 6 (be_length _ _), num_be (by omega) (by omega)]
  have e3 : p3 l = (v, (be n 7 ++ (be S.length 1 ++ (S.flatMap encP ++ (be D.length 1 ++ (D.flatMap (be · 1) ++ X)))), false)) := by
    rw [p3, e2]; dsimp only; rw [tk_app _ _ 1 (be_length _ _), num_be (by omega) (by omega)]
  have e4 : p4 l = (n, (be S.length 1 ++ (S.flatMap encP ++ (be D.length 1 ++ (D.flatMap (be · 1) ++ X))), false)) := by
    rw [p4, e3]; dsimp only; rw [tk_app _ _ 7 (be_length _ _), num_be (by omega) (by omega)]
  have e5 : p5 l = ((S.length : Int), (S.flatMap encP ++ (be D.length 1 ++ (D.flatMap (be · 1) ++ X)), false)) := by
    rw [p5, e4]; dsimp only; rw [tk_app _ _ 1 (be_length _ _), num_be (by omega) (by omega)]
  have e6 : p6 l = (S, (be D.length 1 ++ (D.flatMap (be · 1) ++ X), false)) := by
    rw [p6, e5]; dsimp only; rw [Int.toNat_natCast, tkP_app _ S (fun p hp => by have := hS p hp; omega)]
  have e7 : p7 l = ((D.length : Int), (D.flatMap (be · 1) ++ X, false)) := by
    rw [p7, e6]; dsimp only; rw [tk_app _ _ 1 (be_length _ _), num_be (by omega) (by omega)]
  have e8 : p8 l = (D, (X, false)) := by
    rw [p8, e7]; dsimp only; rw [Int.toNat_natCast, tkD_app _ D (fun p hp => by have := hD p hp; omega)]
  rw [parse, e1, e2, e3, e4, e6, e8]
theorem tkP_read : ∀ (m : Nat) {l l' : List Int} {S : List (Int × Int)}, Bytes l → tkP m (l, false) = (S, (l', false)) → S.length = m ∧ l = S.flatMap encP ++ l' := by
  intro m
  induction m with
  | zero => intro l l' S _ h; simp only [tkP, Prod.mk.injEq] at h; obtain ⟨rfl, rfl, _⟩ := h; exact ⟨rfl, rfl⟩
  | succ m ih =>
    intro l l' S hb h
    rcases e1 : tk 1 (l, false) with ⟨y, l1, f1⟩
    rcases e2 : tk 7 (l1, f1) with ⟨z, l2, f2⟩
    rcases e3 : tkP m (l2, f2) with ⟨T, l3, f3⟩
    rw [tkP, e1] at h
    dsimp only at h
    rw [e2] at h
    dsimp only at h
    rw [e3] at h
    simp only [Prod.mk.injEq] at h
    obtain ⟨rfl, rfl, rfl⟩ := h
    have g2 := tkP_flag m (st := (l2, f2)) (by rw [e3])
    dsimp only at g2
    subst g2
    have g1 := (tk_flag (m := 7) (st := (l1, f1)) (by rw [e2])).1
    dsimp only at g1
    subst g1
    obtain ⟨a, ha, rfl, rfl⟩ := tk_read e1
    obtain ⟨c, hc, rfl, rfl⟩ := tk_read e2
    have ba : Bytes a := fun x hx => hb x (by simp [hx])
    have bc : Bytes c := fun x hx => hb x (by simp [hx])
    have b2 : Bytes l2 := fun x hx => hb x (by simp [hx])
    obtain ⟨r1, r2⟩ := ih b2 e3
    refine ⟨by simp [r1], ?_⟩
    have q1 := be_num a ba 0
    have q2 := be_num c bc 0
    rw [ha] at q1
    rw [hc] at q2
    rw [List.flatMap_cons, encP]
    dsimp only
    rw [q1, q2, List.append_assoc, List.append_assoc, ← r2]
theorem tkD_read : ∀ (m : Nat) {l l' : List Int} {D : List Int}, Bytes l → tkD m (l, false) = (D, (l', false)) → D.length = m ∧ l = D.flatMap (be · 1) ++ l' := by
  intro m
  induction m with
  | zero => intro l l' S _ h; simp only [tkD, Prod.mk.injEq] at h; obtain ⟨rfl, rfl, _⟩ := h; exact ⟨rfl, rfl⟩
  | succ m ih =>
    intro l l' S hb h
    rcases e1 : tk 1 (l, false) with ⟨y, l1, f1⟩
    rcases e3 : tkD m (l1, f1) with ⟨T, l3, f3⟩
    rw [tkD, e1] at h
    dsimp only at h
    rw [e3] at h
    simp only [Prod.mk.injEq] at h
    obtain ⟨rfl, rfl, rfl⟩ := h
    have g1 := tkD_flag m (st := (l1, f1)) (by rw [e3])
    dsimp only at g1
    subst g1
    obtain ⟨a, ha, rfl, rfl⟩ := tk_read e1
    have ba : Bytes a := fun x hx => hb x (by simp [hx])
    have b2 : Bytes l1 := fun x hx => hb x (by simp [hx])
    obtain ⟨r1, r2⟩ := ih b2 e3
    refine ⟨by simp [r1], ?_⟩
    have q1 := be_num a ba 0
    rw [ha] at q1
    rw [List.flatMap_cons, q1, List.append_assoc, ← r2]
/-- what is read without want has just these bytes, and what is left -/
theorem parse_read {l r : List Int} {k i v n : Int} {S : List (Int × Int)} {D : List Int} (hb : Bytes l) (h : parse l = ((k, i, v, n, S, D), (r, false))) : l = enc k i v n S D ++ r := by
  have hbd := parse_bounds l hb
  rcases e1 : p1 l with ⟨x1, l1, f1⟩
  rcases e2 : p2 l with ⟨x2, l2, f2⟩
  rcases e3 : p3 l with ⟨x3, l3, f3⟩
  rcases e4 : p4 l with ⟨x4, l4, f4⟩
  rcases e5 : p5 l with ⟨c, l5, f5⟩
  rcases e6 : p6 l with ⟨S', l6, f6⟩
  rcases e7 : p7 l with ⟨d, l7, f7⟩
  rcases e8 : p8 l with ⟨D', l8, f8⟩
  rw [parse, e1, e2, e3, e4, e6, e8] at h
  simp only [Prod.mk.injEq] at h
  obtain ⟨⟨rfl, rfl, rfl, rfl, rfl, rfl⟩, rfl, rfl⟩ := h
  rw [e5, e7] at hbd
  dsimp only at hbd
  have n1 := e1
  rw [p1] at n1
  have n2 := e2
  rw [p2, e1] at n2
  dsimp only at n2
  have n3 := e3
  rw [p3, e2] at n3
  dsimp only at n3
  have n4 := e4
  rw [p4, e3] at n4
  dsimp only at n4
  have n5 := e5
  rw [p5, e4] at n5
  dsimp only at n5
  have n6 := e6
  rw [p6, e5] at n6
  dsimp only at n6
  have n7 := e7
  rw [p7, e6] at n7
  dsimp only at n7
  have n8 := e8
  rw [p8, e7] at n8
  dsimp only at n8
  clear e1 e2 e3 e4 e5 e6 e7 e8
  have g7 := tkD_flag d.toNat (st := (l7, f7)) (by rw [n8])
  dsimp only at g7
  subst g7
  have g6 := (tk_flag (m := 1) (st := (l6, f6)) (by rw [n7])).1
  dsimp only at g6
  subst g6
  have g5 := tkP_flag c.toNat (st := (l5, f5)) (by rw [n6])
  dsimp only at g5
  subst g5
  have g4 := (tk_flag (m := 1) (st := (l4, f4)) (by rw [n5])).1
  dsimp only at g4
  subst g4
  have g3 := (tk_flag (m := 7) (st := (l3, f3)) (by rw [n4])).1
  dsimp only at g3
  subst g3
  have g2 := (tk_flag (m := 1) (st := (l2, f2)) (by rw [n3])).1
  dsimp only at g2
  subst g2
  have g1 := (tk_flag (m := 6) (st := (l1, f1)) (by rw [n2])).1
  dsimp only at g1
  subst g1
  obtain ⟨a1, h1, rfl, rfl⟩ := tk_read n1
  obtain ⟨a2, h2, rfl, rfl⟩ := tk_read n2
  obtain ⟨a3, h3, rfl, rfl⟩ := tk_read n3
  obtain ⟨a4, h4, rfl, rfl⟩ := tk_read n4
  obtain ⟨a5, h5, rfl, rfl⟩ := tk_read n5
  have b5 : Bytes l5 := fun x hx => hb x (by simp [hx])
  obtain ⟨r1, r2⟩ := tkP_read _ b5 n6
  obtain ⟨a7, h7, rfl, rfl⟩ := tk_read n7
  have b7 : Bytes l7 := fun x hx => hb x (by rw [r2]; simp [hx])
  obtain ⟨r3, r4⟩ := tkD_read _ b7 n8
  have q1 := be_num a1 (fun x hx => hb x (by simp [hx])) 0
  have q2 := be_num a2 (fun x hx => hb x (by simp [hx])) 0
  have q3 := be_num a3 (fun x hx => hb x (by simp [hx])) 0
  have q4 := be_num a4 (fun x hx => hb x (by simp [hx])) 0
  have q5 := be_num a5 (fun x hx => hb x (by simp [hx])) 0
  have q7 := be_num a7 (fun x hx => hb x (by rw [r2]; simp [hx])) 0
  rw [h1] at q1
  rw [h2] at q2
  rw [h3] at q3
  rw [h4] at q4
  rw [h5] at q5
  rw [h7] at q7
  have w5 : (S'.length : Int) = numF 0 a5 := by omega
  have w7 : (D'.length : Int) = numF 0 a7 := by omega
  unfold enc encH
  rw [q1, q2, q3, q4, w5, q5, w7, q7, r2, r4]
  simp
/-- what Decode answers, in words -/
theorem decE_read {l : List Int} (hb : Bytes l) (h : decE l = 0) : goodN (decP l).1 (decP l).2.1 (decP l).2.2.1 (decP l).2.2.2.1 (decP l).2.2.2.2.1 (decP l).2.2.2.2.2 = 0 ∧ enc (decP l).1 (decP l).2.1 (decP l).2.2.1 (decP l).2.2.2.1 (decP l).2.2.2.2.1 (decP l).2.2.2.2.2 = l := by
  have hP : decP l = (parse l).1 := by rw [decP, if_pos h]
  rw [hP]
  unfold decE at h
  split at h
  · rename_i h2
    rcases e : parse l with ⟨⟨k', i', v', n', S', D'⟩, st⟩
    rw [e] at h h2
    dsimp only at h2
    subst h2
    have h3 := parse_read hb e
    rw [List.append_nil] at h3
    exact ⟨h, h3.symm⟩
  · cases h
theorem dec_enc {k i v n : Int} {S : List (Int × Int)} {D : List Int} (h : goodN k i v n S D = 0) : decE (enc k i v n S D) = 0 ∧ decP (enc k i v n S D) = (k, i, v, n, S, D) := by
  have h4 := parse_enc h []
  rw [List.append_nil] at h4
  have hE : decE (enc k i v n S D) = 0 := by rw [decE, h4, if_pos rfl]; exact h
  exact ⟨hE, by rw [decP, if_pos hE, h4]⟩
end Go.Proofs.YtjghbciepinofaaGreat.Cd

set_option maxRecDepth 100000
namespace Go.Proofs.YtjghbciepinofaaGreat.Pv
open Go.RowKit
def isT (n : Int) : Bool := decide (0 ≤ n) && decide (n ≤ 1099511627776)
/-- P7.5 -/
def pktOf (l : List Int) : Pkt := ⟨(Cd.decP l).1, (Cd.decP l).2.1, (Cd.decP l).2.2.1, (Cd.decP l).2.2.2.1, (Cd.decP l).2.2.2.2.1, (Cd.decP l).2.2.2.2.2⟩
/-- one element is put behind a list that has no room: a new block -/
theorem apR {P : Nat → Prop} (t e : TypeId) (i0 : TypeInfo) (z : Value) (hu : Tryz.prog.underlying t = some (.slice e)) (hi : Tryz.prog.info? e = some i0) (hz0 : i0.zero = some z) (w : World) (A : Option Addr) (n y bt : Nat) (cs news : List Value) (hr : Rep P w (.slice A n n) i0.size bt cs) (hb : n * i0.bytes ≤ 140737488351232) (hb1 : 0 < i0.bytes) (hb2 : i0.bytes ≤ 1000) (hl : news.length = i0.size) (hy : ∀ j v, news[j]? = some v → w.cell? ⟨y, j, none⟩ = some v) :
    ∃ C w', (Builtin.append_ #[t, t] t #[.slice A n n, .slice (some ⟨y, 0, none⟩) 1 1]).run Tryz.prog w = .ok (.slice (some ⟨w.heap.size, 0, none⟩) (n + 1) C) w' ∧ n + 1 ≤ C ∧ (∀ j u, (cs ++ news)[j]? = some u → w'.cell? ⟨w.heap.size, j, none⟩ = some u) ∧ Below w.heap.size w w' ∧ w.heap.size < w'.heap.size := by
  have hnews : ∀ j v, news[j]? = some v → w.cell? ((⟨y, 0, none⟩ : Addr).add j) = some v := fun j v hv => by rw [Addr.add_lit, Nat.zero_add]; exact hy j v hv
  have hn63 : n ≤ 140737488351232 := by
    have := Nat.le_mul_of_pos_right n hb1
    omega
  obtain ⟨A', n', C', h1, h2, h3, h4, h5⟩ := hr
  cases h1
  have new : ∀ (arr tail : Array Value), arr.toList = cs ++ news → ∀ j u, (cs ++ news)[j]? = some u → (w.drew.alloc (.cells (arr ++ tail) e)).cell? ⟨w.heap.size, j, none⟩ = some u := fun arr tail ha j u hj => by
    have hj' : arr[j]? = some u := by rw [← ha] at hj; simpa using hj
    have hlt := (Array.getElem?_eq_some_iff.1 hj').1
    have h : (w.drew.alloc (.cells (arr ++ tail) e)).heap[w.heap.size]? = some (.cells (arr ++ tail) e) := heap_alloc_new w.drew _
    simp only [World.cell?, h]
    rw [Array.getElem?_append_left hlt]
    simp [hj']
  cases A with
  | none =>
    have h0 : n = 0 := by
      rcases Nat.eq_zero_or_pos n with h | h
      · exact h
      · obtain ⟨b, off, e, _⟩ := h5 h; cases e
    subst h0
    have hc0 : cs = [] := List.length_eq_zero_iff.1 (by rw [h2, Nat.zero_mul])
    subst hc0
    refine ⟨_, _, run_append_nil (P := Tryz.prog) w t t e i0 z hu hi hz0 ⟨y, 0, none⟩ 1 1 news (by rw [hl, Nat.one_mul]) hnews (by omega) (by omega) (by omega), grownCap_ge _ _ _ _, ?_, (Below.refl _ w).drew.alloc (Nat.le_refl _) _, by simp⟩
    exact new _ _ (by simp)
  | some a =>
    have hold : ∀ j v, cs[j]? = some v → w.cell? (a.add j) = some v := fun j v hv => by
      have h0 : 0 < n := by
        rcases Nat.eq_zero_or_pos n with h | h
        · subst h
          have := (List.getElem?_eq_some_iff.1 hv).1
          rw [h2, Nat.zero_mul] at this
          omega
        · exact h
      obtain ⟨b, off, e, _, _, hc⟩ := h5 h0
      cases e
      rw [Addr.add_lit]
      exact hc j v hv
    have hcap : Builtin.nextslicecap (n + 1) n * i0.bytes ≤ 281474976710656 := by
      rcases Nat.eq_zero_or_pos n with rfl | hp
      · rw [nextslicecap_zero (by omega)]; omega
      · have := Nat.mul_le_mul_right i0.bytes (nextslicecap_succ hp)
        rw [Nat.mul_assoc] at this
        omega
    refine ⟨_, _, run_append_grow (P := Tryz.prog) w t t e i0 z hu hi hz0 a n n cs h2 hold ⟨y, 0, none⟩ 1 1 news (by rw [hl, Nat.one_mul]) hnews (by omega) (by omega) hcap, grownCap_ge _ _ _ _, ?_, (Below.refl _ w).drew.alloc (Nat.le_refl _) _, by simp⟩
    exact new _ _ (by simp)
theorem Rep.clip {P : Nat → Prop} {w : World} {A : Option Addr} {n C sz bts : Nat} {cs : List Value} (h : Rep P w (.slice A n C) sz bts cs) : Rep P w (.slice A n n) sz bts cs := by
  obtain ⟨A', n', C', h1, h2, h3, h4, h5⟩ := h
  cases h1
  refine ⟨A, n, n, rfl, h2, h3, ⟨fun e => ?_, Nat.le_refl _⟩, h5⟩
  have := h4.1 e
  omega
theorem rep_empty {P : Nat → Prop} {w : World} {A : Option Addr} {C sz bts : Nat} (h : A = none → C = 0) : Rep P w (.slice A 0 C) sz bts [] := ⟨A, 0, C, rfl, by simp, by simp, ⟨h, Nat.zero_le _⟩, fun h => absurd h (by omega)⟩
/-- what a good packet is -/
theorem good_pkt {k i v n : Int} {S : List (Int × Int)} {D : List Int} (h : Cd.goodN k i v n S D = 0) : (1 ≤ k ∧ k ≤ 4) ∧ (1 ≤ i ∧ i ≤ 1099511627776) ∧ (k = 3 ∨ k = 4 → 0 ≤ v ∧ v < 6) ∧ (k ≠ 1 → S = [] ∧ D = []) := by
  unfold Cd.goodN at h
  by_cases h1 : k < 1 ∨ 4 < k
  · rw [if_pos h1] at h; exact absurd h (by decide)
  rw [if_neg h1] at h
  by_cases h2 : i < 1 ∨ 1099511627776 < i
  · rw [if_pos h2] at h; exact absurd h (by decide)
  rw [if_neg h2] at h
  by_cases h3 : Cd.accB k = true ∧ (Cd.isV v = false ∨ n < 1 ∨ 1125899906842624 < n)
  · rw [if_pos h3] at h; exact absurd h (by decide)
  rw [if_neg h3] at h
  by_cases h4 : Cd.forB k v n S.length D.length = true
  · rw [if_pos h4] at h; exact absurd h (by decide)
  refine ⟨by omega, by omega, fun hk => ?_, fun hk => ?_⟩
  · have ha : Cd.accB k = true := by
      unfold Cd.accB
      rcases hk with rfl | rfl <;> rfl
    by_cases hv : Cd.isV v = false
    · exact absurd ⟨ha, .inl hv⟩ h3
    · unfold Cd.isV at hv; simpa using hv
  · have h5 : (k != 1 && ((S.length : Int) != 0 || (D.length : Int) != 0)) = false := by
      have : Cd.forB k v n S.length D.length = false := by simpa using h4
      unfold Cd.forB at this
      simp only [Bool.or_eq_false_iff] at this
      simpa using this.2
    have hk' : (k != 1) = true := by simpa using hk
    rw [hk', Bool.true_and, Bool.or_eq_false_iff] at h5
    have e1 : S.length = 0 := by have := h5.1; simp at this; simp [this]
    have e2 : D.length = 0 := by have := h5.2; simp at this; simp [this]
    exact ⟨List.length_eq_zero_iff.1 e1, List.length_eq_zero_iff.1 e2⟩
end Go.Proofs.YtjghbciepinofaaGreat.Pv

set_option maxRecDepth 100000
namespace Go.Proofs.YtjghbciepinofaaGreat.Pv
open Go.RowKit
def setB1 (last : Int) (x : Int × Int) : Bool := decide (last < x.1) && decide (x.1 ≤ 5) && decide (1 ≤ x.2) && decide (x.2 ≤ 1125899906842624)
/-- a set: validators that rise, with powers -/
def setB (last : Int) : List (Int × Int) → Bool
  | [] => true
  | x :: l => setB1 last x && setB x.1 l
/-- validators that rise -/
def riseB (last : Int) : List Int → Bool
  | [] => true
  | x :: l => (decide (last < x) && decide (x ≤ 5)) && riseB x l
theorem drop_at' {α : Type} {l : List α} {k : Nat} (h : k < l.length) : ∃ x, l[k]? = some x ∧ l.drop k = x :: l.drop (k + 1) := ⟨l[k], List.getElem?_eq_getElem h, List.drop_eq_getElem_cons h⟩
end Go.Proofs.YtjghbciepinofaaGreat.Pv

