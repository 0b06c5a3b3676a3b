/- Parts of the proof: CY CN RA1 RB1. -/
import Derived.Test.YtjghbciepinofaaGreatRows
import Derived.Test.YtjghbciepinofaaGreatPK38
import Derived.Test.YtjghbciepinofaaGreatPK40
import Derived.Test.YtjghbciepinofaaGreatPK41
import Derived.Test.YtjghbciepinofaaGreatPK42
import Derived.Test.YtjghbciepinofaaGreatPK47
import Derived.Maps.AppendAt
import Derived.Deep.AppendLies
import Derived.Deep.RegionLaw
import Derived.WalkKit
import Derived.ChangeKeysEq
import Derived.BigQuiet
import Derived.Deep.QuietTactic
set_option maxRecDepth 100000
namespace Go.Proofs.YtjghbciepinofaaGreat.Cd
open Go.RowKit
/-- a packet's box, whole -/
def BoxAt (w : World) (b : Nat) (k i v n s d : Value) : Prop := w.heap[b]? = some (.cells #[k, i, v, n, s, d] 49)
theorem BoxAt.cells {w : World} {b : Nat} {k i v n s d : Value} (h : BoxAt w b k i v n s d) : w.cell? ⟨b, 0, none⟩ = some k ∧ w.cell? ⟨b, 1, none⟩ = some i ∧ w.cell? ⟨b, 2, none⟩ = some v ∧ w.cell? ⟨b, 3, none⟩ = some n ∧ w.cell? ⟨b, 4, none⟩ = some s ∧ w.cell? ⟨b, 5, none⟩ = some d ∧ (∀ o, w.frozen? ⟨b, o, none⟩ = false) := by
  unfold BoxAt at h
  simp [World.cell?, World.frozen?, h]
theorem BoxAt.set {w : World} {b : Nat} {k i v n s d : Value} (h : BoxAt w b k i v n s d) (u : Value) :
    BoxAt (w.setCell ⟨b, 0, none⟩ u) b u i v n s d ∧ BoxAt (w.setCell ⟨b, 1, none⟩ u) b k u v n s d ∧ BoxAt (w.setCell ⟨b, 2, none⟩ u) b k i u n s d ∧ BoxAt (w.setCell ⟨b, 3, none⟩ u) b k i v u s d ∧ BoxAt (w.setCell ⟨b, 4, none⟩ u) b k i v n u d ∧ BoxAt (w.setCell ⟨b, 5, none⟩ u) b k i v n s u := by
  unfold BoxAt at *
  simp [World.setCell, Array.getElem?_modify, h]
theorem BoxAt.lt {w : World} {b : Nat} {k i v n s d : Value} (h : BoxAt w b k i v n s d) : b < w.heap.size := (Array.getElem?_eq_some_iff.1 h).1
theorem BoxAt.keep {w w' : World} {b : Nat} {k i v n s d : Value} {r : Option Nat} (h : BoxAt w b k i v n s d) (hg : w.grownBy w' r) (hne : some b ≠ r) : BoxAt w' b k i v n s d := (hg.block b h.lt hne).trans h
theorem TS.lt {w : World} {b : Nat} {st : List Int × Bool} (h : TS w b st) : b < w.heap.size := by obtain ⟨r, h, _⟩ := h; exact (Array.getElem?_eq_some_iff.1 h).1
theorem TS.keep {w w' : World} {b : Nat} {st : List Int × Bool} {r : Option Nat} (h : TS w b st) (hg : w.grownBy w' r) (hne : some b ≠ r) : TS w' b st := by
  have hlt := h.lt
  obtain ⟨x, h, h2⟩ := h
  exact ⟨x, (hg.block b hlt hne).trans h, h2⟩
def Row2 (w : World) (B : Nat) (v : Value) (l : List (Int × Int)) : Prop := w.ownsRow B 74 2 v l.length (l.flatMap fun p => [Value.int .i64 p.1, Value.int .i64 p.2])
def Row1 (w : World) (B : Nat) (v : Value) (l : List Int) : Prop := w.ownsRow B 3 1 v l.length (l.map (Value.int .i64))
/-- the next pairs of numbers; the next numbers -/
def tkP : Nat → List Int × Bool → List (Int × Int) × (List Int × Bool)
  | 0, st => ([], st)
  | m + 1, st => (((tk 1 st).1, (tk 7 (tk 1 st).2).1) :: (tkP m (tk 7 (tk 1 st).2).2).1, (tkP m (tk 7 (tk 1 st).2).2).2)
def tkD : Nat → List Int × Bool → List Int × (List Int × Bool)
  | 0, st => ([], st)
  | m + 1, st => ((tk 1 st).1 :: (tkD m (tk 1 st).2).1, (tkD m (tk 1 st).2).2)
theorem number_at (b : Nat) (st st' : List Int × Bool) (x mi : Int) (m : Nat) (w : World) (hT : TS w b st) (hmi : mi = (m : Int)) (hm : m ≤ 7) (he : tk m st = (x, st')) :
    Calls Tryz.prog 89 #[.pointer (some ⟨b, 0, none⟩), .int .i64 mi] w fun e w' => e = .returned (.int .i64 x) ∧ TS w' b st' ∧ w.grownBy w' (some b) := by
  subst hmi
  have := number_any b st m w hT hm
  rw [he] at this
  exact this
theorem grown_any {w w1 w2 : World} {r : Option Nat} (h : w.grownBy w1 r) (k : ∀ i, i < w.heap.size → some i ≠ r → w2.heap[i]? = w1.heap[i]?) (ho : w2.os = w1.os) (ht : w2.tape = w1.tape) (hu : w2.output = w1.output) (hs : w1.heap.size ≤ w2.heap.size) : w.grownBy w2 r :=
  ⟨ho.trans h.os, ht.trans h.tape, hu.trans h.output, Nat.le_trans h.size hs, fun i hi hne => (k i hi hne).trans (h.block i hi hne)⟩
theorem grown_box {w w1 : World} {r : Option Nat} {b o : Nat} {u : Value} (h : w.grownBy w1 r) (hb : w.heap.size ≤ b) : w.grownBy (w1.setCell ⟨b, o, none⟩ u) r :=
  grown_any h (fun i hi _ => Below.heap_setCell _ _ _ _ (by simp; omega)) rfl rfl rfl (by simp [World.setCell])
/-- where the method packet stands: the taker, the packet's box, the result's box; nothing else of old memory has turned -/
structure PSt (w wl : World) (b : Nat) (st : List Int × Bool) (k i v n s d : Value) : Prop where
  T : TS wl b st
  Bx : BoxAt wl (w.heap.size + 1) k i v n s d
  Rs : BoxAt wl w.heap.size (.int .i64 0) (.int .i64 0) (.int .i64 0) (.int .i64 0) (.slice none 0 0) (.slice none 0 0)
  G : w.grownBy wl (some b)
  hb : b < w.heap.size
theorem PSt.num {w wl wl' : World} {b : Nat} {st st' : List Int × Bool} {k i v n s d : Value} (h : PSt w wl b st k i v n s d) (T' : TS wl' b st') (g : wl.grownBy wl' (some b)) : PSt w wl' b st' k i v n s d :=
  ⟨T', h.Bx.keep g (by intro e; cases e; have := h.hb; omega), h.Rs.keep g (by intro e; cases e; have := h.hb; omega), grown_then h.G g, h.hb⟩
theorem TS.other {w : World} {b : Nat} {st : List Int × Bool} (h : TS w b st) {c o : Nat} {u : Value} (hc : b ≠ c) : TS (w.setCell ⟨c, o, none⟩ u) b st := by
  obtain ⟨x, h, h2⟩ := h
  exact ⟨x, (Below.heap_setCell _ _ _ _ hc).trans h, h2⟩
theorem PSt.set {w wl : World} {b : Nat} {st : List Int × Bool} {k i v n s d : Value} (h : PSt w wl b st k i v n s d) (u : Value) :
    PSt w (wl.setCell ⟨w.heap.size + 1, 0, none⟩ u) b st u i v n s d ∧ PSt w (wl.setCell ⟨w.heap.size + 1, 1, none⟩ u) b st k u v n s d ∧ PSt w (wl.setCell ⟨w.heap.size + 1, 2, none⟩ u) b st k i u n s d ∧
    PSt w (wl.setCell ⟨w.heap.size + 1, 3, none⟩ u) b st k i v u s d ∧ PSt w (wl.setCell ⟨w.heap.size + 1, 4, none⟩ u) b st k i v n u d ∧ PSt w (wl.setCell ⟨w.heap.size + 1, 5, none⟩ u) b st k i v n s u := by
  have hb := h.hb
  obtain ⟨x0, x1, x2, x3, x4, x5⟩ := h.Bx.set u
  have hr : ∀ o, BoxAt (wl.setCell ⟨w.heap.size + 1, o, none⟩ u) w.heap.size (.int .i64 0) (.int .i64 0) (.int .i64 0) (.int .i64 0) (.slice none 0 0) (.slice none 0 0) := fun o => (Below.heap_setCell _ _ _ _ (by simp)).trans h.Rs
  have ht : ∀ o, TS (wl.setCell ⟨w.heap.size + 1, o, none⟩ u) b st := fun o => h.T.other (by omega)
  have hg : ∀ o, w.grownBy (wl.setCell ⟨w.heap.size + 1, o, none⟩ u) (some b) := fun o => grown_box h.G (Nat.le_succ _)
  exact ⟨⟨ht _, x0, hr _, hg _, hb⟩, ⟨ht _, x1, hr _, hg _, hb⟩, ⟨ht _, x2, hr _, hg _, hb⟩, ⟨ht _, x3, hr _, hg _, hb⟩, ⟨ht _, x4, hr _, hg _, hb⟩, ⟨ht _, x5, hr _, hg _, hb⟩⟩
theorem PSt.alloc {w wl : World} {b : Nat} {st : List Int × Bool} {k i v n s d : Value} (h : PSt w wl b st k i v n s d) (o : Obj) : PSt w (wl.alloc o) b st k i v n s d :=
  have g := World.grownBy_alloc wl o none
  ⟨h.T.keep g (by simp), h.Bx.keep g (by simp), h.Rs.keep g (by simp), grown_then h.G (World.grownBy_alloc wl o _), h.hb⟩
theorem PSt.own {w wl wl' : World} {b : Nat} {st : List Int × Bool} {k i v n s d : Value} {r : Option Nat} (h : PSt w wl b st k i v n s d) (g : wl.grownBy wl' r) (hr : ∀ j, r = some j → w.heap.size + 2 ≤ j) : PSt w wl' b st k i v n s d := by
  have hb := h.hb
  have ne : ∀ c, c < w.heap.size + 2 → some c ≠ r := fun c hc e => by have := hr c e.symm; omega
  exact ⟨h.T.keep g (ne _ (by omega)), h.Bx.keep g (ne _ (by omega)), h.Rs.keep g (ne _ (by omega)), grown_any h.G (fun j hj _ => g.block j (Nat.lt_of_lt_of_le hj h.G.size) (ne j (by omega))) g.os g.tape g.output g.size, h.hb⟩
theorem PSt.big {w wl : World} {b : Nat} {st : List Int × Bool} {k i v n s d : Value} (h : PSt w wl b st k i v n s d) : w.heap.size + 2 ≤ wl.heap.size := h.Bx.lt
theorem own_num {w wl wl' : World} {b e size m : Nat} {v : Value} {xs : List Value} (h : wl.ownsRow (w.heap.size + 2) e size v m xs) (g : wl.grownBy wl' (some b)) (hb : b < w.heap.size) : wl'.ownsRow (w.heap.size + 2) e size v m xs :=
  h.kept g (by
    cases hv : v.ownBlock with
    | none => exact .inl rfl
    | some g => right; intro e; cases e; have := (h.lt _ hv).1; omega)
theorem own_set {w wl : World} {c o e size m : Nat} {v u : Value} {xs : List Value} (h : wl.ownsRow (w.heap.size + 2) e size v m xs) (hc : c < w.heap.size + 2) : (wl.setCell ⟨c, o, none⟩ u).ownsRow (w.heap.size + 2) e size v m xs :=
  h.kept (grown_set _ _ _ _) (by
    cases hv : v.ownBlock with
    | none => exact .inl rfl
    | some g => right; intro e; cases e; have := (h.lt _ hv).1; omega)
theorem own_form {w : World} {base e size n : Nat} {v : Value} {xs : List Value} (h : w.ownsRow base e size v n xs) : ∃ a c, v = .slice a n c := by
  rcases h.2 with ⟨rfl, rfl⟩ | ⟨g, cap, _, rfl, _⟩
  · exact ⟨_, _, rfl⟩
  · exact ⟨_, _, rfl⟩
theorem step_wanted {ops : Array Oper} {o : Oper} {a : Act} {w : World} {K : Act → World → Prop} {Q : Exit → Act → World → Prop} {E : Prop} (hg : o.guard = none) (h : Oper.wp Tryz.prog o a w K Q) :
    if Region.wanted o (yielded ops a.tmps) = true then Oper.wp Tryz.prog o a w K Q else E := by
  have hw : Region.wanted o (yielded ops a.tmps) = true := by simp [Region.wanted, hg]
  rw [if_pos hw]; exact h
theorem PSt.drew {w wl : World} {b : Nat} {st : List Int × Bool} {k i v n s d : Value} (h : PSt w wl b st k i v n s d) : PSt w wl.drew b st k i v n s d :=
  ⟨h.T, h.Bx, h.Rs, ⟨h.G.os, h.G.tape, h.G.output, h.G.size, h.G.block⟩, h.hb⟩
theorem own_drew {wl : World} {base e size m : Nat} {v : Value} {xs : List Value} (h : wl.ownsRow base e size v m xs) : wl.drew.ownsRow base e size v m xs := h
theorem own_set6 {w wl : World} {c e size m : Nat} {v : Value} {xs : List Value} (v0 v1 v2 v3 v4 v5 : Value) (h : wl.ownsRow (w.heap.size + 2) e size v m xs) (hc : c < w.heap.size + 2) : (set6 wl c v0 v1 v2 v3 v4 v5).ownsRow (w.heap.size + 2) e size v m xs :=
  own_set (own_set (own_set (own_set (own_set (own_set h hc) hc) hc) hc) hc) hc
theorem grown_set6 {w wl : World} {c : Nat} {r : Option Nat} (v0 v1 v2 v3 v4 v5 : Value) (h : w.grownBy wl r) (hc : w.heap.size ≤ c) : w.grownBy (set6 wl c v0 v1 v2 v3 v4 v5) r :=
  grown_box (grown_box (grown_box (grown_box (grown_box (grown_box h hc) hc) hc) hc) hc) hc
theorem TS.set6 {w : World} {b c : Nat} {st : List Int × Bool} (v0 v1 v2 v3 v4 v5 : Value) (h : TS w b st) (hc : b ≠ c) : TS (set6 w c v0 v1 v2 v3 v4 v5) b st :=
  (((((h.other hc).other hc).other hc).other hc).other hc).other hc
theorem two_new (w : World) (x y : Value) (t : TypeId) : ∀ j u, [x, y][j]? = some u → (w.alloc (.cells #[x, y] t)).cell? ((⟨w.heap.size, 0, none⟩ : Addr).add j) = some u :=
  World.news_of_block (heap_alloc_new w (.cells #[x, y] t))
set_option maxHeartbeats 1000000 in
theorem packet_any (b : Nat) (st s1 s2 s3 s4 s5 s6 s7 s8 : List Int × Bool) (k i v n : Int) (cn dn : Nat) (Ps : List (Int × Int)) (Ds : List Int) (w : World) (hT : TS w b st)
    (h1 : tk 1 st = (k, s1)) (h2 : tk 6 s1 = (i, s2)) (h3 : tk 1 s2 = (v, s3)) (h4 : tk 7 s3 = (n, s4)) (h5 : tk 1 s4 = ((cn : Int), s5)) (h6 : tkP cn s5 = (Ps, s6)) (h7 : tk 1 s6 = ((dn : Int), s7)) (h8 : tkD dn s7 = (Ds, s8)) (hcn : cn ≤ 255) (hdn : dn ≤ 255) :
    Calls Tryz.prog 40 #[.pointer (some ⟨b, 0, none⟩)] w fun e w' => ∃ u d, e = .returned (.agg #[.int .i64 k, .int .i64 i, .int .i64 v, .int .i64 n, u, d]) ∧ Row2 w' (w.heap.size + 2) u Ps ∧ Row1 w' (w.heap.size + 2) d Ds ∧ TS w' b s8 ∧ w.grownBy w' (some b) := by
  obtain ⟨i0, hi, hz0, hz1, hz2⟩ := info_parts info42
  obtain ⟨j0, hj, jz0, jz1, jz2⟩ := info_parts info3
  have hblt := hT.lt
  have X : Hid (tk 1 st = (k, s1) ∧ tk 6 s1 = (i, s2) ∧ tk 1 s2 = (v, s3) ∧ tk 7 s3 = (n, s4) ∧ tk 1 s4 = ((cn : Int), s5) ∧ tkP cn s5 = (Ps, s6) ∧ tk 1 s6 = ((dn : Int), s7) ∧ tkD dn s7 = (Ds, s8)) := ⟨h1, h2, h3, h4, h5, h6, h7, h8⟩
  clear h1 h2 h3 h4 h5 h6 h7 h8
  have P0 : PSt w ((w.alloc (.cells #[.int .i64 0, .int .i64 0, .int .i64 0, .int .i64 0, .slice none 0 0, .slice none 0 0] 49)).alloc (.cells #[.int .i64 0, .int .i64 0, .int .i64 0, .int .i64 0, .slice none 0 0, .slice none 0 0] 49)) b st (.int .i64 0) (.int .i64 0) (.int .i64 0) (.int .i64 0) (.slice none 0 0) (.slice none 0 0) := by
    have g1 := World.grownBy_alloc w (.cells #[.int .i64 0, .int .i64 0, .int .i64 0, .int .i64 0, .slice none 0 0, .slice none 0 0] 49) none
    have g2 := World.grownBy_alloc (w.alloc (.cells #[.int .i64 0, .int .i64 0, .int .i64 0, .int .i64 0, .slice none 0 0, .slice none 0 0] 49)) (.cells #[.int .i64 0, .int .i64 0, .int .i64 0, .int .i64 0, .slice none 0 0, .slice none 0 0] 49) none
    refine ⟨(hT.keep g1 (by simp)).keep g2 (by simp), ?_, ?_, grown_then (World.grownBy_alloc _ _ _) (World.grownBy_alloc _ _ _), hblt⟩
    · unfold BoxAt
      have e : w.heap.size + 1 = (w.alloc (.cells #[.int .i64 0, .int .i64 0, .int .i64 0, .int .i64 0, .slice none 0 0, .slice none 0 0] 49)).heap.size := by simp
      rw [e]; exact heap_alloc_new _ _
    · exact (Below.heap_alloc _ _ _ (by simp)).trans (heap_alloc_new _ _)
  clear hT
  go_enter Tryz.func40, Tryz.ntmps40
  go_wp2_with fail
  refine (number_at b st s1 k _ 1 _ P0.T rfl (by omega) X.out.1).mono ?_
  rintro e w1 ⟨rfl, hT1, hg1⟩
  have P1 := P0.num hT1 hg1
  clear hT1 hg1 P0
  obtain ⟨c0, c1, c2, c3, c4, c5, cf⟩ := P1.Bx.cells
  go_wp2_with fail
  clear c0 c1 c2 c3 c4 c5 cf
  have P1' := (P1.set (.int .i64 k)).1
  refine (number_at b s1 s2 i _ 6 _ P1'.T rfl (by omega) X.out.2.1).mono ?_
  rintro e w2 ⟨rfl, hT2, hg2⟩
  have P2 := P1'.num hT2 hg2
  clear hT2 hg2 P1 P1'
  obtain ⟨c0, c1, c2, c3, c4, c5, cf⟩ := P2.Bx.cells
  go_wp2_with fail
  clear c0 c1 c2 c3 c4 c5 cf
  have P2' := (P2.set (.int .i64 i)).2.1
  refine (number_at b s2 s3 v _ 1 _ P2'.T rfl (by omega) X.out.2.2.1).mono ?_
  rintro e w3 ⟨rfl, hT3, hg3⟩
  have P3 := P2'.num hT3 hg3
  clear hT3 hg3 P2 P2'
  obtain ⟨c0, c1, c2, c3, c4, c5, cf⟩ := P3.Bx.cells
  go_wp2_with fail
  clear c0 c1 c2 c3 c4 c5 cf
  have P3' := (P3.set (.int .i64 v)).2.2.1
  refine (number_at b s3 s4 n _ 7 _ P3'.T rfl (by omega) X.out.2.2.2.1).mono ?_
  rintro e w4 ⟨rfl, hT4, hg4⟩
  have P4 := P3'.num hT4 hg4
  clear hT4 hg4 P3 P3'
  obtain ⟨c0, c1, c2, c3, c4, c5, cf⟩ := P4.Bx.cells
  go_wp2_with fail
  clear c0 c1 c2 c3 c4 c5 cf
  have P4' := (P4.set (.int .i64 n)).2.2.2.1
  refine (number_at b s4 s5 (cn : Int) _ 1 _ P4'.T rfl (by omega) X.out.2.2.2.2.1).mono ?_
  rintro e w5 ⟨rfl, hT5, hg5⟩
  have P5 := P4'.num hT5 hg5
  clear hT5 hg5 P4 P4'
  go_wp2_with fail
  go_loopw [20] (fun j wl => ∃ (m : Nat) (Pj : List (Int × Int)) (sj : List Int × Bool) (u : Value), m ≤ cn ∧ j = .int .i64 m ∧ PSt w wl b sj (.int .i64 k) (.int .i64 i) (.int .i64 v) (.int .i64 n) u (.slice none 0 0) ∧ Row2 wl (w.heap.size + 2) u Pj ∧ Hid (Pj.length = m ∧ Pj ++ (tkP (cn - m) sj).1 = Ps ∧ (tkP (cn - m) sj).2 = s6)) (fun j _ => cn - (intOf j).toNat)
  case atStart =>
    refine ⟨0, [], s5, _, Nat.zero_le _, rfl, P5, World.ownsRow_nil _ _ _ _, rfl, ?_, ?_⟩
    · have h6 := X.out.2.2.2.2.2.1
      simp [h6]
    · have h6 := X.out.2.2.2.2.2.1
      simp [h6]
  case round =>
    obtain ⟨m, Pj, sj, u, hm, rfl, P6, hrow, HE⟩ := hrel
    clear P5
    by_cases hlt : m < cn
    · obtain ⟨f, hf⟩ : ∃ f, cn - m = f + 1 := ⟨cn - m - 1, by omega⟩
      have HE' := HE.out
      rw [hf, tkP] at HE'
      obtain ⟨y, sa, hy⟩ : ∃ y sa, tk 1 sj = (y, sa) := ⟨_, _, rfl⟩
      obtain ⟨z, sc, hz⟩ : ∃ z sc, tk 7 sa = (z, sc) := ⟨_, _, rfl⟩
      rw [hy] at HE'
      dsimp only at HE'
      rw [hz] at HE'
      dsimp only at HE'
      have HT : Hid _ := HE'
      have HYZ : Hid (tk 1 sj = (y, sa) ∧ tk 7 sa = (z, sc)) := ⟨hy, hz⟩
      have hfc : f = cn - (m + 1) := by omega
      have HFC : Hid (f = cn - (m + 1)) := hfc
      have hPl : Pj.length ≤ 255 := by have := HE.out.1; omega
      have HPm : Hid (Pj.length = m) := HE.out.1
      clear HE HE' hy hz hf hfc
      go_wp2_with fail
      refine (number_at b sj sa y _ 1 _ P6.T rfl (by omega) HYZ.out.1).mono ?_
      rintro e wa ⟨rfl, hTa, hga⟩
      have Pa := P6.num hTa hga
      have hra : Row2 wa (w.heap.size + 2) u Pj := own_num hrow hga hblt
      clear hTa hga hrow P6
      go_wp2_with fail
      refine (number_at b sa sc z _ 7 _ Pa.T rfl (by omega) HYZ.out.2).mono ?_
      rintro e wb ⟨rfl, hTb, hgb⟩
      have Pb := Pa.num hTb hgb
      have hrb : Row2 wb (w.heap.size + 2) u Pj := own_num hra hgb hblt
      clear hTb hgb hra Pa
      obtain ⟨c0, c1, c2, c3, c4, c5, cf⟩ := Pb.Bx.cells
      obtain ⟨ua, uc, rfl⟩ := own_form hrb
      have hbig := Pb.big
      go_wp2_with (at_builtin; refine wpList_append_lies _ rfl _ _ 33 rfl (w.heap.size + 2) 74 i0 (.agg #[.int .i64 0, .int .i64 0]) 2 16 Tryz.underlying33 hi hz0 hz1 hz2 rfl (by decide) _ _ _ rfl (World.ownsRow.alloc hrb _) ⟨wb.heap.size, 0, none⟩ 1 1 [.int .i64 y, .int .i64 z] rfl rfl ?_ ?_ (by decide) (by unfold maxLen; omega) (by omega) (by simp; omega) _ rfl ?_)
      · exact two_new _ _ _ _
      · intro u hu; simp at hu; rcases hu with rfl | rfl <;> rfl
      · intro g cap wd hown hgrow _ _
        have Pd := (Pb.alloc (Obj.cells #[Value.int IntKind.i64 y, Value.int IntKind.i64 z] 74)).own hgrow (fun j hj => (World.ownsRow.lt hrb j hj).1)
        have hrd : Row2 wd (w.heap.size + 2) (.slice (some ⟨g, 0, none⟩) (Pj.length + 1) cap) (Pj ++ [(y, z)]) := by simpa [Row2] using hown
        clear hown hgrow hrb c0 c1 c2 c3 c4 c5 cf Pb
        obtain ⟨c0, c1, c2, c3, c4, c5, cf⟩ := Pd.Bx.cells
        have HP : Hid _ := (Pd.set (.slice (some ⟨g, 0, none⟩) (Pj.length + 1) cap)).2.2.2.2.1
        have HR : Hid _ := own_set (c := w.heap.size + 1) (o := 4) (u := .slice (some ⟨g, 0, none⟩) (Pj.length + 1) cap) hrd (by omega)
        clear hrd Pd
        go_wp2
        clear c0 c1 c2 c3 c4 c5 cf
        go_roundw
        case rel =>
          refine ⟨m + 1, Pj ++ [(y, z)], sc, _, by omega, by go_num, HP.out, HR.out, by rw [List.length_append, HPm.out]; rfl, ?_, ?_⟩
          · rw [← HFC.out, List.append_assoc]; exact HT.out.2.1
          · rw [← HFC.out]; exact HT.out.2.2
        case measure => simp [intOf]; omega
    · have hmc : m = cn := by omega
      subst hmc
      have HE' := HE.out
      rw [Nat.sub_self, tkP, List.append_nil] at HE'
      obtain ⟨hPm, rfl, rfl⟩ := HE'
      clear HE hPm
      go_wp2_with fail
      refine (number_at b sj s7 (dn : Int) _ 1 _ P6.T rfl (by omega) X.out.2.2.2.2.2.2.1).mono ?_
      rintro e w7 ⟨rfl, hT7, hg7⟩
      have P7 := P6.num hT7 hg7
      have hrow7 : Row2 w7 (w.heap.size + 2) u Pj := own_num hrow hg7 hblt
      clear hT7 hg7 P6 hrow
      obtain ⟨ua, uc, rfl⟩ := own_form hrow7
      go_wp2_with fail
      go_loopw [37] (fun j wl => ∃ (q : Nat) (Dj : List Int) (sj : List Int × Bool) (d : Value), q ≤ dn ∧ j = .int .i64 q ∧ PSt w wl b sj (.int .i64 k) (.int .i64 i) (.int .i64 v) (.int .i64 n) (.slice ua Pj.length uc) d ∧ Row2 wl (w.heap.size + 2) (.slice ua Pj.length uc) Pj ∧ Row1 wl (w.heap.size + 2) d Dj ∧
          Hid ((Value.slice ua Pj.length uc).ownBlock = none ∨ (Value.slice ua Pj.length uc).ownBlock ≠ d.ownBlock) ∧ Hid (Dj.length = q ∧ Dj ++ (tkD (dn - q) sj).1 = Ds ∧ (tkD (dn - q) sj).2 = s8)) (fun j _ => dn - (intOf j).toNat)
      case atStart =>
        have h8 := X.out.2.2.2.2.2.2.2
        refine ⟨0, [], s7, _, Nat.zero_le _, rfl, P7, hrow7, World.ownsRow_nil _ _ _ _, ?_, rfl, ?_, ?_⟩
        · cases ua with
          | none => exact .inl rfl
          | some x => exact .inr (by simp [Value.ownBlock])
        · simp [h8]
        · simp [h8]
      case round =>
        obtain ⟨q, Dj, sj', d, hq, rfl, P8, hrow2, hrow1, HN, HE⟩ := hrel
        clear P7 hrow7
        by_cases hlt : q < dn
        · obtain ⟨f, hf⟩ : ∃ f, dn - q = f + 1 := ⟨dn - q - 1, by omega⟩
          have HE' := HE.out
          rw [hf, tkD] at HE'
          obtain ⟨y, sa, hy⟩ : ∃ y sa, tk 1 sj' = (y, sa) := ⟨_, _, rfl⟩
          rw [hy] at HE'
          dsimp only at HE'
          have HT : Hid _ := HE'
          have HY : Hid (tk 1 sj' = (y, sa)) := hy
          have hfc : f = dn - (q + 1) := by omega
          have HFC : Hid (f = dn - (q + 1)) := hfc
          have hDl : Dj.length ≤ 255 := by have := HE.out.1; omega
          have HDm : Hid (Dj.length = q) := HE.out.1
          clear HE HE' hy hf hfc
          obtain ⟨c0, c1, c2, c3, c4, c5, cf⟩ := P8.Bx.cells
          obtain ⟨xa, xc, rfl⟩ := own_form hrow1
          go_wp2_with fail
          have P8d := P8.drew
          have hr2d : Row2 wr.drew (w.heap.size + 2) (.slice ua Pj.length uc) Pj := own_drew hrow2
          have hr1d : Row1 wr.drew (w.heap.size + 2) (.slice xa Dj.length xc) Dj := own_drew hrow1
          clear P8 hrow2 hrow1
          go_region_law (first
            | (refine step_wanted rfl ?_; go_simp; go_at_call 89; refine (number_at b sj' sa y _ 1 _ P8d.T rfl (by omega) HY.out).mono ?_; rintro e we ⟨rfl, hTe, hge⟩; have Pe := P8d.num hTe hge; have hr2e : Row2 we (w.heap.size + 2) (.slice ua Pj.length uc) Pj := own_num hr2d hge hblt; have hr1e : Row1 we (w.heap.size + 2) (.slice xa Dj.length xc) Dj := own_num hr1d hge hblt; have hce := Pe.Bx.cells; have hbig := Pe.big; have hbig1 : w.heap.size + 1 < we.heap.size := Pe.big; clear hTe hge)
            | (refine step_append_lies _ rfl _ _ 34 rfl (w.heap.size + 2) 3 j0 (.int .i64 0) 1 8 Tryz.underlying34 hj jz0 jz1 jz2 rfl (by decide) _ _ _ rfl (World.ownsRow.alloc hr1e _) ⟨we.heap.size, 0, none⟩ 1 1 [.int .i64 y] rfl rfl (cell_one_new _ _ _) (by intro u hu; simp at hu; subst hu; rfl) (by decide) (by unfold maxLen; omega) (by omega) (by simp; omega) _ rfl ?_; intro g cap wf hown hgrow hat hglt; have Pf := (Pe.alloc (Obj.cells #[Value.int IntKind.i64 y] 3)).own hgrow (fun j hj => (World.ownsRow.lt hr1e j hj).1); have hcf := Pf.Bx.cells))
          all_goals
            have hr2f : Row2 wf (w.heap.size + 2) (.slice ua Pj.length uc) Pj := World.ownsRow.kept (World.ownsRow.alloc hr2e _) hgrow HN.out
            have hr1f : Row1 wf (w.heap.size + 2) (.slice (some ⟨g, 0, none⟩) (Dj.length + 1) cap) (Dj ++ [y]) := by simpa [Row1] using hown
            have hNf : (Value.slice ua Pj.length uc).ownBlock = none ∨ (Value.slice ua Pj.length uc).ownBlock ≠ (Value.slice (some ⟨g, 0, none⟩) (Dj.length + 1) cap).ownBlock := by
              rcases hat with h | h
              · have e : (Value.slice (some ⟨g, 0, none⟩) (Dj.length + 1) cap).ownBlock = (Value.slice xa Dj.length xc).ownBlock := h.symm
                rw [e]; exact HN.out
              · right
                intro e
                have e2 : (Value.slice ua Pj.length uc).ownBlock = some g := e
                have := (World.ownsRow.lt hr2e _ e2).2
                simp at h
                omega
            have HP : Hid _ := (Pf.set (.slice (some ⟨g, 0, none⟩) (Dj.length + 1) cap)).2.2.2.2.2
            have HR2 : Hid _ := own_set (c := w.heap.size + 1) (o := 5) (u := .slice (some ⟨g, 0, none⟩) (Dj.length + 1) cap) hr2f (by omega)
            have HR1 : Hid _ := own_set (c := w.heap.size + 1) (o := 5) (u := .slice (some ⟨g, 0, none⟩) (Dj.length + 1) cap) hr1f (by omega)
            have HNf : Hid _ := hNf
            clear hown hgrow hat hr2f hr1f hr2e hr1e hce hcf Pe Pf hNf hr2d hr1d P8d c0 c1 c2 c3 c4 c5 cf
            go_wp2
            go_roundw
            case rel =>
              refine ⟨q + 1, Dj ++ [y], sa, _, by omega, by go_num, HP.out, HR2.out, HR1.out, HNf, by rw [List.length_append, HDm.out]; rfl, ?_, ?_⟩
              · rw [← HFC.out, List.append_assoc]; exact HT.out.2.1
              · rw [← HFC.out]; exact HT.out.2.2
            case measure => simp [intOf]; omega
        · have hqd : q = dn := by omega
          subst hqd
          have HE' := HE.out
          rw [Nat.sub_self, tkD, List.append_nil] at HE'
          obtain ⟨hDm, rfl, rfl⟩ := HE'
          clear HE hDm
          obtain ⟨xa, xc, rfl⟩ := own_form hrow1
          obtain ⟨c0, c1, c2, c3, c4, c5, cf⟩ := P8.Bx.cells
          obtain ⟨d0, d1, d2, d3, d4, d5, df⟩ := P8.Rs.cells
          have hex : ∀ o, o < 6 → ∃ u, wr.cell? ⟨w.heap.size, o, none⟩ = some u := fun o ho => by
            match o, ho with
            | 0, _ => exact ⟨_, d0⟩
            | 1, _ => exact ⟨_, d1⟩
            | 2, _ => exact ⟨_, d2⟩
            | 3, _ => exact ⟨_, d3⟩
            | 4, _ => exact ⟨_, d4⟩
            | 5, _ => exact ⟨_, d5⟩
          have HEX : Hid _ := hex
          clear hex
          have HF : Hid (Row2 wr (w.heap.size + 2) (.slice ua Pj.length uc) Pj ∧ Row1 wr (w.heap.size + 2) (.slice xa Dj.length xc) Dj ∧ TS wr b sj' ∧ w.grownBy wr (some b)) := ⟨hrow2, hrow1, P8.T, P8.G⟩
          clear hrow2 hrow1 P8
          go_wp2
          show bodyPost Tryz.prog Tryz.f40 _ Exit.ret _ (set6 wr w.heap.size (.int .i64 k) (.int .i64 i) (.int .i64 v) (.int .i64 n) (.slice ua Pj.length uc) (.slice xa Dj.length xc))
          obtain ⟨e0, e1, e2, e3, e4, e5⟩ := set6_cells (w := wr) (b := w.heap.size) (.int .i64 k) (.int .i64 i) (.int .i64 v) (.int .i64 n) (.slice ua Pj.length uc) (.slice xa Dj.length xc) HEX.out
          have q2 : Row2 (set6 wr w.heap.size (.int .i64 k) (.int .i64 i) (.int .i64 v) (.int .i64 n) (.slice ua Pj.length uc) (.slice xa Dj.length xc)) (w.heap.size + 2) (.slice ua Pj.length uc) Pj := own_set6 _ _ _ _ _ _ HF.out.1 (by omega)
          have q1 : Row1 (set6 wr w.heap.size (.int .i64 k) (.int .i64 i) (.int .i64 v) (.int .i64 n) (.slice ua Pj.length uc) (.slice xa Dj.length xc)) (w.heap.size + 2) (.slice xa Dj.length xc) Dj := own_set6 _ _ _ _ _ _ HF.out.2.1 (by omega)
          have q3 := TS.set6 (c := w.heap.size) (.int .i64 k) (.int .i64 i) (.int .i64 v) (.int .i64 n) (.slice ua Pj.length uc) (.slice xa Dj.length xc) HF.out.2.2.1 (by omega)
          have q4 := grown_set6 (c := w.heap.size) (.int .i64 k) (.int .i64 i) (.int .i64 v) (.int .i64 n) (.slice ua Pj.length uc) (.slice xa Dj.length xc) HF.out.2.2.2 (Nat.le_refl _)
          generalize set6 wr w.heap.size (.int .i64 k) (.int .i64 i) (.int .i64 v) (.int .i64 n) (.slice ua Pj.length uc) (.slice xa Dj.length xc) = w9 at *
          exact bodyPost_ret (v := .agg #[.int .i64 k, .int .i64 i, .int .i64 v, .int .i64 n, .slice ua Pj.length uc, .slice xa Dj.length xc]) (by simp [results, Tryz.results40, go_sem, e0, e1, e2, e3, e4, e5]) rfl ⟨_, _, rfl, q2, q1, q3, q4⟩
end Go.Proofs.YtjghbciepinofaaGreat.Cd

set_option maxRecDepth 100000
namespace Go.Proofs.YtjghbciepinofaaGreat.Cd
open Go.RowKit
/-- Encode, in one: its bytes, or none -/
def encS (k i v n : Int) (S : List (Int × Int)) (D : List Int) : ByteArray := if goodN k i v n S D = 0 then strOfNums (enc k i v n S D) else ⟨#[]⟩
theorem encode_any (k i v n : Int) (S : List (Int × Int)) (D : List Int) (sa da : Option Addr) (cs cd sb so db dO : Nat) (w : World) (L : Lies w S D sa da sb so db dO) :
    Calls Tryz.prog 6 #[.agg #[.int .i64 k, .int .i64 i, .int .i64 v, .int .i64 n, .slice sa S.length cs, .slice da D.length cd]] w fun e w' => e = .returned (.tuple #[.string (encS k i v n S D), .int .i64 (goodN k i v n S D)]) ∧ Below w.heap.size w w' := by
  by_cases h : goodN k i v n S D = 0
  · rw [encS, if_pos h, h]; exact encode_ok k i v n S D sa da cs cd sb so db dO w L.hls L.hld L.hsa L.hda L.PS L.PD h
  · rw [encS, if_neg h]; exact encode_bad k i v n S D sa da cs cd sb so db dO w L.hls L.hld L.hsa L.hda L.PS L.PD h
end Go.Proofs.YtjghbciepinofaaGreat.Cd

set_option maxRecDepth 100000
namespace Go.Proofs.YtjghbciepinofaaGreat
open Go.RowKit
theorem eqVd (w : World) (t s l : Int) (j d : Bool) : (Op.equalIn 9999 26 (.agg #[.int .i64 t, .int .i64 s, .int .i64 l, .bool j, .bool d]) (.agg #[.int .i64 t, .int .i64 s, .int .i64 l, .bool j, .bool d])).run Tryz.prog w = .ok true w := by
  go_simp
theorem eqVs (w : World) (V : Nat → Vd) : (Op.equalIn 10000 27 (.agg (vsC V)) (.agg (vsC V))).run Tryz.prog w = .ok true w := by
  have hi : (Tryz.prog.info? 26).isSome = true := by kernel_rfl
  obtain ⟨i, hi⟩ := Option.isSome_iff_exists.1 hi
  have hc : Tryz.prog.cellsOf 26 = 5 := by kernel_rfl
  rw [run_equalIn_array w 9999 _ _ Tryz.underlying27 hi, hc, show List.range 6 = [0, 1, 2, 3, 4, 5] from rfl]
  have h := eqVd
  simp only [Op.eqItems, vsC]
  go_simp
theorem eqRow (w : World) (a b c d e f : Int) : (Op.equalIn 9999 28 (.agg #[.int .i64 a, .int .i64 b, .int .i64 c, .int .i64 d, .int .i64 e, .int .i64 f]) (.agg #[.int .i64 a, .int .i64 b, .int .i64 c, .int .i64 d, .int .i64 e, .int .i64 f])).run Tryz.prog w = .ok true w := by
  have hi : (Tryz.prog.info? 3).isSome = true := by kernel_rfl
  obtain ⟨i, hi⟩ := Option.isSome_iff_exists.1 hi
  have hc : Tryz.prog.cellsOf 3 = 1 := by kernel_rfl
  rw [run_equalIn_array w 9998 _ _ Tryz.underlying28 hi, hc, show List.range 6 = [0, 1, 2, 3, 4, 5] from rfl]
  simp only [Op.eqItems]
  go_simp
theorem eqSh (w : World) (S : Nat → Nat → Int) : (Op.equalIn 10000 29 (.agg (shC S)) (.agg (shC S))).run Tryz.prog w = .ok true w := by
  have hi : (Tryz.prog.info? 28).isSome = true := by kernel_rfl
  obtain ⟨i, hi⟩ := Option.isSome_iff_exists.1 hi
  have hc : Tryz.prog.cellsOf 28 = 6 := by kernel_rfl
  rw [run_equalIn_array w 9999 _ _ Tryz.underlying29 hi, hc, show List.range 4 = [0, 1, 2, 3] from rfl]
  have h := eqRow
  simp only [Op.eqItems, shC]
  go_simp
theorem neVs (w : World) (V : Nat → Vd) : (binOp .neq 27 (.agg (vsC V)) (.agg (vsC V))).run Tryz.prog w = .ok (.bool false) w := by
  rw [run_neq_struct, eqVs]
  rfl
theorem neSh (w : World) (S : Nat → Nat → Int) : (binOp .neq 29 (.agg (shC S)) (.agg (shC S))).run Tryz.prog w = .ok (.bool false) w := by
  rw [run_neq_struct, eqSh]
  rfl
theorem eqH (w : World) (a b : Int) : (Op.equalIn 9999 125 (.agg #[.int .i64 a, .int .i64 b]) (.agg #[.int .i64 a, .int .i64 b])).run Tryz.prog w = .ok true w := by
  have hi : (Tryz.prog.info? 3).isSome = true := by kernel_rfl
  obtain ⟨i, hi⟩ := Option.isSome_iff_exists.1 hi
  have hc : Tryz.prog.cellsOf 3 = 1 := by kernel_rfl
  rw [run_equalIn_array w 9998 _ _ Tryz.underlying125 hi, hc, show List.range 2 = [0, 1] from rfl]
  simp only [Op.eqItems]
  go_simp
theorem neWt (w : World) (x : Wt) : (binOp .neq 127 (.agg (wtC x)) (.agg (wtC x))).run Tryz.prog w = .ok (.bool false) w := by
  have h := fun w => eqH w x.h0 x.h1
  rw [run_neq_struct]
  unfold wtC
  go_simp
theorem neBk (w : World) (b : Bk) : (binOp .neq 24 (.agg #[.int .i64 b.f0, .int .i64 b.f1, .int .i64 b.f2, .int .i64 b.f3, .int .i64 b.bo, .int .i64 b.wa, .int .i64 b.bu]) (.agg #[.int .i64 b.f0, .int .i64 b.f1, .int .i64 b.f2, .int .i64 b.f3, .int .i64 b.bo, .int .i64 b.wa, .int .i64 b.bu])).run Tryz.prog w = .ok (.bool false) w := by
  rw [neB]
  simp
end Go.Proofs.YtjghbciepinofaaGreat

set_option maxRecDepth 100000
namespace Go.Proofs.YtjghbciepinofaaGreat
open Go.RowKit
set_option maxHeartbeats 4000000 in
theorem same_any (s : St) (aa ba : Option Addr) (ab ao bb bo ca cb : Nat) (w : World) (hA : WsAt w aa ab ao s.W) (hB : WsAt w ba bb bo s.W) :
    Calls Tryz.prog 54 #[.agg (stC s (.slice aa s.W.length ca)), .agg (stC s (.slice ba s.W.length cb))] w fun e w' => e = .returned (.bool true) ∧ Below w.heap.size w w' := by
  have S0 := (SAt.new w (stC s (.slice aa s.W.length ca))).alloc (.cells (stC s (.slice ba s.W.length cb)) 32)
  have T0 := SAt.new2 w (.cells (stC s (.slice aa s.W.length ca)) 32) (stC s (.slice ba s.W.length cb))
  have HB0 : Hid (Below w.heap.size w ((w.alloc (.cells (stC s (.slice aa s.W.length ca)) 32)).alloc (.cells (stC s (.slice ba s.W.length cb)) 32))) := ((Below.refl _ w).alloc (Nat.le_refl _) _).alloc (by simp) _
  have HA := hide hA
  have HB := hide hB
  have hlen := hA.len
  clear hA hB
  have n1 := fun w => neVs w s.V
  have n2 := fun w => neSh w s.S
  have n3 := fun w => neBk w s.b
  go_enter Tryz.func54, Tryz.ntmps54
  go_upto_region 1 with fail
  generalize (w.alloc (.cells (stC s (.slice aa s.W.length ca)) 32)).alloc (.cells (stC s (.slice ba s.W.length cb)) 32) = w0 at *
  obtain ⟨x0, x1, x2, x3, x4, x5, x6, x7, x8⟩ := st_cells S0
  obtain ⟨y0, y1, y2, y3, y4, y5, y6, y7, y8⟩ := st_cells T0
  have r1 := st_vals S0
  have r2 := st_vals T0
  have r3 := st_shares S0
  have r4 := st_shares T0
  go_upto_region 999 with (first
    | (refine wp_load_mid 27 _ rfl _ 7 rfl _ _ r1 Tryz.underlying27 rfl (by rw [infoVs]; rfl) ?_)
    | (refine wp_load_mid 27 _ rfl _ 7 rfl _ _ r2 Tryz.underlying27 rfl (by rw [infoVs]; rfl) ?_)
    | (refine wp_load_mid 29 _ rfl _ 37 rfl _ _ r3 Tryz.underlying29 rfl (by rw [infoSh]; rfl) ?_)
    | (refine wp_load_mid 29 _ rfl _ 37 rfl _ _ r4 Tryz.underlying29 rfl (by rw [infoSh]; rfl) ?_))
  have HS := hide S0
  have HT := hide T0
  have hadA := HA.out.adr
  have hadB := HB.out.adr
  clear x0 x1 x2 x3 x4 x5 x6 x7 x8 y0 y1 y2 y3 y4 y5 y6 y7 y8 r1 r2 r3 r4 n1 n2 n3 S0 T0
  go_loopw [44] (fun i wl => ∃ k : Nat, k ≤ s.W.length ∧ i = .int .i64 (k : Int) ∧ Hid (∃ n, wl = w0.drewN n)) (fun i _ => s.W.length - (intOf i).toNat)
  case atStart => exact ⟨0, by omega, rfl, 0, rfl⟩
  case round =>
    obtain ⟨k, hk, rfl, HN⟩ := hrel
    by_cases hlt : k < s.W.length
    · obtain ⟨n, hn⟩ := HN.out
      subst hn
      obtain ⟨x, hx, _⟩ := drop_at hlt
      have hBw : Below w.heap.size w (w0.drewN n) := ⟨HB0.out.os, HB0.out.tape, HB0.out.output, HB0.out.size, HB0.out.block⟩
      obtain ⟨c0, c1, c2, c3, c4, c5, c6, c7⟩ := (HA.out.over hBw).cell k x hx
      obtain ⟨d0, d1, d2, d3, d4, d5, d6, d7⟩ := (HB.out.over hBw).cell k x hx
      obtain ⟨_, _, _, _, _, _, _, x7, _⟩ := st_cells (show SAt (w0.drewN n) w.heap.size (stC s (.slice aa s.W.length ca)) from HS.out)
      obtain ⟨_, _, _, _, _, _, _, y7, _⟩ := st_cells (show SAt (w0.drewN n) (w.heap.size + 1) (stC s (.slice ba s.W.length cb)) from HT.out)
      have n4 := fun w => neWt w x
      unfold wtC at n4
      obtain rfl := hadA (by omega)
      obtain rfl := hadB (by omega)
      have hk0 : (0 : Int) ≤ (k : Int) := by omega
      have hk1 : (k : Int) < (s.W.length : Int) := by omega
      clear hadA hadB hx hBw HN
      have HX : Hid (∃ m, w0.drewN n = w0.drewN m) := ⟨n, rfl⟩
      generalize w0.drewN n = wx at *
      go_upto_region 6 with fail
      go_quiet (fail)
      go_wp2
      go_roundw
      case rel =>
        obtain ⟨m, hm⟩ := HX.out
        exact ⟨k + 1, by omega, by go_num, m + nq, by rw [hm]; simp⟩
      case measure => simp [intOf]; omega
    · obtain ⟨n, hn⟩ := HN.out
      subst hn
      go_wp2
      go_ret
      exact ⟨rfl, HB0.out.os, HB0.out.tape, HB0.out.output, HB0.out.size, HB0.out.block⟩
end Go.Proofs.YtjghbciepinofaaGreat

