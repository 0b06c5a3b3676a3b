/- Parts of the proof: CD CO CU PVKR. -/
import Derived.Test.YtjghbciepinofaaGreatRows
import Derived.Test.YtjghbciepinofaaGreatPEK20
import Derived.Test.YtjghbciepinofaaGreatPEK21
import Derived.Laws.BytesArg
import Derived.ProofKit
import Derived.Deep.SlicePairs
import Derived.Deep.RegionLaw
import Derived.Deep.DeepCutAuto
import Derived.Deep.MidRow
set_option maxRecDepth 100000
namespace Go.Proofs.YtjghbciepinofaaGreat.Cd
open Go.RowKit

theorem rises_len (l : List Int) : ∀ last : Int, -1 ≤ last → risesFrom last l = true → (l.length : Int) ≤ 5 - last ∨ l = [] := by
  induction l with
  | nil => intro _ _ _; exact .inr rfl
  | cons x t ih =>
    intro last hl h
    simp only [risesFrom, Bool.and_eq_true, decide_eq_true_eq, isV] at h
    obtain ⟨⟨h1, h2⟩, h3⟩ := h
    rcases ih x (by omega) h3 with h4 | h4
    · left; simp only [List.length_cons]; omega
    · subst h4; left; simp; omega
theorem prises_len (l : List (Int × Int)) : ∀ last : Int, -1 ≤ last → prisesFrom last l = true → (l.length : Int) ≤ 5 - last ∨ l = [] := by
  induction l with
  | nil => intro _ _ _; exact .inr rfl
  | cons x t ih =>
    intro last hl h
    simp only [prisesFrom, Bool.and_eq_true, decide_eq_true_eq, isV] at h
    obtain ⟨⟨⟨⟨h1, h2⟩, _⟩, _⟩, h3⟩ := h
    rcases ih x.1 (by omega) h3 with h4 | h4
    · left; simp only [List.length_cons]; omega
    · subst h4; left; simp; omega
theorem good_lists {k i v n : Int} {S : List (Int × Int)} {D : List Int} (h : goodN k i v n S D = 0) : prisesFrom (-1) S = true ∧ risesFrom (-1) D = true ∧ S.length ≤ 6 ∧ D.length ≤ 6 := by
  have h0 : prisesFrom (-1) S = true ∧ risesFrom (-1) D = true := by
    rcases goodN_cases k i v n S D with h | h | ⟨_, _, h | h | ⟨_, _, h | h | h | ⟨_, h | h | h | h⟩⟩⟩ <;> simp_all
  refine ⟨h0.1, h0.2, ?_, ?_⟩
  · rcases prises_len S (-1) (by omega) h0.1 with h | h
    · omega
    · subst h; simp
  · rcases rises_len D (-1) (by omega) h0.2 with h | h
    · omega
    · subst h; simp

/-- a packet lies in a box -/
def PkAt (w : World) (b : Nat) (k i v n : Int) (s d : Value) : Prop :=
  w.cell? ⟨b, 0, none⟩ = some (.int .i64 k) ∧ w.cell? ⟨b, 1, none⟩ = some (.int .i64 i) ∧ w.cell? ⟨b, 2, none⟩ = some (.int .i64 v) ∧
  w.cell? ⟨b, 3, none⟩ = some (.int .i64 n) ∧ w.cell? ⟨b, 4, none⟩ = some s ∧ w.cell? ⟨b, 5, none⟩ = some d
theorem pkAt_new (w : World) (k i v n : Int) (s d : Value) : PkAt (w.alloc (.cells #[.int .i64 k, .int .i64 i, .int .i64 v, .int .i64 n, s, d] 49)) w.heap.size k i v n s d := by
  unfold PkAt
  simp [World.cell?_alloc_at]
theorem PkAt.later {w w' : World} {B b : Nat} {k i v n : Int} {s d : Value} (h : PkAt w b k i v n s d) (hb : Below B w w') (hB : b < B) : PkAt w' b k i v n s d := by
  obtain ⟨h0, h1, h2, h3, h4, h5⟩ := h
  exact ⟨(hb.cell (p := ⟨b, 0, none⟩) hB).trans h0, (hb.cell (p := ⟨b, 1, none⟩) hB).trans h1, (hb.cell (p := ⟨b, 2, none⟩) hB).trans h2, (hb.cell (p := ⟨b, 3, none⟩) hB).trans h3, (hb.cell (p := ⟨b, 4, none⟩) hB).trans h4, (hb.cell (p := ⟨b, 5, none⟩) hB).trans h5⟩
theorem Row.below {W w w' : World} {B : Nat} {v : Value} {xs : List Int} (h : Row w B v xs) (hb : Below B W w) (hB : B ≤ W.heap.size) (hg : w.grownBy w' v.ownBlock) : Below B W w' :=
  hb.grown hg (Nat.le_trans hB hb.size) (fun k hk => (World.ownsRow.lt h k hk).1)

set_option maxHeartbeats 1000000 in
theorem encode_bad (k i v n : Int) (S : List (Int × Int)) (D : List Int) (sa da : Option Addr) (cs cd sb so db dO : Nat) (w : World)
    (hls : S.length ≤ maxLen) (hld : D.length ≤ maxLen) (hsa : 0 < S.length → sa = some ⟨sb, so, none⟩) (hda : 0 < D.length → da = some ⟨db, dO, none⟩) (PS : PwsAt w sb so S) (PD : IntsAt w db dO D)
    (hg : goodN k i v n S D ≠ 0) :
    Calls Tryz.prog 6 #[.agg #[.int .i64 k, .int .i64 i, .int .i64 v, .int .i64 n, .slice sa S.length cs, .slice da D.length cd]] w fun e w' => e = .returned (.tuple #[.string ⟨#[]⟩, .int .i64 (goodN k i v n S D)]) ∧ Below w.heap.size w w' := by
  have hgood := good_any k i v n S D sa da cs cd sb so db dO _ hls hld hsa hda (PS.later (below_new w (.cells #[.int .i64 k, .int .i64 i, .int .i64 v, .int .i64 n, .slice sa S.length cs, .slice da D.length cd] 49))) (PD.later (below_new _ _))
  generalize goodN k i v n S D = G at *
  have hG : (G != 0) = true := by simpa using hg
  have HG := hgood
  clear hgood PS PD hls hld hsa hda hg
  go_enter Tryz.func6, Tryz.ntmps6
  go_wp2_with (go_at_call 21; refine HG.mono ?_; rintro e w1 ⟨rfl, hb⟩)
  go_ret2
  exact ⟨rfl, below_step hb⟩
def encP (p : Int × Int) : List Int := be p.1 1 ++ be p.2 7
def encH (k i v n : Int) (ls : Nat) : List Int := be k 1 ++ be i 6 ++ be v 1 ++ be n 7 ++ be ls 1
def enc (k i v n : Int) (S : List (Int × Int)) (D : List Int) : List Int :=
  encH k i v n S.length ++ S.flatMap encP ++ be D.length 1 ++ D.flatMap (be · 1)
theorem encP_length (p : Int × Int) : (encP p).length = 8 := by simp [encP, be_length]
theorem encPs_length (S : List (Int × Int)) : (S.flatMap encP).length = 8 * S.length := by
  induction S with
  | nil => rfl
  | cons a t ih => rw [List.flatMap_cons, List.length_append, ih, encP_length, List.length_cons]; omega
theorem encDs_length (D : List Int) : (D.flatMap (be · 1)).length = D.length := by
  induction D with
  | nil => rfl
  | cons a t ih => rw [List.flatMap_cons, List.length_append, ih, be_length, List.length_cons]; omega
theorem encH_length (k i v n : Int) (ls : Nat) : (encH k i v n ls).length = 16 := by simp [encH, be_length]
theorem take_flat {α : Type} (f : α → List Int) (l : List α) (d : α) (m : Nat) (h : m < l.length) : (l.take (m + 1)).flatMap f = (l.take m).flatMap f ++ f (l.getD m d) := by
  rw [List.take_succ_eq_append_getElem h, List.flatMap_append, List.flatMap_singleton]
  simp [List.getD, h]
theorem take_len {α : Type} (l : List α) (m : Nat) : (l.take m).length ≤ l.length := by simp; omega

theorem Row.keeps {w w' : World} {B : Nat} {v : Value} {xs : List Int} {o : Obj} (h : Row w B v xs) (hg : (w.alloc o).grownBy w' v.ownBlock) : w'.heap[w.heap.size]? = (w.alloc o).heap[w.heap.size]? :=
  hg.block _ (by simp) (fun e => by have := (World.ownsRow.lt h _ e.symm).2; omega)
theorem cell_of_heap {w w' : World} {b : Nat} (h : w'.heap[b]? = w.heap[b]?) (o : Nat) : w'.cell? ⟨b, o, none⟩ = w.cell? ⟨b, o, none⟩ := World.cell?_of_block (w := w) (a := ⟨b, o, none⟩) h

theorem Row.conv {w : World} {B : Nat} {v : Value} {E : List Int} (h : Row w B v E) : (convert 71 9 v).run Tryz.prog w = .ok (.string (strOfNums E)) w := by
  rcases h.2 with ⟨rfl, h0⟩ | ⟨g, cap, cur, rfl, hb, hh, hn, hm, hs, ht⟩
  · have : E = [] := List.eq_nil_of_length_eq_zero h0
    subst this
    exact run_convert_bytes_nil (P := Tryz.prog) w 71 5 Tryz.underlying71 Tryz.underlying5 0 0 9 Tryz.underlying9
  · refine run_convert_bytes_arg (P := Tryz.prog) w 71 5 Tryz.underlying71 Tryz.underlying5 g 0 E.length cap E rfl (fun j hj => ?_) 9 Tryz.underlying9
    have h' : w.ownsRow B 5 1 (.slice (some ⟨g, 0, none⟩) E.length cap) E.length (E.map (Value.int .u8)) := h
    rw [Nat.zero_add, h'.cellAt j (by omega)]
    simp [List.getD, hj]
theorem PwsAt.laterB {w w' : World} {B b off : Nat} {l : List (Int × Int)} (h : PwsAt w b off l) (hb : Below B w w') (hB : 0 < l.length → b < B) : PwsAt w' b off l := fun i hi =>
  ⟨(hb.cell (p := ⟨b, off + i * 2, none⟩) (hB (by omega))).trans (h i hi).1, (hb.cell (p := ⟨b, off + i * 2 + 1, none⟩) (hB (by omega))).trans (h i hi).2⟩
theorem IntsAt.laterB {w w' : World} {B b off : Nat} {l : List Int} (h : IntsAt w b off l) (hb : Below B w w') (hB : 0 < l.length → b < B) : IntsAt w' b off l := fun i hi =>
  (hb.cell (p := ⟨b, off + i, none⟩) (hB (by omega))).trans (h i hi)
theorem PwsAt.lt {w : World} {b off : Nat} {l : List (Int × Int)} (h : PwsAt w b off l) (hl : 0 < l.length) : b < w.heap.size := World.block_lt_of_cell? w _ (h 0 hl).1
theorem IntsAt.lt {w : World} {b off : Nat} {l : List Int} (h : IntsAt w b off l) (hl : 0 < l.length) : b < w.heap.size := World.block_lt_of_cell? w _ (h 0 hl)
theorem put_at (B : Nat) (v : Value) (xs : List Int) (n wi : Int) (wd : Nat) (w : World) (hwi : wi = (wd : Int)) (hown : Row w B v xs) (hwd : wd ≤ 7) (hlen : xs.length + wd ≤ 1000000) (hB : B ≤ w.heap.size) :
    Calls Tryz.prog 22 #[v, .int .i64 n, .int .i64 wi] w fun e w' => ∃ v', e = .returned v' ∧ Row w' B v' (xs ++ be n wd) ∧ w.grownBy w' v.ownBlock ∧ At w v v' := by
  subst hwi; exact put_any B v xs n wd w hown hwd hlen hB

set_option maxHeartbeats 1000000 in
theorem encode_ok (k i v n : Int) (S : List (Int × Int)) (D : List Int) (sa da : Option Addr) (cs cd sb so db dO : Nat) (w : World)
    (hls : S.length ≤ maxLen) (hld : D.length ≤ maxLen) (hsa : 0 < S.length → sa = some ⟨sb, so, none⟩) (hda : 0 < D.length → da = some ⟨db, dO, none⟩) (PS : PwsAt w sb so S) (PD : IntsAt w db dO D)
    (hg : goodN k i v n S D = 0) :
    Calls Tryz.prog 6 #[.agg #[.int .i64 k, .int .i64 i, .int .i64 v, .int .i64 n, .slice sa S.length cs, .slice da D.length cd]] w fun e w' => e = .returned (.tuple #[.string (strOfNums (enc k i v n S D)), .int .i64 0]) ∧ Below w.heap.size w w' := by
  obtain ⟨_, _, hS6, hD6⟩ := good_lists hg
  have hsb := fun h => PS.lt h
  have hdb := fun h => PD.lt h
  have hgood := good_any k i v n S D sa da cs cd sb so db dO _ hls hld hsa hda (PS.later (below_new w (.cells #[.int .i64 k, .int .i64 i, .int .i64 v, .int .i64 n, .slice sa S.length cs, .slice da D.length cd] 49))) (PD.later (below_new _ _))
  rw [hg] at hgood
  have HSB : Hid (0 < S.length → sb < w.heap.size + 1) := fun h => Nat.lt_succ_of_lt (hsb h)
  have HDB : Hid (0 < D.length → db < w.heap.size + 1) := fun h => Nat.lt_succ_of_lt (hdb h)
  have HSA : Hid (0 < S.length → sa = some ⟨sb, so, none⟩) := hsa
  have HDA : Hid (0 < D.length → da = some ⟨db, dO, none⟩) := hda
  clear hls hld hsa hda hg hsb hdb
  go_enter Tryz.func6, Tryz.ntmps6
  go_wp2_with fail
  refine hgood.mono ?_
  rintro e w1 ⟨rfl, hb1⟩
  clear hgood
  have PK1 : PkAt w1 w.heap.size k i v n (.slice sa S.length cs) (.slice da D.length cd) := (pkAt_new _ _ _ _ _ _ _).later hb1 (by simp)
  have HB1 : Hid (Below w.heap.size w w1) := below_step hb1
  have PS1 := PS.later HB1.out
  have PD1 := PD.later HB1.out
  have hz1 : w.heap.size + 1 ≤ w1.heap.size := (by have := hb1.size; simpa using this)
  have hr1 : Row w1 (w.heap.size + 1) (.slice none 0 0) [] := World.ownsRow_nil _ _ _ _
  clear hb1 PS PD
  obtain ⟨c0, c1, c2, c3, c4, c5⟩ := id PK1
  go_wp2_with fail
  refine (put_at (w.heap.size + 1) _ [] _ 1 1 _ rfl hr1 (by omega) (by simp) hz1).mono ?_
  rintro e w2 ⟨v2, rfl, hr2, hg2, _⟩
  have HB2 : Hid (Below (w.heap.size + 1) w1 w2) := hr1.below (Below.refl _ _) hz1 hg2
  clear c0 c1 c2 c3 c4 c5 hg2 hr1
  have PK2 := PK1.later HB2.out (Nat.lt_succ_self _)
  obtain ⟨c0, c1, c2, c3, c4, c5⟩ := id PK2
  have hz2 : w.heap.size + 1 ≤ w2.heap.size := Nat.le_trans hz1 HB2.out.size
  rw [List.nil_append] at hr2
  go_wp2_with fail
  refine (put_at (w.heap.size + 1) _ _ _ 6 6 _ rfl hr2 (by omega) (by simp [be_length]) hz2).mono ?_
  rintro e w3 ⟨v3, rfl, hr3, hg3, _⟩
  have HB3 : Hid (Below (w.heap.size + 1) w1 w3) := hr2.below HB2.out hz1 hg3
  clear c0 c1 c2 c3 c4 c5 hg3 hr2 HB2 PK2
  have PK3 := PK1.later HB3.out (Nat.lt_succ_self _)
  obtain ⟨c0, c1, c2, c3, c4, c5⟩ := id PK3
  have hz3 : w.heap.size + 1 ≤ w3.heap.size := Nat.le_trans hz1 HB3.out.size
  go_wp2_with fail
  refine (put_at (w.heap.size + 1) _ _ _ 1 1 _ rfl hr3 (by omega) (by simp [be_length]) hz3).mono ?_
  rintro e w4 ⟨v4, rfl, hr4, hg4, _⟩
  have HB4 : Hid (Below (w.heap.size + 1) w1 w4) := hr3.below HB3.out hz1 hg4
  clear c0 c1 c2 c3 c4 c5 hg4 hr3 HB3 PK3
  have PK4 := PK1.later HB4.out (Nat.lt_succ_self _)
  obtain ⟨c0, c1, c2, c3, c4, c5⟩ := id PK4
  have hz4 : w.heap.size + 1 ≤ w4.heap.size := Nat.le_trans hz1 HB4.out.size
  go_wp2_with fail
  refine (put_at (w.heap.size + 1) _ _ _ 7 7 _ rfl hr4 (by omega) (by simp [be_length]) hz4).mono ?_
  rintro e w5 ⟨v5, rfl, hr5, hg5, _⟩
  have HB5 : Hid (Below (w.heap.size + 1) w1 w5) := hr4.below HB4.out hz1 hg5
  clear c0 c1 c2 c3 c4 c5 hg5 hr4 HB4 PK4
  have PK5 := PK1.later HB5.out (Nat.lt_succ_self _)
  obtain ⟨c0, c1, c2, c3, c4, c5⟩ := id PK5
  have hz5 : w.heap.size + 1 ≤ w5.heap.size := Nat.le_trans hz1 HB5.out.size
  go_wp2_with fail
  refine (put_at (w.heap.size + 1) _ _ _ 1 1 _ rfl hr5 (by omega) (by simp [be_length]) hz5).mono ?_
  rintro e w6 ⟨v6, rfl, hr6, hg6, _⟩
  have HB6 : Hid (Below (w.heap.size + 1) w1 w6) := hr5.below HB5.out hz1 hg6
  clear c0 c1 c2 c3 c4 c5 hg6 hr5 HB5 PK5
  have PK6 := PK1.later HB6.out (Nat.lt_succ_self _)
  obtain ⟨c0, c1, c2, c3, c4, c5⟩ := id PK6
  clear hz2 hz3 hz4 hz5
  have HR6 : Hid (Row w6 (w.heap.size + 1) v6 (encH k i v n S.length)) := hr6
  clear hr6
  go_wp2_with fail
  clear c0 c1 c2 c3 c4 c5 PK6
  go_loopw [5, 39] (fun u j wl => ∃ m : Nat, m ≤ S.length ∧ j = .int .i64 m ∧ Hid (Row wl (w.heap.size + 1) u (encH k i v n S.length ++ (S.take m).flatMap encP)) ∧ Hid (Below (w.heap.size + 1) w1 wl)) (fun _ j _ => S.length - (intOf j).toNat)
  case atStart => exact ⟨0, Nat.zero_le _, rfl, by simpa using HR6, HB6⟩
  case round =>
    obtain ⟨m, hm, rfl, HR, HB⟩ := hrel
    clear HR6 HB6
    have hzr : w.heap.size + 1 ≤ wr.heap.size := Nat.le_trans hz1 HB.out.size
    have hlt8 : ((S.take m).flatMap encP).length ≤ 48 := by rw [encPs_length]; have := take_len S m; omega
    by_cases hlt : m < S.length
    · have hcell := PS1.laterB HB.out HSB.out m hlt
      have htk := take_flat encP S (0, 0) m hlt
      obtain ⟨y, hy⟩ : ∃ y, S.getD m (0, 0) = y := ⟨_, rfl⟩
      rw [hy] at hcell htk
      obtain ⟨y, z⟩ := y
      obtain ⟨hc0, hc1⟩ := hcell
      dsimp only at hc0 hc1
      have e := HSA.out (by omega)
      subst e
      have HT : Hid _ := htk
      clear htk hy
      go_wp2_with fail
      have hrA : Row (wr.alloc (Obj.cells #[Value.int IntKind.i64 y, Value.int IntKind.i64 z] 74)) (w.heap.size + 1) u5 (encH k i v n S.length ++ (S.take m).flatMap encP) := World.ownsRow.alloc HR.out _
      have HBA : Hid (Below (w.heap.size + 1) w1 (wr.alloc (Obj.cells #[Value.int IntKind.i64 y, Value.int IntKind.i64 z] 74))) := HB.out.alloc hzr _
      refine (put_at (w.heap.size + 1) _ _ _ 1 1 _ rfl hrA (by omega) (by simp only [List.length_append, encH_length]; omega) (by simp; omega)).mono ?_
      rintro e wa ⟨va, rfl, hra, hga, _⟩
      have hk := HR.out.keeps hga
      have hd1 : wa.cell? ⟨wr.heap.size, 1, none⟩ = some (.int .i64 z) := by rw [cell_of_heap hk]; simp [World.cell?_alloc_at]
      have HBa : Hid (Below (w.heap.size + 1) w1 wa) := hrA.below HBA.out hz1 hga
      have hza : w.heap.size + 1 ≤ wa.heap.size := Nat.le_trans hz1 HBa.out.size
      clear hk hga hrA HBA hc0 hc1
      go_wp2_with fail
      refine (put_at (w.heap.size + 1) _ _ _ 7 7 _ rfl hra (by omega) (by simp only [List.length_append, encH_length, be_length]; omega) hza).mono ?_
      rintro e wb ⟨vb, rfl, hrb, hgb, _⟩
      have HBb : Hid (Below (w.heap.size + 1) w1 wb) := hra.below HBa.out hz1 hgb
      have HRb : Hid (Row wb (w.heap.size + 1) vb (encH k i v n S.length ++ (S.take (m + 1)).flatMap encP)) := by
        show Row _ _ _ _
        rw [HT.out, encP, ← List.append_assoc, ← List.append_assoc]; exact hrb
      clear hra hrb hgb hd1
      go_wp2
      go_roundw
      case rel => exact ⟨m + 1, by omega, by go_num, HRb, HBb⟩
      case measure => simp [intOf]; omega
    · have hmS : m = S.length := by omega
      subst hmS
      have hr7 : Row wr (w.heap.size + 1) u5 (encH k i v n S.length ++ S.flatMap encP) := by have := HR.out; rwa [List.take_length] at this
      have PK7 := PK1.later HB.out (Nat.lt_succ_self _)
      obtain ⟨c0, c1, c2, c3, c4, c5⟩ := id PK7
      have hl8 : (S.flatMap encP).length ≤ 48 := by rw [encPs_length]; omega
      clear hlt8 HR PK7
      go_wp2_with fail
      refine (put_at (w.heap.size + 1) _ _ _ 1 1 _ rfl hr7 (by omega) (by simp only [List.length_append, encH_length]; omega) hzr).mono ?_
      rintro e w8 ⟨v8, rfl, hr8, hg8, _⟩
      have HB8 : Hid (Below (w.heap.size + 1) w1 w8) := hr7.below HB.out hz1 hg8
      clear c0 c1 c2 c3 c4 c5 hg8 hr7 hlt hm HB
      have PK8 := PK1.later HB8.out (Nat.lt_succ_self _)
      obtain ⟨c0, c1, c2, c3, c4, c5⟩ := id PK8
      have HR8 : Hid (Row w8 (w.heap.size + 1) v8 (encH k i v n S.length ++ S.flatMap encP ++ be D.length 1)) := hr8
      clear hr8
      go_wp2_with fail
      clear c0 c1 c2 c3 c4 c5 PK8
      go_loopw [5, 60] (fun u j wl => ∃ m : Nat, m ≤ D.length ∧ j = .int .i64 m ∧ Hid (Row wl (w.heap.size + 1) u (encH k i v n S.length ++ S.flatMap encP ++ be D.length 1 ++ (D.take m).flatMap (be · 1))) ∧ Hid (Below (w.heap.size + 1) w1 wl)) (fun _ j _ => D.length - (intOf j).toNat)
      case atStart => exact ⟨0, Nat.zero_le _, rfl, by simpa using HR8, HB8⟩
      case round =>
        obtain ⟨m, hm, rfl, HR, HB⟩ := hrel
        clear HR8 HB8
        have hzr : w.heap.size + 1 ≤ wr.heap.size := Nat.le_trans hz1 HB.out.size
        have hltm : ((D.take m).flatMap (be · 1)).length ≤ 6 := by rw [encDs_length]; have := take_len D m; omega
        by_cases hlt : m < D.length
        · have hcell := PD1.laterB HB.out HDB.out m hlt
          have htk := take_flat (be · 1) D 0 m hlt
          obtain ⟨y, hy⟩ : ∃ y, D.getD m 0 = y := ⟨_, rfl⟩
          rw [hy] at hcell htk
          have e := HDA.out (by omega)
          subst e
          have HT : Hid _ := htk
          clear htk hy
          go_wp2_with fail
          refine (put_at (w.heap.size + 1) _ _ _ 1 1 _ rfl HR.out (by omega) (by simp only [List.length_append, encH_length, be_length]; omega) hzr).mono ?_
          rintro e wb ⟨vb, rfl, hrb, hgb, _⟩
          have HBb : Hid (Below (w.heap.size + 1) w1 wb) := HR.out.below HB.out hz1 hgb
          have HRb : Hid (Row wb (w.heap.size + 1) vb (encH k i v n S.length ++ S.flatMap encP ++ be D.length 1 ++ (D.take (m + 1)).flatMap (be · 1))) := by
            show Row _ _ _ _
            rw [HT.out, ← List.append_assoc]; exact hrb
          clear hrb hgb hcell
          go_wp2
          go_roundw
          case rel => exact ⟨m + 1, by omega, by go_num, HRb, HBb⟩
          case measure => simp [intOf]; omega
        · have hmD : m = D.length := by omega
          subst hmD
          have hr9 : Row wr (w.heap.size + 1) u5 (enc k i v n S D) := by have := HR.out; rwa [List.take_length] at this
          have HF : Hid (Below w.heap.size w wr) := HB1.out.trans (HB.out.mono (Nat.le_succ _))
          have hcv := hr9.conv
          clear hr9 HR HB
          go_wp2
          go_ret2
          exact ⟨rfl, HF.out⟩
end Go.Proofs.YtjghbciepinofaaGreat.Cd

set_option maxRecDepth 100000
namespace Go.Proofs.YtjghbciepinofaaGreat.Cd
open Go.ChangeShapes Go.WideShapes Go.ChangeAt Go.RowKit Go.Deep

/-- the two lists of a packet lie in memory -/
structure Lies (w : World) (S : List (Int × Int)) (D : List Int) (sa da : Option Addr) (sb so db dO : Nat) : Prop where
  hls : S.length ≤ maxLen
  hld : D.length ≤ maxLen
  hsa : 0 < S.length → sa = some ⟨sb, so, none⟩
  hda : 0 < D.length → da = some ⟨db, dO, none⟩
  PS : PwsAt w sb so S
  PD : IntsAt w db dO D
theorem Lies.later {w w' : World} {S : List (Int × Int)} {D : List Int} {sa da : Option Addr} {sb so db dO : Nat} (h : Lies w S D sa da sb so db dO) (hb : Below w.heap.size w w') : Lies w' S D sa da sb so db dO :=
  ⟨h.hls, h.hld, h.hsa, h.hda, h.PS.later hb, h.PD.later hb⟩

section
variable {H : Type} {enc : TypeId × Value → H} {W : World}
end
end Go.Proofs.YtjghbciepinofaaGreat.Cd

set_option maxRecDepth 100000
namespace Go.Proofs.YtjghbciepinofaaGreat.Cd
open Go.RowKit
theorem info42 : (Tryz.prog.info? 74).map (fun i => (i.zero, i.size, i.bytes)) = some (some (.agg #[.int .i64 0, .int .i64 0]), 2, 16) := by kernel_rfl
theorem info3 : (Tryz.prog.info? 3).map (fun i => (i.zero, i.size, i.bytes)) = some (some (.int .i64 0), 1, 8) := by kernel_rfl
/-- the cells behind an address -/
def srcCells (w : World) (ao : Option Addr) (m : Nat) : List Value := (List.range m).map fun j => (ao.bind fun a => w.cell? (a.add j)).getD undef
/-- what may be copied: nothing, or cells that are there, not too many -/
def Src (w : World) (ao : Option Addr) (n size bytes : Nat) : Prop := n * bytes ≤ 140737488351232 ∧ (n = 0 ∨ ∃ a, ao = some a ∧ ∀ j, j < n * size → ∃ u, w.cell? (a.add j) = some u)
def cpA (w : World) (n : Nat) : Option Addr := if n = 0 then none else some ⟨w.heap.size, 0, none⟩
def cpC (w : World) (n e : Nat) : Nat := if n = 0 then 0 else grownCap w n 0 e
def cpW (w : World) (ao : Option Addr) (n size e : Nat) (z : Value) : World := if n = 0 then w else w.drew.alloc (.cells ((srcCells w ao (n * size)).toArray ++ Builtin.zeroCells z.cells (grownCap w n 0 e - n)) e)
theorem src_hnews {w : World} {a : Addr} {m : Nat} (h : ∀ j, j < m → ∃ u, w.cell? (a.add j) = some u) : ∀ j u, (srcCells w (some a) m)[j]? = some u → w.cell? (a.add j) = some u := by
  intro j u hj
  have hjm : j < m := by
    rcases Nat.lt_or_ge j m with h | h
    · exact h
    · rw [List.getElem?_eq_none (by simp [srcCells]; exact h)] at hj; cases hj
  obtain ⟨v, hv⟩ := h j hjm
  simp [srcCells, hjm, hv] at hj
  rw [hv, hj]
theorem append_copy (t ty e : TypeId) (i : TypeInfo) (z : Value) (size bytes : Nat) (ht : Tryz.prog.underlying t = some (.slice e)) (hi : Tryz.prog.info? e = some i) (hz : i.zero = some z) (hsz : i.size = size) (hby : i.bytes = bytes)
    (hb8 : 8 ≤ bytes) (w : World) (ao : Option Addr) (n c : Nat) (h : Src w ao n size bytes) :
    (Builtin.append_ #[t, t] ty #[.slice none 0 0, .slice ao n c]).run Tryz.prog w = .ok (.slice (cpA w n) n (cpC w n e)) (cpW w ao n size e z) := by
  by_cases h0 : n = 0
  · subst h0
    simp only [cpA, cpC, cpW, if_pos]
    cases ao <;> simp [Builtin.append_, run_underlying ht, sizeOf, typeInfo, hi, Builtin.lenOf, Builtin.firstCells, loadCells, loadCellsFrom]
  · obtain ⟨hb, hs⟩ := h
    rcases hs with hs | ⟨a, rfl, hs⟩
    · exact absurd hs h0
    subst hsz hby
    have hle : n ≤ 140737488351232 := by
      have : n * 1 ≤ n * i.bytes := Nat.mul_le_mul_left n (by omega)
      omega
    have hr := run_append_nil (P := Tryz.prog) w t ty e i z ht hi hz a n c (srcCells w (some a) (n * i.size)) (by simp [srcCells]) (src_hnews hs) (by omega) (by omega) (by omega)
    rw [hr, cpA, cpC, cpW, if_neg h0, if_neg h0, if_neg h0]
theorem ap22 (w : World) (ao : Option Addr) (n c : Nat) (h : Src w ao n 2 16) :
    (Builtin.append_ #[33, 33] 33 #[.slice none 0 0, .slice ao n c]).run Tryz.prog w = .ok (.slice (cpA w n) n (cpC w n 74)) (cpW w ao n 2 74 (.agg #[.int .i64 0, .int .i64 0])) := by
  obtain ⟨i0, hi, hz0, hz1, hz2⟩ := info_parts info42
  exact append_copy 33 33 74 i0 _ 2 16 Tryz.underlying33 hi hz0 hz1 hz2 (by omega) w ao n c h
theorem ap23 (w : World) (ao : Option Addr) (n c : Nat) (h : Src w ao n 1 8) :
    (Builtin.append_ #[34, 34] 34 #[.slice none 0 0, .slice ao n c]).run Tryz.prog w = .ok (.slice (cpA w n) n (cpC w n 3)) (cpW w ao n 1 3 (.int .i64 0)) := by
  obtain ⟨i0, hi, hz0, hz1, hz2⟩ := info_parts info3
  exact append_copy 34 34 3 i0 _ 1 8 Tryz.underlying34 hi hz0 hz1 hz2 (by omega) w ao n c h
theorem cpW_below (w : World) (ao : Option Addr) (n size e : Nat) (z : Value) : Below w.heap.size w (cpW w ao n size e z) := by
  unfold cpW
  split
  · exact Below.refl _ _
  · exact (Below.refl _ _).drew.alloc (Nat.le_refl _) _
theorem Src.later {w w' : World} {ao : Option Addr} {n size bytes : Nat} (h : Src w ao n size bytes) (hb : Below w.heap.size w w') : Src w' ao n size bytes := by
  refine ⟨h.1, ?_⟩
  rcases h.2 with h0 | ⟨a, rfl, hs⟩
  · exact .inl h0
  · refine .inr ⟨a, rfl, fun j hj => ?_⟩
    obtain ⟨u, hu⟩ := hs j hj
    exact ⟨u, (hb.cell (p := a.add j) (World.block_lt_of_cell? w _ hu)).trans hu⟩
/-- n elements have been copied behind an address: into new memory; old memory is as it was -/
structure Copied (w : World) (ao : Option Addr) (n size : Nat) (A : Option Addr) (C : Nat) (w' : World) : Prop where
  below : Below w.heap.size w w'
  nil : A = none → C = 0
  cap : n ≤ C
  cells : 0 < n → ∃ a g, ao = some a ∧ A = some ⟨g, 0, none⟩ ∧ w.heap.size ≤ g ∧ ∀ j, j < n * size → w'.cell? ⟨g, j, none⟩ = w.cell? (a.add j)
theorem copied_of (w : World) (ao : Option Addr) (n size bytes e : Nat) (z : Value) (h : Src w ao n size bytes) : Copied w ao n size (cpA w n) (cpC w n e) (cpW w ao n size e z) := by
  refine ⟨cpW_below _ _ _ _ _ _, fun h => ?_, ?_, fun h0 => ?_⟩
  · unfold cpA at h; unfold cpC; split at h
    · rename_i h0; rw [if_pos h0]
    · cases h
  · unfold cpC; split
    · omega
    · exact grownCap_ge _ _ _ _
  rcases h.2 with hn | ⟨a, rfl, hs⟩
  · omega
  refine ⟨a, w.heap.size, rfl, by rw [cpA, if_neg (by omega)], Nat.le_refl _, fun j hj => ?_⟩
  obtain ⟨u, hu⟩ := hs j hj
  rw [cpW, if_neg (by omega), hu, show (⟨w.heap.size, j, none⟩ : Addr) = ⟨w.drew.heap.size, j, none⟩ from rfl, World.cell?_alloc_at _ _ _ _ rfl]
  rw [Array.getElem?_append_left (by simp [srcCells]; exact hj)]
  simp [srcCells, hj, hu]
theorem step_copy22 {ops : Array Oper} {o : Oper} {a : Act} {w : World} {K : Act → World → Prop} {Q : Exit → Act → World → Prop} {E : Prop} (hg : o.guard = none) (hty : o.type = 33) (s x : Operand)
    (hop : o.op = Op.call { callee := Callee.builtin Builtin.append, args := #[s, x], argTypes := #[33, 33] }) (ao : Option Addr) (n c : Nat) (hs : a.eval s = .slice none 0 0) (hx : a.eval x = .slice ao n c) (h : Src w ao n 2 16)
    (hK : ∀ A C w', Copied w ao n 2 A C w' → K (a.put o.dst (.slice A n C)) w') :
    if Region.wanted o (yielded ops a.tmps) = true then Oper.wp Tryz.prog o a w K Q else E := by
  have hw : Region.wanted o (yielded ops a.tmps) = true := by simp [Region.wanted, hg]
  rw [if_pos hw]
  unfold Oper.wp
  have hr := ap22 w ao n c h
  simp [execOp, hop, resolve, invoke, builtin, hs, hx, hty, hr, Result.andThen]
  exact hK _ _ _ (copied_of w ao n 2 16 74 _ h)
theorem step_copy23 {ops : Array Oper} {o : Oper} {a : Act} {w : World} {K : Act → World → Prop} {Q : Exit → Act → World → Prop} {E : Prop} (hg : o.guard = none) (hty : o.type = 34) (s x : Operand)
    (hop : o.op = Op.call { callee := Callee.builtin Builtin.append, args := #[s, x], argTypes := #[34, 34] }) (ao : Option Addr) (n c : Nat) (hs : a.eval s = .slice none 0 0) (hx : a.eval x = .slice ao n c) (h : Src w ao n 1 8)
    (hK : ∀ A C w', Copied w ao n 1 A C w' → K (a.put o.dst (.slice A n C)) w') :
    if Region.wanted o (yielded ops a.tmps) = true then Oper.wp Tryz.prog o a w K Q else E := by
  have hw : Region.wanted o (yielded ops a.tmps) = true := by simp [Region.wanted, hg]
  rw [if_pos hw]
  unfold Oper.wp
  have hr := ap23 w ao n c h
  simp [execOp, hop, resolve, invoke, builtin, hs, hx, hty, hr, Result.andThen]
  exact hK _ _ _ (copied_of w ao n 1 8 3 _ h)
theorem PkAt.set {w : World} {b : Nat} {k i v n : Int} {s d s' d' : Value} (h : PkAt w b k i v n s d) : PkAt ((w.setCell ⟨b, 4, none⟩ s').setCell ⟨b, 5, none⟩ d') b k i v n s' d' := by
  obtain ⟨h0, h1, h2, h3, h4, h5⟩ := h
  refine ⟨?_, ?_, ?_, ?_, ?_, ?_⟩
  · rw [World.cell?_setCell_other _ _ _ _ (by simp), World.cell?_setCell_other _ _ _ _ (by simp)]; exact h0
  · rw [World.cell?_setCell_other _ _ _ _ (by simp), World.cell?_setCell_other _ _ _ _ (by simp)]; exact h1
  · rw [World.cell?_setCell_other _ _ _ _ (by simp), World.cell?_setCell_other _ _ _ _ (by simp)]; exact h2
  · rw [World.cell?_setCell_other _ _ _ _ (by simp), World.cell?_setCell_other _ _ _ _ (by simp)]; exact h3
  · rw [World.cell?_setCell_other _ _ _ _ (by simp)]; exact World.cell?_setCell_same _ _ _ h4
  · exact World.cell?_setCell_same _ _ _ ((World.cell?_setCell_other _ _ _ _ (by simp)).trans h5)
theorem so {w : World} {b i j : Nat} {v u : Value} (hij : i ≠ j) (h : w.cell? ⟨b, j, none⟩ = some u) : (w.setCell ⟨b, i, none⟩ v).cell? ⟨b, j, none⟩ = some u :=
  (World.cell?_setCell_other _ _ _ _ (fun e => hij (by cases e; rfl))).trans h
theorem ss {w : World} {b i : Nat} {v u : Value} (h : w.cell? ⟨b, i, none⟩ = some u) : (w.setCell ⟨b, i, none⟩ v).cell? ⟨b, i, none⟩ = some v := World.cell?_setCell_same _ _ _ h
/-- six cells of a block, stored one behind the other -/
def set6 (w : World) (b : Nat) (v0 v1 v2 v3 v4 v5 : Value) : World :=
  (((((w.setCell ⟨b, 0, none⟩ v0).setCell ⟨b, 1, none⟩ v1).setCell ⟨b, 2, none⟩ v2).setCell ⟨b, 3, none⟩ v3).setCell ⟨b, 4, none⟩ v4).setCell ⟨b, 5, none⟩ v5
theorem set6_cells {w : World} {b : Nat} (v0 v1 v2 v3 v4 v5 : Value) (h : ∀ o, o < 6 → ∃ u, w.cell? ⟨b, o, none⟩ = some u) :
    (set6 w b v0 v1 v2 v3 v4 v5).cell? ⟨b, 0, none⟩ = some v0 ∧ (set6 w b v0 v1 v2 v3 v4 v5).cell? ⟨b, 1, none⟩ = some v1 ∧ (set6 w b v0 v1 v2 v3 v4 v5).cell? ⟨b, 2, none⟩ = some v2 ∧
    (set6 w b v0 v1 v2 v3 v4 v5).cell? ⟨b, 3, none⟩ = some v3 ∧ (set6 w b v0 v1 v2 v3 v4 v5).cell? ⟨b, 4, none⟩ = some v4 ∧ (set6 w b v0 v1 v2 v3 v4 v5).cell? ⟨b, 5, none⟩ = some v5 := by
  obtain ⟨u0, h0⟩ := h 0 (by omega)
  obtain ⟨u1, h1⟩ := h 1 (by omega)
  obtain ⟨u2, h2⟩ := h 2 (by omega)
  obtain ⟨u3, h3⟩ := h 3 (by omega)
  obtain ⟨u4, h4⟩ := h 4 (by omega)
  obtain ⟨u5, h5⟩ := h 5 (by omega)
  exact ⟨so (by decide) (so (by decide) (so (by decide) (so (by decide) (so (by decide) (ss (h0)))))), so (by decide) (so (by decide) (so (by decide) (so (by decide) (ss (so (by decide) (h1)))))), so (by decide) (so (by decide) (so (by decide) (ss (so (by decide) (so (by decide) (h2)))))), so (by decide) (so (by decide) (ss (so (by decide) (so (by decide) (so (by decide) (h3)))))), so (by decide) (ss (so (by decide) (so (by decide) (so (by decide) (so (by decide) (h4)))))), ss (so (by decide) (so (by decide) (so (by decide) (so (by decide) (so (by decide) (h5))))))⟩
theorem set6_below {B : Nat} {w0 w : World} {b : Nat} (v0 v1 v2 v3 v4 v5 : Value) (h : Below B w0 w) (hB : B ≤ b) : Below B w0 (set6 w b v0 v1 v2 v3 v4 v5) :=
  (((((h.setCell hB _).setCell hB _).setCell hB _).setCell hB _).setCell hB _).setCell hB _
theorem set6_other {w : World} {b : Nat} (v0 v1 v2 v3 v4 v5 : Value) {c : Nat} (hc : c ≠ b) : (set6 w b v0 v1 v2 v3 v4 v5).heap[c]? = w.heap[c]? := by
  unfold set6
  rw [Below.heap_setCell _ _ _ _ hc, Below.heap_setCell _ _ _ _ hc, Below.heap_setCell _ _ _ _ hc, Below.heap_setCell _ _ _ _ hc, Below.heap_setCell _ _ _ _ hc, Below.heap_setCell _ _ _ _ hc]
set_option maxHeartbeats 1000000 in
theorem copy_any (k i v n : Int) (sa da : Option Addr) (ls cs ld cd : Nat) (w : World) (hs : Src w sa ls 2 16) (hd : Src w da ld 1 8) :
    Calls Tryz.prog 44 #[.agg #[.int .i64 k, .int .i64 i, .int .i64 v, .int .i64 n, .slice sa ls cs, .slice da ld cd]] w fun e w' => ∃ A1 C1 A2 C2 w0 w1 w2,
      e = .returned (.agg #[.int .i64 k, .int .i64 i, .int .i64 v, .int .i64 n, .slice A1 ls C1, .slice A2 ld C2]) ∧ Below w.heap.size w w0 ∧ w0.heap.size = w.heap.size + 2 ∧ Copied w0 sa ls 2 A1 C1 w1 ∧ Copied w1 da ld 1 A2 C2 w2 ∧
      Below w.heap.size w w' ∧ (∀ b, w.heap.size + 2 ≤ b → w'.heap[b]? = w2.heap[b]?) := by
  have HB0 : Hid (∀ o o', Below w.heap.size w ((w.alloc o).alloc o').drew) := fun o o' => ((below_new w o).alloc (by simp) o').drew
  go_enter Tryz.func44, Tryz.ntmps44
  go_wp2
  go_region_law (first
    | (refine step_copy22 rfl rfl _ _ rfl sa ls cs rfl rfl (hs.later (HB0.out _ _)) ?_; intro A1 C1 w1 hcp1; have hd1 := (hd.later (HB0.out _ _)).later hcp1.below; have hcf1 := bcell hcp1.below; have hz1 : w.heap.size < w1.heap.size := (by have := hcp1.below.size; simp at this; omega); have hz1' : w.heap.size + 1 < w1.heap.size := (by have := hcp1.below.size; simp at this; omega); have HC1 : Hid _ := hcp1; clear hcp1)
    | (refine step_copy23 rfl rfl _ _ rfl da ld cd rfl rfl hd1 ?_; intro A2 C2 w2 hcp2; have hcf2 := bcell hcp2.below; have hz2 : w.heap.size < w2.heap.size := Nat.lt_of_lt_of_le hz1 hcp2.below.size; have hz2' : w.heap.size + 1 < w2.heap.size := Nat.lt_of_lt_of_le hz1' hcp2.below.size; have HC2 : Hid _ := hcp2; clear hcp2))
  all_goals
    clear hcf1 hcf2
    have PK0 := ((pkAt_new w k i v n (.slice sa ls cs) (.slice da ld cd)).later (B := w.heap.size + 1) (((Below.refl _ _).alloc (by simp) (Obj.cells #[Value.int IntKind.i64 0, Value.int IntKind.i64 0, Value.int IntKind.i64 0, Value.int IntKind.i64 0, Value.slice none 0 0, Value.slice none 0 0] 49)).drew) (Nat.lt_succ_self _))
    have PK2 := (PK0.later HC1.out.below (by simp; omega)).later HC2.out.below hz1
    have PK3 := PK2.set (s' := .slice A1 ls C1) (d' := .slice A2 ld C2)
    have hh : ((w2.setCell ⟨w.heap.size, 4, none⟩ (.slice A1 ls C1)).setCell ⟨w.heap.size, 5, none⟩ (.slice A2 ld C2)).heap[w.heap.size + 1]? = some (.cells #[Value.int IntKind.i64 0, Value.int IntKind.i64 0, Value.int IntKind.i64 0, Value.int IntKind.i64 0, Value.slice none 0 0, Value.slice none 0 0] 49) := by
      rw [Below.heap_setCell _ _ _ _ (by simp), Below.heap_setCell _ _ _ _ (by simp), HC2.out.below.block _ hz1', HC1.out.below.block _ (by simp)]
      have e : w.heap.size + 1 = (w.alloc (Obj.cells #[Value.int IntKind.i64 k, Value.int IntKind.i64 i, Value.int IntKind.i64 v, Value.int IntKind.i64 n, Value.slice sa ls cs, Value.slice da ld cd] 49)).heap.size := by simp
      rw [e]
      exact heap_alloc_new _ _
    have hbw : Below w.heap.size w ((w2.setCell ⟨w.heap.size, 4, none⟩ (.slice A1 ls C1)).setCell ⟨w.heap.size, 5, none⟩ (.slice A2 ld C2)) :=
      ((below_then (below_then (HB0.out _ _) HC1.out.below) HC2.out.below).setCell (Nat.le_refl _) _).setCell (Nat.le_refl _) _
    have hhi : ∀ b, w.heap.size + 2 ≤ b → ((w2.setCell ⟨w.heap.size, 4, none⟩ (.slice A1 ls C1)).setCell ⟨w.heap.size, 5, none⟩ (.slice A2 ld C2)).heap[b]? = w2.heap[b]? := fun b hb => by
      rw [Below.heap_setCell _ _ _ _ (by simp; omega), Below.heap_setCell _ _ _ _ (by simp; omega)]
    generalize ((w2.setCell ⟨w.heap.size, 4, none⟩ (.slice A1 ls C1)).setCell ⟨w.heap.size, 5, none⟩ (.slice A2 ld C2)) = w3 at *
    obtain ⟨c0, c1, c2, c3, c4, c5⟩ := PK3
    have HX : Hid (Below w.heap.size w w3 ∧ ∀ b, w.heap.size + 2 ≤ b → w3.heap[b]? = w2.heap[b]?) := ⟨hbw, hhi⟩
    have z0 : ∀ o, w3.cell? ⟨w.heap.size + 1, o, none⟩ = (#[Value.int IntKind.i64 0, Value.int IntKind.i64 0, Value.int IntKind.i64 0, Value.int IntKind.i64 0, Value.slice none 0 0, Value.slice none 0 0] : Array Value)[o]? := fun o => by simp [World.cell?, hh]
    have z1 : ∀ o, w3.frozen? ⟨w.heap.size + 1, o, none⟩ = false := fun o => by simp [World.frozen?, hh]
    clear hh hbw hhi PK0 PK2
    have hex : ∀ o, o < 6 → ∃ u, w3.cell? ⟨w.heap.size + 1, o, none⟩ = some u := fun o ho => by rw [z0]; exact ⟨_, Array.getElem?_eq_getElem (by simpa using ho)⟩
    have HEX : Hid _ := hex
    clear hex
    go_wp2
    have hD := set6_cells (w := w3) (b := w.heap.size + 1) (.int .i64 k) (.int .i64 i) (.int .i64 v) (.int .i64 n) (.slice A1 ls C1) (.slice A2 ld C2) HEX.out
    show bodyPost Tryz.prog Tryz.f44 _ Exit.ret _ (set6 w3 (w.heap.size + 1) (.int .i64 k) (.int .i64 i) (.int .i64 v) (.int .i64 n) (.slice A1 ls C1) (.slice A2 ld C2))
    have hB := set6_below (b := w.heap.size + 1) (.int .i64 k) (.int .i64 i) (.int .i64 v) (.int .i64 n) (.slice A1 ls C1) (.slice A2 ld C2) HX.out.1 (Nat.le_succ _)
    have hO := fun c (hc : w.heap.size + 2 ≤ c) => (set6_other (w := w3) (b := w.heap.size + 1) (.int .i64 k) (.int .i64 i) (.int .i64 v) (.int .i64 n) (.slice A1 ls C1) (.slice A2 ld C2) (show c ≠ w.heap.size + 1 by omega)).trans (HX.out.2 c hc)
    generalize set6 w3 (w.heap.size + 1) (.int .i64 k) (.int .i64 i) (.int .i64 v) (.int .i64 n) (.slice A1 ls C1) (.slice A2 ld C2) = w4 at *
    obtain ⟨d0, d1, d2, d3, d4, d5⟩ := hD
    exact bodyPost_ret (v := .agg #[.int .i64 k, .int .i64 i, .int .i64 v, .int .i64 n, .slice A1 ls C1, .slice A2 ld C2]) (by simp [results, Tryz.results44, go_sem, d0, d1, d2, d3, d4, d5]) rfl
      ⟨A1, C1, A2, C2, _, w1, w2, rfl, HB0.out _ _, by simp, HC1.out, HC2.out, hB, hO⟩
end Go.Proofs.YtjghbciepinofaaGreat.Cd

set_option maxRecDepth 100000
namespace Go.Proofs.YtjghbciepinofaaGreat.Pv
open Go.RowKit
section
variable {P : Nat → Prop} {w w' : World} {v : Value} {sz bts : Nat} {cs : List Value}
theorem Rep.src {n C : Nat} {A : Option Addr} (h : Rep P w (.slice A n C) sz bts cs) : Cd.Src w A n sz bts := by
  obtain ⟨A', m, C', h1, h2, h3, h4, h5⟩ := h
  cases h1
  refine ⟨h3, ?_⟩
  rcases Nat.eq_zero_or_pos n with h0 | h0
  · exact .inl h0
  · obtain ⟨b, off, rfl, _, _, hc⟩ := h5 h0
    refine .inr ⟨_, rfl, fun j hj => ?_⟩
    have hj' : j < cs.length := by omega
    exact ⟨cs[j], by rw [Addr.add_lit]; exact hc j _ (List.getElem?_eq_getElem hj')⟩
theorem Rep.copied {n C C1 : Nat} {A A1 : Option Addr} {w1 : World} (h : Rep P w (.slice A n C) sz bts cs) (hz : 0 < sz) (hc : Cd.Copied w A n sz A1 C1 w1) (hk : ∀ b, w.heap.size ≤ b → w'.heap[b]? = w1.heap[b]?) : Rep (fun b => w.heap.size ≤ b) w' (.slice A1 n C1) sz bts cs := by
  obtain ⟨A', m, C', h1, h2, h3, h4, h5⟩ := h
  cases h1
  refine ⟨A1, n, C1, rfl, h2, h3, ⟨hc.nil, hc.cap⟩, fun h0 => ?_⟩
  obtain ⟨b, off, rfl, _, _, hcell⟩ := h5 h0
  obtain ⟨a, g, ea, rfl, hg, hj⟩ := hc.cells h0
  cases ea
  have key : ∀ j u, cs[j]? = some u → w'.cell? ⟨g, 0 + j, none⟩ = some u := fun j u hu => by
    have hlt := (List.getElem?_eq_some_iff.1 hu).1
    rw [Nat.zero_add, World.cell?_of_block (w := w1) (a := ⟨g, j, none⟩) (hk g hg), hj j (by omega), Addr.add_lit]
    exact hcell j u hu
  have hpos : 0 < cs.length := by rw [h2]; exact Nat.mul_pos h0 hz
  have hlt : g < w'.heap.size := World.block_lt_of_cell? w' _ (key 0 cs[0] (List.getElem?_eq_getElem hpos))
  exact ⟨g, 0, rfl, hg, hlt, key⟩
theorem Rep.cellsOf {A : Option Addr} {n C : Nat} (h : Rep P w v sz bts cs) (hv : v = .slice A n C) : ∀ ad, A = some ad → ∀ j u, cs[j]? = some u → w.cell? (ad.add j) = some u := by
  subst hv
  obtain ⟨A', m, C', h1, h2, h3, h4, h5⟩ := h
  cases h1
  intro ad e j u hu
  rcases Nat.eq_zero_or_pos n with h0 | h0
  · subst h0
    have := (List.getElem?_eq_some_iff.1 hu).1
    omega
  · obtain ⟨b, off, a1, _, _, a4⟩ := h5 h0
    rw [a1] at e
    cases e
    rw [Addr.add_lit]
    exact a4 j u hu
/-- a line's two lists -/
theorem Rep.line {x : Ln.Line} {v1 v2 : Value} (h1 : Rep P w v1 1 16 (txC x.S)) (h2 : Rep P w v2 1 8 (inC x.D)) : ∃ A1 C1 A2 C2 sb so db dO, v1 = .slice A1 x.S.length C1 ∧ v2 = .slice A2 x.D.length C2 ∧ Ln.LAt w x A1 A2 C1 C2 sb so db dO ∧ (0 < x.S.length → P sb) ∧ (0 < x.D.length → P db) := by
  obtain ⟨A1, n1, C1, a1, a2, a3, a4, a5⟩ := h1
  obtain ⟨A2, n2, C2, b1, b2, b3, b4, b5⟩ := h2
  rw [txC_length] at a2
  rw [inC_length] at b2
  have e1 : n1 = x.S.length := by omega
  have e2 : n2 = x.D.length := by omega
  subst e1 e2
  have hs : ∃ sb so, (0 < x.S.length → A1 = some ⟨sb, so, none⟩ ∧ P sb) ∧ Ln.StrsAt w sb so x.S := by
    rcases Nat.eq_zero_or_pos x.S.length with h0 | h0
    · exact ⟨0, 0, fun h => by omega, fun i hi => by omega⟩
    · obtain ⟨b, off, e, hp, _, hc⟩ := a5 h0
      exact ⟨b, off, fun _ => ⟨e, hp⟩, fun i hi => hc i _ (txC_get _ i hi)⟩
  have hd : ∃ db dO, (0 < x.D.length → A2 = some ⟨db, dO, none⟩ ∧ P db) ∧ Ln.IntsAt w db dO x.D := by
    rcases Nat.eq_zero_or_pos x.D.length with h0 | h0
    · exact ⟨0, 0, fun h => by omega, fun i hi => by omega⟩
    · obtain ⟨b, off, e, hp, _, hc⟩ := b5 h0
      exact ⟨b, off, fun _ => ⟨e, hp⟩, fun i hi => hc i _ (inC_get _ i hi)⟩
  obtain ⟨sb, so, s1, s2⟩ := hs
  obtain ⟨db, dO, d1, d2⟩ := hd
  exact ⟨A1, C1, A2, C2, sb, so, db, dO, a1, b1, ⟨a3, b3, fun h => (s1 h).1, fun h => (d1 h).1, a4.1, b4.1, s2, d2⟩, fun h => (s1 h).2, fun h => (d1 h).2⟩
/-- a packet's two lists -/
theorem Rep.lies {S : List (Int × Int)} {D : List Int} {v1 v2 : Value} (h1 : Rep P w v1 2 16 (pwC S)) (h2 : Rep P w v2 1 8 (inC D)) : ∃ A1 C1 A2 C2 sb so db dO, v1 = .slice A1 S.length C1 ∧ v2 = .slice A2 D.length C2 ∧ Cd.Lies w S D A1 A2 sb so db dO := by
  obtain ⟨A1, n1, C1, a1, a2, a3, a4, a5⟩ := h1
  obtain ⟨A2, n2, C2, b1, b2, b3, b4, b5⟩ := h2
  rw [pwC_length] at a2
  rw [inC_length] at b2
  have e1 : n1 = S.length := by omega
  have e2 : n2 = D.length := by omega
  subst e1 e2
  have hs : ∃ sb so, (0 < S.length → A1 = some ⟨sb, so, none⟩) ∧ Cd.PwsAt w sb so S := by
    rcases Nat.eq_zero_or_pos S.length with h0 | h0
    · exact ⟨0, 0, fun h => by omega, fun i hi => by omega⟩
    · obtain ⟨b, off, e, hp, _, hc⟩ := a5 h0
      exact ⟨b, off, fun _ => e, fun i hi => ⟨hc _ _ (pwC_get _ i hi).1, hc _ _ (pwC_get _ i hi).2⟩⟩
  have hd : ∃ db dO, (0 < D.length → A2 = some ⟨db, dO, none⟩) ∧ Cd.IntsAt w db dO D := by
    rcases Nat.eq_zero_or_pos D.length with h0 | h0
    · exact ⟨0, 0, fun h => by omega, fun i hi => by omega⟩
    · obtain ⟨b, off, e, hp, _, hc⟩ := b5 h0
      exact ⟨b, off, fun _ => e, fun i hi => hc i _ (inC_get _ i hi)⟩
  obtain ⟨sb, so, s1, s2⟩ := hs
  obtain ⟨db, dO, d1, d2⟩ := hd
  exact ⟨A1, C1, A2, C2, sb, so, db, dO, a1, b1, ⟨by unfold maxLen; omega, by unfold maxLen; omega, s1, d1, s2, d2⟩⟩
end
/-- CopyPacket -/
theorem copyk_rep (k i v n : Int) (S : List (Int × Int)) (D : List Int) (y1 y2 : Value) (P : Nat → Prop) (w : World) (h1 : Rep P w y1 2 16 (pwC S)) (h2 : Rep P w y2 1 8 (inC D)) :
    Calls Tryz.prog 44 #[.agg #[.int .i64 k, .int .i64 i, .int .i64 v, .int .i64 n, y1, y2]] w fun e w' => ∃ z1 z2,
      e = .returned (.agg #[.int .i64 k, .int .i64 i, .int .i64 v, .int .i64 n, z1, z2]) ∧ Rep (fun b => w.heap.size ≤ b) w' z1 2 16 (pwC S) ∧ Rep (fun b => w.heap.size ≤ b) w' z2 1 8 (inC D) ∧ Below w.heap.size w w' := by
  obtain ⟨A1, n1, C1, rfl, a2⟩ := id h1
  obtain ⟨A2, n2, C2, rfl, b2⟩ := id h2
  refine (Cd.copy_any k i v n A1 A2 n1 C1 n2 C2 w h1.src h2.src).mono ?_
  rintro e w' ⟨B1, D1, B2, D2, w0, w1, w2, rfl, hB0, hz0, K1, K2, hB, hO⟩
  have g1 := h1.over hB0
  have g2 := (h2.over hB0).over K1.below
  refine ⟨_, _, rfl, ?_, ?_, hB⟩
  · have r1 : Rep (fun b => w0.heap.size ≤ b) w1 (.slice B1 n1 D1) 2 16 (pwC S) := g1.copied (by decide) K1 (fun _ _ => rfl)
    refine ((r1.over K2.below).keep (w' := w') fun b hb _ => hO b (by omega)).mono fun b _ hb => ?_
    omega
  · have r2 : Rep (fun b => w1.heap.size ≤ b) w2 (.slice B2 n2 D2) 1 8 (inC D) := g2.copied (by decide) K2 (fun _ _ => rfl)
    refine (r2.keep (w' := w') fun b hb _ => hO b (by have := K1.below.size; omega)).mono fun b _ hb => ?_
    have := K1.below.size
    omega
theorem infoPw2 : (Tryz.prog.info? 74).map (fun i => (i.zero, i.size, i.bytes)) = some (some (.agg #[.int .i64 0, .int .i64 0]), 2, 16) := by kernel_rfl
theorem infoI2 : (Tryz.prog.info? 3).map (fun i => (i.zero, i.size, i.bytes)) = some (some (.int .i64 0), 1, 8) := by kernel_rfl
theorem one_ins (l : List Int) : ∀ u ∈ inC l, u.oneCell' = true := Ln.one_ints l
theorem spl_mid (a x c y : List Value) (h : x.length = y.length) : spl (a ++ (x ++ c)).toArray a.length y = (a ++ (y ++ c)).toArray := by
  apply Array.ext_getElem?
  intro i
  rw [spl_get _ _ _ _ (by simp; omega)]
  simp only [List.getElem?_toArray]
  by_cases h1 : i < a.length
  · rw [if_neg (by omega), List.getElem?_append_left h1, List.getElem?_append_left h1]
  · obtain ⟨j, rfl⟩ : ∃ j, i = a.length + j := ⟨i - a.length, by omega⟩
    have e : ∀ z : List Value, (a ++ z)[a.length + j]? = z[j]? := fun z => by rw [List.getElem?_append_right (by omega), Nat.add_sub_cancel_left]
    rw [e, e, Nat.add_sub_cancel_left]
    by_cases h2 : j < y.length
    · rw [if_pos ⟨by omega, by omega⟩, List.getElem?_append_left h2]
    · rw [if_neg (by omega), List.getElem?_append_right (by omega), List.getElem?_append_right (by omega), h]
/-- an own row, appended to in a list of operations -/
theorem wpList_app {P : Program} {ops : Array Oper} {rest : List Oper} {o : Oper} {a : Act} {w : World} {Q : Exit → Act → World → Prop}
    (hg : o.guard = none) (s x : Operand) (t : TypeId) (hop : o.op = Op.call { callee := Callee.builtin Builtin.append, args := #[s, x], argTypes := #[t, t] })
    (base : Nat) (e : TypeId) (i : TypeInfo) (z : Value) (size bytes : Nat) (h1 : P.underlying t = some (.slice e)) (h2 : P.info? e = some i) (h3 : i.zero = some z) (h4 : i.size = size) (h5 : i.bytes = bytes) (h6 : z.cells.size = size) (h7 : 0 < size)
    (v : Value) (n : Nat) (xs : List Value) (hs : a.eval s = v) (hown : w.ownsRow base e size v n xs)
    (ao : Option Addr) (m c : Nat) (news : List Value) (hx : a.eval x = .slice ao m c) (hn : news.length = m * size) (hnone : ao = none → m = 0 ∧ c = 0) (hc : ∀ ad, ao = some ad → ∀ j u, news[j]? = some u → w.cell? (ad.add j) = some u) (h1c : ∀ u ∈ news, u.oneCell' = true)
    (b1 : n + m ≤ maxLen) (b2 : (n + m) * bytes ≤ 140737488355328) (b3 : base ≤ w.heap.size)
    (hK : ∀ A C w', w'.ownsRow base e size (.slice A (n + m) C) (n + m) (xs ++ news) → w.grownBy w' v.ownBlock → wpList P ops Q rest (a.put o.dst (.slice A (n + m) C)) w') : wpList P ops Q (o :: rest) a w := by
  refine wpList_plain hg fun K hK' => ?_
  have := Ln.step_app (P := P) (ops := ops) (o := o) (a := a) (w := w) (K := K) (Q := Q) (E := False) hg s x t hop base e i z size bytes h1 h2 h3 h4 h5 h6 h7 v n xs hs hown ao m c news hx hn hnone hc h1c b1 b2 b3 (fun A C w' r1 r2 => hK' _ _ (hK A C w' r1 r2))
  have hw : Region.wanted o (yielded ops a.tmps) = true := by simp [Region.wanted, hg]
  rwa [if_pos hw] at this
theorem set_mid (a x c : List Value) (n j : Nat) (u : Value) (hn : a.length = n) (hj : j < x.length) : ((a ++ (x ++ c)).toArray).setIfInBounds (n + j) u = (a ++ (x.set j u ++ c)).toArray := by
  subst hn
  rw [List.setIfInBounds_toArray, List.set_append_right _ _ (by omega), Nat.add_sub_cancel_left, List.set_append_left _ _ hj]
/-- all orders of a region come to one frame -/
def Join (A : Act) (R : World → Prop) (ex : Exit) (a : Act) (w : World) : Prop := ex = Exit.normal ∧ a = A ∧ R w
theorem wp_join {P : Program} {c : Code} {Q : Exit → Act → World → Prop} {a : Act} {w : World} (R : World → Prop) (A : Act) (h1 : Code.wp P c (Join A R) a w) (h2 : ∀ w', R w' → Q Exit.normal A w') : Code.wp P c Q a w :=
  Code.wp_mono (fun e a' w' h => by obtain ⟨rfl, rfl, h⟩ := h; exact h2 w' h) h1
/-- the same, with a value that comes about -/
def Joinx (A : Value → Act) (R : Value → World → Prop) (ex : Exit) (a : Act) (w : World) : Prop := ∃ x, ex = Exit.normal ∧ a = A x ∧ R x w
theorem wp_joinx {P : Program} {c : Code} {Q : Exit → Act → World → Prop} {a : Act} {w : World} (R : Value → World → Prop) (A : Value → Act) (h1 : Code.wp P c (Joinx A R) a w) (h2 : ∀ x w', R x w' → Q Exit.normal (A x) w') : Code.wp P c Q a w :=
  Code.wp_mono (fun e a' w' h => by obtain ⟨x, rfl, rfl, h⟩ := h; exact h2 x w' h) h1
end Go.Proofs.YtjghbciepinofaaGreat.Pv

