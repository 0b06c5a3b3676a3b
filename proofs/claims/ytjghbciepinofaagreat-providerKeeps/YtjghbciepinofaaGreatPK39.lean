/- Parts of the proof: LA LB LC LD. -/
import Derived.Test.YtjghbciepinofaaGreatRows
import Derived.WalkKit
import Derived.WalkSpells
import Derived.WalkLawsBesides
import Derived.WideShapes
import Derived.OwnWalk
import Derived.Deep.OwnRows
import Derived.Deep.DeepCutAuto
set_option maxRecDepth 100000
namespace Go.Proofs.YtjghbciepinofaaGreat.Ln
open Go.RowKit
/-- a line: what was said, when each of it is too late, how much came, whether it is closed -/
structure Line where
  S : List ByteArray
  D : List Int
  g : Int
  cl : Bool
/-- a list of ints lies at an address -/
def IntsAt (w : World) (b off : Nat) (l : List Int) : Prop := ∀ i, i < l.length → w.cell? ⟨b, off + i, none⟩ = some (.int .i64 (l.getD i 0))
/-- a list of texts lies at an address -/
def StrsAt (w : World) (b off : Nat) (l : List ByteArray) : Prop := ∀ i, i < l.length → w.cell? ⟨b, off + i, none⟩ = some (.string (l.getD i ByteArray.empty))
theorem IntsAt.laterB {B : Nat} {w w' : World} {b off : Nat} {l : List Int} (h : IntsAt w b off l) (hb : Below B w w') (hB : 0 < l.length → b < B) : IntsAt w' b off l := fun i hi =>
  (hb.cell (p := ⟨b, off + i, none⟩) (hB (by omega))).trans (h i hi)
theorem StrsAt.laterB {B : Nat} {w w' : World} {b off : Nat} {l : List ByteArray} (h : StrsAt w b off l) (hb : Below B w w') (hB : 0 < l.length → b < B) : StrsAt w' b off l := fun i hi =>
  (hb.cell (p := ⟨b, off + i, none⟩) (hB (by omega))).trans (h i hi)
theorem IntsAt.later {w w' : World} {b off : Nat} {l : List Int} (h : IntsAt w b off l) (hb : Below w.heap.size w w') : IntsAt w' b off l := fun i hi =>
  (hb.cell (p := ⟨b, off + i, none⟩) (World.block_lt_of_cell? w _ (h i hi))).trans (h i hi)
theorem StrsAt.later {w w' : World} {b off : Nat} {l : List ByteArray} (h : StrsAt w b off l) (hb : Below w.heap.size w w') : StrsAt w' b off l := fun i hi =>
  (hb.cell (p := ⟨b, off + i, none⟩) (World.block_lt_of_cell? w _ (h i hi))).trans (h i hi)
/-- a line's two lists lie in memory -/
structure LAt (w : World) (x : Line) (sa da : Option Addr) (cs cd sb so db dO : Nat) : Prop where
  hls : x.S.length * 16 ≤ 140737488351232
  hld : x.D.length * 8 ≤ 140737488351232
  hsa : 0 < x.S.length → sa = some ⟨sb, so, none⟩
  hda : 0 < x.D.length → da = some ⟨db, dO, none⟩
  ncs : sa = none → cs = 0
  ncd : da = none → cd = 0
  PS : StrsAt w sb so x.S
  PD : IntsAt w db dO x.D
theorem LAt.later {w w' : World} {x : Line} {sa da : Option Addr} {cs cd sb so db dO : Nat} (h : LAt w x sa da cs cd sb so db dO) (hb : Below w.heap.size w w') : LAt w' x sa da cs cd sb so db dO :=
  ⟨h.hls, h.hld, h.hsa, h.hda, h.ncs, h.ncd, h.PS.later hb, h.PD.later hb⟩
theorem LAt.ltS {w : World} {x : Line} {sa da : Option Addr} {cs cd sb so db dO : Nat} (h : LAt w x sa da cs cd sb so db dO) (h0 : 0 < x.S.length) : sb < w.heap.size := World.block_lt_of_cell? w _ (h.PS 0 h0)
theorem LAt.ltD {w : World} {x : Line} {sa da : Option Addr} {cs cd sb so db dO : Nat} (h : LAt w x sa da cs cd sb so db dO) (h0 : 0 < x.D.length) : db < w.heap.size := World.block_lt_of_cell? w _ (h.PD 0 h0)
theorem LAt.laterB {B : Nat} {w w' : World} {x : Line} {sa da : Option Addr} {cs cd sb so db dO : Nat} (h : LAt w x sa da cs cd sb so db dO) (hb : Below B w w') (hS : 0 < x.S.length → sb < B) (hD : 0 < x.D.length → db < B) : LAt w' x sa da cs cd sb so db dO :=
  ⟨h.hls, h.hld, h.hsa, h.hda, h.ncs, h.ncd, h.PS.laterB hb hS, h.PD.laterB hb hD⟩
/-- a value is a line, in memory below B -/
def LV (B : Nat) (w : World) (x : Line) (v : Value) : Prop :=
  ∃ sa da cs cd sb so db dO, v = .agg #[.slice sa x.S.length cs, .slice da x.D.length cd, .int .i64 x.g, .bool x.cl] ∧ LAt w x sa da cs cd sb so db dO ∧ (0 < x.S.length → sb < B) ∧ (0 < x.D.length → db < B)
theorem LV.later {B : Nat} {w w' : World} {x : Line} {v : Value} (h : LV B w x v) (hb : Below B w w') : LV B w' x v := by
  obtain ⟨sa, da, cs, cd, sb, so, db, dO, e, L, h1, h2⟩ := h
  exact ⟨sa, da, cs, cd, sb, so, db, dO, e, L.laterB hb h1 h2, h1, h2⟩
theorem hide {p : Prop} (h : p) : Hid p := h
theorem below_new (w : World) (o : Obj) : Below w.heap.size w (w.alloc o) := (Below.refl _ _).alloc (Nat.le_refl _) o
theorem below_step {w w' : World} {o : Obj} (h : Below (w.alloc o).heap.size (w.alloc o) w') : Below w.heap.size w w' :=
  (below_new w o).trans (h.mono (by simp))
theorem below_then {w w1 w2 : World} (h : Below w.heap.size w w1) (k : Below w1.heap.size w1 w2) : Below w.heap.size w w2 := h.trans (k.mono h.size)
theorem bcell {W w1 : World} (hb : Below W.heap.size W w1) : (∀ b o, b < W.heap.size → w1.cell? ⟨b, o, none⟩ = W.cell? ⟨b, o, none⟩) ∧ (∀ b o, b < W.heap.size → w1.frozen? ⟨b, o, none⟩ = W.frozen? ⟨b, o, none⟩) :=
  ⟨fun b o h => hb.cell (p := ⟨b, o, none⟩) h, fun b o h => hb.frozen (p := ⟨b, o, none⟩) h⟩
/-- no number below 0 -/
def nonneg (l : List Int) : Bool := l.all fun d => decide (0 ≤ d)
theorem nonneg_step {l : List Int} {k : Nat} (h : nonneg (l.take k) = true) (hl : k < l.length) (hd : 0 ≤ l.getD k 0) : nonneg (l.take (k + 1)) = true := by
  rw [List.take_succ_eq_append_getElem hl]
  simp [List.getD, hl] at hd
  unfold nonneg at *
  rw [List.all_append, h]
  simp [hd]
theorem nonneg_not {l : List Int} {k : Nat} (hl : k < l.length) (hd : l.getD k 0 < 0) : nonneg l = false := by
  simp [List.getD, hl] at hd
  simp only [nonneg, List.all_eq_false, decide_eq_true_eq]
  exact ⟨l[k], List.getElem_mem hl, by omega⟩
/-- P5.1: a line is one -/
def goodL (x : Line) : Bool := decide (x.D.length = x.S.length) && decide (x.S.length ≤ 400) && nonneg x.D && decide (0 ≤ x.g) && decide (x.g ≤ x.S.length)
/-- what any call says first -/
def refN (x : Line) : Int := if goodL x = false then 2 else if x.cl = true then 11 else 0
def sayE (x : Line) (due : Int) : Int := if due < 0 then 2 else if refN x ≠ 0 then refN x else if 400 ≤ x.S.length then 6 else 0
def sayL (x : Line) (s : ByteArray) (due : Int) : Line := if sayE x due = 0 then ⟨x.S ++ [s], x.D ++ [due], x.g, x.cl⟩ else x
theorem goodL_len {x : Line} (h : goodL x = true) : x.D.length = x.S.length ∧ x.S.length ≤ 400 ∧ 0 ≤ x.g ∧ x.g ≤ x.S.length := by
  simp [goodL] at h
  omega
theorem refN_good {x : Line} (h : refN x = 0) : goodL x = true ∧ x.cl = false := by
  unfold refN at h
  split at h
  · omega
  split at h
  · omega
  exact ⟨by simpa using ‹¬ goodL x = false›, by simpa using ‹¬ x.cl = true›⟩
end Go.Proofs.YtjghbciepinofaaGreat.Ln

set_option maxRecDepth 100000
namespace Go.Proofs.YtjghbciepinofaaGreat.Ln
open Go.RowKit
theorem goodL_cases (x : Line) :
    (x.D.length ≠ x.S.length ∧ goodL x = false) ∨ (x.D.length = x.S.length ∧ 400 < x.S.length ∧ goodL x = false) ∨
    (x.D.length = x.S.length ∧ x.S.length ≤ 400 ∧ (nonneg x.D = false → goodL x = false) ∧ (nonneg x.D = true → goodL x = (decide (0 ≤ x.g) && decide (x.g ≤ x.S.length)))) := by
  by_cases h1 : x.D.length = x.S.length
  · right
    by_cases h2 : x.S.length ≤ 400
    · right
      exact ⟨h1, h2, fun h3 => by simp [goodL, h3], fun h3 => by simp [goodL, h1, h2, h3]⟩
    · left
      exact ⟨h1, by omega, by simp [goodL, h2]⟩
  · left
    exact ⟨h1, by simp [goodL, h1]⟩
set_option maxHeartbeats 1000000 in
theorem good_any (x : Line) (sa da : Option Addr) (cs cd sb so db dO : Nat) (w : World) (L : LAt w x sa da cs cd sb so db dO) :
    Calls Tryz.prog 81 #[.agg #[.slice sa x.S.length cs, .slice da x.D.length cd, .int .i64 x.g, .bool x.cl]] w fun e w' => e = .returned (.bool (goodL x)) ∧ Below w.heap.size w w' := by
  obtain ⟨S, D, g, cl⟩ := x
  have hcs := goodL_cases ⟨S, D, g, cl⟩
  obtain ⟨hls, hld, hsa, hda, -, -, PS, PD⟩ := L
  have HB0 : Hid (∀ o, Below w.heap.size w (w.alloc o)) := fun o => below_new w o
  have HDA : Hid (0 < D.length → da = some ⟨db, dO, none⟩) := hda
  have HPD : Hid (IntsAt w db dO D) := PD
  clear hsa hda PS PD
  dsimp only at *
  generalize goodL ⟨S, D, g, cl⟩ = G at *
  rcases hcs with ⟨h1, rfl⟩ | ⟨h1, h2, rfl⟩ | ⟨h1, h2, h3, h4⟩
  · have hne : ((D.length : Int) != (S.length : Int)) = true := by simp; omega
    clear h1
    go_enter Tryz.func81, Tryz.ntmps81
    go_wp2
    go_ret
    exact ⟨rfl, HB0.out _⟩
  · have hne : ((D.length : Int) != (S.length : Int)) = false := by simp; omega
    clear h1
    go_enter Tryz.func81, Tryz.ntmps81
    go_wp2
    go_ret
    exact ⟨rfl, HB0.out _⟩
  · have hne : ((D.length : Int) != (S.length : Int)) = false := by simp; omega
    have hd2 : D.length ≤ 400 := by omega
    have HG : Hid ((nonneg D = false → G = false) ∧ (nonneg D = true → G = (decide (0 ≤ g) && decide (g ≤ S.length)))) := ⟨h3, h4⟩
    clear h1 h3 h4
    go_enter Tryz.func81, Tryz.ntmps81
    go_wp2
    go_loop [21] (fun i => ∃ (k : Nat), k ≤ D.length ∧ i = .int .i64 (k : Int) ∧ Hid (nonneg (D.take k) = true)) (fun i => D.length - (intOf i).toNat)
    case atStart => exact ⟨0, Nat.zero_le _, rfl, by simp [Hid, nonneg]⟩
    case round =>
      obtain ⟨k, hk, rfl, HR⟩ := hrel
      by_cases hlt : k < D.length
      · have hcell := (HPD.out.later (HB0.out (.cells #[.slice sa S.length cs, .slice da D.length cd, .int .i64 g, .bool cl] 37))) k hlt
        obtain ⟨y, hy⟩ : ∃ y, D.getD k 0 = y := ⟨_, rfl⟩
        rw [hy] at hcell
        have HY : Hid (D.getD k 0 = y) := hy
        clear hy
        have e := HDA.out (by omega)
        subst e
        by_cases hy0 : y < 0
        · go_wp2
          go_ret
          exact ⟨by rw [HG.out.1 (nonneg_not hlt (by rw [HY.out]; exact hy0))]; rfl, HB0.out _⟩
        · go_wp2
          go_round
          case rel => exact ⟨k + 1, by omega, by go_num, nonneg_step HR.out hlt (by rw [HY.out]; omega)⟩
          case measure => simp [intOf]; omega
      · have hG := HG.out.2 (by have := HR.out; rwa [List.take_of_length_le (by omega)] at this)
        by_cases hg0 : 0 ≤ g
        · by_cases hg1 : g ≤ (S.length : Int)
          · have HF : Hid (G = true) := by show _ = _; rw [hG]; simp [hg0, hg1]
            clear hG
            go_wp2
            go_ret
            exact ⟨by rw [HF.out]; rfl, HB0.out _⟩
          · have HF : Hid (G = false) := by show _ = _; rw [hG]; simp [hg1]
            clear hG
            go_wp2
            go_ret
            exact ⟨by rw [HF.out]; rfl, HB0.out _⟩
        · have HF : Hid (G = false) := by show _ = _; rw [hG]; simp [hg0]
          clear hG
          go_wp2
          go_ret
          exact ⟨by rw [HF.out]; rfl, HB0.out _⟩
set_option maxHeartbeats 1000000 in
theorem ref_any (x : Line) (sa da : Option Addr) (cs cd sb so db dO : Nat) (w : World) (L : LAt w x sa da cs cd sb so db dO) :
    Calls Tryz.prog 116 #[.agg #[.slice sa x.S.length cs, .slice da x.D.length cd, .int .i64 x.g, .bool x.cl]] w fun e w' => e = .returned (.int .i64 (refN x)) ∧ Below w.heap.size w w' := by
  have hg := good_any x sa da cs cd sb so db dO _ (L.later (below_new w (.cells #[.slice sa x.S.length cs, .slice da x.D.length cd, .int .i64 x.g, .bool x.cl] 37)))
  clear L
  obtain ⟨S, D, g, cl⟩ := x
  unfold refN
  dsimp only at *
  generalize goodL ⟨S, D, g, cl⟩ = G at *
  cases G <;> cases cl
  all_goals go_enter Tryz.func116, Tryz.ntmps116
  all_goals go_wp2_with (go_at_call 81; refine hg.mono ?_; rintro e w1 ⟨rfl, hb⟩; obtain ⟨hc, hf⟩ := bcell hb; have HB1 : Hid (Below w.heap.size w w1) := below_step hb; clear hb)
  all_goals go_ret
  all_goals exact ⟨rfl, HB1.out⟩
end Go.Proofs.YtjghbciepinofaaGreat.Ln

set_option maxRecDepth 100000
namespace Go.Proofs.YtjghbciepinofaaGreat.Ln
open Go.RowKit
theorem infoStr : (Tryz.prog.info? 9).map (fun i => (i.zero, i.size, i.bytes)) = some (some (.string ⟨#[]⟩), 1, 16) := by kernel_rfl
theorem infoI : (Tryz.prog.info? 3).map (fun i => (i.zero, i.size, i.bytes)) = some (some (.int .i64 0), 1, 8) := by kernel_rfl
/-- what an own row holds lies there -/
theorem own_strs {B : Nat} {w : World} {g n c e : Nat} {l : List ByteArray} (h : w.ownsRow B e 1 (.slice (some ⟨g, 0, none⟩) n c) n (l.map .string)) : B ≤ g ∧ g < w.heap.size ∧ StrsAt w g 0 l := by
  rcases h.2 with ⟨h1, _⟩ | ⟨g', cap, cur, hv, hb, hg, hn, hm, hs, ht⟩
  · cases h1
  · cases hv
    refine ⟨hb, (Array.getElem?_eq_some_iff.1 hg).1, fun i hi => ?_⟩
    have hl : l.length = n := by have := h.1; simpa using this
    have : (cur.toList.take (n * 1))[i]? = some (.string (l.getD i ByteArray.empty)) := by rw [ht]; simp [List.getD, hi]
    rw [List.getElem?_take_of_lt (by omega)] at this
    simp only [World.cell?, hg, Nat.zero_add]
    simpa using this
theorem own_ints {B : Nat} {w : World} {g n c e : Nat} {l : List Int} (h : w.ownsRow B e 1 (.slice (some ⟨g, 0, none⟩) n c) n (l.map (.int .i64))) : B ≤ g ∧ g < w.heap.size ∧ IntsAt w g 0 l := by
  rcases h.2 with ⟨h1, _⟩ | ⟨g', cap, cur, hv, hb, hg, hn, hm, hs, ht⟩
  · cases h1
  · cases hv
    refine ⟨hb, (Array.getElem?_eq_some_iff.1 hg).1, fun i hi => ?_⟩
    have hl : l.length = n := by have := h.1; simpa using this
    have : (cur.toList.take (n * 1))[i]? = some (.int .i64 (l.getD i 0)) := by rw [ht]; simp [List.getD, hi]
    rw [List.getElem?_take_of_lt (by omega)] at this
    simp only [World.cell?, hg, Nat.zero_add]
    simpa using this
theorem withs_src {w : World} {b off : Nat} {l : List ByteArray} {a : Option Addr} (ha : 0 < l.length → a = some ⟨b, off, none⟩) (hc : StrsAt w b off l) : ∀ ad, a = some ad → ∀ j u, (l.map Value.string)[j]? = some u → w.cell? (ad.add j) = some u := by
  intro ad e j u hu
  have hj : j < l.length := by have := (List.getElem?_eq_some_iff.1 hu).1; simpa using this
  rw [ha (by omega)] at e
  cases e
  rw [Addr.add_lit, hc j hj]
  simp [hj] at hu
  simp [List.getD, hj, hu]
set_option maxHeartbeats 1000000 in
theorem withs_any (l : List ByteArray) (a : Option Addr) (c b off : Nat) (s : ByteArray) (w : World) (hl : l.length ≤ 400) (ha : 0 < l.length → a = some ⟨b, off, none⟩) (hn : a = none → c = 0) (hc : StrsAt w b off l) :
    Calls Tryz.prog 117 #[.slice a l.length c, Value.string s] w fun e w' => ∃ g C, e = .returned (.slice (some ⟨g, 0, none⟩) (l ++ [s]).length C) ∧ w.heap.size ≤ g ∧ g < w'.heap.size ∧ StrsAt w' g 0 (l ++ [s]) ∧ Below w.heap.size w w' := by
  obtain ⟨i0, hi, hz0, hz1, hz2⟩ := info_parts infoStr
  have hb1 : i0.bytes * (l.length + 1) ≤ 281474976710656 := by rw [hz2]; omega
  have hb2 : l.length + 1 ≤ maxLen := by unfold maxLen; omega
  have hnn : a = none → l.length = 0 ∧ c = 0 := fun e => by
    refine ⟨?_, hn e⟩
    rcases Nat.eq_zero_or_pos l.length with h | h
    · exact h
    · rw [ha h] at e; cases e
  have HC : Hid (0 < l.length → a = some ⟨b, off, none⟩) := ha
  have HD : Hid (StrsAt w b off l) := hc
  have h1c : ∀ u ∈ l.map Value.string, u.oneCell' = true := fun u hu => by
    simp at hu
    obtain ⟨t, _, rfl⟩ := hu
    rfl
  clear ha hc hn
  go_enter Tryz.func117, Tryz.ntmps117
  go_wp2_with (first
    | (refine wpList_make_own _ rfl _ _ 35 rfl w.heap.size 9 i0 _ 1 Tryz.underlying35 hi hz0 hz1 .i64 .i64 _ (l.length + 1) rfl rfl ?_ hb1 hb2 (Nat.le_refl _) ?_
       · first | omega | simp
       intro w1 ho1 hg1
       have B1 := (Below.refl w.heap.size w).grown hg1 (Nat.le_refl _) (fun k hk => by cases hk)
       have HB1 := hide B1
       have sc := withs_src HC.out (HD.out.later B1)
       clear B1 hg1)
    | (have _m := sc
       at_builtin
       refine wpList_append_fits_any _ rfl _ _ 35 rfl w.heap.size 9 i0 1 Tryz.underlying35 hi hz1 w.heap.size 0 (l.length + 1) [] rfl ho1 a l.length c (l.map Value.string) rfl (by simp) hnn sc h1c (by omega) ?_
       intro w2 ho2 hg2
       have HB2 := hide (HB1.out.grown hg2 HB1.out.size (fun k hk => by cases hk; exact Nat.le_refl _))
       rw [List.nil_append, Nat.zero_add] at ho2
       clear hg2 sc ho1)
    | (at_builtin
       refine wpList_append_fits _ rfl _ _ 35 rfl w.heap.size 9 i0 1 Tryz.underlying35 hi hz1 w.heap.size l.length (l.length + 1) (l.map Value.string) ?_ (World.ownsRow.alloc ho2 _) ⟨w2.heap.size, 0, none⟩ 1 1 [Value.string s] rfl rfl (cell_one_new _ _ _) (by simp [Value.oneCell']) (by omega) ?_
       · first | rfl | simp
       intro w3 ho3 hg3
       have HB3 := hide ((HB2.out.alloc HB2.out.size _).grown hg3 (Nat.le_trans HB2.out.size (by simp)) (fun k hk => by cases hk; exact Nat.le_refl _))))
  go_ret
  rw [show l.map Value.string ++ [Value.string s] = (l ++ [s]).map Value.string by simp] at ho3
  obtain ⟨o1, o2, o3⟩ := own_strs ho3
  exact ⟨w.heap.size, l.length + 1, by simp, Nat.le_refl _, o2, o3, HB3.out⟩
theorem withi_src {w : World} {b off : Nat} {l : List Int} {a : Option Addr} (ha : 0 < l.length → a = some ⟨b, off, none⟩) (hc : IntsAt w b off l) : ∀ ad, a = some ad → ∀ j u, (l.map (Value.int .i64))[j]? = some u → w.cell? (ad.add j) = some u := by
  intro ad e j u hu
  have hj : j < l.length := by have := (List.getElem?_eq_some_iff.1 hu).1; simpa using this
  rw [ha (by omega)] at e
  cases e
  rw [Addr.add_lit, hc j hj]
  simp [hj] at hu
  simp [List.getD, hj, hu]
set_option maxHeartbeats 1000000 in
theorem withi_any (l : List Int) (a : Option Addr) (c b off : Nat) (s : Int) (w : World) (hl : l.length ≤ 400) (ha : 0 < l.length → a = some ⟨b, off, none⟩) (hn : a = none → c = 0) (hc : IntsAt w b off l) :
    Calls Tryz.prog 118 #[.slice a l.length c, (Value.int .i64) s] w fun e w' => ∃ g C, e = .returned (.slice (some ⟨g, 0, none⟩) (l ++ [s]).length C) ∧ w.heap.size ≤ g ∧ g < w'.heap.size ∧ IntsAt w' g 0 (l ++ [s]) ∧ Below w.heap.size w w' := by
  obtain ⟨i0, hi, hz0, hz1, hz2⟩ := info_parts infoI
  have hb1 : i0.bytes * (l.length + 1) ≤ 281474976710656 := by rw [hz2]; omega
  have hb2 : l.length + 1 ≤ maxLen := by unfold maxLen; omega
  have hnn : a = none → l.length = 0 ∧ c = 0 := fun e => by
    refine ⟨?_, hn e⟩
    rcases Nat.eq_zero_or_pos l.length with h | h
    · exact h
    · rw [ha h] at e; cases e
  have HC : Hid (0 < l.length → a = some ⟨b, off, none⟩) := ha
  have HD : Hid (IntsAt w b off l) := hc
  have h1c : ∀ u ∈ l.map (Value.int .i64), u.oneCell' = true := fun u hu => by
    simp at hu
    obtain ⟨t, _, rfl⟩ := hu
    rfl
  clear ha hc hn
  go_enter Tryz.func118, Tryz.ntmps118
  go_wp2_with (first
    | (refine wpList_make_own _ rfl _ _ 34 rfl w.heap.size 3 i0 _ 1 Tryz.underlying34 hi hz0 hz1 .i64 .i64 _ (l.length + 1) rfl rfl ?_ hb1 hb2 (Nat.le_refl _) ?_
       · first | omega | simp
       intro w1 ho1 hg1
       have B1 := (Below.refl w.heap.size w).grown hg1 (Nat.le_refl _) (fun k hk => by cases hk)
       have HB1 := hide B1
       have sc := withi_src HC.out (HD.out.later B1)
       clear B1 hg1)
    | (have _m := sc
       at_builtin
       refine wpList_append_fits_any _ rfl _ _ 34 rfl w.heap.size 3 i0 1 Tryz.underlying34 hi hz1 w.heap.size 0 (l.length + 1) [] rfl ho1 a l.length c (l.map (Value.int .i64)) rfl (by simp) hnn sc h1c (by omega) ?_
       intro w2 ho2 hg2
       have HB2 := hide (HB1.out.grown hg2 HB1.out.size (fun k hk => by cases hk; exact Nat.le_refl _))
       rw [List.nil_append, Nat.zero_add] at ho2
       clear hg2 sc ho1)
    | (at_builtin
       refine wpList_append_fits _ rfl _ _ 34 rfl w.heap.size 3 i0 1 Tryz.underlying34 hi hz1 w.heap.size l.length (l.length + 1) (l.map (Value.int .i64)) ?_ (World.ownsRow.alloc ho2 _) ⟨w2.heap.size, 0, none⟩ 1 1 [(Value.int .i64) s] rfl rfl (cell_one_new _ _ _) (by simp [Value.oneCell']) (by omega) ?_
       · first | rfl | simp
       intro w3 ho3 hg3
       have HB3 := hide ((HB2.out.alloc HB2.out.size _).grown hg3 (Nat.le_trans HB2.out.size (by simp)) (fun k hk => by cases hk; exact Nat.le_refl _))))
  go_ret
  rw [show l.map (Value.int .i64) ++ [(Value.int .i64) s] = (l ++ [s]).map (Value.int .i64) by simp] at ho3
  obtain ⟨o1, o2, o3⟩ := own_ints ho3
  exact ⟨w.heap.size, l.length + 1, by simp, Nat.le_refl _, o2, o3, HB3.out⟩
end Go.Proofs.YtjghbciepinofaaGreat.Ln

set_option maxRecDepth 100000
namespace Go.Proofs.YtjghbciepinofaaGreat.Ln
open Go.RowKit
/-- a value is a line, in memory below B: its lists lie where they lay, or in new memory -/
def LVX (lo sb0 db0 : Nat) (x0 : Line) (B : Nat) (w : World) (x : Line) (v : Value) : Prop :=
  ∃ sa da cs cd sb so db dO, v = .agg #[.slice sa x.S.length cs, .slice da x.D.length cd, .int .i64 x.g, .bool x.cl] ∧ LAt w x sa da cs cd sb so db dO ∧ (0 < x.S.length → sb < B ∧ ((sb = sb0 ∧ x.S = x0.S) ∨ lo ≤ sb)) ∧ (0 < x.D.length → db < B ∧ ((db = db0 ∧ x.D = x0.D) ∨ lo ≤ db))
/-- what a call on a line answers: a line, in memory that is there, and an error -/
def Ans (sb0 db0 : Nat) (x0 : Line) (w : World) (r : Line × Int) (e : Ending) (w' : World) : Prop := ∃ v, e = .returned (.tuple #[v, .int .i64 r.2]) ∧ LVX w.heap.size sb0 db0 x0 w'.heap.size w' r.1 v ∧ Below w.heap.size w w'
/-- four cells of a block -/
def FAt (w : World) (b : Nat) (v0 v1 v2 v3 : Value) : Prop := w.heap[b]? = some (.cells #[v0, v1, v2, v3] 37)
section
variable {w w' : World} {b B : Nat} {v0 v1 v2 v3 : Value}
theorem FAt.later (h : FAt w b v0 v1 v2 v3) (hb : Below B w w') (hB : b < B) : FAt w' b v0 v1 v2 v3 := (hb.block b hB).trans h
theorem FAt.new (w : World) (v0 v1 v2 v3 : Value) : FAt (w.alloc (.cells #[v0, v1, v2, v3] 37)) w.heap.size v0 v1 v2 v3 := heap_alloc_new _ _
theorem FAt.lt (h : FAt w b v0 v1 v2 v3) : b < w.heap.size := (Array.getElem?_eq_some_iff.1 h).1
theorem FAt.alloc (h : FAt w b v0 v1 v2 v3) (o : Obj) : FAt (w.alloc o) b v0 v1 v2 v3 := (Below.heap_alloc _ _ _ h.lt).trans h
theorem FAt.other {c o : Nat} (h : FAt w b v0 v1 v2 v3) (hb : b ≠ c) (v : Value) : FAt (w.setCell ⟨c, o, none⟩ v) b v0 v1 v2 v3 := (Below.heap_setCell _ _ _ _ hb).trans h
theorem FAt.facts (h : FAt w b v0 v1 v2 v3) : (w.cell? ⟨b, 0, none⟩ = some v0 ∧ w.cell? ⟨b, 1, none⟩ = some v1 ∧ w.cell? ⟨b, 2, none⟩ = some v2 ∧ w.cell? ⟨b, 3, none⟩ = some v3) ∧ (w.frozen? ⟨b, 0, none⟩ = false ∧ w.frozen? ⟨b, 1, none⟩ = false ∧ w.frozen? ⟨b, 2, none⟩ = false ∧ w.frozen? ⟨b, 3, none⟩ = false) := by
  unfold FAt at h
  simp [World.cell?, World.frozen?, h]
theorem FAt.set_0 (h : FAt w b v0 v1 v2 v3) (v : Value) : FAt (w.setCell ⟨b, 0, none⟩ v) b v v1 v2 v3 := by
  unfold FAt at *
  simp [World.setCell, Array.getElem?_modify, h]
theorem FAt.set_1 (h : FAt w b v0 v1 v2 v3) (v : Value) : FAt (w.setCell ⟨b, 1, none⟩ v) b v0 v v2 v3 := by
  unfold FAt at *
  simp [World.setCell, Array.getElem?_modify, h]
theorem FAt.set_2 (h : FAt w b v0 v1 v2 v3) (v : Value) : FAt (w.setCell ⟨b, 2, none⟩ v) b v0 v1 v v3 := by
  unfold FAt at *
  simp [World.setCell, Array.getElem?_modify, h]
theorem FAt.set_3 (h : FAt w b v0 v1 v2 v3) (v : Value) : FAt (w.setCell ⟨b, 3, none⟩ v) b v0 v1 v2 v := by
  unfold FAt at *
  simp [World.setCell, Array.getElem?_modify, h]
end
/-- the four cells are written -/
def set4 (w : World) (b : Nat) (v0 v1 v2 v3 : Value) : World := (((w.setCell ⟨b, 0, none⟩ v0).setCell ⟨b, 1, none⟩ v1).setCell ⟨b, 2, none⟩ v2).setCell ⟨b, 3, none⟩ v3
theorem set4_at {w : World} {b : Nat} {u0 u1 u2 u3 : Value} (h : FAt w b u0 u1 u2 u3) (v0 v1 v2 v3 : Value) : FAt (set4 w b v0 v1 v2 v3) b v0 v1 v2 v3 := (((h.set_0 v0).set_1 v1).set_2 v2).set_3 v3
theorem set4_below {B : Nat} {w0 w : World} {b : Nat} (v0 v1 v2 v3 : Value) (h : Below B w0 w) (hB : B ≤ b) : Below B w0 (set4 w b v0 v1 v2 v3) := (((h.setCell hB _).setCell hB _).setCell hB _).setCell hB _
theorem set4_other {w : World} {b : Nat} (v0 v1 v2 v3 : Value) {c : Nat} (hc : c ≠ b) : (set4 w b v0 v1 v2 v3).heap[c]? = w.heap[c]? := by
  unfold set4
  rw [Below.heap_setCell _ _ _ _ hc, Below.heap_setCell _ _ _ _ hc, Below.heap_setCell _ _ _ _ hc, Below.heap_setCell _ _ _ _ hc]
theorem cell_of_heap {w w' : World} {b : Nat} (h : w'.heap[b]? = w.heap[b]?) (o : Nat) : w'.cell? ⟨b, o, none⟩ = w.cell? ⟨b, o, none⟩ := World.cell?_of_block (w := w) (a := ⟨b, o, none⟩) h
theorem cell_ne {w : World} {b c o : Nat} {v : Value} (h : c ≠ b) (k : Nat) : (w.setCell ⟨b, o, none⟩ v).cell? ⟨c, k, none⟩ = w.cell? ⟨c, k, none⟩ := cell_of_heap (Below.heap_setCell _ _ _ _ h) k
/-- a line's lists in a world that has changed in one block alone -/
theorem LAt.set {w w' : World} {x : Line} {sa da : Option Addr} {cs cd sb so db dO : Nat} (h : LAt w x sa da cs cd sb so db dO) (hS : 0 < x.S.length → w'.heap[sb]? = w.heap[sb]?) (hD : 0 < x.D.length → w'.heap[db]? = w.heap[db]?) : LAt w' x sa da cs cd sb so db dO :=
  ⟨h.hls, h.hld, h.hsa, h.hda, h.ncs, h.ncd, fun i hi => (cell_of_heap (hS (by omega)) _).trans (h.PS i hi), fun i hi => (cell_of_heap (hD (by omega)) _).trans (h.PD i hi)⟩
/-- how a call ends that answers a line in a block of its own, stored whole -/
theorem line_end {f : Func} {p q : Tmp} (hres : f.results = #[.cell p 37, .tmp q]) {w wq : World} {b : Nat} {u0 u1 u2 u3 : Value} (R : FAt wq b u0 u1 u2 u3) (H : Below w.heap.size w wq) (hB : w.heap.size ≤ b) (x : Line) (sa da : Option Addr) (cs cd sb so db dO : Nat) (L : LAt wq x sa da cs cd sb so db dO)
    (hS : 0 < x.S.length → sb ≠ b) (hD : 0 < x.D.length → db ≠ b) {sb0 db0 : Nat} {x0 : Line} (hS0 : 0 < x.S.length → (sb = sb0 ∧ x.S = x0.S) ∨ w.heap.size ≤ sb) (hD0 : 0 < x.D.length → (db = db0 ∧ x.D = x0.D) ∨ w.heap.size ≤ db) (nS nD : Nat) (eS : nS = x.S.length) (eD : nD = x.D.length) (er : Int) (r : Line × Int) (hr : r = (x, er)) (act : Act)
    (h8 : act.tmps.getD p undef = .pointer (some ⟨b, 0, none⟩)) (h9 : act.tmps.getD q undef = .int .i64 er) (hd : act.defers = []) :
    bodyPost Tryz.prog f (fun e w' => Ans sb0 db0 x0 w r e w') Exit.ret act (set4 wq b (.slice sa nS cs) (.slice da nD cd) (.int .i64 x.g) (.bool x.cl)) := by
  subst hr eS eD
  have R1 := set4_at R (.slice sa x.S.length cs) (.slice da x.D.length cd) (.int .i64 x.g) (.bool x.cl)
  have H1 := set4_below (.slice sa x.S.length cs) (.slice da x.D.length cd) (.int .i64 x.g) (.bool x.cl) H hB
  have L1 : LAt (set4 wq b (.slice sa x.S.length cs) (.slice da x.D.length cd) (.int .i64 x.g) (.bool x.cl)) x sa da cs cd sb so db dO := L.set (fun h => set4_other _ _ _ _ (hS h)) (fun h => set4_other _ _ _ _ (hD h))
  generalize set4 wq b (.slice sa x.S.length cs) (.slice da x.D.length cd) (.int .i64 x.g) (.bool x.cl) = w9 at *
  obtain ⟨⟨c0, c1, c2, c3⟩, -⟩ := R1.facts
  have h8' : act.tmps[p]?.getD undef = .pointer (some ⟨b, 0, none⟩) := by simpa using h8
  have h9' : act.tmps[q]?.getD undef = .int .i64 er := by simpa using h9
  exact bodyPost_ret (v := .tuple #[.agg #[.slice sa x.S.length cs, .slice da x.D.length cd, .int .i64 x.g, .bool x.cl], .int .i64 er]) (by simp [results, hres, go_sem, h8', h9', c0, c1, c2, c3]) hd ⟨_, rfl, ⟨sa, da, cs, cd, sb, so, db, dO, rfl, L1, fun h => ⟨L1.ltS h, hS0 h⟩, fun h => ⟨L1.ltD h, hD0 h⟩⟩, H1⟩
theorem say_cases (x : Line) (s : ByteArray) (due : Int) :
    (due < 0 ∧ (sayL x s due, sayE x due) = (x, 2)) ∨ (0 ≤ due ∧ refN x ≠ 0 ∧ (sayL x s due, sayE x due) = (x, refN x)) ∨ (0 ≤ due ∧ refN x = 0 ∧ 400 ≤ x.S.length ∧ (sayL x s due, sayE x due) = (x, 6)) ∨
    (0 ≤ due ∧ refN x = 0 ∧ x.S.length < 400 ∧ (sayL x s due, sayE x due) = (⟨x.S ++ [s], x.D ++ [due], x.g, x.cl⟩, 0)) := by
  unfold sayL
  by_cases h1 : due < 0
  · left; simp [sayE, h1]
  right
  by_cases h2 : refN x = 0
  · right
    by_cases h3 : 400 ≤ x.S.length
    · left; refine ⟨by omega, h2, h3, ?_⟩; simp [sayE, h1, h2, h3]
    · right; refine ⟨by omega, h2, by omega, ?_⟩; simp [sayE, h1, h2, h3]
  · left; refine ⟨by omega, h2, ?_⟩; simp [sayE, h1, h2]
theorem FAt.new2 (w : World) (o : Obj) (v0 v1 v2 v3 : Value) : FAt ((w.alloc o).alloc (.cells #[v0, v1, v2, v3] 37)) (w.heap.size + 1) v0 v1 v2 v3 := by
  have := FAt.new (w.alloc o) v0 v1 v2 v3
  rwa [show (w.alloc o).heap.size = w.heap.size + 1 by simp] at this
/-- what is known once the line lies in a block, and a block for the answer is there -/
structure Begun (w w0 : World) (x : Line) (sa da : Option Addr) (cs cd sb so db dO : Nat) : Prop where
  F1 : FAt w0 w.heap.size (.slice sa x.S.length cs) (.slice da x.D.length cd) (.int .i64 x.g) (.bool x.cl)
  F2 : FAt w0 (w.heap.size + 1) (.slice none 0 0) (.slice none 0 0) (.int .i64 0) (.bool false)
  L : LAt w0 x sa da cs cd sb so db dO
  ltS : 0 < x.S.length → sb < w.heap.size
  ltD : 0 < x.D.length → db < w.heap.size
  below : Below w.heap.size w w0
  size : w.heap.size + 2 ≤ w0.heap.size
theorem begun {w : World} {x : Line} {sa da : Option Addr} {cs cd sb so db dO : Nat} (L : LAt w x sa da cs cd sb so db dO) : Begun w ((w.alloc (.cells #[.slice sa x.S.length cs, .slice da x.D.length cd, .int .i64 x.g, .bool x.cl] 37)).alloc (.cells #[.slice none 0 0, .slice none 0 0, .int .i64 0, .bool false] 37)) x sa da cs cd sb so db dO := by
  have hb : Below w.heap.size w ((w.alloc (.cells #[.slice sa x.S.length cs, .slice da x.D.length cd, .int .i64 x.g, .bool x.cl] 37)).alloc (.cells #[.slice none 0 0, .slice none 0 0, .int .i64 0, .bool false] 37)) := (below_new w _).alloc (by simp) _
  exact ⟨(FAt.new w _ _ _ _).alloc _, FAt.new2 w _ _ _ _ _, L.later hb, L.ltS, L.ltD, hb, by simp⟩
theorem Begun.over {w w0 w1 : World} {x : Line} {sa da : Option Addr} {cs cd sb so db dO : Nat} (h : Begun w w0 x sa da cs cd sb so db dO) (hb : Below w0.heap.size w0 w1) : Begun w w1 x sa da cs cd sb so db dO :=
  ⟨h.F1.later hb h.F1.lt, h.F2.later hb h.F2.lt, h.L.later hb, h.ltS, h.ltD, below_then h.below hb, Nat.le_trans h.size hb.size⟩
/-- as it was, with an error -/
theorem Begun.asItWas {f : Func} {p q : Tmp} (hres : f.results = #[.cell p 37, .tmp q]) {w w0 : World} {x : Line} {sa da : Option Addr} {cs cd sb so db dO : Nat} (h : Begun w w0 x sa da cs cd sb so db dO) (er : Int) (r : Line × Int) (hr : r = (x, er)) (act : Act)
    (h8 : act.tmps.getD p undef = .pointer (some ⟨w.heap.size + 1, 0, none⟩)) (h9 : act.tmps.getD q undef = .int .i64 er) (hd : act.defers = []) :
    bodyPost Tryz.prog f (fun e w' => Ans sb db x w r e w') Exit.ret act (set4 w0 (w.heap.size + 1) (.slice sa x.S.length cs) (.slice da x.D.length cd) (.int .i64 x.g) (.bool x.cl)) :=
  line_end hres h.F2 h.below (Nat.le_succ _) x sa da cs cd sb so db dO h.L (fun h0 => by have := h.ltS h0; omega) (fun h0 => by have := h.ltD h0; omega) (fun _ => .inl ⟨rfl, rfl⟩) (fun _ => .inl ⟨rfl, rfl⟩) _ _ rfl rfl er r hr act h8 h9 hd
set_option maxHeartbeats 2000000 in
theorem say_any (x : Line) (sa da : Option Addr) (cs cd sb so db dO : Nat) (s : ByteArray) (due : Int) (w : World) (L : LAt w x sa da cs cd sb so db dO) :
    Calls Tryz.prog 72 #[.agg #[.slice sa x.S.length cs, .slice da x.D.length cd, .int .i64 x.g, .bool x.cl], .string s, .int .i64 due] w fun e w' => Ans sb db x w (sayL x s due, sayE x due) e w' := by
  have hcs := say_cases x s due
  generalize (sayL x s due, sayE x due) = r at *
  have HB := hide (begun L)
  have HREF := hide (fun w (L : LAt w x sa da cs cd sb so db dO) => ref_any x sa da cs cd sb so db dO w L)
  clear L
  go_enter Tryz.func72, Tryz.ntmps72
  go_upto_region 1 with fail
  generalize ((w.alloc (.cells #[.slice sa x.S.length cs, .slice da x.D.length cd, .int .i64 x.g, .bool x.cl] 37)).alloc (.cells #[.slice none 0 0, .slice none 0 0, .int .i64 0, .bool false] 37)) = w0 at *
  obtain ⟨⟨c0, c1, c2, c3⟩, -⟩ := HB.out.F1.facts
  obtain ⟨⟨d0, d1, d2, d3⟩, ⟨f0, f1, f2, f3⟩⟩ := HB.out.F2.facts
  have hgd := fun h => goodL_len (refN_good (x := x) h).1
  have HGD := hide hgd
  clear hgd
  generalize refN x = R at *
  rcases hcs with ⟨h1, hr⟩ | ⟨h1, h2, hr⟩ | ⟨h1, h2, h3, hr⟩ | ⟨h1, h2, h3, hr⟩
  · have HR := hide hr
    clear hr
    go_wp2
    exact HB.out.asItWas rfl _ _ HR.out _ rfl rfl rfl
  · have HR := hide hr
    have h2' : (R != 0) = true := by simpa using h2
    clear hr h2
    go_wp2_with (go_at_call 116; refine (HREF.out _ HB.out.L).mono ?_; rintro e w1 ⟨rfl, hb⟩; have HB1 := hide (HB.out.over hb); clear hb c0 c1 c2 c3 d0 d1 d2 d3 f0 f1 f2 f3; obtain ⟨⟨c0, c1, c2, c3⟩, -⟩ := HB1.out.F1.facts; obtain ⟨⟨d0, d1, d2, d3⟩, ⟨f0, f1, f2, f3⟩⟩ := HB1.out.F2.facts)
    exact HB1.out.asItWas rfl _ _ HR.out _ rfl rfl rfl
  · have HR := hide hr
    subst h2
    clear hr
    go_wp2_with (go_at_call 116; refine (HREF.out _ HB.out.L).mono ?_; rintro e w1 ⟨rfl, hb⟩; have HB1 := hide (HB.out.over hb); clear hb c0 c1 c2 c3 d0 d1 d2 d3 f0 f1 f2 f3; obtain ⟨⟨c0, c1, c2, c3⟩, -⟩ := HB1.out.F1.facts; obtain ⟨⟨d0, d1, d2, d3⟩, ⟨f0, f1, f2, f3⟩⟩ := HB1.out.F2.facts)
    exact HB1.out.asItWas rfl _ _ HR.out _ rfl rfl rfl
  · have HR := hide hr
    subst h2
    obtain ⟨hl1, hl2, -, -⟩ := HGD.out rfl
    have HL1 := hide hl1
    clear hr hl1
    go_upto_region 8 with (go_at_call 116; refine (HREF.out _ HB.out.L).mono ?_; rintro e w1 ⟨rfl, hb⟩; have HB1 := hide (HB.out.over hb); clear hb c0 c1 c2 c3 d0 d1 d2 d3 f0 f1 f2 f3; obtain ⟨⟨c0, c1, c2, c3⟩, ⟨e0, e1, e2, e3⟩⟩ := HB1.out.F1.facts)
    go_upto_region 9 with (go_at_call 117; refine (withs_any x.S sa cs sb so s _ hl2 HB1.out.L.hsa HB1.out.L.ncs HB1.out.L.PS).mono ?_; rintro e w2 ⟨g1, C1, rfl, hg1, hg1', hS, hb⟩; have HB2 := hide (HB1.out.over hb); have HS := hide (show _ ∧ _ ∧ _ from ⟨hS, hg1, hg1'⟩); have HZ := hide hb.size; clear hb hS hg1 hg1' c0 c1 c2 c3 e0 e1 e2 e3; obtain ⟨⟨c0, c1, c2, c3⟩, ⟨e0, e1, e2, e3⟩⟩ := HB2.out.F1.facts)
    have F1 := HB2.out.F1.set_0 (.slice (some ⟨g1, 0, none⟩) (x.S.length + 1) C1)
    have F2 := HB2.out.F2.other (c := w.heap.size) (o := 0) (by omega) (.slice (some ⟨g1, 0, none⟩) (x.S.length + 1) C1)
    have BW := HB2.out.below.setCell (p := ⟨w.heap.size, 0, none⟩) (Nat.le_refl _) (.slice (some ⟨g1, 0, none⟩) (x.S.length + 1) C1)
    have PD := HB2.out.L.PD.laterB ((Below.refl w.heap.size w2).setCell (p := ⟨w.heap.size, 0, none⟩) (Nat.le_refl _) (.slice (some ⟨g1, 0, none⟩) (x.S.length + 1) C1)) HB2.out.ltD
    have PS : StrsAt (w2.setCell ⟨w.heap.size, 0, none⟩ (.slice (some ⟨g1, 0, none⟩) (x.S.length + 1) C1)) g1 0 (x.S ++ [s]) := fun i hi => (cell_ne (by have := HB1.out.size; have := HS.out.2.1; omega) _).trans (HS.out.1 i hi)
    have hz : (w2.setCell ⟨w.heap.size, 0, none⟩ (.slice (some ⟨g1, 0, none⟩) (x.S.length + 1) C1)).heap.size = w2.heap.size := by simp
    have hz2 : w.heap.size + 2 ≤ g1 ∧ g1 < w2.heap.size := ⟨by have := HB1.out.size; have := HS.out.2.1; omega, HS.out.2.2⟩
    clear c0 c1 c2 c3 e0 e1 e2 e3
    generalize (w2.setCell ⟨w.heap.size, 0, none⟩ (.slice (some ⟨g1, 0, none⟩) (x.S.length + 1) C1)) = w3 at *
    obtain ⟨⟨c0, c1, c2, c3⟩, ⟨e0, e1, e2, e3⟩⟩ := F1.facts
    have HX := hide (show _ ∧ _ ∧ _ ∧ _ ∧ _ ∧ _ ∧ _ from ⟨F1, F2, BW, PD, PS, hz, hz2⟩)
    clear F1 F2 BW PD PS hz hz2
    go_upto_region 10 with (go_at_call 118; refine (withi_any x.D da cd db dO due _ (by rw [HL1.out]; exact hl2) HB2.out.L.hda HB2.out.L.ncd HX.out.2.2.2.1).mono ?_; rintro e w4 ⟨g2, C2, rfl, hg2, hg2', hD, hb⟩; have HY := hide (show _ ∧ _ ∧ _ ∧ _ from ⟨hD, hg2, hg2', hb⟩); have F1 := HX.out.1.later hb HX.out.1.lt; clear hb hD hg2 hg2' c0 c1 c2 c3 e0 e1 e2 e3; obtain ⟨⟨c0, c1, c2, c3⟩, ⟨e0, e1, e2, e3⟩⟩ := F1.facts)
    have F2 := (HX.out.2.1.later HY.out.2.2.2 HX.out.2.1.lt).other (c := w.heap.size) (o := 1) (by omega) (.slice (some ⟨g2, 0, none⟩) (x.D.length + 1) C2)
    have F1' := F1.set_1 (.slice (some ⟨g2, 0, none⟩) (x.D.length + 1) C2)
    have BW := (below_then HX.out.2.2.1 HY.out.2.2.2).setCell (p := ⟨w.heap.size, 1, none⟩) (Nat.le_refl _) (.slice (some ⟨g2, 0, none⟩) (x.D.length + 1) C2)
    have z := HX.out.2.2.2.2.2
    have z2 := HY.out.2.1
    have LN : LAt (w4.setCell ⟨w.heap.size, 1, none⟩ (.slice (some ⟨g2, 0, none⟩) (x.D.length + 1) C2)) ⟨x.S ++ [s], x.D ++ [due], x.g, x.cl⟩ (some ⟨g1, 0, none⟩) (some ⟨g2, 0, none⟩) C1 C2 g1 0 g2 0 := by
      refine ⟨?_, ?_, fun _ => rfl, fun _ => rfl, fun h => (by cases h), fun h => (by cases h), fun i hi => ?_, fun i hi => ?_⟩
      · show (x.S ++ [s]).length * 16 ≤ _
        simp; omega
      · show (x.D ++ [due]).length * 8 ≤ _
        simp [HL1.out]; omega
      · exact (cell_ne (by omega) _).trans ((HY.out.2.2.2.cell (p := ⟨g1, 0 + i, none⟩) (by show g1 < _; omega)).trans (HX.out.2.2.2.2.1 i hi))
      · exact (cell_ne (by omega) _).trans (HY.out.1 i hi)
    clear c0 c1 c2 c3 e0 e1 e2 e3
    generalize (w4.setCell ⟨w.heap.size, 1, none⟩ (.slice (some ⟨g2, 0, none⟩) (x.D.length + 1) C2)) = w5 at *
    obtain ⟨⟨c0, c1, c2, c3⟩, -⟩ := F1'.facts
    obtain ⟨⟨d0, d1, d2, d3⟩, ⟨f0, f1, f2, f3⟩⟩ := F2.facts
    have HZZ := hide (show _ ∧ _ ∧ _ from ⟨F2, BW, LN⟩)
    have hne1 : g1 ≠ w.heap.size + 1 := by omega
    have hne2 : g2 ≠ w.heap.size + 1 := by omega
    have hge1 : w.heap.size ≤ g1 := by omega
    have hge2 : w.heap.size ≤ g2 := by omega
    have HNE := hide (show (_ ∧ _) ∧ _ ∧ _ from ⟨⟨hne1, hge1⟩, hne2, hge2⟩)
    clear F1 F1' F2 BW LN hne1 hne2 hge1 hge2 z z2
    go_wp2
    exact line_end rfl HZZ.out.1 HZZ.out.2.1 (Nat.le_succ _) ⟨x.S ++ [s], x.D ++ [due], x.g, x.cl⟩ _ _ _ _ _ _ _ _ HZZ.out.2.2 (fun _ => HNE.out.1.1) (fun _ => HNE.out.2.1) (fun _ => .inr HNE.out.1.2) (fun _ => .inr HNE.out.2.2) _ _ (by simp) (by simp) _ _ HR.out _ rfl rfl rfl
end Go.Proofs.YtjghbciepinofaaGreat.Ln

