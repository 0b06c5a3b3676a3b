/- Parts of the proof: LA LB. -/
import Derived.Test.YtdkalcnlncjgiaaRows
import Derived.WalkKit
import Derived.WalkSpells
import Derived.WalkLawsBesides
import Derived.WideShapes
set_option maxRecDepth 100000
namespace Go.Proofs.Ytdkalcnlncjgiaa.Ln
open Go.RowKit
/-- a line: what was said, when each of it is too late, how much came, whether it is closed -/
structure Line where
  S : List ByteArray
  D : List Int
  g : Int
  cl : Bool
/-- a list of ints lies at an address -/
def IntsAt (w : World) (b off : Nat) (l : List Int) : Prop := ∀ i, i < l.length → w.cell? ⟨b, off + i, none⟩ = some (.int .i64 (l.getD i 0))
/-- a list of texts lies at an address -/
def StrsAt (w : World) (b off : Nat) (l : List ByteArray) : Prop := ∀ i, i < l.length → w.cell? ⟨b, off + i, none⟩ = some (.string (l.getD i ByteArray.empty))
theorem IntsAt.laterB {B : Nat} {w w' : World} {b off : Nat} {l : List Int} (h : IntsAt w b off l) (hb : Below B w w') (hB : 0 < l.length → b < B) : IntsAt w' b off l := fun i hi =>
  (hb.cell (p := ⟨b, off + i, none⟩) (hB (by omega))).trans (h i hi)
theorem StrsAt.laterB {B : Nat} {w w' : World} {b off : Nat} {l : List ByteArray} (h : StrsAt w b off l) (hb : Below B w w') (hB : 0 < l.length → b < B) : StrsAt w' b off l := fun i hi =>
  (hb.cell (p := ⟨b, off + i, none⟩) (hB (by omega))).trans (h i hi)
theorem IntsAt.later {w w' : World} {b off : Nat} {l : List Int} (h : IntsAt w b off l) (hb : Below w.heap.size w w') : IntsAt w' b off l := fun i hi =>
  (hb.cell (p := ⟨b, off + i, none⟩) (World.block_lt_of_cell? w _ (h i hi))).trans (h i hi)
theorem StrsAt.later {w w' : World} {b off : Nat} {l : List ByteArray} (h : StrsAt w b off l) (hb : Below w.heap.size w w') : StrsAt w' b off l := fun i hi =>
  (hb.cell (p := ⟨b, off + i, none⟩) (World.block_lt_of_cell? w _ (h i hi))).trans (h i hi)
/-- a line's two lists lie in memory -/
structure LAt (w : World) (x : Line) (sa da : Option Addr) (cs cd sb so db dO : Nat) : Prop where
  hls : x.S.length * 16 ≤ 140737488351232
  hld : x.D.length * 8 ≤ 140737488351232
  hsa : 0 < x.S.length → sa = some ⟨sb, so, none⟩
  hda : 0 < x.D.length → da = some ⟨db, dO, none⟩
  ncs : sa = none → cs = 0
  ncd : da = none → cd = 0
  PS : StrsAt w sb so x.S
  PD : IntsAt w db dO x.D
theorem LAt.later {w w' : World} {x : Line} {sa da : Option Addr} {cs cd sb so db dO : Nat} (h : LAt w x sa da cs cd sb so db dO) (hb : Below w.heap.size w w') : LAt w' x sa da cs cd sb so db dO :=
  ⟨h.hls, h.hld, h.hsa, h.hda, h.ncs, h.ncd, h.PS.later hb, h.PD.later hb⟩
theorem LAt.ltS {w : World} {x : Line} {sa da : Option Addr} {cs cd sb so db dO : Nat} (h : LAt w x sa da cs cd sb so db dO) (h0 : 0 < x.S.length) : sb < w.heap.size := World.block_lt_of_cell? w _ (h.PS 0 h0)
theorem LAt.ltD {w : World} {x : Line} {sa da : Option Addr} {cs cd sb so db dO : Nat} (h : LAt w x sa da cs cd sb so db dO) (h0 : 0 < x.D.length) : db < w.heap.size := World.block_lt_of_cell? w _ (h.PD 0 h0)
theorem LAt.laterB {B : Nat} {w w' : World} {x : Line} {sa da : Option Addr} {cs cd sb so db dO : Nat} (h : LAt w x sa da cs cd sb so db dO) (hb : Below B w w') (hS : 0 < x.S.length → sb < B) (hD : 0 < x.D.length → db < B) : LAt w' x sa da cs cd sb so db dO :=
  ⟨h.hls, h.hld, h.hsa, h.hda, h.ncs, h.ncd, h.PS.laterB hb hS, h.PD.laterB hb hD⟩
/-- a value is a line, in memory below B -/
def LV (B : Nat) (w : World) (x : Line) (v : Value) : Prop :=
  ∃ sa da cs cd sb so db dO, v = .agg #[.slice sa x.S.length cs, .slice da x.D.length cd, .int .i64 x.g, .bool x.cl] ∧ LAt w x sa da cs cd sb so db dO ∧ (0 < x.S.length → sb < B) ∧ (0 < x.D.length → db < B)
theorem LV.later {B : Nat} {w w' : World} {x : Line} {v : Value} (h : LV B w x v) (hb : Below B w w') : LV B w' x v := by
  obtain ⟨sa, da, cs, cd, sb, so, db, dO, e, L, h1, h2⟩ := h
  exact ⟨sa, da, cs, cd, sb, so, db, dO, e, L.laterB hb h1 h2, h1, h2⟩
theorem hide {p : Prop} (h : p) : Hid p := h
theorem below_new (w : World) (o : Obj) : Below w.heap.size w (w.alloc o) := (Below.refl _ _).alloc (Nat.le_refl _) o
theorem below_step {w w' : World} {o : Obj} (h : Below (w.alloc o).heap.size (w.alloc o) w') : Below w.heap.size w w' :=
  (below_new w o).trans (h.mono (by simp))
theorem below_then {w w1 w2 : World} (h : Below w.heap.size w w1) (k : Below w1.heap.size w1 w2) : Below w.heap.size w w2 := h.trans (k.mono h.size)
theorem bcell {W w1 : World} (hb : Below W.heap.size W w1) : (∀ b o, b < W.heap.size → w1.cell? ⟨b, o, none⟩ = W.cell? ⟨b, o, none⟩) ∧ (∀ b o, b < W.heap.size → w1.frozen? ⟨b, o, none⟩ = W.frozen? ⟨b, o, none⟩) :=
  ⟨fun b o h => hb.cell (p := ⟨b, o, none⟩) h, fun b o h => hb.frozen (p := ⟨b, o, none⟩) h⟩
theorem take_step {α : Type} {l m : List α} {k : Nat} (d : α) (h : l.take k = m.take k) (hl : k < l.length) (hm : k < m.length) (he : l.getD k d = m.getD k d) : l.take (k + 1) = m.take (k + 1) := by
  rw [List.take_succ_eq_append_getElem hl, List.take_succ_eq_append_getElem hm, h]
  simp [List.getD, hl, hm] at he
  rw [he]
/-- no number below 0 -/
def nonneg (l : List Int) : Bool := l.all fun d => decide (0 ≤ d)
theorem nonneg_step {l : List Int} {k : Nat} (h : nonneg (l.take k) = true) (hl : k < l.length) (hd : 0 ≤ l.getD k 0) : nonneg (l.take (k + 1)) = true := by
  rw [List.take_succ_eq_append_getElem hl]
  simp [List.getD, hl] at hd
  unfold nonneg at *
  rw [List.all_append, h]
  simp [hd]
theorem nonneg_not {l : List Int} {k : Nat} (hl : k < l.length) (hd : l.getD k 0 < 0) : nonneg l = false := by
  simp [List.getD, hl] at hd
  simp only [nonneg, List.all_eq_false, decide_eq_true_eq]
  exact ⟨l[k], List.getElem_mem hl, by omega⟩
/-- P5.1: a line is one -/
def goodL (x : Line) : Bool := decide (x.D.length = x.S.length) && decide (x.S.length ≤ 400) && nonneg x.D && decide (0 ≤ x.g) && decide (x.g ≤ x.S.length)
/-- what any call says first -/
def refN (x : Line) : Int := if goodL x = false then 2 else if x.cl = true then 11 else 0
def sayE (x : Line) (due : Int) : Int := if due < 0 then 2 else if refN x ≠ 0 then refN x else if 400 ≤ x.S.length then 6 else 0
def sayL (x : Line) (s : ByteArray) (due : Int) : Line := if sayE x due = 0 then ⟨x.S ++ [s], x.D ++ [due], x.g, x.cl⟩ else x
theorem goodL_len {x : Line} (h : goodL x = true) : x.D.length = x.S.length ∧ x.S.length ≤ 400 ∧ 0 ≤ x.g ∧ x.g ≤ x.S.length := by
  simp [goodL] at h
  omega
theorem refN_good {x : Line} (h : refN x = 0) : goodL x = true ∧ x.cl = false := by
  unfold refN at h
  split at h
  · omega
  split at h
  · omega
  exact ⟨by simpa using ‹¬ goodL x = false›, by simpa using ‹¬ x.cl = true›⟩
end Go.Proofs.Ytdkalcnlncjgiaa.Ln

set_option maxRecDepth 100000
namespace Go.Proofs.Ytdkalcnlncjgiaa.Ln
open Go.RowKit
theorem goodL_cases (x : Line) :
    (x.D.length ≠ x.S.length ∧ goodL x = false) ∨ (x.D.length = x.S.length ∧ 400 < x.S.length ∧ goodL x = false) ∨
    (x.D.length = x.S.length ∧ x.S.length ≤ 400 ∧ (nonneg x.D = false → goodL x = false) ∧ (nonneg x.D = true → goodL x = (decide (0 ≤ x.g) && decide (x.g ≤ x.S.length)))) := by
  by_cases h1 : x.D.length = x.S.length
  · right
    by_cases h2 : x.S.length ≤ 400
    · right
      exact ⟨h1, h2, fun h3 => by simp [goodL, h3], fun h3 => by simp [goodL, h1, h2, h3]⟩
    · left
      exact ⟨h1, by omega, by simp [goodL, h2]⟩
  · left
    exact ⟨h1, by simp [goodL, h1]⟩
set_option maxHeartbeats 1000000 in
theorem good_any (x : Line) (sa da : Option Addr) (cs cd sb so db dO : Nat) (w : World) (L : LAt w x sa da cs cd sb so db dO) :
    Calls Try.prog 47 #[.agg #[.slice sa x.S.length cs, .slice da x.D.length cd, .int .i64 x.g, .bool x.cl]] w fun e w' => e = .returned (.bool (goodL x)) ∧ Below w.heap.size w w' := by
  obtain ⟨S, D, g, cl⟩ := x
  have hcs := goodL_cases ⟨S, D, g, cl⟩
  obtain ⟨hls, hld, hsa, hda, -, -, PS, PD⟩ := L
  have HB0 : Hid (∀ o, Below w.heap.size w (w.alloc o)) := fun o => below_new w o
  have HDA : Hid (0 < D.length → da = some ⟨db, dO, none⟩) := hda
  have HPD : Hid (IntsAt w db dO D) := PD
  clear hsa hda PS PD
  dsimp only at *
  generalize goodL ⟨S, D, g, cl⟩ = G at *
  rcases hcs with ⟨h1, rfl⟩ | ⟨h1, h2, rfl⟩ | ⟨h1, h2, h3, h4⟩
  · have hne : ((D.length : Int) != (S.length : Int)) = true := by simp; omega
    clear h1
    go_enter Try.func47, Try.ntmps47
    go_wp2
    go_ret
    exact ⟨rfl, HB0.out _⟩
  · have hne : ((D.length : Int) != (S.length : Int)) = false := by simp; omega
    clear h1
    go_enter Try.func47, Try.ntmps47
    go_wp2
    go_ret
    exact ⟨rfl, HB0.out _⟩
  · have hne : ((D.length : Int) != (S.length : Int)) = false := by simp; omega
    have hd2 : D.length ≤ 400 := by omega
    have HG : Hid ((nonneg D = false → G = false) ∧ (nonneg D = true → G = (decide (0 ≤ g) && decide (g ≤ S.length)))) := ⟨h3, h4⟩
    clear h1 h3 h4
    go_enter Try.func47, Try.ntmps47
    go_wp2
    go_loop [21] (fun i => ∃ (k : Nat), k ≤ D.length ∧ i = .int .i64 (k : Int) ∧ Hid (nonneg (D.take k) = true)) (fun i => D.length - (intOf i).toNat)
    case atStart => exact ⟨0, Nat.zero_le _, rfl, by simp [Hid, nonneg]⟩
    case round =>
      obtain ⟨k, hk, rfl, HR⟩ := hrel
      by_cases hlt : k < D.length
      · have hcell := (HPD.out.later (HB0.out (.cells #[.slice sa S.length cs, .slice da D.length cd, .int .i64 g, .bool cl] 29))) k hlt
        obtain ⟨y, hy⟩ : ∃ y, D.getD k 0 = y := ⟨_, rfl⟩
        rw [hy] at hcell
        have HY : Hid (D.getD k 0 = y) := hy
        clear hy
        have e := HDA.out (by omega)
        subst e
        by_cases hy0 : y < 0
        · go_wp2
          go_ret
          exact ⟨by rw [HG.out.1 (nonneg_not hlt (by rw [HY.out]; exact hy0))]; rfl, HB0.out _⟩
        · go_wp2
          go_round
          case rel => exact ⟨k + 1, by omega, by go_num, nonneg_step HR.out hlt (by rw [HY.out]; omega)⟩
          case measure => simp [intOf]; omega
      · have hG := HG.out.2 (by have := HR.out; rwa [List.take_of_length_le (by omega)] at this)
        by_cases hg0 : 0 ≤ g
        · by_cases hg1 : g ≤ (S.length : Int)
          · have HF : Hid (G = true) := by show _ = _; rw [hG]; simp [hg0, hg1]
            clear hG
            go_wp2
            go_ret
            exact ⟨by rw [HF.out]; rfl, HB0.out _⟩
          · have HF : Hid (G = false) := by show _ = _; rw [hG]; simp [hg1]
            clear hG
            go_wp2
            go_ret
            exact ⟨by rw [HF.out]; rfl, HB0.out _⟩
        · have HF : Hid (G = false) := by show _ = _; rw [hG]; simp [hg0]
          clear hG
          go_wp2
          go_ret
          exact ⟨by rw [HF.out]; rfl, HB0.out _⟩
set_option maxHeartbeats 1000000 in
theorem ref_any (x : Line) (sa da : Option Addr) (cs cd sb so db dO : Nat) (w : World) (L : LAt w x sa da cs cd sb so db dO) :
    Calls Try.prog 54 #[.agg #[.slice sa x.S.length cs, .slice da x.D.length cd, .int .i64 x.g, .bool x.cl]] w fun e w' => e = .returned (.int .i64 (refN x)) ∧ Below w.heap.size w w' := by
  have hg := good_any x sa da cs cd sb so db dO _ (L.later (below_new w (.cells #[.slice sa x.S.length cs, .slice da x.D.length cd, .int .i64 x.g, .bool x.cl] 29)))
  clear L
  obtain ⟨S, D, g, cl⟩ := x
  unfold refN
  dsimp only at *
  generalize goodL ⟨S, D, g, cl⟩ = G at *
  cases G <;> cases cl
  all_goals go_enter Try.func54, Try.ntmps54
  all_goals go_wp2_with (go_at_call 47; refine hg.mono ?_; rintro e w1 ⟨rfl, hb⟩; obtain ⟨hc, hf⟩ := bcell hb; have HB1 : Hid (Below w.heap.size w w1) := below_step hb; clear hb)
  all_goals go_ret
  all_goals exact ⟨rfl, HB1.out⟩
end Go.Proofs.Ytdkalcnlncjgiaa.Ln

