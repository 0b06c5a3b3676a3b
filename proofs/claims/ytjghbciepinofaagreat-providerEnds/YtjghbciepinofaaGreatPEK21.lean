/- Parts of the proof: LC LD LF CC. -/
import Derived.Test.YtjghbciepinofaaGreatRows
import Derived.Test.YtjghbciepinofaaGreatPEK20
import Derived.Test.YtjghbciepinofaaGreatPEK22
import Derived.OwnWalk
import Derived.Deep.OwnRows
import Derived.Deep.DeepCutAuto
import Derived.Deep.RegionLaw
import Derived.Laws.OwnMore
import Derived.OneCell
import Derived.Maps.AppendAt
set_option maxRecDepth 100000
namespace Go.Proofs.YtjghbciepinofaaGreat.Ln
open Go.RowKit
theorem infoStr : (Tryz.prog.info? 9).map (fun i => (i.zero, i.size, i.bytes)) = some (some (.string ⟨#[]⟩), 1, 16) := by kernel_rfl
theorem infoI : (Tryz.prog.info? 3).map (fun i => (i.zero, i.size, i.bytes)) = some (some (.int .i64 0), 1, 8) := by kernel_rfl
/-- what an own row holds lies there -/
theorem own_strs {B : Nat} {w : World} {g n c e : Nat} {l : List ByteArray} (h : w.ownsRow B e 1 (.slice (some ⟨g, 0, none⟩) n c) n (l.map .string)) : B ≤ g ∧ g < w.heap.size ∧ StrsAt w g 0 l := by
  rcases h.2 with ⟨h1, _⟩ | ⟨g', cap, cur, hv, hb, hg, hn, hm, hs, ht⟩
  · cases h1
  · cases hv
    refine ⟨hb, (Array.getElem?_eq_some_iff.1 hg).1, fun i hi => ?_⟩
    have hl : l.length = n := by have := h.1; simpa using this
    have : (cur.toList.take (n * 1))[i]? = some (.string (l.getD i ByteArray.empty)) := by rw [ht]; simp [List.getD, hi]
    rw [List.getElem?_take_of_lt (by omega)] at this
    simp only [World.cell?, hg, Nat.zero_add]
    simpa using this
theorem own_ints {B : Nat} {w : World} {g n c e : Nat} {l : List Int} (h : w.ownsRow B e 1 (.slice (some ⟨g, 0, none⟩) n c) n (l.map (.int .i64))) : B ≤ g ∧ g < w.heap.size ∧ IntsAt w g 0 l := by
  rcases h.2 with ⟨h1, _⟩ | ⟨g', cap, cur, hv, hb, hg, hn, hm, hs, ht⟩
  · cases h1
  · cases hv
    refine ⟨hb, (Array.getElem?_eq_some_iff.1 hg).1, fun i hi => ?_⟩
    have hl : l.length = n := by have := h.1; simpa using this
    have : (cur.toList.take (n * 1))[i]? = some (.int .i64 (l.getD i 0)) := by rw [ht]; simp [List.getD, hi]
    rw [List.getElem?_take_of_lt (by omega)] at this
    simp only [World.cell?, hg, Nat.zero_add]
    simpa using this
theorem withs_src {w : World} {b off : Nat} {l : List ByteArray} {a : Option Addr} (ha : 0 < l.length → a = some ⟨b, off, none⟩) (hc : StrsAt w b off l) : ∀ ad, a = some ad → ∀ j u, (l.map Value.string)[j]? = some u → w.cell? (ad.add j) = some u := by
  intro ad e j u hu
  have hj : j < l.length := by have := (List.getElem?_eq_some_iff.1 hu).1; simpa using this
  rw [ha (by omega)] at e
  cases e
  rw [Addr.add_lit, hc j hj]
  simp [hj] at hu
  simp [List.getD, hj, hu]
set_option maxHeartbeats 1000000 in
theorem withs_any (l : List ByteArray) (a : Option Addr) (c b off : Nat) (s : ByteArray) (w : World) (hl : l.length ≤ 400) (ha : 0 < l.length → a = some ⟨b, off, none⟩) (hn : a = none → c = 0) (hc : StrsAt w b off l) :
    Calls Tryz.prog 117 #[.slice a l.length c, Value.string s] w fun e w' => ∃ g C, e = .returned (.slice (some ⟨g, 0, none⟩) (l ++ [s]).length C) ∧ w.heap.size ≤ g ∧ g < w'.heap.size ∧ StrsAt w' g 0 (l ++ [s]) ∧ Below w.heap.size w w' := by
  obtain ⟨i0, hi, hz0, hz1, hz2⟩ := info_parts infoStr
  have hb1 : i0.bytes * (l.length + 1) ≤ 281474976710656 := by rw [hz2]; omega
  have hb2 : l.length + 1 ≤ maxLen := by unfold maxLen; omega
  have hnn : a = none → l.length = 0 ∧ c = 0 := fun e => by
    refine ⟨?_, hn e⟩
    rcases Nat.eq_zero_or_pos l.length with h | h
    · exact h
    · rw [ha h] at e; cases e
  have HC : Hid (0 < l.length → a = some ⟨b, off, none⟩) := ha
  have HD : Hid (StrsAt w b off l) := hc
  have h1c : ∀ u ∈ l.map Value.string, u.oneCell' = true := fun u hu => by
    simp at hu
    obtain ⟨t, _, rfl⟩ := hu
    rfl
  clear ha hc hn
  go_enter Tryz.func117, Tryz.ntmps117
  go_wp2_with (first
    | (refine wpList_make_own _ rfl _ _ 35 rfl w.heap.size 9 i0 _ 1 Tryz.underlying35 hi hz0 hz1 .i64 .i64 _ (l.length + 1) rfl rfl ?_ hb1 hb2 (Nat.le_refl _) ?_
       · first | omega | simp
       intro w1 ho1 hg1
       have B1 := (Below.refl w.heap.size w).grown hg1 (Nat.le_refl _) (fun k hk => by cases hk)
       have HB1 := hide B1
       have sc := withs_src HC.out (HD.out.later B1)
       clear B1 hg1)
    | (have _m := sc
       at_builtin
       refine wpList_append_fits_any _ rfl _ _ 35 rfl w.heap.size 9 i0 1 Tryz.underlying35 hi hz1 w.heap.size 0 (l.length + 1) [] rfl ho1 a l.length c (l.map Value.string) rfl (by simp) hnn sc h1c (by omega) ?_
       intro w2 ho2 hg2
       have HB2 := hide (HB1.out.grown hg2 HB1.out.size (fun k hk => by cases hk; exact Nat.le_refl _))
       rw [List.nil_append, Nat.zero_add] at ho2
       clear hg2 sc ho1)
    | (at_builtin
       refine wpList_append_fits _ rfl _ _ 35 rfl w.heap.size 9 i0 1 Tryz.underlying35 hi hz1 w.heap.size l.length (l.length + 1) (l.map Value.string) ?_ (World.ownsRow.alloc ho2 _) ⟨w2.heap.size, 0, none⟩ 1 1 [Value.string s] rfl rfl (cell_one_new _ _ _) (by simp [Value.oneCell']) (by omega) ?_
       · first | rfl | simp
       intro w3 ho3 hg3
       have HB3 := hide ((HB2.out.alloc HB2.out.size _).grown hg3 (Nat.le_trans HB2.out.size (by simp)) (fun k hk => by cases hk; exact Nat.le_refl _))))
  go_ret
  rw [show l.map Value.string ++ [Value.string s] = (l ++ [s]).map Value.string by simp] at ho3
  obtain ⟨o1, o2, o3⟩ := own_strs ho3
  exact ⟨w.heap.size, l.length + 1, by simp, Nat.le_refl _, o2, o3, HB3.out⟩
theorem withi_src {w : World} {b off : Nat} {l : List Int} {a : Option Addr} (ha : 0 < l.length → a = some ⟨b, off, none⟩) (hc : IntsAt w b off l) : ∀ ad, a = some ad → ∀ j u, (l.map (Value.int .i64))[j]? = some u → w.cell? (ad.add j) = some u := by
  intro ad e j u hu
  have hj : j < l.length := by have := (List.getElem?_eq_some_iff.1 hu).1; simpa using this
  rw [ha (by omega)] at e
  cases e
  rw [Addr.add_lit, hc j hj]
  simp [hj] at hu
  simp [List.getD, hj, hu]
set_option maxHeartbeats 1000000 in
theorem withi_any (l : List Int) (a : Option Addr) (c b off : Nat) (s : Int) (w : World) (hl : l.length ≤ 400) (ha : 0 < l.length → a = some ⟨b, off, none⟩) (hn : a = none → c = 0) (hc : IntsAt w b off l) :
    Calls Tryz.prog 118 #[.slice a l.length c, (Value.int .i64) s] w fun e w' => ∃ g C, e = .returned (.slice (some ⟨g, 0, none⟩) (l ++ [s]).length C) ∧ w.heap.size ≤ g ∧ g < w'.heap.size ∧ IntsAt w' g 0 (l ++ [s]) ∧ Below w.heap.size w w' := by
  obtain ⟨i0, hi, hz0, hz1, hz2⟩ := info_parts infoI
  have hb1 : i0.bytes * (l.length + 1) ≤ 281474976710656 := by rw [hz2]; omega
  have hb2 : l.length + 1 ≤ maxLen := by unfold maxLen; omega
  have hnn : a = none → l.length = 0 ∧ c = 0 := fun e => by
    refine ⟨?_, hn e⟩
    rcases Nat.eq_zero_or_pos l.length with h | h
    · exact h
    · rw [ha h] at e; cases e
  have HC : Hid (0 < l.length → a = some ⟨b, off, none⟩) := ha
  have HD : Hid (IntsAt w b off l) := hc
  have h1c : ∀ u ∈ l.map (Value.int .i64), u.oneCell' = true := fun u hu => by
    simp at hu
    obtain ⟨t, _, rfl⟩ := hu
    rfl
  clear ha hc hn
  go_enter Tryz.func118, Tryz.ntmps118
  go_wp2_with (first
    | (refine wpList_make_own _ rfl _ _ 34 rfl w.heap.size 3 i0 _ 1 Tryz.underlying34 hi hz0 hz1 .i64 .i64 _ (l.length + 1) rfl rfl ?_ hb1 hb2 (Nat.le_refl _) ?_
       · first | omega | simp
       intro w1 ho1 hg1
       have B1 := (Below.refl w.heap.size w).grown hg1 (Nat.le_refl _) (fun k hk => by cases hk)
       have HB1 := hide B1
       have sc := withi_src HC.out (HD.out.later B1)
       clear B1 hg1)
    | (have _m := sc
       at_builtin
       refine wpList_append_fits_any _ rfl _ _ 34 rfl w.heap.size 3 i0 1 Tryz.underlying34 hi hz1 w.heap.size 0 (l.length + 1) [] rfl ho1 a l.length c (l.map (Value.int .i64)) rfl (by simp) hnn sc h1c (by omega) ?_
       intro w2 ho2 hg2
       have HB2 := hide (HB1.out.grown hg2 HB1.out.size (fun k hk => by cases hk; exact Nat.le_refl _))
       rw [List.nil_append, Nat.zero_add] at ho2
       clear hg2 sc ho1)
    | (at_builtin
       refine wpList_append_fits _ rfl _ _ 34 rfl w.heap.size 3 i0 1 Tryz.underlying34 hi hz1 w.heap.size l.length (l.length + 1) (l.map (Value.int .i64)) ?_ (World.ownsRow.alloc ho2 _) ⟨w2.heap.size, 0, none⟩ 1 1 [(Value.int .i64) s] rfl rfl (cell_one_new _ _ _) (by simp [Value.oneCell']) (by omega) ?_
       · first | rfl | simp
       intro w3 ho3 hg3
       have HB3 := hide ((HB2.out.alloc HB2.out.size _).grown hg3 (Nat.le_trans HB2.out.size (by simp)) (fun k hk => by cases hk; exact Nat.le_refl _))))
  go_ret
  rw [show l.map (Value.int .i64) ++ [(Value.int .i64) s] = (l ++ [s]).map (Value.int .i64) by simp] at ho3
  obtain ⟨o1, o2, o3⟩ := own_ints ho3
  exact ⟨w.heap.size, l.length + 1, by simp, Nat.le_refl _, o2, o3, HB3.out⟩
end Go.Proofs.YtjghbciepinofaaGreat.Ln

set_option maxRecDepth 100000
namespace Go.Proofs.YtjghbciepinofaaGreat.Ln
open Go.RowKit
/-- a value is a line, in memory below B: its lists lie where they lay, or in new memory -/
def LVX (lo sb0 db0 : Nat) (x0 : Line) (B : Nat) (w : World) (x : Line) (v : Value) : Prop :=
  ∃ sa da cs cd sb so db dO, v = .agg #[.slice sa x.S.length cs, .slice da x.D.length cd, .int .i64 x.g, .bool x.cl] ∧ LAt w x sa da cs cd sb so db dO ∧ (0 < x.S.length → sb < B ∧ ((sb = sb0 ∧ x.S = x0.S) ∨ lo ≤ sb)) ∧ (0 < x.D.length → db < B ∧ ((db = db0 ∧ x.D = x0.D) ∨ lo ≤ db))
/-- what a call on a line answers: a line, in memory that is there, and an error -/
def Ans (sb0 db0 : Nat) (x0 : Line) (w : World) (r : Line × Int) (e : Ending) (w' : World) : Prop := ∃ v, e = .returned (.tuple #[v, .int .i64 r.2]) ∧ LVX w.heap.size sb0 db0 x0 w'.heap.size w' r.1 v ∧ Below w.heap.size w w'
/-- four cells of a block -/
def FAt (w : World) (b : Nat) (v0 v1 v2 v3 : Value) : Prop := w.heap[b]? = some (.cells #[v0, v1, v2, v3] 37)
section
variable {w w' : World} {b B : Nat} {v0 v1 v2 v3 : Value}
theorem FAt.later (h : FAt w b v0 v1 v2 v3) (hb : Below B w w') (hB : b < B) : FAt w' b v0 v1 v2 v3 := (hb.block b hB).trans h
theorem FAt.new (w : World) (v0 v1 v2 v3 : Value) : FAt (w.alloc (.cells #[v0, v1, v2, v3] 37)) w.heap.size v0 v1 v2 v3 := heap_alloc_new _ _
theorem FAt.lt (h : FAt w b v0 v1 v2 v3) : b < w.heap.size := (Array.getElem?_eq_some_iff.1 h).1
theorem FAt.alloc (h : FAt w b v0 v1 v2 v3) (o : Obj) : FAt (w.alloc o) b v0 v1 v2 v3 := (Below.heap_alloc _ _ _ h.lt).trans h
theorem FAt.other {c o : Nat} (h : FAt w b v0 v1 v2 v3) (hb : b ≠ c) (v : Value) : FAt (w.setCell ⟨c, o, none⟩ v) b v0 v1 v2 v3 := (Below.heap_setCell _ _ _ _ hb).trans h
theorem FAt.facts (h : FAt w b v0 v1 v2 v3) : (w.cell? ⟨b, 0, none⟩ = some v0 ∧ w.cell? ⟨b, 1, none⟩ = some v1 ∧ w.cell? ⟨b, 2, none⟩ = some v2 ∧ w.cell? ⟨b, 3, none⟩ = some v3) ∧ (w.frozen? ⟨b, 0, none⟩ = false ∧ w.frozen? ⟨b, 1, none⟩ = false ∧ w.frozen? ⟨b, 2, none⟩ = false ∧ w.frozen? ⟨b, 3, none⟩ = false) := by
  unfold FAt at h
  simp [World.cell?, World.frozen?, h]
theorem FAt.set_0 (h : FAt w b v0 v1 v2 v3) (v : Value) : FAt (w.setCell ⟨b, 0, none⟩ v) b v v1 v2 v3 := by
  unfold FAt at *
  simp [World.setCell, Array.getElem?_modify, h]
theorem FAt.set_1 (h : FAt w b v0 v1 v2 v3) (v : Value) : FAt (w.setCell ⟨b, 1, none⟩ v) b v0 v v2 v3 := by
  unfold FAt at *
  simp [World.setCell, Array.getElem?_modify, h]
theorem FAt.set_2 (h : FAt w b v0 v1 v2 v3) (v : Value) : FAt (w.setCell ⟨b, 2, none⟩ v) b v0 v1 v v3 := by
  unfold FAt at *
  simp [World.setCell, Array.getElem?_modify, h]
theorem FAt.set_3 (h : FAt w b v0 v1 v2 v3) (v : Value) : FAt (w.setCell ⟨b, 3, none⟩ v) b v0 v1 v2 v := by
  unfold FAt at *
  simp [World.setCell, Array.getElem?_modify, h]
end
/-- the four cells are written -/
def set4 (w : World) (b : Nat) (v0 v1 v2 v3 : Value) : World := (((w.setCell ⟨b, 0, none⟩ v0).setCell ⟨b, 1, none⟩ v1).setCell ⟨b, 2, none⟩ v2).setCell ⟨b, 3, none⟩ v3
theorem set4_at {w : World} {b : Nat} {u0 u1 u2 u3 : Value} (h : FAt w b u0 u1 u2 u3) (v0 v1 v2 v3 : Value) : FAt (set4 w b v0 v1 v2 v3) b v0 v1 v2 v3 := (((h.set_0 v0).set_1 v1).set_2 v2).set_3 v3
theorem set4_below {B : Nat} {w0 w : World} {b : Nat} (v0 v1 v2 v3 : Value) (h : Below B w0 w) (hB : B ≤ b) : Below B w0 (set4 w b v0 v1 v2 v3) := (((h.setCell hB _).setCell hB _).setCell hB _).setCell hB _
theorem set4_other {w : World} {b : Nat} (v0 v1 v2 v3 : Value) {c : Nat} (hc : c ≠ b) : (set4 w b v0 v1 v2 v3).heap[c]? = w.heap[c]? := by
  unfold set4
  rw [Below.heap_setCell _ _ _ _ hc, Below.heap_setCell _ _ _ _ hc, Below.heap_setCell _ _ _ _ hc, Below.heap_setCell _ _ _ _ hc]
theorem cell_of_heap {w w' : World} {b : Nat} (h : w'.heap[b]? = w.heap[b]?) (o : Nat) : w'.cell? ⟨b, o, none⟩ = w.cell? ⟨b, o, none⟩ := World.cell?_of_block (w := w) (a := ⟨b, o, none⟩) h
theorem cell_ne {w : World} {b c o : Nat} {v : Value} (h : c ≠ b) (k : Nat) : (w.setCell ⟨b, o, none⟩ v).cell? ⟨c, k, none⟩ = w.cell? ⟨c, k, none⟩ := cell_of_heap (Below.heap_setCell _ _ _ _ h) k
/-- a line's lists in a world that has changed in one block alone -/
theorem LAt.set {w w' : World} {x : Line} {sa da : Option Addr} {cs cd sb so db dO : Nat} (h : LAt w x sa da cs cd sb so db dO) (hS : 0 < x.S.length → w'.heap[sb]? = w.heap[sb]?) (hD : 0 < x.D.length → w'.heap[db]? = w.heap[db]?) : LAt w' x sa da cs cd sb so db dO :=
  ⟨h.hls, h.hld, h.hsa, h.hda, h.ncs, h.ncd, fun i hi => (cell_of_heap (hS (by omega)) _).trans (h.PS i hi), fun i hi => (cell_of_heap (hD (by omega)) _).trans (h.PD i hi)⟩
/-- how a call ends that answers a line in a block of its own, stored whole -/
theorem line_end {f : Func} {p q : Tmp} (hres : f.results = #[.cell p 37, .tmp q]) {w wq : World} {b : Nat} {u0 u1 u2 u3 : Value} (R : FAt wq b u0 u1 u2 u3) (H : Below w.heap.size w wq) (hB : w.heap.size ≤ b) (x : Line) (sa da : Option Addr) (cs cd sb so db dO : Nat) (L : LAt wq x sa da cs cd sb so db dO)
    (hS : 0 < x.S.length → sb ≠ b) (hD : 0 < x.D.length → db ≠ b) {sb0 db0 : Nat} {x0 : Line} (hS0 : 0 < x.S.length → (sb = sb0 ∧ x.S = x0.S) ∨ w.heap.size ≤ sb) (hD0 : 0 < x.D.length → (db = db0 ∧ x.D = x0.D) ∨ w.heap.size ≤ db) (nS nD : Nat) (eS : nS = x.S.length) (eD : nD = x.D.length) (er : Int) (r : Line × Int) (hr : r = (x, er)) (act : Act)
    (h8 : act.tmps.getD p undef = .pointer (some ⟨b, 0, none⟩)) (h9 : act.tmps.getD q undef = .int .i64 er) (hd : act.defers = []) :
    bodyPost Tryz.prog f (fun e w' => Ans sb0 db0 x0 w r e w') Exit.ret act (set4 wq b (.slice sa nS cs) (.slice da nD cd) (.int .i64 x.g) (.bool x.cl)) := by
  subst hr eS eD
  have R1 := set4_at R (.slice sa x.S.length cs) (.slice da x.D.length cd) (.int .i64 x.g) (.bool x.cl)
  have H1 := set4_below (.slice sa x.S.length cs) (.slice da x.D.length cd) (.int .i64 x.g) (.bool x.cl) H hB
  have L1 : LAt (set4 wq b (.slice sa x.S.length cs) (.slice da x.D.length cd) (.int .i64 x.g) (.bool x.cl)) x sa da cs cd sb so db dO := L.set (fun h => set4_other _ _ _ _ (hS h)) (fun h => set4_other _ _ _ _ (hD h))
  generalize set4 wq b (.slice sa x.S.length cs) (.slice da x.D.length cd) (.int .i64 x.g) (.bool x.cl) = w9 at *
  obtain ⟨⟨c0, c1, c2, c3⟩, -⟩ := R1.facts
  have h8' : act.tmps[p]?.getD undef = .pointer (some ⟨b, 0, none⟩) := by simpa using h8
  have h9' : act.tmps[q]?.getD undef = .int .i64 er := by simpa using h9
  exact bodyPost_ret (v := .tuple #[.agg #[.slice sa x.S.length cs, .slice da x.D.length cd, .int .i64 x.g, .bool x.cl], .int .i64 er]) (by simp [results, hres, go_sem, h8', h9', c0, c1, c2, c3]) hd ⟨_, rfl, ⟨sa, da, cs, cd, sb, so, db, dO, rfl, L1, fun h => ⟨L1.ltS h, hS0 h⟩, fun h => ⟨L1.ltD h, hD0 h⟩⟩, H1⟩
theorem say_cases (x : Line) (s : ByteArray) (due : Int) :
    (due < 0 ∧ (sayL x s due, sayE x due) = (x, 2)) ∨ (0 ≤ due ∧ refN x ≠ 0 ∧ (sayL x s due, sayE x due) = (x, refN x)) ∨ (0 ≤ due ∧ refN x = 0 ∧ 400 ≤ x.S.length ∧ (sayL x s due, sayE x due) = (x, 6)) ∨
    (0 ≤ due ∧ refN x = 0 ∧ x.S.length < 400 ∧ (sayL x s due, sayE x due) = (⟨x.S ++ [s], x.D ++ [due], x.g, x.cl⟩, 0)) := by
  unfold sayL
  by_cases h1 : due < 0
  · left; simp [sayE, h1]
  right
  by_cases h2 : refN x = 0
  · right
    by_cases h3 : 400 ≤ x.S.length
    · left; refine ⟨by omega, h2, h3, ?_⟩; simp [sayE, h1, h2, h3]
    · right; refine ⟨by omega, h2, by omega, ?_⟩; simp [sayE, h1, h2, h3]
  · left; refine ⟨by omega, h2, ?_⟩; simp [sayE, h1, h2]
theorem FAt.new2 (w : World) (o : Obj) (v0 v1 v2 v3 : Value) : FAt ((w.alloc o).alloc (.cells #[v0, v1, v2, v3] 37)) (w.heap.size + 1) v0 v1 v2 v3 := by
  have := FAt.new (w.alloc o) v0 v1 v2 v3
  rwa [show (w.alloc o).heap.size = w.heap.size + 1 by simp] at this
/-- what is known once the line lies in a block, and a block for the answer is there -/
structure Begun (w w0 : World) (x : Line) (sa da : Option Addr) (cs cd sb so db dO : Nat) : Prop where
  F1 : FAt w0 w.heap.size (.slice sa x.S.length cs) (.slice da x.D.length cd) (.int .i64 x.g) (.bool x.cl)
  F2 : FAt w0 (w.heap.size + 1) (.slice none 0 0) (.slice none 0 0) (.int .i64 0) (.bool false)
  L : LAt w0 x sa da cs cd sb so db dO
  ltS : 0 < x.S.length → sb < w.heap.size
  ltD : 0 < x.D.length → db < w.heap.size
  below : Below w.heap.size w w0
  size : w.heap.size + 2 ≤ w0.heap.size
theorem begun {w : World} {x : Line} {sa da : Option Addr} {cs cd sb so db dO : Nat} (L : LAt w x sa da cs cd sb so db dO) : Begun w ((w.alloc (.cells #[.slice sa x.S.length cs, .slice da x.D.length cd, .int .i64 x.g, .bool x.cl] 37)).alloc (.cells #[.slice none 0 0, .slice none 0 0, .int .i64 0, .bool false] 37)) x sa da cs cd sb so db dO := by
  have hb : Below w.heap.size w ((w.alloc (.cells #[.slice sa x.S.length cs, .slice da x.D.length cd, .int .i64 x.g, .bool x.cl] 37)).alloc (.cells #[.slice none 0 0, .slice none 0 0, .int .i64 0, .bool false] 37)) := (below_new w _).alloc (by simp) _
  exact ⟨(FAt.new w _ _ _ _).alloc _, FAt.new2 w _ _ _ _ _, L.later hb, L.ltS, L.ltD, hb, by simp⟩
theorem Begun.over {w w0 w1 : World} {x : Line} {sa da : Option Addr} {cs cd sb so db dO : Nat} (h : Begun w w0 x sa da cs cd sb so db dO) (hb : Below w0.heap.size w0 w1) : Begun w w1 x sa da cs cd sb so db dO :=
  ⟨h.F1.later hb h.F1.lt, h.F2.later hb h.F2.lt, h.L.later hb, h.ltS, h.ltD, below_then h.below hb, Nat.le_trans h.size hb.size⟩
/-- as it was, with an error -/
theorem Begun.asItWas {f : Func} {p q : Tmp} (hres : f.results = #[.cell p 37, .tmp q]) {w w0 : World} {x : Line} {sa da : Option Addr} {cs cd sb so db dO : Nat} (h : Begun w w0 x sa da cs cd sb so db dO) (er : Int) (r : Line × Int) (hr : r = (x, er)) (act : Act)
    (h8 : act.tmps.getD p undef = .pointer (some ⟨w.heap.size + 1, 0, none⟩)) (h9 : act.tmps.getD q undef = .int .i64 er) (hd : act.defers = []) :
    bodyPost Tryz.prog f (fun e w' => Ans sb db x w r e w') Exit.ret act (set4 w0 (w.heap.size + 1) (.slice sa x.S.length cs) (.slice da x.D.length cd) (.int .i64 x.g) (.bool x.cl)) :=
  line_end hres h.F2 h.below (Nat.le_succ _) x sa da cs cd sb so db dO h.L (fun h0 => by have := h.ltS h0; omega) (fun h0 => by have := h.ltD h0; omega) (fun _ => .inl ⟨rfl, rfl⟩) (fun _ => .inl ⟨rfl, rfl⟩) _ _ rfl rfl er r hr act h8 h9 hd
set_option maxHeartbeats 2000000 in
theorem say_any (x : Line) (sa da : Option Addr) (cs cd sb so db dO : Nat) (s : ByteArray) (due : Int) (w : World) (L : LAt w x sa da cs cd sb so db dO) :
    Calls Tryz.prog 72 #[.agg #[.slice sa x.S.length cs, .slice da x.D.length cd, .int .i64 x.g, .bool x.cl], .string s, .int .i64 due] w fun e w' => Ans sb db x w (sayL x s due, sayE x due) e w' := by
  have hcs := say_cases x s due
  generalize (sayL x s due, sayE x due) = r at *
  have HB := hide (begun L)
  have HREF := hide (fun w (L : LAt w x sa da cs cd sb so db dO) => ref_any x sa da cs cd sb so db dO w L)
  clear L
  go_enter Tryz.func72, Tryz.ntmps72
  go_upto_region 1 with fail
  generalize ((w.alloc (.cells #[.slice sa x.S.length cs, .slice da x.D.length cd, .int .i64 x.g, .bool x.cl] 37)).alloc (.cells #[.slice none 0 0, .slice none 0 0, .int .i64 0, .bool false] 37)) = w0 at *
  obtain ⟨⟨c0, c1, c2, c3⟩, -⟩ := HB.out.F1.facts
  obtain ⟨⟨d0, d1, d2, d3⟩, ⟨f0, f1, f2, f3⟩⟩ := HB.out.F2.facts
  have hgd := fun h => goodL_len (refN_good (x := x) h).1
  have HGD := hide hgd
  clear hgd
  generalize refN x = R at *
  rcases hcs with ⟨h1, hr⟩ | ⟨h1, h2, hr⟩ | ⟨h1, h2, h3, hr⟩ | ⟨h1, h2, h3, hr⟩
  · have HR := hide hr
    clear hr
    go_wp2
    exact HB.out.asItWas rfl _ _ HR.out _ rfl rfl rfl
  · have HR := hide hr
    have h2' : (R != 0) = true := by simpa using h2
    clear hr h2
    go_wp2_with (go_at_call 116; refine (HREF.out _ HB.out.L).mono ?_; rintro e w1 ⟨rfl, hb⟩; have HB1 := hide (HB.out.over hb); clear hb c0 c1 c2 c3 d0 d1 d2 d3 f0 f1 f2 f3; obtain ⟨⟨c0, c1, c2, c3⟩, -⟩ := HB1.out.F1.facts; obtain ⟨⟨d0, d1, d2, d3⟩, ⟨f0, f1, f2, f3⟩⟩ := HB1.out.F2.facts)
    exact HB1.out.asItWas rfl _ _ HR.out _ rfl rfl rfl
  · have HR := hide hr
    subst h2
    clear hr
    go_wp2_with (go_at_call 116; refine (HREF.out _ HB.out.L).mono ?_; rintro e w1 ⟨rfl, hb⟩; have HB1 := hide (HB.out.over hb); clear hb c0 c1 c2 c3 d0 d1 d2 d3 f0 f1 f2 f3; obtain ⟨⟨c0, c1, c2, c3⟩, -⟩ := HB1.out.F1.facts; obtain ⟨⟨d0, d1, d2, d3⟩, ⟨f0, f1, f2, f3⟩⟩ := HB1.out.F2.facts)
    exact HB1.out.asItWas rfl _ _ HR.out _ rfl rfl rfl
  · have HR := hide hr
    subst h2
    obtain ⟨hl1, hl2, -, -⟩ := HGD.out rfl
    have HL1 := hide hl1
    clear hr hl1
    go_upto_region 8 with (go_at_call 116; refine (HREF.out _ HB.out.L).mono ?_; rintro e w1 ⟨rfl, hb⟩; have HB1 := hide (HB.out.over hb); clear hb c0 c1 c2 c3 d0 d1 d2 d3 f0 f1 f2 f3; obtain ⟨⟨c0, c1, c2, c3⟩, ⟨e0, e1, e2, e3⟩⟩ := HB1.out.F1.facts)
    go_upto_region 9 with (go_at_call 117; refine (withs_any x.S sa cs sb so s _ hl2 HB1.out.L.hsa HB1.out.L.ncs HB1.out.L.PS).mono ?_; rintro e w2 ⟨g1, C1, rfl, hg1, hg1', hS, hb⟩; have HB2 := hide (HB1.out.over hb); have HS := hide (show _ ∧ _ ∧ _ from ⟨hS, hg1, hg1'⟩); have HZ := hide hb.size; clear hb hS hg1 hg1' c0 c1 c2 c3 e0 e1 e2 e3; obtain ⟨⟨c0, c1, c2, c3⟩, ⟨e0, e1, e2, e3⟩⟩ := HB2.out.F1.facts)
    have F1 := HB2.out.F1.set_0 (.slice (some ⟨g1, 0, none⟩) (x.S.length + 1) C1)
    have F2 := HB2.out.F2.other (c := w.heap.size) (o := 0) (by omega) (.slice (some ⟨g1, 0, none⟩) (x.S.length + 1) C1)
    have BW := HB2.out.below.setCell (p := ⟨w.heap.size, 0, none⟩) (Nat.le_refl _) (.slice (some ⟨g1, 0, none⟩) (x.S.length + 1) C1)
    have PD := HB2.out.L.PD.laterB ((Below.refl w.heap.size w2).setCell (p := ⟨w.heap.size, 0, none⟩) (Nat.le_refl _) (.slice (some ⟨g1, 0, none⟩) (x.S.length + 1) C1)) HB2.out.ltD
    have PS : StrsAt (w2.setCell ⟨w.heap.size, 0, none⟩ (.slice (some ⟨g1, 0, none⟩) (x.S.length + 1) C1)) g1 0 (x.S ++ [s]) := fun i hi => (cell_ne (by have := HB1.out.size; have := HS.out.2.1; omega) _).trans (HS.out.1 i hi)
    have hz : (w2.setCell ⟨w.heap.size, 0, none⟩ (.slice (some ⟨g1, 0, none⟩) (x.S.length + 1) C1)).heap.size = w2.heap.size := by simp
    have hz2 : w.heap.size + 2 ≤ g1 ∧ g1 < w2.heap.size := ⟨by have := HB1.out.size; have := HS.out.2.1; omega, HS.out.2.2⟩
    clear c0 c1 c2 c3 e0 e1 e2 e3
    generalize (w2.setCell ⟨w.heap.size, 0, none⟩ (.slice (some ⟨g1, 0, none⟩) (x.S.length + 1) C1)) = w3 at *
    obtain ⟨⟨c0, c1, c2, c3⟩, ⟨e0, e1, e2, e3⟩⟩ := F1.facts
    have HX := hide (show _ ∧ _ ∧ _ ∧ _ ∧ _ ∧ _ ∧ _ from ⟨F1, F2, BW, PD, PS, hz, hz2⟩)
    clear F1 F2 BW PD PS hz hz2
    go_upto_region 10 with (go_at_call 118; refine (withi_any x.D da cd db dO due _ (by rw [HL1.out]; exact hl2) HB2.out.L.hda HB2.out.L.ncd HX.out.2.2.2.1).mono ?_; rintro e w4 ⟨g2, C2, rfl, hg2, hg2', hD, hb⟩; have HY := hide (show _ ∧ _ ∧ _ ∧ _ from ⟨hD, hg2, hg2', hb⟩); have F1 := HX.out.1.later hb HX.out.1.lt; clear hb hD hg2 hg2' c0 c1 c2 c3 e0 e1 e2 e3; obtain ⟨⟨c0, c1, c2, c3⟩, ⟨e0, e1, e2, e3⟩⟩ := F1.facts)
    have F2 := (HX.out.2.1.later HY.out.2.2.2 HX.out.2.1.lt).other (c := w.heap.size) (o := 1) (by omega) (.slice (some ⟨g2, 0, none⟩) (x.D.length + 1) C2)
    have F1' := F1.set_1 (.slice (some ⟨g2, 0, none⟩) (x.D.length + 1) C2)
    have BW := (below_then HX.out.2.2.1 HY.out.2.2.2).setCell (p := ⟨w.heap.size, 1, none⟩) (Nat.le_refl _) (.slice (some ⟨g2, 0, none⟩) (x.D.length + 1) C2)
    have z := HX.out.2.2.2.2.2
    have z2 := HY.out.2.1
    have LN : LAt (w4.setCell ⟨w.heap.size, 1, none⟩ (.slice (some ⟨g2, 0, none⟩) (x.D.length + 1) C2)) ⟨x.S ++ [s], x.D ++ [due], x.g, x.cl⟩ (some ⟨g1, 0, none⟩) (some ⟨g2, 0, none⟩) C1 C2 g1 0 g2 0 := by
      refine ⟨?_, ?_, fun _ => rfl, fun _ => rfl, fun h => (by cases h), fun h => (by cases h), fun i hi => ?_, fun i hi => ?_⟩
      · show (x.S ++ [s]).length * 16 ≤ _
        simp; omega
      · show (x.D ++ [due]).length * 8 ≤ _
        simp [HL1.out]; omega
      · exact (cell_ne (by omega) _).trans ((HY.out.2.2.2.cell (p := ⟨g1, 0 + i, none⟩) (by show g1 < _; omega)).trans (HX.out.2.2.2.2.1 i hi))
      · exact (cell_ne (by omega) _).trans (HY.out.1 i hi)
    clear c0 c1 c2 c3 e0 e1 e2 e3
    generalize (w4.setCell ⟨w.heap.size, 1, none⟩ (.slice (some ⟨g2, 0, none⟩) (x.D.length + 1) C2)) = w5 at *
    obtain ⟨⟨c0, c1, c2, c3⟩, -⟩ := F1'.facts
    obtain ⟨⟨d0, d1, d2, d3⟩, ⟨f0, f1, f2, f3⟩⟩ := F2.facts
    have HZZ := hide (show _ ∧ _ ∧ _ from ⟨F2, BW, LN⟩)
    have hne1 : g1 ≠ w.heap.size + 1 := by omega
    have hne2 : g2 ≠ w.heap.size + 1 := by omega
    have hge1 : w.heap.size ≤ g1 := by omega
    have hge2 : w.heap.size ≤ g2 := by omega
    have HNE := hide (show (_ ∧ _) ∧ _ ∧ _ from ⟨⟨hne1, hge1⟩, hne2, hge2⟩)
    clear F1 F1' F2 BW LN hne1 hne2 hge1 hge2 z z2
    go_wp2
    exact line_end rfl HZZ.out.1 HZZ.out.2.1 (Nat.le_succ _) ⟨x.S ++ [s], x.D ++ [due], x.g, x.cl⟩ _ _ _ _ _ _ _ _ HZZ.out.2.2 (fun _ => HNE.out.1.1) (fun _ => HNE.out.2.1) (fun _ => .inr HNE.out.1.2) (fun _ => .inr HNE.out.2.2) _ _ (by simp) (by simp) _ _ HR.out _ rfl rfl rfl
end Go.Proofs.YtjghbciepinofaaGreat.Ln

set_option maxRecDepth 100000
namespace Go.Proofs.YtjghbciepinofaaGreat.Ln
open Go.RowKit
/-- texts lie in a row of the call's own -/
def OwnS (B : Nat) (w : World) (A : Option Addr) (C : Nat) (l : List ByteArray) : Prop := w.ownsRow B 9 1 (.slice A l.length C) l.length (l.map .string)
/-- numbers lie in a row of the call's own -/
def OwnI (B : Nat) (w : World) (A : Option Addr) (C : Nat) (l : List Int) : Prop := w.ownsRow B 3 1 (.slice A l.length C) l.length (l.map (.int .i64))
theorem own_of {w w' : World} {b e z n : Nat} {v : Value} {xs : List Value} (h : w.ownsRow b e z v n xs) (hk : ∀ k, v.ownBlock = some k → w'.heap[k]? = w.heap[k]?) : w'.ownsRow b e z v n xs := by
  refine ⟨h.1, ?_⟩
  rcases h.2 with hn | ⟨g, cap, cur, rfl, hb, hg, rest⟩
  · exact .inl hn
  · exact .inr ⟨g, cap, cur, rfl, hb, (hk g rfl).trans hg, rest⟩
theorem own_base {w : World} {b b' e z n : Nat} {v : Value} {xs : List Value} (h : w.ownsRow b e z v n xs) (hb : b' ≤ b) : w.ownsRow b' e z v n xs := by
  refine ⟨h.1, ?_⟩
  rcases h.2 with hn | ⟨g, cap, cur, hv, h2, h3⟩
  · exact .inl hn
  · exact .inr ⟨g, cap, cur, hv, Nat.le_trans hb h2, h3⟩
theorem own_over {w w' : World} {b e z n : Nat} {v : Value} {xs : List Value} (h : w.ownsRow b e z v n xs) (hb : Below w.heap.size w w') : w'.ownsRow b e z v n xs := own_of h fun k hk => hb.block k (World.ownsRow.lt h k hk).2
theorem own_form {w : World} {b e z n : Nat} {v : Value} {xs : List Value} (h : w.ownsRow b e z v n xs) : ∃ A C, v = .slice A n C := by
  rcases h.2 with ⟨hv, hn⟩ | ⟨g, cap, cur, hv, _⟩
  · subst hn; exact ⟨_, _, hv⟩
  · exact ⟨_, _, hv⟩
/-- an own row, appended to in a region that draws -/
theorem step_app {P : Program} {ops : Array Oper} {o : Oper} {a : Act} {w : World} {K : Act → World → Prop} {Q : Exit → Act → World → Prop} {E : Prop}
    (hg : o.guard = none) (s x : Operand) (t : TypeId) (hop : o.op = Op.call { callee := Callee.builtin Builtin.append, args := #[s, x], argTypes := #[t, t] })
    (base : Nat) (e : TypeId) (i : TypeInfo) (z : Value) (size bytes : Nat) (h1 : P.underlying t = some (.slice e)) (h2 : P.info? e = some i) (h3 : i.zero = some z) (h4 : i.size = size) (h5 : i.bytes = bytes) (h6 : z.cells.size = size) (h7 : 0 < size)
    (v : Value) (n : Nat) (xs : List Value) (hs : a.eval s = v) (hown : w.ownsRow base e size v n xs)
    (ao : Option Addr) (m c : Nat) (news : List Value) (hx : a.eval x = .slice ao m c) (hn : news.length = m * size) (hnone : ao = none → m = 0 ∧ c = 0) (hc : ∀ ad, ao = some ad → ∀ j u, news[j]? = some u → w.cell? (ad.add j) = some u) (h1c : ∀ u ∈ news, u.oneCell' = true)
    (b1 : n + m ≤ maxLen) (b2 : (n + m) * bytes ≤ 140737488355328) (b3 : base ≤ w.heap.size)
    (hK : ∀ A C w', w'.ownsRow base e size (.slice A (n + m) C) (n + m) (xs ++ news) → w.grownBy w' v.ownBlock → K (a.put o.dst (.slice A (n + m) C)) w') :
    if Region.wanted o (yielded ops a.tmps) = true then Oper.wp P o a w K Q else E := by
  have hw : Region.wanted o (yielded ops a.tmps) = true := by simp [Region.wanted, hg]
  rw [if_pos hw]
  cases ao with
  | some ad =>
    obtain ⟨v', w', hrun, r1, r2, _⟩ := run_append_own (P := P) w base t o.type e i z size bytes h1 h2 h3 h4 h5 h6 h7 v n xs hown ad m c news hn (hc ad rfl) h1c b1 b2 b3
    unfold Oper.wp
    simp [execOp, hop, resolve, invoke, builtin, hs, hx, hrun, Result.andThen]
    obtain ⟨A, C, rfl⟩ := own_form r1
    exact hK A C w' r1 r2
  | none =>
    obtain ⟨rfl, rfl⟩ := hnone rfl
    obtain rfl : news = [] := List.eq_nil_of_length_eq_zero (by simpa using hn)
    have hrun := run_append_owned_none (P := P) w base t o.type e i size h1 h2 v n xs hown
    unfold Oper.wp
    simp [execOp, hop, resolve, invoke, builtin, hs, hx, hrun, Result.andThen]
    obtain ⟨A, C, rfl⟩ := own_form hown
    exact hK A C w (by simpa using hown) (World.grownBy.refl w _)
theorem one_strs (l : List ByteArray) : ∀ u ∈ l.map Value.string, u.oneCell' = true := fun u hu => by
  simp at hu
  obtain ⟨t, _, rfl⟩ := hu
  rfl
theorem one_ints (l : List Int) : ∀ u ∈ l.map (Value.int .i64), u.oneCell' = true := fun u hu => by
  simp at hu
  obtain ⟨t, _, rfl⟩ := hu
  rfl
theorem none_zero {α : Type} {l : List α} {a : Option Addr} {b off c : Nat} (ha : 0 < l.length → a = some ⟨b, off, none⟩) (hn : a = none → c = 0) : a = none → l.length = 0 ∧ c = 0 := fun e => by
  refine ⟨?_, hn e⟩
  rcases Nat.eq_zero_or_pos l.length with h | h
  · exact h
  · rw [ha h] at e; cases e
theorem OwnS.facts {B : Nat} {w : World} {A : Option Addr} {C : Nat} {l : List ByteArray} (h : OwnS B w A C l) : (A = none → C = 0) ∧ ∃ g, (0 < l.length → A = some ⟨g, 0, none⟩ ∧ B ≤ g ∧ g < w.heap.size) ∧ StrsAt w g 0 l := by
  rcases h.2 with ⟨hv, hn⟩ | ⟨g, cap, cur, hv, hb, hg, _⟩
  · simp at hv
    exact ⟨fun _ => hv.2.2, 0, fun h0 => by omega, fun i hi => by omega⟩
  · cases hv
    obtain ⟨o1, o2, o3⟩ := own_strs h
    exact ⟨fun h => (by cases h), g, fun _ => ⟨rfl, o1, o2⟩, o3⟩
theorem OwnI.facts {B : Nat} {w : World} {A : Option Addr} {C : Nat} {l : List Int} (h : OwnI B w A C l) : (A = none → C = 0) ∧ ∃ g, (0 < l.length → A = some ⟨g, 0, none⟩ ∧ B ≤ g ∧ g < w.heap.size) ∧ IntsAt w g 0 l := by
  rcases h.2 with ⟨hv, hn⟩ | ⟨g, cap, cur, hv, hb, hg, _⟩
  · simp at hv
    exact ⟨fun _ => hv.2.2, 0, fun h0 => by omega, fun i hi => by omega⟩
  · cases hv
    obtain ⟨o1, o2, o3⟩ := own_ints h
    exact ⟨fun h => (by cases h), g, fun _ => ⟨rfl, o1, o2⟩, o3⟩
/-- a line whose lists are rows of the call's own -/
structure OwnL (B : Nat) (w : World) (x : Line) (A1 A2 : Option Addr) (C1 C2 : Nat) : Prop where
  oS : OwnS B w A1 C1 x.S
  oD : OwnI B w A2 C2 x.D
  apart : ∀ k, (Value.slice A1 x.S.length C1).ownBlock = some k → (Value.slice A2 x.D.length C2).ownBlock ≠ some k
theorem OwnL.at {B : Nat} {w : World} {x : Line} {A1 A2 : Option Addr} {C1 C2 : Nat} (h : OwnL B w x A1 A2 C1 C2) (h1 : x.S.length * 16 ≤ 140737488351232) (h2 : x.D.length * 8 ≤ 140737488351232) : ∃ g1 g2, LAt w x A1 A2 C1 C2 g1 0 g2 0 ∧ (0 < x.S.length → B ≤ g1 ∧ g1 < w.heap.size) ∧ (0 < x.D.length → B ≤ g2 ∧ g2 < w.heap.size) := by
  obtain ⟨n1, g1, f1, p1⟩ := h.oS.facts
  obtain ⟨n2, g2, f2, p2⟩ := h.oD.facts
  exact ⟨g1, g2, ⟨h1, h2, fun h => (f1 h).1, fun h => (f2 h).1, n1, n2, p1, p2⟩, fun h => (f1 h).2, fun h => (f2 h).2⟩
theorem OwnL.over {B : Nat} {w w' : World} {x : Line} {A1 A2 : Option Addr} {C1 C2 : Nat} (h : OwnL B w x A1 A2 C1 C2) (hb : Below w.heap.size w w') : OwnL B w' x A1 A2 C1 C2 := ⟨own_over h.oS hb, own_over h.oD hb, h.apart⟩
/-- stores below the base change no own row -/
theorem OwnL.set {B : Nat} {w : World} {x : Line} {A1 A2 : Option Addr} {C1 C2 : Nat} (h : OwnL B w x A1 A2 C1 C2) {w' : World} (hk : ∀ k, B ≤ k → k < w.heap.size → w'.heap[k]? = w.heap[k]?) : OwnL B w' x A1 A2 C1 C2 :=
  ⟨own_of h.oS fun k e => hk k (World.ownsRow.lt h.oS k e).1 (World.ownsRow.lt h.oS k e).2, own_of h.oD fun k e => hk k (World.ownsRow.lt h.oD k e).1 (World.ownsRow.lt h.oD k e).2, h.apart⟩
/-- how a call ends that answers four cells in a block of its own, stored whole -/
theorem cell_end1 {f : Func} {p : Tmp} (hres : f.results = #[.cell p 37]) {wq : World} {b : Nat} {u0 u1 u2 u3 : Value} (R : FAt wq b u0 u1 u2 u3) (v0 v1 v2 v3 : Value) (Q : Ending → World → Prop) (hQ : Q (.returned (.agg #[v0, v1, v2, v3])) (set4 wq b v0 v1 v2 v3)) (act : Act)
    (h8 : act.tmps.getD p undef = .pointer (some ⟨b, 0, none⟩)) (hd : act.defers = []) :
    bodyPost Tryz.prog f Q Exit.ret act (set4 wq b v0 v1 v2 v3) := by
  have R1 := set4_at R v0 v1 v2 v3
  generalize set4 wq b v0 v1 v2 v3 = w9 at *
  obtain ⟨⟨c0, c1, c2, c3⟩, -⟩ := R1.facts
  have h8' : act.tmps[p]?.getD undef = .pointer (some ⟨b, 0, none⟩) := by simpa using h8
  exact bodyPost_ret (v := .agg #[v0, v1, v2, v3]) (by simp [results, hres, go_sem, h8', c0, c1, c2, c3]) hd hQ
set_option maxHeartbeats 1000000 in
theorem copy_any (x : Line) (sa da : Option Addr) (cs cd sb so db dO : Nat) (w : World) (L : LAt w x sa da cs cd sb so db dO) :
    Calls Tryz.prog 43 #[.agg #[.slice sa x.S.length cs, .slice da x.D.length cd, .int .i64 x.g, .bool x.cl]] w fun e w' => ∃ A1 C1 A2 C2, e = .returned (.agg #[.slice A1 x.S.length C1, .slice A2 x.D.length C2, .int .i64 x.g, .bool x.cl]) ∧ OwnL (w.heap.size + 2) w' x A1 A2 C1 C2 ∧ Below w.heap.size w w' := by
  obtain ⟨i0, hi, hz0, hz1, hz2⟩ := info_parts infoStr
  obtain ⟨j0, hj, hy0, hy1, hy2⟩ := info_parts infoI
  have hls := L.hls
  have hld := L.hld
  have nS := none_zero L.hsa L.ncs
  have nD := none_zero L.hda L.ncd
  have oneS := one_strs x.S
  have oneD := one_ints x.D
  have bS : 0 + x.S.length ≤ maxLen := by unfold maxLen; omega
  have bD : 0 + x.D.length ≤ maxLen := by unfold maxLen; omega
  have HB := hide (begun L)
  clear L
  go_enter Tryz.func43, Tryz.ntmps43
  go_upto_region 1 with fail
  generalize ((w.alloc (.cells #[.slice sa x.S.length cs, .slice da x.D.length cd, .int .i64 x.g, .bool x.cl] 37)).alloc (.cells #[.slice none 0 0, .slice none 0 0, .int .i64 0, .bool false] 37)) = w0 at *
  obtain ⟨⟨c0, c1, c2, c3⟩, ⟨e0, e1, e2, e3⟩⟩ := HB.out.F1.facts
  have sS := withs_src HB.out.L.hsa HB.out.L.PS
  go_region_law (first
    | (refine step_app rfl _ _ 35 rfl w0.heap.size 9 i0 _ 1 16 Tryz.underlying35 hi hz0 hz1 hz2 rfl (by decide) (.slice none 0 0) 0 [] rfl (World.ownsRow_nil _ _ _ _) sa x.S.length cs (x.S.map .string) rfl (by simp) nS sS oneS bS (by omega) (Nat.le_refl _) ?_; intro A1 C1 w1 ho1 hg1; rw [Nat.zero_add, List.nil_append] at ho1; have B1 : Below w0.heap.size w0 w1 := (Below.refl _ w0).drew.grown hg1 (Nat.le_refl _) (fun k hk => by cases hk); have HB1 := hide (HB.out.over B1); have HO1 := hide ho1; have HW1 := hide B1; clear c0 c1 c2 c3 e0 e1 e2 e3 sS B1 hg1 ho1; obtain ⟨⟨c0, c1, c2, c3⟩, ⟨e0, e1, e2, e3⟩⟩ := HB1.out.F1.facts; have sD := withi_src HB1.out.L.hda HB1.out.L.PD)
    | (refine step_app rfl _ _ 34 rfl w1.heap.size 3 j0 _ 1 8 Tryz.underlying34 hj hy0 hy1 hy2 rfl (by decide) (.slice none 0 0) 0 [] rfl (World.ownsRow_nil _ _ _ _) da x.D.length cd (x.D.map (.int .i64)) rfl (by simp) nD sD oneD bD (by omega) (Nat.le_refl _) ?_; intro A2 C2 w2 ho2 hg2; rw [Nat.zero_add, List.nil_append] at ho2; have B2 : Below w1.heap.size w1 w2 := (Below.refl _ w1).grown hg2 (Nat.le_refl _) (fun k hk => by cases hk); have HB2 := hide (HB1.out.over B2); have HO2 := hide ho2; have HW2 := hide B2; clear c0 c1 c2 c3 e0 e1 e2 e3 sD B2 hg2 ho2; obtain ⟨⟨c0, c1, c2, c3⟩, ⟨e0, e1, e2, e3⟩⟩ := HB2.out.F1.facts))
  all_goals
    have F1 := (HB2.out.F1.set_0 (.slice A1 x.S.length C1)).set_1 (.slice A2 x.D.length C2)
    have F2 := (HB2.out.F2.other (c := w.heap.size) (o := 0) (by omega) (.slice A1 x.S.length C1)).other (c := w.heap.size) (o := 1) (by omega) (.slice A2 x.D.length C2)
    have BW := (HB2.out.below.setCell (p := ⟨w.heap.size, 0, none⟩) (Nat.le_refl _) (.slice A1 x.S.length C1)).setCell (p := ⟨w.heap.size, 1, none⟩) (Nat.le_refl _) (.slice A2 x.D.length C2)
    have OL : OwnL (w.heap.size + 2) w2 x A1 A2 C1 C2 := ⟨own_base (own_over HO1.out HW2.out) HB.out.size, own_base HO2.out HB1.out.size, fun k h1 h2 => by have z1 := (World.ownsRow.lt HO1.out k h1).2; have z2 := (World.ownsRow.lt HO2.out k h2).1; omega⟩
    have OM := OL.set (w' := (w2.setCell ⟨w.heap.size, 0, none⟩ (.slice A1 x.S.length C1)).setCell ⟨w.heap.size, 1, none⟩ (.slice A2 x.D.length C2)) (fun k hk _ => by rw [Below.heap_setCell _ _ _ _ (show k ≠ w.heap.size by omega), Below.heap_setCell _ _ _ _ (show k ≠ w.heap.size by omega)])
    clear c0 c1 c2 c3 e0 e1 e2 e3 OL
    generalize ((w2.setCell ⟨w.heap.size, 0, none⟩ (.slice A1 x.S.length C1)).setCell ⟨w.heap.size, 1, none⟩ (.slice A2 x.D.length C2)) = w3 at *
    obtain ⟨⟨c0, c1, c2, c3⟩, -⟩ := F1.facts
    obtain ⟨⟨d0, d1, d2, d3⟩, ⟨f0, f1, f2, f3⟩⟩ := F2.facts
    have HX := hide (show _ ∧ _ ∧ _ from ⟨F2, BW, OM⟩)
    clear F1 F2 BW OM
    go_wp2
    exact cell_end1 rfl HX.out.1 _ _ _ _ _ ⟨A1, C1, A2, C2, rfl, HX.out.2.2.set fun k hk _ => set4_other _ _ _ _ (by omega), set4_below _ _ _ _ HX.out.2.1 (Nat.le_succ _)⟩ _ rfl rfl
end Go.Proofs.YtjghbciepinofaaGreat.Ln

set_option maxRecDepth 100000
namespace Go.Proofs.YtjghbciepinofaaGreat.Cd
open Go.RowKit
theorem info5 : (Tryz.prog.info? 5).map (fun i => (i.zero, i.size, i.bytes)) = some (some (.int .u8 0), 1, 1) := by kernel_rfl
/-- the bytes of a number, m of them, the highest first -/
def be (n : Int) : Nat → List Int
  | 0 => []
  | m + 1 => (n / 2 ^ (8 * m)) % 256 :: be n m
theorem be_length (n : Int) (m : Nat) : (be n m).length = m := by
  induction m with
  | zero => rfl
  | succ m ih => simp [be, ih]
/-- a row of bytes that the call owns -/
def Row (w : World) (B : Nat) (v : Value) (xs : List Int) : Prop := w.ownsRow B 5 1 v xs.length (xs.map (Value.int .u8))
/-- v' lies where v lay, or in a block that is new since w -/
def At (w : World) (v v' : Value) : Prop := v'.ownBlock = v.ownBlock ∨ ∃ k, v'.ownBlock = some k ∧ w.heap.size ≤ k
theorem grown_trans {w w1 w2 : World} {v v1 : Value} (h : w.grownBy w1 v.ownBlock) (ha : At w v v1) (k : w1.grownBy w2 v1.ownBlock) : w.grownBy w2 v.ownBlock := by
  refine ⟨k.os.trans h.os, k.tape.trans h.tape, k.output.trans h.output, Nat.le_trans h.size k.size, fun i hi hne => ?_⟩
  rw [k.block i (Nat.lt_of_lt_of_le hi h.size) ?_, h.block i hi hne]
  rcases ha with e | ⟨j, e, hj⟩
  · rw [e]; exact hne
  · rw [e]; intro h; cases h; omega
theorem grown_refl (w : World) (r : Option Nat) : w.grownBy w r := ⟨rfl, rfl, rfl, Nat.le_refl _, fun _ _ _ => rfl⟩
theorem At.trans {w w1 : World} {v v1 v2 : Value} (hs : w.heap.size ≤ w1.heap.size) (h : At w v v1) (k : At w1 v1 v2) : At w v v2 := by
  rcases k with e | ⟨j, e, hj⟩
  · rcases h with e1 | ⟨j, e1, hj⟩
    · exact .inl (e.trans e1)
    · exact .inr ⟨j, e.trans e1, hj⟩
  · exact .inr ⟨j, e, Nat.le_trans hs hj⟩
theorem grown_alloc {w w2 : World} {o : Obj} {r : Option Nat} (k : (w.alloc o).grownBy w2 r) : w.grownBy w2 r :=
  ⟨k.os, k.tape, k.output, Nat.le_trans (by simp) k.size, fun i hi hne => (k.block i (by simp; omega) hne).trans (Below.heap_alloc _ _ _ hi)⟩
set_option maxHeartbeats 400000 in
theorem put_any (B : Nat) (v : Value) (xs : List Int) (n : Int) (wd : Nat) (w : World) (hown : Row w B v xs) (hwd : wd ≤ 7) (hlen : xs.length + wd ≤ 1000000) (hB : B ≤ w.heap.size) :
    Calls Tryz.prog 22 #[v, .int .i64 n, .int .i64 wd] w fun e w' => ∃ v', e = .returned v' ∧ Row w' B v' (xs ++ be n wd) ∧ w.grownBy w' v.ownBlock ∧ At w v v' := by
  obtain ⟨i0, hi, hz0, hz1, hz2⟩ := info_parts info5
  go_enter Tryz.func22, Tryz.ntmps22
  go_wp2
  go_loopw [0, 7] (fun u i wl => ∃ (m : Nat) (ys : List Int), m ≤ wd ∧ i = .int .i64 ((m : Int) - 1) ∧ Hid (ys ++ be n m = xs ++ be n wd) ∧ Row wl B u ys ∧ Hid (w.grownBy wl v.ownBlock ∧ At w v u)) (fun _ i _ => (intOf i + 1).toNat)
  case atStart => exact ⟨wd, xs, Nat.le_refl _, rfl, rfl, hown, grown_refl _ _, .inl rfl⟩
  case round =>
    obtain ⟨m, ys, hm, rfl, HE, hown2, HB⟩ := hrel
    clear hown
    match m, HE with
    | 0, HE =>
      go_wp2
      go_ret
      have hE := HE.out
      simp only [be, List.append_nil] at hE
      subst hE
      exact ⟨_, rfl, hown2, HB.out.1, HB.out.2⟩
    | m + 1, HE =>
      have hl : ys.length ≤ 1000000 := by
        have h1 := congrArg List.length HE.out
        simp only [List.length_append, be_length] at h1
        omega
      have hsz : B ≤ wr.heap.size := Nat.le_trans hB HB.out.1.size
      go_wp2_with (at_builtin; refine wpList_append_own_at _ rfl _ _ 71 rfl B 5 i0 (.int .u8 0) 1 1 Tryz.underlying71 hi hz0 hz1 hz2 rfl (by decide) _ _ _ rfl (World.ownsRow.alloc hown2 _) ⟨wr.heap.size, 0, none⟩ 1 1 [.int .u8 (n / 2 ^ (8 * m) % 256)] rfl rfl (cell_one_new _ _ _) (by intro u hu; simp at hu; subst hu; rfl) (by unfold maxLen; omega) (by omega) (by simp; omega) ?_; intro v' w1 hown' hgrow _ hat)
      have HO : Hid (Row w1 B v' (ys ++ [n / 2 ^ (8 * m) % 256])) := by simpa [Hid, Row] using hown'
      have HB1 : Hid (w.grownBy w1 v.ownBlock ∧ At w v v') := by
        refine ⟨grown_trans HB.out.1 HB.out.2 (grown_alloc hgrow), HB.out.2.trans HB.out.1.size ?_⟩
        rcases hat with h | h
        · exact .inl h
        · exact .inr ⟨_, h, by simp⟩
      clear hown' hgrow hown2 hat
      go_wp2
      go_roundw
      case rel => exact ⟨m, _, by omega, by go_num, by show _ = _; rw [← HE.out]; simp [be], HO.out, HB1⟩
      case measure => simp [intOf]
end Go.Proofs.YtjghbciepinofaaGreat.Cd

