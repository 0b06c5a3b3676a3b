/- Parts of the proof: LB LC LD LF. -/
import Derived.Test.YtkhlihpghbhppaaGreatRows
import Derived.Test.YtkhlihpghbhppaaGreatPjK24
import Derived.OwnWalk
import Derived.Deep.OwnRows
import Derived.Deep.DeepCutAuto
import Derived.Deep.RegionLaw
import Derived.Laws.OwnMore
import Derived.OneCell
set_option maxRecDepth 100000
namespace Go.Proofs.YtkhlihpghbhppaaGreat.Ln
open Go.RowKit
theorem goodL_cases (x : Line) :
    (x.D.length ≠ x.S.length ∧ goodL x = false) ∨ (x.D.length = x.S.length ∧ 400 < x.S.length ∧ goodL x = false) ∨
    (x.D.length = x.S.length ∧ x.S.length ≤ 400 ∧ (nonneg x.D = false → goodL x = false) ∧ (nonneg x.D = true → goodL x = (decide (0 ≤ x.g) && decide (x.g ≤ x.S.length)))) := by
  by_cases h1 : x.D.length = x.S.length
  · right
    by_cases h2 : x.S.length ≤ 400
    · right
      exact ⟨h1, h2, fun h3 => by simp [goodL, h3], fun h3 => by simp [goodL, h1, h2, h3]⟩
    · left
      exact ⟨h1, by omega, by simp [goodL, h2]⟩
  · left
    exact ⟨h1, by simp [goodL, h1]⟩
set_option maxHeartbeats 1000000 in
theorem good_any (x : Line) (sa da : Option Addr) (cs cd sb so db dO : Nat) (w : World) (L : LAt w x sa da cs cd sb so db dO) :
    Calls Tryz.prog 108 #[.agg #[.slice sa x.S.length cs, .slice da x.D.length cd, .int .i64 x.g, .bool x.cl]] w fun e w' => e = .returned (.bool (goodL x)) ∧ Below w.heap.size w w' := by
  obtain ⟨S, D, g, cl⟩ := x
  have hcs := goodL_cases ⟨S, D, g, cl⟩
  obtain ⟨hls, hld, hsa, hda, -, -, PS, PD⟩ := L
  have HB0 : Hid (∀ o, Below w.heap.size w (w.alloc o)) := fun o => below_new w o
  have HDA : Hid (0 < D.length → da = some ⟨db, dO, none⟩) := hda
  have HPD : Hid (IntsAt w db dO D) := PD
  clear hsa hda PS PD
  dsimp only at *
  generalize goodL ⟨S, D, g, cl⟩ = G at *
  rcases hcs with ⟨h1, rfl⟩ | ⟨h1, h2, rfl⟩ | ⟨h1, h2, h3, h4⟩
  · have hne : ((D.length : Int) != (S.length : Int)) = true := by simp; omega
    clear h1
    go_enter Tryz.func108, Tryz.ntmps108
    go_wp2
    go_ret
    exact ⟨rfl, HB0.out _⟩
  · have hne : ((D.length : Int) != (S.length : Int)) = false := by simp; omega
    clear h1
    go_enter Tryz.func108, Tryz.ntmps108
    go_wp2
    go_ret
    exact ⟨rfl, HB0.out _⟩
  · have hne : ((D.length : Int) != (S.length : Int)) = false := by simp; omega
    have hd2 : D.length ≤ 400 := by omega
    have HG : Hid ((nonneg D = false → G = false) ∧ (nonneg D = true → G = (decide (0 ≤ g) && decide (g ≤ S.length)))) := ⟨h3, h4⟩
    clear h1 h3 h4
    go_enter Tryz.func108, Tryz.ntmps108
    go_wp2
    go_loop [21] (fun i => ∃ (k : Nat), k ≤ D.length ∧ i = .int .i64 (k : Int) ∧ Hid (nonneg (D.take k) = true)) (fun i => D.length - (intOf i).toNat)
    case atStart => exact ⟨0, Nat.zero_le _, rfl, by simp [Hid, nonneg]⟩
    case round =>
      obtain ⟨k, hk, rfl, HR⟩ := hrel
      by_cases hlt : k < D.length
      · have hcell := (HPD.out.later (HB0.out (.cells #[.slice sa S.length cs, .slice da D.length cd, .int .i64 g, .bool cl] 37))) k hlt
        obtain ⟨y, hy⟩ : ∃ y, D.getD k 0 = y := ⟨_, rfl⟩
        rw [hy] at hcell
        have HY : Hid (D.getD k 0 = y) := hy
        clear hy
        have e := HDA.out (by omega)
        subst e
        by_cases hy0 : y < 0
        · go_wp2
          go_ret
          exact ⟨by rw [HG.out.1 (nonneg_not hlt (by rw [HY.out]; exact hy0))]; rfl, HB0.out _⟩
        · go_wp2
          go_round
          case rel => exact ⟨k + 1, by omega, by go_num, nonneg_step HR.out hlt (by rw [HY.out]; omega)⟩
          case measure => simp [intOf]; omega
      · have hG := HG.out.2 (by have := HR.out; rwa [List.take_of_length_le (by omega)] at this)
        by_cases hg0 : 0 ≤ g
        · by_cases hg1 : g ≤ (S.length : Int)
          · have HF : Hid (G = true) := by show _ = _; rw [hG]; simp [hg0, hg1]
            clear hG
            go_wp2
            go_ret
            exact ⟨by rw [HF.out]; rfl, HB0.out _⟩
          · have HF : Hid (G = false) := by show _ = _; rw [hG]; simp [hg1]
            clear hG
            go_wp2
            go_ret
            exact ⟨by rw [HF.out]; rfl, HB0.out _⟩
        · have HF : Hid (G = false) := by show _ = _; rw [hG]; simp [hg0]
          clear hG
          go_wp2
          go_ret
          exact ⟨by rw [HF.out]; rfl, HB0.out _⟩
end Go.Proofs.YtkhlihpghbhppaaGreat.Ln

set_option maxRecDepth 100000
namespace Go.Proofs.YtkhlihpghbhppaaGreat.Ln
open Go.RowKit
theorem infoStr : (Tryz.prog.info? 9).map (fun i => (i.zero, i.size, i.bytes)) = some (some (.string ⟨#[]⟩), 1, 16) := by kernel_rfl
theorem infoI : (Tryz.prog.info? 3).map (fun i => (i.zero, i.size, i.bytes)) = some (some (.int .i64 0), 1, 8) := by kernel_rfl
/-- what an own row holds lies there -/
theorem own_strs {B : Nat} {w : World} {g n c e : Nat} {l : List ByteArray} (h : w.ownsRow B e 1 (.slice (some ⟨g, 0, none⟩) n c) n (l.map .string)) : B ≤ g ∧ g < w.heap.size ∧ StrsAt w g 0 l := by
  rcases h.2 with ⟨h1, _⟩ | ⟨g', cap, cur, hv, hb, hg, hn, hm, hs, ht⟩
  · cases h1
  · cases hv
    refine ⟨hb, (Array.getElem?_eq_some_iff.1 hg).1, fun i hi => ?_⟩
    have hl : l.length = n := by have := h.1; simpa using this
    have : (cur.toList.take (n * 1))[i]? = some (.string (l.getD i ByteArray.empty)) := by rw [ht]; simp [List.getD, hi]
    rw [List.getElem?_take_of_lt (by omega)] at this
    simp only [World.cell?, hg, Nat.zero_add]
    simpa using this
theorem own_ints {B : Nat} {w : World} {g n c e : Nat} {l : List Int} (h : w.ownsRow B e 1 (.slice (some ⟨g, 0, none⟩) n c) n (l.map (.int .i64))) : B ≤ g ∧ g < w.heap.size ∧ IntsAt w g 0 l := by
  rcases h.2 with ⟨h1, _⟩ | ⟨g', cap, cur, hv, hb, hg, hn, hm, hs, ht⟩
  · cases h1
  · cases hv
    refine ⟨hb, (Array.getElem?_eq_some_iff.1 hg).1, fun i hi => ?_⟩
    have hl : l.length = n := by have := h.1; simpa using this
    have : (cur.toList.take (n * 1))[i]? = some (.int .i64 (l.getD i 0)) := by rw [ht]; simp [List.getD, hi]
    rw [List.getElem?_take_of_lt (by omega)] at this
    simp only [World.cell?, hg, Nat.zero_add]
    simpa using this
theorem withs_src {w : World} {b off : Nat} {l : List ByteArray} {a : Option Addr} (ha : 0 < l.length → a = some ⟨b, off, none⟩) (hc : StrsAt w b off l) : ∀ ad, a = some ad → ∀ j u, (l.map Value.string)[j]? = some u → w.cell? (ad.add j) = some u := by
  intro ad e j u hu
  have hj : j < l.length := by have := (List.getElem?_eq_some_iff.1 hu).1; simpa using this
  rw [ha (by omega)] at e
  cases e
  rw [Addr.add_lit, hc j hj]
  simp [hj] at hu
  simp [List.getD, hj, hu]
theorem withi_src {w : World} {b off : Nat} {l : List Int} {a : Option Addr} (ha : 0 < l.length → a = some ⟨b, off, none⟩) (hc : IntsAt w b off l) : ∀ ad, a = some ad → ∀ j u, (l.map (Value.int .i64))[j]? = some u → w.cell? (ad.add j) = some u := by
  intro ad e j u hu
  have hj : j < l.length := by have := (List.getElem?_eq_some_iff.1 hu).1; simpa using this
  rw [ha (by omega)] at e
  cases e
  rw [Addr.add_lit, hc j hj]
  simp [hj] at hu
  simp [List.getD, hj, hu]
end Go.Proofs.YtkhlihpghbhppaaGreat.Ln

set_option maxRecDepth 100000
namespace Go.Proofs.YtkhlihpghbhppaaGreat.Ln
open Go.RowKit
/-- four cells of a block -/
def FAt (w : World) (b : Nat) (v0 v1 v2 v3 : Value) : Prop := w.heap[b]? = some (.cells #[v0, v1, v2, v3] 37)
section
variable {w w' : World} {b B : Nat} {v0 v1 v2 v3 : Value}
theorem FAt.later (h : FAt w b v0 v1 v2 v3) (hb : Below B w w') (hB : b < B) : FAt w' b v0 v1 v2 v3 := (hb.block b hB).trans h
theorem FAt.new (w : World) (v0 v1 v2 v3 : Value) : FAt (w.alloc (.cells #[v0, v1, v2, v3] 37)) w.heap.size v0 v1 v2 v3 := heap_alloc_new _ _
theorem FAt.lt (h : FAt w b v0 v1 v2 v3) : b < w.heap.size := (Array.getElem?_eq_some_iff.1 h).1
theorem FAt.alloc (h : FAt w b v0 v1 v2 v3) (o : Obj) : FAt (w.alloc o) b v0 v1 v2 v3 := (Below.heap_alloc _ _ _ h.lt).trans h
theorem FAt.other {c o : Nat} (h : FAt w b v0 v1 v2 v3) (hb : b ≠ c) (v : Value) : FAt (w.setCell ⟨c, o, none⟩ v) b v0 v1 v2 v3 := (Below.heap_setCell _ _ _ _ hb).trans h
theorem FAt.facts (h : FAt w b v0 v1 v2 v3) : (w.cell? ⟨b, 0, none⟩ = some v0 ∧ w.cell? ⟨b, 1, none⟩ = some v1 ∧ w.cell? ⟨b, 2, none⟩ = some v2 ∧ w.cell? ⟨b, 3, none⟩ = some v3) ∧ (w.frozen? ⟨b, 0, none⟩ = false ∧ w.frozen? ⟨b, 1, none⟩ = false ∧ w.frozen? ⟨b, 2, none⟩ = false ∧ w.frozen? ⟨b, 3, none⟩ = false) := by
  unfold FAt at h
  simp [World.cell?, World.frozen?, h]
theorem FAt.set_0 (h : FAt w b v0 v1 v2 v3) (v : Value) : FAt (w.setCell ⟨b, 0, none⟩ v) b v v1 v2 v3 := by
  unfold FAt at *
  simp [World.setCell, Array.getElem?_modify, h]
theorem FAt.set_1 (h : FAt w b v0 v1 v2 v3) (v : Value) : FAt (w.setCell ⟨b, 1, none⟩ v) b v0 v v2 v3 := by
  unfold FAt at *
  simp [World.setCell, Array.getElem?_modify, h]
theorem FAt.set_2 (h : FAt w b v0 v1 v2 v3) (v : Value) : FAt (w.setCell ⟨b, 2, none⟩ v) b v0 v1 v v3 := by
  unfold FAt at *
  simp [World.setCell, Array.getElem?_modify, h]
theorem FAt.set_3 (h : FAt w b v0 v1 v2 v3) (v : Value) : FAt (w.setCell ⟨b, 3, none⟩ v) b v0 v1 v2 v := by
  unfold FAt at *
  simp [World.setCell, Array.getElem?_modify, h]
end
/-- the four cells are written -/
def set4 (w : World) (b : Nat) (v0 v1 v2 v3 : Value) : World := (((w.setCell ⟨b, 0, none⟩ v0).setCell ⟨b, 1, none⟩ v1).setCell ⟨b, 2, none⟩ v2).setCell ⟨b, 3, none⟩ v3
theorem set4_at {w : World} {b : Nat} {u0 u1 u2 u3 : Value} (h : FAt w b u0 u1 u2 u3) (v0 v1 v2 v3 : Value) : FAt (set4 w b v0 v1 v2 v3) b v0 v1 v2 v3 := (((h.set_0 v0).set_1 v1).set_2 v2).set_3 v3
theorem set4_below {B : Nat} {w0 w : World} {b : Nat} (v0 v1 v2 v3 : Value) (h : Below B w0 w) (hB : B ≤ b) : Below B w0 (set4 w b v0 v1 v2 v3) := (((h.setCell hB _).setCell hB _).setCell hB _).setCell hB _
theorem set4_other {w : World} {b : Nat} (v0 v1 v2 v3 : Value) {c : Nat} (hc : c ≠ b) : (set4 w b v0 v1 v2 v3).heap[c]? = w.heap[c]? := by
  unfold set4
  rw [Below.heap_setCell _ _ _ _ hc, Below.heap_setCell _ _ _ _ hc, Below.heap_setCell _ _ _ _ hc, Below.heap_setCell _ _ _ _ hc]
theorem cell_of_heap {w w' : World} {b : Nat} (h : w'.heap[b]? = w.heap[b]?) (o : Nat) : w'.cell? ⟨b, o, none⟩ = w.cell? ⟨b, o, none⟩ := World.cell?_of_block (w := w) (a := ⟨b, o, none⟩) h
/-- a line's lists in a world that has changed in one block alone -/
theorem LAt.set {w w' : World} {x : Line} {sa da : Option Addr} {cs cd sb so db dO : Nat} (h : LAt w x sa da cs cd sb so db dO) (hS : 0 < x.S.length → w'.heap[sb]? = w.heap[sb]?) (hD : 0 < x.D.length → w'.heap[db]? = w.heap[db]?) : LAt w' x sa da cs cd sb so db dO :=
  ⟨h.hls, h.hld, h.hsa, h.hda, h.ncs, h.ncd, fun i hi => (cell_of_heap (hS (by omega)) _).trans (h.PS i hi), fun i hi => (cell_of_heap (hD (by omega)) _).trans (h.PD i hi)⟩
theorem FAt.new2 (w : World) (o : Obj) (v0 v1 v2 v3 : Value) : FAt ((w.alloc o).alloc (.cells #[v0, v1, v2, v3] 37)) (w.heap.size + 1) v0 v1 v2 v3 := by
  have := FAt.new (w.alloc o) v0 v1 v2 v3
  rwa [show (w.alloc o).heap.size = w.heap.size + 1 by simp] at this
/-- what is known once the line lies in a block, and a block for the answer is there -/
structure Begun (w w0 : World) (x : Line) (sa da : Option Addr) (cs cd sb so db dO : Nat) : Prop where
  F1 : FAt w0 w.heap.size (.slice sa x.S.length cs) (.slice da x.D.length cd) (.int .i64 x.g) (.bool x.cl)
  F2 : FAt w0 (w.heap.size + 1) (.slice none 0 0) (.slice none 0 0) (.int .i64 0) (.bool false)
  L : LAt w0 x sa da cs cd sb so db dO
  ltS : 0 < x.S.length → sb < w.heap.size
  ltD : 0 < x.D.length → db < w.heap.size
  below : Below w.heap.size w w0
  size : w.heap.size + 2 ≤ w0.heap.size
theorem begun {w : World} {x : Line} {sa da : Option Addr} {cs cd sb so db dO : Nat} (L : LAt w x sa da cs cd sb so db dO) : Begun w ((w.alloc (.cells #[.slice sa x.S.length cs, .slice da x.D.length cd, .int .i64 x.g, .bool x.cl] 37)).alloc (.cells #[.slice none 0 0, .slice none 0 0, .int .i64 0, .bool false] 37)) x sa da cs cd sb so db dO := by
  have hb : Below w.heap.size w ((w.alloc (.cells #[.slice sa x.S.length cs, .slice da x.D.length cd, .int .i64 x.g, .bool x.cl] 37)).alloc (.cells #[.slice none 0 0, .slice none 0 0, .int .i64 0, .bool false] 37)) := (below_new w _).alloc (by simp) _
  exact ⟨(FAt.new w _ _ _ _).alloc _, FAt.new2 w _ _ _ _ _, L.later hb, L.ltS, L.ltD, hb, by simp⟩
theorem Begun.over {w w0 w1 : World} {x : Line} {sa da : Option Addr} {cs cd sb so db dO : Nat} (h : Begun w w0 x sa da cs cd sb so db dO) (hb : Below w0.heap.size w0 w1) : Begun w w1 x sa da cs cd sb so db dO :=
  ⟨h.F1.later hb h.F1.lt, h.F2.later hb h.F2.lt, h.L.later hb, h.ltS, h.ltD, below_then h.below hb, Nat.le_trans h.size hb.size⟩
end Go.Proofs.YtkhlihpghbhppaaGreat.Ln

set_option maxRecDepth 100000
namespace Go.Proofs.YtkhlihpghbhppaaGreat.Ln
open Go.RowKit
/-- texts lie in a row of the call's own -/
def OwnS (B : Nat) (w : World) (A : Option Addr) (C : Nat) (l : List ByteArray) : Prop := w.ownsRow B 9 1 (.slice A l.length C) l.length (l.map .string)
/-- numbers lie in a row of the call's own -/
def OwnI (B : Nat) (w : World) (A : Option Addr) (C : Nat) (l : List Int) : Prop := w.ownsRow B 3 1 (.slice A l.length C) l.length (l.map (.int .i64))
theorem own_of {w w' : World} {b e z n : Nat} {v : Value} {xs : List Value} (h : w.ownsRow b e z v n xs) (hk : ∀ k, v.ownBlock = some k → w'.heap[k]? = w.heap[k]?) : w'.ownsRow b e z v n xs := by
  refine ⟨h.1, ?_⟩
  rcases h.2 with hn | ⟨g, cap, cur, rfl, hb, hg, rest⟩
  · exact .inl hn
  · exact .inr ⟨g, cap, cur, rfl, hb, (hk g rfl).trans hg, rest⟩
theorem own_base {w : World} {b b' e z n : Nat} {v : Value} {xs : List Value} (h : w.ownsRow b e z v n xs) (hb : b' ≤ b) : w.ownsRow b' e z v n xs := by
  refine ⟨h.1, ?_⟩
  rcases h.2 with hn | ⟨g, cap, cur, hv, h2, h3⟩
  · exact .inl hn
  · exact .inr ⟨g, cap, cur, hv, Nat.le_trans hb h2, h3⟩
theorem own_over {w w' : World} {b e z n : Nat} {v : Value} {xs : List Value} (h : w.ownsRow b e z v n xs) (hb : Below w.heap.size w w') : w'.ownsRow b e z v n xs := own_of h fun k hk => hb.block k (World.ownsRow.lt h k hk).2
theorem own_form {w : World} {b e z n : Nat} {v : Value} {xs : List Value} (h : w.ownsRow b e z v n xs) : ∃ A C, v = .slice A n C := by
  rcases h.2 with ⟨hv, hn⟩ | ⟨g, cap, cur, hv, _⟩
  · subst hn; exact ⟨_, _, hv⟩
  · exact ⟨_, _, hv⟩
/-- an own row, appended to in a region that draws -/
theorem step_app {P : Program} {ops : Array Oper} {o : Oper} {a : Act} {w : World} {K : Act → World → Prop} {Q : Exit → Act → World → Prop} {E : Prop}
    (hg : o.guard = none) (s x : Operand) (t : TypeId) (hop : o.op = Op.call { callee := Callee.builtin Builtin.append, args := #[s, x], argTypes := #[t, t] })
    (base : Nat) (e : TypeId) (i : TypeInfo) (z : Value) (size bytes : Nat) (h1 : P.underlying t = some (.slice e)) (h2 : P.info? e = some i) (h3 : i.zero = some z) (h4 : i.size = size) (h5 : i.bytes = bytes) (h6 : z.cells.size = size) (h7 : 0 < size)
    (v : Value) (n : Nat) (xs : List Value) (hs : a.eval s = v) (hown : w.ownsRow base e size v n xs)
    (ao : Option Addr) (m c : Nat) (news : List Value) (hx : a.eval x = .slice ao m c) (hn : news.length = m * size) (hnone : ao = none → m = 0 ∧ c = 0) (hc : ∀ ad, ao = some ad → ∀ j u, news[j]? = some u → w.cell? (ad.add j) = some u) (h1c : ∀ u ∈ news, u.oneCell' = true)
    (b1 : n + m ≤ maxLen) (b2 : (n + m) * bytes ≤ 140737488355328) (b3 : base ≤ w.heap.size)
    (hK : ∀ A C w', w'.ownsRow base e size (.slice A (n + m) C) (n + m) (xs ++ news) → w.grownBy w' v.ownBlock → K (a.put o.dst (.slice A (n + m) C)) w') :
    if Region.wanted o (yielded ops a.tmps) = true then Oper.wp P o a w K Q else E := by
  have hw : Region.wanted o (yielded ops a.tmps) = true := by simp [Region.wanted, hg]
  rw [if_pos hw]
  cases ao with
  | some ad =>
    obtain ⟨v', w', hrun, r1, r2, _⟩ := run_append_own (P := P) w base t o.type e i z size bytes h1 h2 h3 h4 h5 h6 h7 v n xs hown ad m c news hn (hc ad rfl) h1c b1 b2 b3
    unfold Oper.wp
    simp [execOp, hop, resolve, invoke, builtin, hs, hx, hrun, Result.andThen]
    obtain ⟨A, C, rfl⟩ := own_form r1
    exact hK A C w' r1 r2
  | none =>
    obtain ⟨rfl, rfl⟩ := hnone rfl
    obtain rfl : news = [] := List.eq_nil_of_length_eq_zero (by simpa using hn)
    have hrun := run_append_owned_none (P := P) w base t o.type e i size h1 h2 v n xs hown
    unfold Oper.wp
    simp [execOp, hop, resolve, invoke, builtin, hs, hx, hrun, Result.andThen]
    obtain ⟨A, C, rfl⟩ := own_form hown
    exact hK A C w (by simpa using hown) (World.grownBy.refl w _)
theorem one_strs (l : List ByteArray) : ∀ u ∈ l.map Value.string, u.oneCell' = true := fun u hu => by
  simp at hu
  obtain ⟨t, _, rfl⟩ := hu
  rfl
theorem one_ints (l : List Int) : ∀ u ∈ l.map (Value.int .i64), u.oneCell' = true := fun u hu => by
  simp at hu
  obtain ⟨t, _, rfl⟩ := hu
  rfl
theorem none_zero {α : Type} {l : List α} {a : Option Addr} {b off c : Nat} (ha : 0 < l.length → a = some ⟨b, off, none⟩) (hn : a = none → c = 0) : a = none → l.length = 0 ∧ c = 0 := fun e => by
  refine ⟨?_, hn e⟩
  rcases Nat.eq_zero_or_pos l.length with h | h
  · exact h
  · rw [ha h] at e; cases e
theorem OwnS.facts {B : Nat} {w : World} {A : Option Addr} {C : Nat} {l : List ByteArray} (h : OwnS B w A C l) : (A = none → C = 0) ∧ ∃ g, (0 < l.length → A = some ⟨g, 0, none⟩ ∧ B ≤ g ∧ g < w.heap.size) ∧ StrsAt w g 0 l := by
  rcases h.2 with ⟨hv, hn⟩ | ⟨g, cap, cur, hv, hb, hg, _⟩
  · simp at hv
    exact ⟨fun _ => hv.2.2, 0, fun h0 => by omega, fun i hi => by omega⟩
  · cases hv
    obtain ⟨o1, o2, o3⟩ := own_strs h
    exact ⟨fun h => (by cases h), g, fun _ => ⟨rfl, o1, o2⟩, o3⟩
theorem OwnI.facts {B : Nat} {w : World} {A : Option Addr} {C : Nat} {l : List Int} (h : OwnI B w A C l) : (A = none → C = 0) ∧ ∃ g, (0 < l.length → A = some ⟨g, 0, none⟩ ∧ B ≤ g ∧ g < w.heap.size) ∧ IntsAt w g 0 l := by
  rcases h.2 with ⟨hv, hn⟩ | ⟨g, cap, cur, hv, hb, hg, _⟩
  · simp at hv
    exact ⟨fun _ => hv.2.2, 0, fun h0 => by omega, fun i hi => by omega⟩
  · cases hv
    obtain ⟨o1, o2, o3⟩ := own_ints h
    exact ⟨fun h => (by cases h), g, fun _ => ⟨rfl, o1, o2⟩, o3⟩
/-- a line whose lists are rows of the call's own -/
structure OwnL (B : Nat) (w : World) (x : Line) (A1 A2 : Option Addr) (C1 C2 : Nat) : Prop where
  oS : OwnS B w A1 C1 x.S
  oD : OwnI B w A2 C2 x.D
  apart : ∀ k, (Value.slice A1 x.S.length C1).ownBlock = some k → (Value.slice A2 x.D.length C2).ownBlock ≠ some k
theorem OwnL.at {B : Nat} {w : World} {x : Line} {A1 A2 : Option Addr} {C1 C2 : Nat} (h : OwnL B w x A1 A2 C1 C2) (h1 : x.S.length * 16 ≤ 140737488351232) (h2 : x.D.length * 8 ≤ 140737488351232) : ∃ g1 g2, LAt w x A1 A2 C1 C2 g1 0 g2 0 ∧ (0 < x.S.length → B ≤ g1 ∧ g1 < w.heap.size) ∧ (0 < x.D.length → B ≤ g2 ∧ g2 < w.heap.size) := by
  obtain ⟨n1, g1, f1, p1⟩ := h.oS.facts
  obtain ⟨n2, g2, f2, p2⟩ := h.oD.facts
  exact ⟨g1, g2, ⟨h1, h2, fun h => (f1 h).1, fun h => (f2 h).1, n1, n2, p1, p2⟩, fun h => (f1 h).2, fun h => (f2 h).2⟩
theorem OwnL.over {B : Nat} {w w' : World} {x : Line} {A1 A2 : Option Addr} {C1 C2 : Nat} (h : OwnL B w x A1 A2 C1 C2) (hb : Below w.heap.size w w') : OwnL B w' x A1 A2 C1 C2 := ⟨own_over h.oS hb, own_over h.oD hb, h.apart⟩
/-- stores below the base change no own row -/
theorem OwnL.set {B : Nat} {w : World} {x : Line} {A1 A2 : Option Addr} {C1 C2 : Nat} (h : OwnL B w x A1 A2 C1 C2) {w' : World} (hk : ∀ k, B ≤ k → k < w.heap.size → w'.heap[k]? = w.heap[k]?) : OwnL B w' x A1 A2 C1 C2 :=
  ⟨own_of h.oS fun k e => hk k (World.ownsRow.lt h.oS k e).1 (World.ownsRow.lt h.oS k e).2, own_of h.oD fun k e => hk k (World.ownsRow.lt h.oD k e).1 (World.ownsRow.lt h.oD k e).2, h.apart⟩
/-- how a call ends that answers four cells in a block of its own, stored whole -/
theorem cell_end1 {f : Func} {p : Tmp} (hres : f.results = #[.cell p 37]) {wq : World} {b : Nat} {u0 u1 u2 u3 : Value} (R : FAt wq b u0 u1 u2 u3) (v0 v1 v2 v3 : Value) (Q : Ending → World → Prop) (hQ : Q (.returned (.agg #[v0, v1, v2, v3])) (set4 wq b v0 v1 v2 v3)) (act : Act)
    (h8 : act.tmps.getD p undef = .pointer (some ⟨b, 0, none⟩)) (hd : act.defers = []) :
    bodyPost Tryz.prog f Q Exit.ret act (set4 wq b v0 v1 v2 v3) := by
  have R1 := set4_at R v0 v1 v2 v3
  generalize set4 wq b v0 v1 v2 v3 = w9 at *
  obtain ⟨⟨c0, c1, c2, c3⟩, -⟩ := R1.facts
  have h8' : act.tmps[p]?.getD undef = .pointer (some ⟨b, 0, none⟩) := by simpa using h8
  exact bodyPost_ret (v := .agg #[v0, v1, v2, v3]) (by simp [results, hres, go_sem, h8', c0, c1, c2, c3]) hd hQ
set_option maxHeartbeats 1000000 in
theorem copy_any (x : Line) (sa da : Option Addr) (cs cd sb so db dO : Nat) (w : World) (L : LAt w x sa da cs cd sb so db dO) :
    Calls Tryz.prog 39 #[.agg #[.slice sa x.S.length cs, .slice da x.D.length cd, .int .i64 x.g, .bool x.cl]] w fun e w' => ∃ A1 C1 A2 C2, e = .returned (.agg #[.slice A1 x.S.length C1, .slice A2 x.D.length C2, .int .i64 x.g, .bool x.cl]) ∧ OwnL (w.heap.size + 2) w' x A1 A2 C1 C2 ∧ Below w.heap.size w w' := by
  obtain ⟨i0, hi, hz0, hz1, hz2⟩ := info_parts infoStr
  obtain ⟨j0, hj, hy0, hy1, hy2⟩ := info_parts infoI
  have hls := L.hls
  have hld := L.hld
  have nS := none_zero L.hsa L.ncs
  have nD := none_zero L.hda L.ncd
  have oneS := one_strs x.S
  have oneD := one_ints x.D
  have bS : 0 + x.S.length ≤ maxLen := by unfold maxLen; omega
  have bD : 0 + x.D.length ≤ maxLen := by unfold maxLen; omega
  have HB := hide (begun L)
  clear L
  go_enter Tryz.func39, Tryz.ntmps39
  go_upto_region 1 with fail
  generalize ((w.alloc (.cells #[.slice sa x.S.length cs, .slice da x.D.length cd, .int .i64 x.g, .bool x.cl] 37)).alloc (.cells #[.slice none 0 0, .slice none 0 0, .int .i64 0, .bool false] 37)) = w0 at *
  obtain ⟨⟨c0, c1, c2, c3⟩, ⟨e0, e1, e2, e3⟩⟩ := HB.out.F1.facts
  have sS := withs_src HB.out.L.hsa HB.out.L.PS
  go_region_law (first
    | (refine step_app rfl _ _ 35 rfl w0.heap.size 9 i0 _ 1 16 Tryz.underlying35 hi hz0 hz1 hz2 rfl (by decide) (.slice none 0 0) 0 [] rfl (World.ownsRow_nil _ _ _ _) sa x.S.length cs (x.S.map .string) rfl (by simp) nS sS oneS bS (by omega) (Nat.le_refl _) ?_; intro A1 C1 w1 ho1 hg1; rw [Nat.zero_add, List.nil_append] at ho1; have B1 : Below w0.heap.size w0 w1 := (Below.refl _ w0).drew.grown hg1 (Nat.le_refl _) (fun k hk => by cases hk); have HB1 := hide (HB.out.over B1); have HO1 := hide ho1; have HW1 := hide B1; clear c0 c1 c2 c3 e0 e1 e2 e3 sS B1 hg1 ho1; obtain ⟨⟨c0, c1, c2, c3⟩, ⟨e0, e1, e2, e3⟩⟩ := HB1.out.F1.facts; have sD := withi_src HB1.out.L.hda HB1.out.L.PD)
    | (refine step_app rfl _ _ 34 rfl w1.heap.size 3 j0 _ 1 8 Tryz.underlying34 hj hy0 hy1 hy2 rfl (by decide) (.slice none 0 0) 0 [] rfl (World.ownsRow_nil _ _ _ _) da x.D.length cd (x.D.map (.int .i64)) rfl (by simp) nD sD oneD bD (by omega) (Nat.le_refl _) ?_; intro A2 C2 w2 ho2 hg2; rw [Nat.zero_add, List.nil_append] at ho2; have B2 : Below w1.heap.size w1 w2 := (Below.refl _ w1).grown hg2 (Nat.le_refl _) (fun k hk => by cases hk); have HB2 := hide (HB1.out.over B2); have HO2 := hide ho2; have HW2 := hide B2; clear c0 c1 c2 c3 e0 e1 e2 e3 sD B2 hg2 ho2; obtain ⟨⟨c0, c1, c2, c3⟩, ⟨e0, e1, e2, e3⟩⟩ := HB2.out.F1.facts))
  all_goals
    have F1 := (HB2.out.F1.set_0 (.slice A1 x.S.length C1)).set_1 (.slice A2 x.D.length C2)
    have F2 := (HB2.out.F2.other (c := w.heap.size) (o := 0) (by omega) (.slice A1 x.S.length C1)).other (c := w.heap.size) (o := 1) (by omega) (.slice A2 x.D.length C2)
    have BW := (HB2.out.below.setCell (p := ⟨w.heap.size, 0, none⟩) (Nat.le_refl _) (.slice A1 x.S.length C1)).setCell (p := ⟨w.heap.size, 1, none⟩) (Nat.le_refl _) (.slice A2 x.D.length C2)
    have OL : OwnL (w.heap.size + 2) w2 x A1 A2 C1 C2 := ⟨own_base (own_over HO1.out HW2.out) HB.out.size, own_base HO2.out HB1.out.size, fun k h1 h2 => by have z1 := (World.ownsRow.lt HO1.out k h1).2; have z2 := (World.ownsRow.lt HO2.out k h2).1; omega⟩
    have OM := OL.set (w' := (w2.setCell ⟨w.heap.size, 0, none⟩ (.slice A1 x.S.length C1)).setCell ⟨w.heap.size, 1, none⟩ (.slice A2 x.D.length C2)) (fun k hk _ => by rw [Below.heap_setCell _ _ _ _ (show k ≠ w.heap.size by omega), Below.heap_setCell _ _ _ _ (show k ≠ w.heap.size by omega)])
    clear c0 c1 c2 c3 e0 e1 e2 e3 OL
    generalize ((w2.setCell ⟨w.heap.size, 0, none⟩ (.slice A1 x.S.length C1)).setCell ⟨w.heap.size, 1, none⟩ (.slice A2 x.D.length C2)) = w3 at *
    obtain ⟨⟨c0, c1, c2, c3⟩, -⟩ := F1.facts
    obtain ⟨⟨d0, d1, d2, d3⟩, ⟨f0, f1, f2, f3⟩⟩ := F2.facts
    have HX := hide (show _ ∧ _ ∧ _ from ⟨F2, BW, OM⟩)
    clear F1 F2 BW OM
    go_wp2
    exact cell_end1 rfl HX.out.1 _ _ _ _ _ ⟨A1, C1, A2, C2, rfl, HX.out.2.2.set fun k hk _ => set4_other _ _ _ _ (by omega), set4_below _ _ _ _ HX.out.2.1 (Nat.le_succ _)⟩ _ rfl rfl
end Go.Proofs.YtkhlihpghbhppaaGreat.Ln

