/- Parts of the proof: CO OR1 S Q. -/
import Derived.Test.YtkhlihpghbhppaaGreatRows
import Derived.Test.YtkhlihpghbhppaaGreatPjK27
import Derived.ProofKit
import Derived.Deep.SlicePairs
import Derived.Test.YtkhlihpghbhppaaGreatProg
import Derived.OrdersHeld
import Derived.RegionTactic
import Derived.Deep.MidRow
import Derived.WalkKit
import Derived.WalkSmall
import Derived.Below
import Derived.ChangeKeysEq
set_option maxRecDepth 100000
namespace Go.Proofs.YtkhlihpghbhppaaGreat.Cd
open Go.ChangeShapes Go.WideShapes Go.ChangeAt Go.RowKit Go.Deep

/-- the two lists of a packet lie in memory -/
structure Lies (w : World) (S : List (Int × Int)) (D : List Int) (sa da : Option Addr) (sb so db dO : Nat) : Prop where
  hls : S.length ≤ maxLen
  hld : D.length ≤ maxLen
  hsa : 0 < S.length → sa = some ⟨sb, so, none⟩
  hda : 0 < D.length → da = some ⟨db, dO, none⟩
  PS : PwsAt w sb so S
  PD : IntsAt w db dO D
theorem Lies.later {w w' : World} {S : List (Int × Int)} {D : List Int} {sa da : Option Addr} {sb so db dO : Nat} (h : Lies w S D sa da sb so db dO) (hb : Below w.heap.size w w') : Lies w' S D sa da sb so db dO :=
  ⟨h.hls, h.hld, h.hsa, h.hda, h.PS.later hb, h.PD.later hb⟩

section
variable {H : Type} {enc : TypeId × Value → H} {W : World}
end
end Go.Proofs.YtkhlihpghbhppaaGreat.Cd

set_option maxRecDepth 100000
namespace Go.Proofs.YtkhlihpghbhppaaGreat.Od
open Go
section
variable {P : Program} {md : Region.Mode} {ops : Array Oper} {Q : Exit → Act → World → Prop} {S : World → Prop} {c : Nat}
/-- whatever order is picked: S holds behind each operation that comes ahead of number c; what comes behind c is left to itself -/
def anyC (P : Program) (md : Region.Mode) (ops : Array Oper) (Q : Exit → Act → World → Prop) (S : World → Prop) (c : Nat) : Nat → Array Bool → Act → World → Prop
  | 0, L, a, w => Region.ready md ops L = [] ∧ Q .normal a w
  | n + 1, L, a, w => (Region.ready md ops L = [] → Q .normal a w) ∧
    ∀ i ∈ Region.ready md ops L, wpOp P ops Q i (fun a' w' => (i = c → wpAny P md ops Q n (L.setIfInBounds i true) a' w') ∧ (i ≠ c → S w' ∧ anyC P md ops Q S c n (L.setIfInBounds i true) a' w')) a w
theorem any_of_C : ∀ (n : Nat) (L : Array Bool) (a : Act) (w : World), anyC P md ops Q S c n L a w → wpAny P md ops Q n L a w
  | 0, _, _, _, h => h
  | n + 1, L, a, w, h => ⟨h.1, fun i hi => wpOp_mono (fun a' w' h' => by
      by_cases e : i = c
      · exact h'.1 e
      · exact any_of_C n _ a' w' (h'.2 e).2) (h.2 i hi)⟩
/-- a set of operations that may come up without number i, and does not hold c -/
structure Shut (md : Region.Mode) (ops : Array Oper) (i c : Nat) (R : Array Bool) : Prop where
  noC : R.getD c false = false
  noI : R.getD i false = false
  closed : ∀ j o, j ≠ i → ops[j]? = some o → (∀ e ∈ o.after, Region.binds md e = true → R.getD e.on false = true) → R.getD j false = true
theorem shut_first {i : Nat} {oi : Oper} {v : Value} {R : Array Bool} (hi : ops[i]? = some oi) (hsel : ∀ (j : Nat) (o : Oper) cs b, ops[j]? = some o → o.op ≠ .select cs b)
    (hQ : ∀ c a w, Q (.panic c) (a.put oi.dst v) w → Q (.panic c) a w) (hR : Shut md ops i c R) :
    ∀ (n : Nat) (L : Array Bool) (a : Act) (w : World), (∀ j, L.getD j false = true → R.getD j false = true) →
      (∀ j oj, ops[j]? = some oj → j ≠ i → L.getD j true = false → (∀ e ∈ oj.after, Region.binds md e = true → e.on ≠ i) → oi.apart ops oj = true) →
      i ∈ Region.ready md ops L → YieldsIf P ops S oi v a → S w → i ≠ c →
      anyC P md ops Q S c n (L.setIfInBounds i true) (a.put oi.dst v) w → anyC P md ops Q S c (n + 1) L a w := by
  intro n
  induction n with
  | zero =>
    intro L a w _ _ hr hy hS hic H
    refine ⟨fun h => (by rw [h] at hr; cases hr), fun j hj => ?_⟩
    by_cases hji : j = i
    · subst hji
      exact hy.wpOp hi hS ⟨fun e => absurd e hic, fun _ => ⟨hS, H⟩⟩
    · have := ready_mono hj hji
      rw [H.1] at this
      cases this
  | succ n ih =>
    intro L a w hsub hfree hr hy hS hic H
    refine ⟨fun h => (by rw [h] at hr; cases hr), fun j hj => ?_⟩
    by_cases hji : j = i
    · subst hji
      exact hy.wpOp hi hS ⟨fun e => absurd e hic, fun _ => ⟨hS, H⟩⟩
    · have hK := H.2 j (ready_mono hj hji)
      obtain ⟨hjun, oj, hoj, hall⟩ := mem_ready.1 hj
      have hRj : R.getD j false = true := hR.closed j oj hji hoj fun e he hb => hsub _ (hall e he hb)
      have hjc : j ≠ c := fun e => by rw [e, hR.noC] at hRj; cases hRj
      have hnot : ∀ e ∈ oj.after, Region.binds md e = true → e.on ≠ i := fun e he hb heq => by
        have := hsub _ (hall e he hb)
        rw [heq, hR.noI] at this
        cases this
      refine wpOp_mono (fun a' w' h3 => ⟨fun e => absurd e hjc, fun _ => ?_⟩) (wpOp_putIf hoj (hfree j oj hoj hji hjun hnot) (fun cs b => hsel i oi cs b hi) (fun cs b => hsel j oj cs b hoj) hQ hy hK)
      obtain ⟨hy', -, h4⟩ := h3
      obtain ⟨hS', h5⟩ := h4 hjc
      refine ⟨hS', ih (L.setIfInBounds j true) a' w' (fun k hk => ?_) (fun k ok hk hki hun hno => ?_) (ready_mono hr (Ne.symm hji)) hy' hS' hic ?_⟩
      · by_cases hkj : j = k
        · subst hkj; exact hRj
        · rw [getD_set_ne false hkj] at hk; exact hsub k hk
      · refine hfree k ok hk hki ?_ hno
        by_cases hjk : j = k
        · subst hjk; exact hjun
        · rw [getD_set_ne true hjk] at hun; exact hun
      · rw [Array.setIfInBounds_comm _ _ hji]
        exact h5
/-- all that may come up without number i, step by step -/
def reachB (md : Region.Mode) (ops : Array Oper) (i : Nat) : Nat → Array Bool → Array Bool
  | 0, R => R
  | n + 1, R => reachB md ops i n ((List.range ops.size).map fun j => R.getD j false || (j != i && match ops[j]? with | some o => o.after.all (fun e => !(Region.binds md e) || R.getD e.on false) | none => false)).toArray
def shutB (md : Region.Mode) (ops : Array Oper) (L : Array Bool) (i c : Nat) (R : Array Bool) : Bool :=
  !(R.getD c false) && !(R.getD i false) && (L.size == ops.size) && (List.range ops.size).all fun j => (!(L.getD j false) || R.getD j false) && (j == i || R.getD j false || match ops[j]? with | some o => o.after.any (fun e => Region.binds md e && !(R.getD e.on false)) | none => true)
theorem shutB_spec {L : Array Bool} {i : Nat} {R : Array Bool} (h : shutB md ops L i c R = true) : Shut md ops i c R ∧ ∀ j, L.getD j false = true → R.getD j false = true := by
  simp only [shutB, Bool.and_eq_true, Bool.not_eq_true', beq_iff_eq, List.all_eq_true, List.mem_range] at h
  obtain ⟨⟨⟨h1, h2⟩, h3⟩, h4⟩ := h
  refine ⟨⟨h1, h2, fun j o hj ho hall => ?_⟩, fun j hj => ?_⟩
  · have hlt : j < ops.size := (Array.getElem?_eq_some_iff.1 ho).1
    have := (h4 j hlt).2
    rw [ho] at this
    simp only [Bool.or_eq_true, beq_iff_eq, Array.any_eq_true', Bool.and_eq_true, Bool.not_eq_true'] at this
    rcases this with (h | h) | ⟨e, he, hb, hn⟩
    · exact absurd h hj
    · exact h
    · have := hall e he hb
      rw [hn] at this
      cases this
  · by_cases hlt : j < ops.size
    · have := (h4 j hlt).1
      simp only [Bool.or_eq_true, Bool.not_eq_true'] at this
      rcases this with h | h
      · rw [hj] at h; cases h
      · exact h
    · have : L.getD j false = false := by
        simp [Array.getD_eq_getD_getElem?, Array.getElem?_eq_none (show L.size ≤ j by omega)]
      rw [this] at hj
      cases hj
/-- number i is taken first -/
theorem anyC_take {i : Nat} {oi : Oper} {v : Value} {n : Nat} {L : Array Bool} {a : Act} {w : World} (hi : ops[i]? = some oi)
    (hs : Region.noSelect ops = true) (hf : Region.free md ops L i = true) (hr : (Region.ready md ops L).contains i = true) (hR : shutB md ops L i c (reachB md ops i ops.size L) = true) (hic : i ≠ c)
    (hQ : ∀ c a w, Q (.panic c) (a.put oi.dst v) w → Q (.panic c) a w) (hy : YieldsIf P ops S oi v a) (hS : S w)
    (h : anyC P md ops Q S c n (L.setIfInBounds i true) (a.put oi.dst v) w) : anyC P md ops Q S c (n + 1) L a w :=
  shut_first hi (Region.noSelect_spec hs) hQ (shutB_spec hR).1 n L a w (shutB_spec hR).2 (Region.free_spec hi hf) (by simpa using hr) hy hS hic h
/-- one alone may come up -/
theorem anyC_one {i : Nat} {o : Oper} {n : Nat} {L : Array Bool} {a : Act} {w : World} (hr : Region.ready md ops L = [i]) (ho : ops[i]? = some o) (hic : i ≠ c)
    (h : ∀ K' : Act → World → Prop, (∀ a w, S w → anyC P md ops Q S c n (L.setIfInBounds i true) a w → K' a w) → if Region.wanted o (yielded ops a.tmps) = true then Oper.wp P o a w K' Q else K' (a.put o.dst undef) w) : anyC P md ops Q S c (n + 1) L a w := by
  refine ⟨fun h0 => (by rw [hr] at h0; cases h0), fun j hj => ?_⟩
  rw [hr, List.mem_singleton] at hj
  subst hj
  exact wpOp_step ho fun K' hK => h K' fun a w hS hA => hK a w ⟨fun e => absurd e hic, fun _ => ⟨hS, hA⟩⟩
/-- the last call alone may come up -/
theorem anyC_last {o : Oper} {n : Nat} {L : Array Bool} {a : Act} {w : World} (hr : Region.ready md ops L = [c]) (ho : ops[c]? = some o)
    (h : ∀ K' : Act → World → Prop, (∀ a w, wpAny P md ops Q n (L.setIfInBounds c true) a w → K' a w) → if Region.wanted o (yielded ops a.tmps) = true then Oper.wp P o a w K' Q else K' (a.put o.dst undef) w) : anyC P md ops Q S c (n + 1) L a w := by
  refine ⟨fun h0 => (by rw [hr] at h0; cases h0), fun j hj => ?_⟩
  rw [hr, List.mem_singleton] at hj
  subst hj
  exact wpOp_step ho fun K' hK => h K' fun a w hA => hK a w ⟨fun _ => hA, fun e => absurd rfl e⟩
/-- behind the last call: one alone may come up -/
theorem any_one {i : Nat} {o : Oper} {n : Nat} {L : Array Bool} {a : Act} {w : World} (hr : Region.ready md ops L = [i]) (ho : ops[i]? = some o)
    (h : ∀ K' : Act → World → Prop, (∀ a w, wpAny P md ops Q n (L.setIfInBounds i true) a w → K' a w) → if Region.wanted o (yielded ops a.tmps) = true then Oper.wp P o a w K' Q else K' (a.put o.dst undef) w) : wpAny P md ops Q (n + 1) L a w := by
  refine ⟨fun h0 => (by rw [hr] at h0; cases h0), fun j hj => ?_⟩
  rw [hr, List.mem_singleton] at hj
  subst hj
  exact wpOp_step ho fun K' hK => h K' fun a w hA => hK a w hA
theorem anyC_at {i : Nat} {oi : Oper} {v : Value} {n : Nat} {L : Array Bool} {a : Act} {w : World} (dd : Option Tmp) (hi : ops[i]? = some oi) (hd : oi.dst = dd)
    (hs : Region.noSelect ops = true) (hf : Region.free md ops L i = true) (hr : (Region.ready md ops L).contains i = true) (hR : shutB md ops L i c (reachB md ops i ops.size L) = true) (hic : i ≠ c)
    (hQ : ∀ c a w, Q (.panic c) (a.put dd v) w → Q (.panic c) a w) (hy : YieldsIf P ops S oi v a) (hS : S w)
    (h : anyC P md ops Q S c n (L.setIfInBounds i true) (a.put dd v) w) : anyC P md ops Q S c (n + 1) L a w := by
  subst hd
  exact anyC_take hi hs hf hr hR hic hQ hy hS h
theorem any_at {i : Nat} {oi : Oper} {v : Value} {n : Nat} {L : Array Bool} {a : Act} {w : World} (dd : Option Tmp) (hi : ops[i]? = some oi) (hd : oi.dst = dd)
    (hs : Region.noSelect ops = true) (hf : Region.free md ops L i = true) (hr : (Region.ready md ops L).contains i = true)
    (hQ : ∀ c a w, Q (.panic c) (a.put dd v) w → Q (.panic c) a w) (hy : Yields P ops oi v a)
    (h : wpAny P md ops Q n (L.setIfInBounds i true) (a.put dd v) w) : wpAny P md ops Q (n + 1) L a w := by
  subst hd
  exact wpAny_take hi hs hf hr hQ hy h
/-- behind the last call: one alone may come up, and nothing guards it -/
theorem any_go {i : Nat} {o : Oper} {n : Nat} {L : Array Bool} {a : Act} {w : World} (hr : Region.ready md ops L = [i]) (ho : ops[i]? = some o) (hg : o.guard = none)
    (h : ∀ K' : Act → World → Prop, (∀ a w, wpAny P md ops Q n (L.setIfInBounds i true) a w → K' a w) → Oper.wp P o a w K' Q) : wpAny P md ops Q (n + 1) L a w :=
  any_one hr ho fun K' hK => by
    have hw : Region.wanted o (yielded ops a.tmps) = true := by simp [Region.wanted, hg]
    rw [if_pos hw]
    exact h K' hK
theorem wp_region_C {id : Nat} {a : Act} {w : World} (hm : P.follows .mixedOrders = true) (h : anyC P .any ops Q S c ops.size (Array.replicate ops.size false) a w.drew) : (Code.region id ops true).wp P Q a w :=
  wp_region_any hm (any_of_C _ _ _ _ h)
end
end Go.Proofs.YtkhlihpghbhppaaGreat.Od

set_option maxRecDepth 100000
namespace Go.Proofs.YtkhlihpghbhppaaGreat
open Go.RowKit
/-- a bank's numbers lie in a block -/
def BAt (w : World) (b : Nat) (f0 f1 f2 f3 bo wa bu : Int) : Prop := w.heap[b]? = some (.cells #[.int .i64 f0, .int .i64 f1, .int .i64 f2, .int .i64 f3, .int .i64 bo, .int .i64 wa, .int .i64 bu] 24)
section
variable {w w' : World} {b B : Nat} {f0 f1 f2 f3 bo wa bu : Int}
theorem BAt.later (h : BAt w b f0 f1 f2 f3 bo wa bu) (hb : Below B w w') (hB : b < B) : BAt w' b f0 f1 f2 f3 bo wa bu := (hb.block b hB).trans h
theorem BAt.new (w : World) (f0 f1 f2 f3 bo wa bu : Int) : BAt (w.alloc (.cells #[.int .i64 f0, .int .i64 f1, .int .i64 f2, .int .i64 f3, .int .i64 bo, .int .i64 wa, .int .i64 bu] 24)) w.heap.size f0 f1 f2 f3 bo wa bu := heap_alloc_new _ _
theorem BAt.other {c o : Nat} (h : BAt w b f0 f1 f2 f3 bo wa bu) (hb : b ≠ c) (v : Value) : BAt (w.setCell ⟨c, o, none⟩ v) b f0 f1 f2 f3 bo wa bu := (Below.heap_setCell _ _ _ _ hb).trans h
theorem BAt.alloc (h : BAt w b f0 f1 f2 f3 bo wa bu) (o : Obj) : BAt (w.alloc o) b f0 f1 f2 f3 bo wa bu := (Below.heap_alloc _ _ _ (Array.getElem?_eq_some_iff.1 h).1).trans h
theorem BAt.lt (h : BAt w b f0 f1 f2 f3 bo wa bu) : b < w.heap.size := (Array.getElem?_eq_some_iff.1 h).1
theorem BAt.cells (h : BAt w b f0 f1 f2 f3 bo wa bu) : w.cell? ⟨b, 0, none⟩ = some (.int .i64 f0) ∧ w.cell? ⟨b, 1, none⟩ = some (.int .i64 f1) ∧ w.cell? ⟨b, 2, none⟩ = some (.int .i64 f2) ∧ w.cell? ⟨b, 3, none⟩ = some (.int .i64 f3) ∧ w.cell? ⟨b, 4, none⟩ = some (.int .i64 bo) ∧ w.cell? ⟨b, 5, none⟩ = some (.int .i64 wa) ∧ w.cell? ⟨b, 6, none⟩ = some (.int .i64 bu) := by
  unfold BAt at h
  simp [World.cell?, h]
theorem BAt.frees (h : BAt w b f0 f1 f2 f3 bo wa bu) : w.frozen? ⟨b, 0, none⟩ = false ∧ w.frozen? ⟨b, 1, none⟩ = false ∧ w.frozen? ⟨b, 2, none⟩ = false ∧ w.frozen? ⟨b, 3, none⟩ = false ∧ w.frozen? ⟨b, 4, none⟩ = false ∧ w.frozen? ⟨b, 5, none⟩ = false ∧ w.frozen? ⟨b, 6, none⟩ = false := by
  unfold BAt at h
  simp [World.frozen?, h]
theorem BAt.set_0 (h : BAt w b f0 f1 f2 f3 bo wa bu) (v : Int) : BAt (w.setCell ⟨b, 0, none⟩ (.int .i64 v)) b v f1 f2 f3 bo wa bu := by
  unfold BAt at *
  simp [World.setCell, Array.getElem?_modify, h]
theorem BAt.set_1 (h : BAt w b f0 f1 f2 f3 bo wa bu) (v : Int) : BAt (w.setCell ⟨b, 1, none⟩ (.int .i64 v)) b f0 v f2 f3 bo wa bu := by
  unfold BAt at *
  simp [World.setCell, Array.getElem?_modify, h]
theorem BAt.set_2 (h : BAt w b f0 f1 f2 f3 bo wa bu) (v : Int) : BAt (w.setCell ⟨b, 2, none⟩ (.int .i64 v)) b f0 f1 v f3 bo wa bu := by
  unfold BAt at *
  simp [World.setCell, Array.getElem?_modify, h]
theorem BAt.set_3 (h : BAt w b f0 f1 f2 f3 bo wa bu) (v : Int) : BAt (w.setCell ⟨b, 3, none⟩ (.int .i64 v)) b f0 f1 f2 v bo wa bu := by
  unfold BAt at *
  simp [World.setCell, Array.getElem?_modify, h]
theorem BAt.set_4 (h : BAt w b f0 f1 f2 f3 bo wa bu) (v : Int) : BAt (w.setCell ⟨b, 4, none⟩ (.int .i64 v)) b f0 f1 f2 f3 v wa bu := by
  unfold BAt at *
  simp [World.setCell, Array.getElem?_modify, h]
theorem BAt.set_5 (h : BAt w b f0 f1 f2 f3 bo wa bu) (v : Int) : BAt (w.setCell ⟨b, 5, none⟩ (.int .i64 v)) b f0 f1 f2 f3 bo v bu := by
  unfold BAt at *
  simp [World.setCell, Array.getElem?_modify, h]
theorem BAt.set_6 (h : BAt w b f0 f1 f2 f3 bo wa bu) (v : Int) : BAt (w.setCell ⟨b, 6, none⟩ (.int .i64 v)) b f0 f1 f2 f3 bo wa v := by
  unfold BAt at *
  simp [World.setCell, Array.getElem?_modify, h]
/-- the seven numbers are written -/
def set7 (w : World) (b : Nat) (v0 v1 v2 v3 v4 v5 v6 : Int) : World := ((((((w.setCell ⟨b, 0, none⟩ (.int .i64 v0)).setCell ⟨b, 1, none⟩ (.int .i64 v1)).setCell ⟨b, 2, none⟩ (.int .i64 v2)).setCell ⟨b, 3, none⟩ (.int .i64 v3)).setCell ⟨b, 4, none⟩ (.int .i64 v4)).setCell ⟨b, 5, none⟩ (.int .i64 v5)).setCell ⟨b, 6, none⟩ (.int .i64 v6)
theorem BAt.set7 (h : BAt w b f0 f1 f2 f3 bo wa bu) (v0 v1 v2 v3 v4 v5 v6 : Int) : BAt (set7 w b v0 v1 v2 v3 v4 v5 v6) b v0 v1 v2 v3 v4 v5 v6 :=
  ((((((h.set_0 v0).set_1 v1).set_2 v2).set_3 v3).set_4 v4).set_5 v5).set_6 v6
theorem set7_below (h : Below B w w') (hB : B ≤ b) (v0 v1 v2 v3 v4 v5 v6 : Int) : Below B w (Go.Proofs.YtkhlihpghbhppaaGreat.set7 w' b v0 v1 v2 v3 v4 v5 v6) :=
  ((((((h.setCell hB _).setCell hB _).setCell hB _).setCell hB _).setCell hB _).setCell hB _).setCell hB _
theorem BAt.other7 {c : Nat} (h : BAt w b f0 f1 f2 f3 bo wa bu) (hb : b ≠ c) (v0 v1 v2 v3 v4 v5 v6 : Int) : BAt (Go.Proofs.YtkhlihpghbhppaaGreat.set7 w c v0 v1 v2 v3 v4 v5 v6) b f0 f1 f2 f3 bo wa bu :=
  ((((((h.other hb _).other hb _).other hb _).other hb _).other hb _).other hb _).other hb _
end
end Go.Proofs.YtkhlihpghbhppaaGreat

set_option maxRecDepth 100000
namespace Go.Proofs.YtkhlihpghbhppaaGreat
open Go.RowKit
theorem eqA (w : World) (a0 a1 a2 a3 b0 b1 b2 b3 : Int) : (Op.equalIn 9999 22 (.agg #[.int .i64 a0, .int .i64 a1, .int .i64 a2, .int .i64 a3]) (.agg #[.int .i64 b0, .int .i64 b1, .int .i64 b2, .int .i64 b3])).run Tryz.prog w = .ok (decide (a0 = b0 ∧ a1 = b1 ∧ a2 = b2 ∧ a3 = b3)) w := by
  have hi : (Tryz.prog.info? 3).isSome = true := by kernel_rfl
  obtain ⟨i, hi⟩ := Option.isSome_iff_exists.1 hi
  have hc : Tryz.prog.cellsOf 3 = 1 := by kernel_rfl
  rw [run_equalIn_array w 9998 _ _ Tryz.underlying22 hi, hc, show List.range 4 = [0, 1, 2, 3] from rfl]
  simp only [Op.eqItems]
  go_simp
  by_cases h0 : a0 = b0 <;> by_cases h1 : a1 = b1 <;> by_cases h2 : a2 = b2 <;> by_cases h3 : a3 = b3 <;> simp [h0, h1, h2, h3]
theorem eqB (w : World) (a0 a1 a2 a3 a4 a5 a6 b0 b1 b2 b3 b4 b5 b6 : Int) : (binOp .eql 24 (.agg #[.int .i64 a0, .int .i64 a1, .int .i64 a2, .int .i64 a3, .int .i64 a4, .int .i64 a5, .int .i64 a6]) (.agg #[.int .i64 b0, .int .i64 b1, .int .i64 b2, .int .i64 b3, .int .i64 b4, .int .i64 b5, .int .i64 b6])).run Tryz.prog w = .ok (.bool (decide (a0 = b0 ∧ a1 = b1 ∧ a2 = b2 ∧ a3 = b3 ∧ a4 = b4 ∧ a5 = b5 ∧ a6 = b6))) w := by
  have h := fun w => eqA w a0 a1 a2 a3 b0 b1 b2 b3
  rw [run_eql_struct]
  by_cases hh : a0 = b0 ∧ a1 = b1 ∧ a2 = b2 ∧ a3 = b3
  · rw [decide_eq_true hh] at h
    obtain ⟨h0, h1, h2, h3⟩ := hh
    go_simp
    subst h0 h1 h2 h3
    by_cases h4 : a4 = b4 <;> by_cases h5 : a5 = b5 <;> by_cases h6 : a6 = b6 <;> simp [h4, h5, h6, h]
  · rw [decide_eq_false hh] at h
    have e : decide (a0 = b0 ∧ a1 = b1 ∧ a2 = b2 ∧ a3 = b3 ∧ a4 = b4 ∧ a5 = b5 ∧ a6 = b6) = false := decide_eq_false (fun g => hh ⟨g.1, g.2.1, g.2.2.1, g.2.2.2.1⟩)
    rw [e]
    go_simp
theorem neB (w : World) (a0 a1 a2 a3 a4 a5 a6 b0 b1 b2 b3 b4 b5 b6 : Int) : (binOp .neq 24 (.agg #[.int .i64 a0, .int .i64 a1, .int .i64 a2, .int .i64 a3, .int .i64 a4, .int .i64 a5, .int .i64 a6]) (.agg #[.int .i64 b0, .int .i64 b1, .int .i64 b2, .int .i64 b3, .int .i64 b4, .int .i64 b5, .int .i64 b6])).run Tryz.prog w = .ok (.bool (!decide (a0 = b0 ∧ a1 = b1 ∧ a2 = b2 ∧ a3 = b3 ∧ a4 = b4 ∧ a5 = b5 ∧ a6 = b6))) w := by
  have h := eqB w a0 a1 a2 a3 a4 a5 a6 b0 b1 b2 b3 b4 b5 b6
  rw [run_eql_struct] at h
  rw [run_neq_struct]
  revert h
  generalize (Op.equalIn 10000 24 _ _).run Tryz.prog w = r
  intro h
  cases r with
  | ok a w1 => 
    simp only [Result.andThen_ok] at h ⊢
    cases h
    rfl
  | _ => cases h
end Go.Proofs.YtkhlihpghbhppaaGreat

