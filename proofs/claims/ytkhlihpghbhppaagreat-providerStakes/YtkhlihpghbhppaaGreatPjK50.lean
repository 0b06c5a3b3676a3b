/- Parts of the proof: PV13 PV1. -/
import Derived.Test.YtkhlihpghbhppaaGreatRows
import Derived.Test.YtkhlihpghbhppaaGreatPjK1
import Derived.Deep.AppendLies
import Derived.Deep.RegionLaw
import Derived.Deep.DeepCutAuto
import Derived.Deep.MidRow
set_option maxRecDepth 100000
namespace Go.Proofs.YtkhlihpghbhppaaGreat.Pv
open Go.RowKit
theorem quL_length : ∀ (q : List (Int × Pkt)) (z : List (Value × Value)), z.length = q.length → (quL q z).length = q.length * 7
  | [], [], _ => rfl
  | x :: q, y :: z, h => by
    have := quL_length q z (by simpa using h)
    show (akL x y ++ quL q z).length = _
    rw [List.length_append, this, List.length_cons]
    show 7 + _ = _
    omega
  | [], _ :: _, h => by simp at h
  | _ :: _, [], h => by simp at h
theorem quL_app : ∀ (q : List (Int × Pkt)) (z : List (Value × Value)) (x : Int × Pkt) (y : Value × Value), z.length = q.length → quL (q ++ [x]) (z ++ [y]) = quL q z ++ akL x y
  | [], [], x, y, _ => by simp [quL]
  | a :: q, b :: z, x, y, h => by
    show akL a b ++ quL (q ++ [x]) (z ++ [y]) = (akL a b ++ quL q z) ++ _
    rw [quL_app q z x y (by simpa using h), List.append_assoc]
  | [], _ :: _, _, _, h => by simp at h
  | _ :: _, [], _, _, h => by simp at h
theorem quL_get : ∀ (q : List (Int × Pkt)) (z : List (Value × Value)) (i : Nat) (x : Int × Pkt) (y : Value × Value) (j : Nat), q[i]? = some x → z[i]? = some y → j < 7 → (quL q z)[i * 7 + j]? = (akL x y)[j]?
  | a :: q, b :: z, 0, x, y, j, h1, h2, hj => by
    simp at h1 h2
    subst h1 h2
    show (akL a b ++ quL q z)[0 * 7 + j]? = _
    rw [Nat.zero_mul, Nat.zero_add, List.getElem?_append_left (by exact hj)]
  | a :: q, b :: z, i + 1, x, y, j, h1, h2, hj => by
    show (akL a b ++ quL q z)[(i + 1) * 7 + j]? = _
    rw [List.getElem?_append_right (by show 7 ≤ _; omega)]
    rw [show (i + 1) * 7 + j - (akL a b).length = i * 7 + j by show (i + 1) * 7 + j - 7 = _; omega]
    exact quL_get q z i x y j (by simpa using h1) (by simpa using h2) hj
  | [], _, i, _, _, _, h1, _, _ => by simp at h1
  | _ :: _, [], i, _, _, _, _, h2, _ => by simp at h2
/-- a queue in a row of the call's own, its packets' lists elsewhere -/
structure QOwn (B : Nat) (w : World) (v : Value) (q : List (Int × Pkt)) (z : List (Value × Value)) : Prop where
  len : z.length = q.length
  own : w.ownsRow B 82 7 v q.length (quL q z)
  ins : ∀ (i : Nat) (x : Int × Pkt) (y : Value × Value), q[i]? = some x → z[i]? = some y → Rep (fun b => B ≤ b ∧ some b ≠ v.ownBlock) w y.1 2 16 (pwC x.2.S) ∧ Rep (fun b => B ≤ b ∧ some b ≠ v.ownBlock) w y.2 1 8 (inC x.2.D)
theorem QOwn.nil (B : Nat) (w : World) : QOwn B w (.slice none 0 0) [] [] := ⟨rfl, World.ownsRow_nil _ _ _ _, fun i x y h => by simp at h⟩
theorem QOwn.over {B : Nat} {w w' : World} {v : Value} {q : List (Int × Pkt)} {z : List (Value × Value)} (h : QOwn B w v q z) (hb : Below w.heap.size w w') : QOwn B w' v q z :=
  ⟨h.len, Ln.own_over h.own hb, fun i x y hx hy => ⟨(h.ins i x y hx hy).1.over hb, (h.ins i x y hx hy).2.over hb⟩⟩
theorem QOwn.rep {B : Nat} {w : World} {v : Value} {q : List (Int × Pkt)} {z : List (Value × Value)} (h : QOwn B w v q z) (hl : q.length * 88 ≤ 140737488351232) : QRep (fun b => B ≤ b) w v q :=
  ⟨z, h.len, Rep.own h.own (by omega), fun i x y hx hy => ⟨(h.ins i x y hx hy).1.mono fun _ _ hb => hb.1, (h.ins i x y hx hy).2.mono fun _ _ hb => hb.1⟩⟩
/-- one more is put behind -/
theorem QOwn.app {B : Nat} {w w' : World} {v : Value} {q : List (Int × Pkt)} {z : List (Value × Value)} (h : QOwn B w v q z) {x : Int × Pkt} {y : Value × Value} (hy : Rep (fun b => B ≤ b ∧ some b ≠ v.ownBlock) w y.1 2 16 (pwC x.2.S) ∧ Rep (fun b => B ≤ b ∧ some b ≠ v.ownBlock) w y.2 1 8 (inC x.2.D))
    {g cap : Nat} (ho : w'.ownsRow B 82 7 (.slice (some ⟨g, 0, none⟩) (q.length + 1) cap) (q.length + 1) (quL q z ++ akL x y)) (hg : w.grownBy w' v.ownBlock) (hat : v.ownBlock = some g ∨ g = w.heap.size) :
    QOwn B w' (.slice (some ⟨g, 0, none⟩) (q.length + 1) cap) (q ++ [x]) (z ++ [y]) := by
  have key : ∀ {u : Value} {s t : Nat} {cs : List Value}, Rep (fun b => B ≤ b ∧ some b ≠ v.ownBlock) w u s t cs → Rep (fun b => B ≤ b ∧ some b ≠ (Value.slice (some ⟨g, 0, none⟩) (q.length + 1) cap).ownBlock) w' u s t cs := fun hr => by
    have h1 := hr.keep (w' := w') fun b hb hlt => hg.block b hlt hb.2
    have h2 : Rep (fun b => (B ≤ b ∧ some b ≠ v.ownBlock) ∧ b < w.heap.size) w _ _ _ _ := hr.mono fun b hlt hb => ⟨hb, hlt⟩
    have h3 := h2.keep (w' := w') fun b hb hlt => hg.block b hlt hb.1.2
    refine h3.mono fun b _ hb => ⟨hb.1.1, fun e => ?_⟩
    have e' : b = g := by simpa [Value.ownBlock] using e
    subst e'
    rcases hat with hat | hat
    · exact hb.1.2 hat.symm
    · have := hb.2; omega
  refine ⟨by simp [h.len], by rw [quL_app q z x y h.len, List.length_append]; exact ho, fun i a b ha hb => ?_⟩
  by_cases hi : i < q.length
  · rw [List.getElem?_append_left hi] at ha
    rw [List.getElem?_append_left (by rw [h.len]; exact hi)] at hb
    exact ⟨key (h.ins i a b ha hb).1, key (h.ins i a b ha hb).2⟩
  · rw [List.getElem?_append_right (by omega)] at ha
    rw [List.getElem?_append_right (by rw [h.len]; omega), h.len] at hb
    rcases Nat.eq_zero_or_pos (i - q.length) with h0 | h0
    · rw [h0] at ha hb
      simp at ha hb
      subst ha hb
      exact ⟨key hy.1, key hy.2⟩
    · rw [List.getElem?_eq_none (by simp; omega)] at ha
      cases ha
noncomputable def cp13C : Code := subC [1, 1, 1, 1, 1, 0, 1, 9, 9, 1, 1, 0, 9, 1] (Tryz.f10.body.getD .skip)
theorem infoAs : (Tryz.prog.info? 82).map (fun i => (i.zero, i.size, i.bytes)) = some (some (.agg #[.int .i64 0, .int .i64 0, .int .i64 0, .int .i64 0, .int .i64 0, .slice none 0 0, .slice none 0 0]), 7, 88) := by kernel_rfl
set_option maxHeartbeats 8000000 in
set_option maxRecDepth 1000000 in
theorem cp13_wp (B a7 : Nat) (lv : Value) (q : List (Int × Pkt)) (z : List (Value × Value)) (x : Int × Pkt) (y : Value × Value) (P : Nat → Prop) (wl : World) (hq : QOwn B wl lv q z) (hB : B ≤ wl.heap.size) (hl : (q.length + 1) * 88 ≤ 140737488351232)
    (hy : Rep P wl y.1 2 16 (pwC x.2.S) ∧ Rep P wl y.2 1 8 (inC x.2.D)) (h7 : CAt 82 wl a7 #[.int .i64 x.1, .int .i64 x.2.k, .int .i64 x.2.i, .int .i64 x.2.v, .int .i64 x.2.n, y.1, y.2]) (v0 v1 v2 v3 v4 v6 v8 v9 v10 v11 v12 v13 v14 v15 v16 v17 v18 v19 v20 v21 v22 v23 v24 v25 v26 v27 v28 v29 v30 v31 v32 v33 v34 v35 v36 v37 v38 v39 v40 v41 v42 v43 v44 v45 v46 v47 v48 v49 v50 v51 v52 v53 v54 v55 v56 v57 v58 v59 v60 v61 v62 v63 v64 v65 v66 : Value) (Q : Exit → Act → World → Prop)
    (hQ : ∀ (lv' : Value) (z' : List (Value × Value)) (t54 t55 t56 t57 t58 t59 t60 t61 t62 : Value) (w5 : World), Below B wl w5 → QOwn B w5 lv' (q ++ [x]) z' → Q .normal ⟨List.toArray (v0 :: v1 :: v2 :: v3 :: v4 :: (lv') :: v6 :: (.pointer (some ⟨a7, 0, none⟩)) :: v8 :: v9 :: v10 :: v11 :: v12 :: v13 :: v14 :: v15 :: v16 :: v17 :: v18 :: v19 :: v20 :: v21 :: v22 :: v23 :: v24 :: v25 :: v26 :: v27 :: v28 :: v29 :: v30 :: v31 :: v32 :: v33 :: v34 :: v35 :: v36 :: v37 :: v38 :: v39 :: v40 :: v41 :: v42 :: v43 :: v44 :: v45 :: v46 :: v47 :: v48 :: v49 :: v50 :: v51 :: v52 :: v53 :: (t54) :: (t55) :: (t56) :: (t57) :: (t58) :: (t59) :: (t60) :: (t61) :: (t62) :: v63 :: v64 :: v65 :: v66 :: []), []⟩ w5) :
    Code.wp Tryz.prog cp13C Q ⟨List.toArray (v0 :: v1 :: v2 :: v3 :: v4 :: (lv) :: v6 :: (.pointer (some ⟨a7, 0, none⟩)) :: v8 :: v9 :: v10 :: v11 :: v12 :: v13 :: v14 :: v15 :: v16 :: v17 :: v18 :: v19 :: v20 :: v21 :: v22 :: v23 :: v24 :: v25 :: v26 :: v27 :: v28 :: v29 :: v30 :: v31 :: v32 :: v33 :: v34 :: v35 :: v36 :: v37 :: v38 :: v39 :: v40 :: v41 :: v42 :: v43 :: v44 :: v45 :: v46 :: v47 :: v48 :: v49 :: v50 :: v51 :: v52 :: v53 :: v54 :: v55 :: v56 :: v57 :: v58 :: v59 :: v60 :: v61 :: v62 :: v63 :: v64 :: v65 :: v66 :: []), []⟩ wl := by
  obtain ⟨i0, hi, hz0, hz1, hz2⟩ := info_parts infoAs
  have HK := hide hQ
  have HQ := hide hq
  have HY := hide hy
  have hF : ∀ wx, Below wl.heap.size wl wx → wx.cell? ⟨a7, 0, none⟩ = some (.int .i64 x.1) ∧ wx.cell? ⟨a7, 1, none⟩ = some (.int .i64 x.2.k) ∧ wx.cell? ⟨a7, 2, none⟩ = some (.int .i64 x.2.i) ∧ wx.cell? ⟨a7, 3, none⟩ = some (.int .i64 x.2.v) ∧ wx.cell? ⟨a7, 4, none⟩ = some (.int .i64 x.2.n) ∧ wx.cell? ⟨a7, 5, none⟩ = some y.1 ∧ wx.cell? ⟨a7, 6, none⟩ = some y.2 := fun wx h =>
    ⟨(h7.over h).cell 0, (h7.over h).cell 1, (h7.over h).cell 2, (h7.over h).cell 3, (h7.over h).cell 4, (h7.over h).cell 5, (h7.over h).cell 6⟩
  have hoc : y.1.oneCell' = true ∧ y.2.oneCell' = true := by
    obtain ⟨⟨_, _, _, e1, _⟩, ⟨_, _, _, e2, _⟩⟩ := hy
    rw [e1, e2]
    exact ⟨rfl, rfl⟩
  have bq : q.length + 1 ≤ maxLen := by unfold maxLen; omega
  have hnq := hq.own.1
  clear hQ hq hy h7
  obtain ⟨y1, y2⟩ := y
  dsimp only at hF hoc
  conv => arg 2; whnf
  refine wp_region_noPanic ?_
  have hb : Below wl.heap.size wl wl.drew := (Below.refl _ wl).drew
  refine Od.wp_region_C (c := 8) (S := fun wx => Below wl.heap.size wl wx) (by kernel_rfl) ?_
  refine Od.anyC_free (i := 0) (v := lv) (some 54) rfl rfl (by kernel_rfl) (by kernel_rfl) (by kernel_rfl) (by decide) (fun _ _ _ h => h) (Or.inl ⟨by rfl, ?_⟩) hb ?_
  · intro wx; go_simp
  simp only [Act.put, List.setIfInBounds_toArray, List.set_cons_zero, List.set_cons_succ]
  refine Od.anyC_free (i := 1) (v := .pointer (some ⟨a7, 0, none⟩)) (some 55) rfl rfl (by kernel_rfl) (by kernel_rfl) (by kernel_rfl) (by decide) (fun _ _ _ h => h) (Or.inl ⟨by rfl, ?_⟩) hb ?_
  · intro wx; go_simp
  simp only [Act.put, List.setIfInBounds_toArray, List.set_cons_zero, List.set_cons_succ]
  refine Od.anyC_free (i := 3) (v := .pointer (some ⟨a7, 1, none⟩)) (some 57) rfl rfl (by kernel_rfl) (by kernel_rfl) (by kernel_rfl) (by decide) (fun _ _ _ h => h) (Or.inl ⟨by rfl, ?_⟩) hb ?_
  · intro wx; go_simp
  simp only [Act.put, List.setIfInBounds_toArray, List.set_cons_zero, List.set_cons_succ]
  refine Od.anyC_at (i := 2) (v := .int .i64 x.1) (some 56) rfl rfl (by kernel_rfl) (by kernel_rfl) (by kernel_rfl) (by kernel_rfl) (by decide) (fun _ _ _ h => h) (Or.inl ⟨by rfl, ?_⟩) hb ?_
  · intro wx hwx; obtain ⟨l0, l1, l2, l3, l4, l5, l6⟩ := hF wx hwx; go_simp
  simp only [Act.put, List.setIfInBounds_toArray, List.set_cons_zero, List.set_cons_succ]
  refine Od.anyC_at (i := 4) (v := .agg #[.int .i64 x.2.k, .int .i64 x.2.i, .int .i64 x.2.v, .int .i64 x.2.n, y1, y2]) (some 58) rfl rfl (by kernel_rfl) (by kernel_rfl) (by kernel_rfl) (by kernel_rfl) (by decide) (fun _ _ _ h => h) (Or.inl ⟨by rfl, ?_⟩) hb ?_
  · intro wx hwx; obtain ⟨l0, l1, l2, l3, l4, l5, l6⟩ := hF wx hwx; go_simp
  simp only [Act.put, List.setIfInBounds_toArray, List.set_cons_zero, List.set_cons_succ]
  refine Od.anyC_one (i := 5) (by kernel_rfl) rfl (by decide) (fun K hK => ?_)
  rw [if_pos (by rfl)]
  go_simp
  refine (copyk_rep x.2.k x.2.i x.2.v x.2.n x.2.S x.2.D y1 y2 P wl.drew (HY.out.1.over hb) (HY.out.2.over hb)).mono ?_
  rintro e w5 ⟨z1, z2, rfl, r1, r2, hb5⟩
  have b5 : Below wl.heap.size wl w5 := hb.trans hb5
  refine hK _ _ b5 ?_
  clear hK K hb
  have hb := b5
  refine Od.anyC_free (i := 6) (v := .agg #[.int .i64 x.1, .int .i64 x.2.k, .int .i64 x.2.i, .int .i64 x.2.v, .int .i64 x.2.n, z1, z2]) (some 60) rfl rfl (by kernel_rfl) (by kernel_rfl) (by kernel_rfl) (by decide) (fun _ _ _ h => h) (Or.inl ⟨by rfl, ?_⟩) hb ?_
  · intro wx; go_simp
  simp only [Act.put, List.setIfInBounds_toArray, List.set_cons_zero, List.set_cons_succ]
  refine Od.anyC_one (i := 7) (by kernel_rfl) rfl (by decide) (fun K hK => ?_)
  rw [if_pos (by rfl)]
  go_simp
  have b6 : Below wl.heap.size wl (w5.alloc (.cells #[.int .i64 x.1, .int .i64 x.2.k, .int .i64 x.2.i, .int .i64 x.2.v, .int .i64 x.2.n, z1, z2] 82)) := b5.alloc b5.size _
  refine hK _ _ b6 ?_
  clear hK K hb
  have c6 : Below w5.heap.size w5 (w5.alloc (.cells #[.int .i64 x.1, .int .i64 x.2.k, .int .i64 x.2.i, .int .i64 x.2.v, .int .i64 x.2.n, z1, z2] 82)) := (Below.refl _ w5).alloc (Nat.le_refl _) _
  have D6 := CAt.new 82 w5 #[.int .i64 x.1, .int .i64 x.2.k, .int .i64 x.2.i, .int .i64 x.2.v, .int .i64 x.2.n, z1, z2]
  have q6 := HQ.out.over b6
  have key : ∀ {u : Value} {s t : Nat} {cs : List Value}, Rep (fun b => wl.drew.heap.size ≤ b) w5 u s t cs → Rep (fun b => B ≤ b ∧ some b ≠ lv.ownBlock) (w5.alloc (.cells #[.int .i64 x.1, .int .i64 x.2.k, .int .i64 x.2.i, .int .i64 x.2.v, .int .i64 x.2.n, z1, z2] 82)) u s t cs := fun hr => (hr.over c6).mono fun b _ hb => by
    have hb' : wl.heap.size ≤ b := hb
    exact ⟨by omega, fun e => by have := (World.ownsRow.lt HQ.out.own b e.symm).2; omega⟩
  have HR := hide (show _ ∧ _ from ⟨key r1, key r2⟩)
  have oc : z1.oneCell' = true ∧ z2.oneCell' = true := by
    obtain ⟨_, _, _, e1, _⟩ := r1
    obtain ⟨_, _, _, e2, _⟩ := r2
    rw [e1, e2]
    exact ⟨rfl, rfl⟩
  clear key r1 r2 hb5 b5 c6 hF HY
  generalize w5.heap.size = a8 at *
  generalize w5.alloc (.cells #[.int .i64 x.1, .int .i64 x.2.k, .int .i64 x.2.i, .int .i64 x.2.v, .int .i64 x.2.n, z1, z2] 82) = w6 at *
  refine Od.anyC_last (by kernel_rfl) rfl (fun K hK => ?_)
  refine step_append_lies _ rfl _ _ 45 rfl B 82 i0 _ 7 88 Tryz.underlying45 hi hz0 hz1 hz2 rfl (by decide) lv q.length (quL q z) rfl q6.own ⟨a8, 0, none⟩ 1 1 (akL x (z1, z2)) rfl rfl ?_ ?_ (by decide) bq (by omega) (Nat.le_trans hB b6.size) w6.heap.size rfl ?_
  · intro j u hu
    rw [Addr.add_lit, Nat.zero_add, D6.cell]
    simpa [akL] using hu
  · intro u hu
    simp only [akL, List.mem_cons, List.not_mem_nil, or_false] at hu
    rcases hu with rfl | rfl | rfl | rfl | rfl | rfl | rfl <;> first | rfl | exact oc.1 | exact oc.2
  intro g8 cap w7 ho7 hg7 hat _
  refine hK _ _ ?_
  clear hK K
  have q7 := q6.app (x := x) (y := (z1, z2)) HR.out ho7 hg7 hat
  have b7 : Below B wl w7 := (b6.mono hB).grown hg7 (Nat.le_trans hB b6.size) (fun k hk => (World.ownsRow.lt q6.own k hk).1)
  clear ho7 hg7 hat q6 HR D6
  go_simp
  refine Od.any_at (i := 9) (v := .slice (some ⟨g8, 0, none⟩) (q.length + 1) cap) (some 5) rfl rfl (by kernel_rfl) (by kernel_rfl) (by kernel_rfl) (fun _ _ _ h => h) (Or.inl ⟨by rfl, ?_⟩) ?_
  · intro wx; go_simp
  simp only [Act.put, List.setIfInBounds_toArray, List.set_cons_zero, List.set_cons_succ]
  refine wpAny_done (by kernel_rfl) ?_ _
  exact NoPanic.normal (HK.out _ _ _ _ _ _ _ _ _ _ _ w7 b7 q7)
end Go.Proofs.YtkhlihpghbhppaaGreat.Pv

set_option maxRecDepth 100000
namespace Go.Proofs.YtkhlihpghbhppaaGreat.Pv
open Go.RowKit
theorem infoPv : (Tryz.prog.info? 47).map (·.size) = some 97 := by kernel_rfl
theorem Z97_size : Tryz.zeroCells47.size = 97 := by kernel_rfl
theorem spl_mid (a x c y : List Value) (h : x.length = y.length) : spl (a ++ (x ++ c)).toArray a.length y = (a ++ (y ++ c)).toArray := by
  apply Array.ext_getElem?
  intro i
  rw [spl_get _ _ _ _ (by simp; omega)]
  simp only [List.getElem?_toArray]
  by_cases h1 : i < a.length
  · rw [if_neg (by omega), List.getElem?_append_left h1, List.getElem?_append_left h1]
  · obtain ⟨j, rfl⟩ : ∃ j, i = a.length + j := ⟨i - a.length, by omega⟩
    have e : ∀ z : List Value, (a ++ z)[a.length + j]? = z[j]? := fun z => by rw [List.getElem?_append_right (by omega), Nat.add_sub_cancel_left]
    rw [e, e, Nat.add_sub_cancel_left]
    by_cases h2 : j < y.length
    · rw [if_pos ⟨by omega, by omega⟩, List.getElem?_append_left h2]
    · rw [if_neg (by omega), List.getElem?_append_right (by omega), List.getElem?_append_right (by omega), h]
/-- a stake's part of a provider's cells -/
theorem pr_stake {w : World} {b : Nat} {p : Pr} {v : PrV} (h : CAt 47 w b (prC p v)) : w.rangeAt b 2 (stC p.s v.ws).toList := h.part fun j x hx => by
  have hj : j < 63 := (List.getElem?_eq_some_iff.1 hx).1
  simp only [prC, List.getElem?_toArray]
  rw [show 2 + j = j + 2 by omega]
  show ((stC p.s v.ws).toList ++ _)[j]? = _
  rw [List.getElem?_append_left (by simpa [stC_size] using hj)]
  exact hx
theorem pr_set {p : Pr} {v : PrV} (u : Value) : (prC p v).setIfInBounds 65 u = prC p { v with set := u } := rfl
theorem pr_q {p : Pr} {v : PrV} (u : Value) : (prC p v).setIfInBounds 96 u = prC p { v with q := u } := rfl
theorem pr_ws {p : Pr} {v : PrV} (u : Value) : spl (prC p v) 2 (stC p.s u).toList = prC p { v with ws := u } := spl_mid [.int .i64 p.h, .int .i64 p.t] (stC p.s v.ws).toList _ (stC p.s u).toList rfl
/-- an own row, appended to in a list of operations -/
theorem wpList_app {P : Program} {ops : Array Oper} {rest : List Oper} {o : Oper} {a : Act} {w : World} {Q : Exit → Act → World → Prop}
    (hg : o.guard = none) (s x : Operand) (t : TypeId) (hop : o.op = Op.call { callee := Callee.builtin Builtin.append, args := #[s, x], argTypes := #[t, t] })
    (base : Nat) (e : TypeId) (i : TypeInfo) (z : Value) (size bytes : Nat) (h1 : P.underlying t = some (.slice e)) (h2 : P.info? e = some i) (h3 : i.zero = some z) (h4 : i.size = size) (h5 : i.bytes = bytes) (h6 : z.cells.size = size) (h7 : 0 < size)
    (v : Value) (n : Nat) (xs : List Value) (hs : a.eval s = v) (hown : w.ownsRow base e size v n xs)
    (ao : Option Addr) (m c : Nat) (news : List Value) (hx : a.eval x = .slice ao m c) (hn : news.length = m * size) (hnone : ao = none → m = 0 ∧ c = 0) (hc : ∀ ad, ao = some ad → ∀ j u, news[j]? = some u → w.cell? (ad.add j) = some u) (h1c : ∀ u ∈ news, u.oneCell' = true)
    (b1 : n + m ≤ maxLen) (b2 : (n + m) * bytes ≤ 140737488355328) (b3 : base ≤ w.heap.size)
    (hK : ∀ A C w', w'.ownsRow base e size (.slice A (n + m) C) (n + m) (xs ++ news) → w.grownBy w' v.ownBlock → wpList P ops Q rest (a.put o.dst (.slice A (n + m) C)) w') : wpList P ops Q (o :: rest) a w := by
  refine wpList_plain hg fun K hK' => ?_
  have := Ln.step_app (P := P) (ops := ops) (o := o) (a := a) (w := w) (K := K) (Q := Q) (E := False) hg s x t hop base e i z size bytes h1 h2 h3 h4 h5 h6 h7 v n xs hs hown ao m c news hx hn hnone hc h1c b1 b2 b3 (fun A C w' r1 r2 => hK' _ _ (hK A C w' r1 r2))
  have hw : Region.wanted o (yielded ops a.tmps) = true := by simp [Region.wanted, hg]
  rwa [if_pos hw] at this
def PrV.upd (v : PrV) (k : Nat) (x : LkV) : PrV := { v with l := fun i => if i = k then x else v.l i }
theorem set_mid (a x c : List Value) (n j : Nat) (u : Value) (hn : a.length = n) (hj : j < x.length) : ((a ++ (x ++ c)).toArray).setIfInBounds (n + j) u = (a ++ (x.set j u ++ c)).toArray := by
  subst hn
  rw [List.setIfInBounds_toArray, List.set_append_right _ _ (by omega), Nat.add_sub_cancel_left, List.set_append_left _ _ hj]
/-- a provider's cells, parted around a link -/
theorem pr_split (p : Pr) (v : PrV) (k : Nat) (hk : k < 2) : ∃ a c : List Value, a.length = 66 + k * 14 ∧ prC p v = (a ++ (lkL (p.L k) (v.l k) ++ c)).toArray ∧ ∀ x, prC p (v.upd k x) = (a ++ (lkL (p.L k) x ++ c)).toArray := by
  have h0 : ([.int .i64 p.h, .int .i64 p.t] ++ ((stC p.s v.ws).toList ++ [v.set]) : List Value).length = 66 := by simp [stC_size]
  match k, hk with
  | 0, _ =>
    refine ⟨[.int .i64 p.h, .int .i64 p.t] ++ ((stC p.s v.ws).toList ++ [v.set]), lkL (p.L 1) (v.l 1) ++ [.int .i64 p.ml, .int .i64 p.mn, v.q], h0, ?_, fun x => ?_⟩
    · simp [prC]
    · simp [prC, PrV.upd]
  | 1, _ =>
    refine ⟨[.int .i64 p.h, .int .i64 p.t] ++ ((stC p.s v.ws).toList ++ [v.set]) ++ lkL (p.L 0) (v.l 0), [.int .i64 p.ml, .int .i64 p.mn, v.q], ?_, ?_, fun x => ?_⟩
    · rw [List.length_append, h0]; rfl
    · simp [prC]
    · simp [prC, PrV.upd]
theorem pr_lk {p : Pr} {v : PrV} (k : Nat) (hk : k < 2) (T D S U : Value) : ((((((prC p v).setIfInBounds (66 + k * 14 + 3) T).setIfInBounds (66 + k * 14 + 5) D).setIfInBounds (66 + k * 14 + 6) S).setIfInBounds (66 + k * 14 + 7) U).setIfInBounds (66 + k * 14 + 8) (.int .i64 (p.L k).out.g)).setIfInBounds (66 + k * 14 + 9) (.bool (p.L k).out.cl) = prC p (v.upd k ⟨T, D, S, U⟩) := by
  obtain ⟨a, c, ha, h1, h2⟩ := pr_split p v k hk
  rw [h1, h2, set_mid _ _ _ _ _ _ ha (by show 3 < 14; omega), set_mid _ _ _ _ _ _ ha (by simp [lkL]), set_mid _ _ _ _ _ _ ha (by simp [lkL]), set_mid _ _ _ _ _ _ ha (by simp [lkL]), set_mid _ _ _ _ _ _ ha (by simp [lkL]), set_mid _ _ _ _ _ _ ha (by simp [lkL])]
  rfl
theorem pr_link {p : Pr} {v : PrV} (k : Nat) (hk : k < 2) (j : Nat) (hj : j < 14) : (prC p v)[66 + k * 14 + j]? = (lkL (p.L k) (v.l k))[j]? := by
  obtain ⟨a, c, ha, h1, h2⟩ := pr_split p v k hk
  rw [h1, List.getElem?_toArray, List.getElem?_append_right (by omega), ha, Nat.add_sub_cancel_left, List.getElem?_append_left (by exact hj)]
/-- how far the copying is: the stake, the set and k links are copied -/
structure CpS (w : World) (p : Pr) (v0 : PrV) (k : Nat) (v : PrV) (wl : World) : Prop where
  C : CAt 47 wl w.heap.size (prC p v)
  R : CAt 47 wl (w.heap.size + 1) Tryz.zeroCells47
  B : Below w.heap.size w wl
  ws : wl.ownsRow (w.heap.size + 2) 98 8 v.ws p.s.W.length (wsL p.s.W)
  set : Rep (fun b => w.heap.size + 2 ≤ b) wl v.set 2 16 (pwC p.set)
  lk : ∀ c, c < k → LkIn (fun b => w.heap.size + 2 ≤ b) wl (p.L c) (v.l c)
  hl : ∀ c, k ≤ c → v.l c = v0.l c
  hq : v.q = v0.q
theorem CpS.lt {w : World} {p : Pr} {v0 : PrV} {k : Nat} {v : PrV} {wl : World} (h : CpS w p v0 k v wl) : w.heap.size + 2 ≤ wl.heap.size := by have := h.R.lt; omega
theorem heap6 (w : World) {g b : Nat} (hb : b ≠ g) (o3 o5 o6 o7 o8 o9 : Nat) (T D S U x y : Value) : ((((((w.setCell ⟨g, o3, none⟩ T).setCell ⟨g, o5, none⟩ D).setCell ⟨g, o6, none⟩ S).setCell ⟨g, o7, none⟩ U).setCell ⟨g, o8, none⟩ x).setCell ⟨g, o9, none⟩ y).heap[b]? = w.heap[b]? := by
  rw [Below.heap_setCell _ _ _ _ hb, Below.heap_setCell _ _ _ _ hb, Below.heap_setCell _ _ _ _ hb, Below.heap_setCell _ _ _ _ hb, Below.heap_setCell _ _ _ _ hb, Below.heap_setCell _ _ _ _ hb]
theorem CpS.next {w : World} {p : Pr} {v0 : PrV} {k : Nat} {v : PrV} {wl w5 : World} (h : CpS w p v0 k v wl) (hk : k < 2) (hb : Below wl.heap.size wl w5) {T D S U : Value} (h4 : Lk4 wl.heap.size w5 (p.L k) T D S U) :
    CpS w p v0 (k + 1) (v.upd k ⟨T, D, S, U⟩) ((((((w5.setCell ⟨w.heap.size, 66 + k * 14 + 3, none⟩ T).setCell ⟨w.heap.size, 66 + k * 14 + 5, none⟩ D).setCell ⟨w.heap.size, 66 + k * 14 + 6, none⟩ S).setCell ⟨w.heap.size, 66 + k * 14 + 7, none⟩ U).setCell ⟨w.heap.size, 66 + k * 14 + 8, none⟩ (.int .i64 (p.L k).out.g)).setCell ⟨w.heap.size, 66 + k * 14 + 9, none⟩ (.bool (p.L k).out.cl)) := by
  have hlt := h.lt
  have C5 := ((((((h.C.over hb).set (66 + k * 14 + 3) T).set (66 + k * 14 + 5) D).set (66 + k * 14 + 6) S).set (66 + k * 14 + 7) U).set (66 + k * 14 + 8) (.int .i64 (p.L k).out.g)).set (66 + k * 14 + 9) (.bool (p.L k).out.cl)
  rw [pr_lk k hk] at C5
  have hk6 := fun (b : Nat) (hb : b ≠ w.heap.size) => heap6 w5 hb (66 + k * 14 + 3) (66 + k * 14 + 5) (66 + k * 14 + 6) (66 + k * 14 + 7) (66 + k * 14 + 8) (66 + k * 14 + 9) T D S U (.int .i64 (p.L k).out.g) (.bool (p.L k).out.cl)
  refine ⟨C5, (h.R.over hb).keep (hk6 _ (by omega)), ?_, ?_, ?_, fun c hc => ?_, fun c hc => ?_, h.hq⟩
  · exact ((((((h.B.trans (hb.mono h.B.size)).setCell (p := ⟨w.heap.size, _, none⟩) (Nat.le_refl _) _).setCell (p := ⟨w.heap.size, _, none⟩) (Nat.le_refl _) _).setCell (p := ⟨w.heap.size, _, none⟩) (Nat.le_refl _) _).setCell (p := ⟨w.heap.size, _, none⟩) (Nat.le_refl _) _).setCell (p := ⟨w.heap.size, _, none⟩) (Nat.le_refl _) _).setCell (p := ⟨w.heap.size, _, none⟩) (Nat.le_refl _) _
  · exact Ln.own_of (Ln.own_over h.ws hb) fun b hbv => hk6 b (by have := (World.ownsRow.lt h.ws b hbv).1; omega)
  · exact (h.set.over hb).keep fun b hb' _ => hk6 b (by have : w.heap.size + 2 ≤ b := hb'; omega)
  · by_cases e : c = k
    · subst e
      show LkIn _ _ _ (if c = c then _ else _)
      rw [if_pos rfl]
      have key : ∀ {u : Value} {s t : Nat} {cs : List Value}, Rep (fun b => wl.heap.size ≤ b) w5 u s t cs → Rep (fun b => w.heap.size + 2 ≤ b) _ u s t cs := fun hr => (hr.mono (P' := fun b => w.heap.size + 2 ≤ b) fun b _ hb' => Nat.le_trans hlt hb').keep fun b hb' _ => hk6 b (by have : w.heap.size + 2 ≤ b := hb'; omega)
      exact ⟨key h4.told, key h4.done, key h4.said, key h4.due⟩
    · show LkIn _ _ _ (if c = k then _ else _)
      rw [if_neg e]
      exact ((h.lk c (by omega)).keep fun b _ hlt => hb.block b hlt).keep fun b hb' _ => hk6 b (by have : w.heap.size + 2 ≤ b := hb'; omega)
  · show (if c = k then _ else _) = _
    rw [if_neg (by omega)]
    exact h.hl c (by omega)
theorem Rep.one {P : Nat → Prop} {w : World} {v : Value} {sz bts : Nat} {cs : List Value} (h : Rep P w v sz bts cs) : v.oneCell' = true := by
  obtain ⟨_, _, _, rfl, _⟩ := h
  rfl
theorem lk_one {P : Nat → Prop} {w : World} {x : Lk} {v : LkV} (h : LkIn P w x v) : ∀ u ∈ lkL x v, u.oneCell' = true := fun u hu => by
  simp only [lkL, List.mem_cons, List.not_mem_nil, or_false] at hu
  rcases hu with rfl | rfl | rfl | rfl | rfl | rfl | rfl | rfl | rfl | rfl | rfl | rfl | rfl | rfl <;> first | rfl | exact h.told.one | exact h.done.one | exact h.said.one | exact h.due.one
theorem pr_one {P : Nat → Prop} {w : World} {p : Pr} {v : PrV} (h : PIn P w p v) : (prC p v).all (·.oneCell') = true := by
  obtain ⟨A, n, C, e, _⟩ := h.ws
  have hs : (stC p.s v.ws).all (·.oneCell') = true := by rw [e]; exact stC_one _ _ _ _
  rw [Array.all_eq_true_iff_forall_mem] at *
  obtain ⟨_, _, ⟨Aq, nq, Cq, eq, _⟩, _⟩ := h.q
  intro u hu
  simp only [prC, List.mem_toArray, List.mem_append, List.mem_cons, List.not_mem_nil, or_false] at hu
  rcases hu with (rfl | rfl) | hu | rfl | hu | hu | rfl | rfl | rfl
  · rfl
  · rfl
  · exact hs u (by simpa using hu)
  · exact h.set.one
  · exact lk_one (h.lk 0 (by omega)) u hu
  · exact lk_one (h.lk 1 (by omega)) u hu
  · rfl
  · rfl
  · rw [eq]; rfl
/-- a provider whose lists are all in new memory, waits and queue in rows of the call's own -/
structure PCp (B : Nat) (w : World) (p : Pr) (v : PrV) : Prop where
  pin : PIn (fun b => B ≤ b) w p v
  ws : w.ownsRow B 98 8 v.ws p.s.W.length (wsL p.s.W)
  q : ∃ z, QOwn B w v.q p.q z
  oth : Rep (fun b => B ≤ b ∧ some b ≠ v.q.ownBlock) w v.ws 8 64 (wsL p.s.W) ∧ Rep (fun b => B ≤ b ∧ some b ≠ v.q.ownBlock) w v.set 2 16 (pwC p.set) ∧ ∀ c, c < 2 → LkIn (fun b => B ≤ b ∧ some b ≠ v.q.ownBlock) w (p.L c) (v.l c)
theorem pr_end {f : Func} {p' : Tmp} (hres : f.results = #[.cell p' 47]) {wq : World} {g : Nat} {zs cs : Array Value} (R : CAt 47 wq g zs) (hz : zs.size = 97) (hc : cs.size = 97) (Q : Ending → World → Prop) (hQ : Q (.returned (.agg cs)) (wq.setCells g 0 cs.toList)) (act : Act)
    (h8 : act.tmps.getD p' undef = .pointer (some ⟨g, 0, none⟩)) (hd : act.defers = []) : bodyPost Tryz.prog f Q Exit.ret act (wq.setCells g 0 cs.toList) := by
  have R1 := R.setAll (ds := cs) (by rw [hz, hc])
  exact bodyPost_ret (v := .agg cs) (results_cell_row hres _ _ _ _ _ _ _ h8 R1 Tryz.underlying47 rfl (by rw [infoPv, hc])) hd hQ
theorem take_one {α : Type} {l : List α} {k : Nat} {x : α} (h : l[k]? = some x) : l.take k ++ [x] = l.take (k + 1) := by
  have hlt := (List.getElem?_eq_some_iff.1 h).1
  rw [List.take_succ_eq_append_getElem hlt]
  congr 2
  exact ((List.getElem?_eq_some_iff.1 h).2).symm
/-- all is copied: the queue too -/
theorem CpS.all {w : World} {p : Pr} {v0 v : PrV} {w9 wl : World} (h : CpS w p v0 2 v w9) (hb : Below w9.heap.size w9 wl) {lv : Value} {z : List (Value × Value)} (hq : QOwn w9.heap.size wl lv p.q z) (hl : p.q.length * 88 ≤ 140737488351232) (hw : p.s.W.length * 64 ≤ 140737488351232) :
    PCp (w.heap.size + 2) ((wl.setCell ⟨w.heap.size, 96, none⟩ lv).setCells (w.heap.size + 1) 0 (prC p { v with q := lv }).toList) p { v with q := lv } := by
  have hlt := h.lt
  have hk := fun (b : Nat) (hb : w.heap.size + 2 ≤ b) => (heap_sets (show b ≠ w.heap.size + 1 by omega) (prC p { v with q := lv }).toList 0 (wl.setCell ⟨w.heap.size, 96, none⟩ lv)).trans (Below.heap_setCell wl ⟨w.heap.size, 96, none⟩ lv b (by show b ≠ w.heap.size; omega))
  have hq2 : QOwn (w.heap.size + 2) ((wl.setCell ⟨w.heap.size, 96, none⟩ lv).setCells (w.heap.size + 1) 0 (prC p { v with q := lv }).toList) lv p.q z := by
    refine ⟨hq.len, Ln.own_base (Ln.own_of hq.own fun b hb' => hk b (by have := (World.ownsRow.lt hq.own b hb').1; omega)) hlt, fun i x y hx hy => ?_⟩
    have key : ∀ {u : Value} {s t : Nat} {cs : List Value}, Rep (fun b => w9.heap.size ≤ b ∧ some b ≠ lv.ownBlock) wl u s t cs → Rep (fun b => w.heap.size + 2 ≤ b ∧ some b ≠ lv.ownBlock) _ u s t cs := fun hr => (hr.mono (P' := fun b => w.heap.size + 2 ≤ b ∧ some b ≠ lv.ownBlock) fun b _ hb' => ⟨Nat.le_trans hlt hb'.1, hb'.2⟩).keep fun b hb' _ => hk b hb'.1
    exact ⟨key (hq.ins i x y hx hy).1, key (hq.ins i x y hx hy).2⟩
  have hws := Ln.own_of (Ln.own_over h.ws hb) fun b hb' => hk b (World.ownsRow.lt h.ws b hb').1
  have hne : ∀ b, b < w9.heap.size → some b ≠ lv.ownBlock := fun b hb e => by have := (World.ownsRow.lt hq.own b e.symm).1; omega
  have key2 : ∀ {u : Value} {s t : Nat} {cs : List Value}, Rep (fun b => w.heap.size + 2 ≤ b) w9 u s t cs → Rep (fun b => w.heap.size + 2 ≤ b ∧ some b ≠ lv.ownBlock) ((wl.setCell ⟨w.heap.size, 96, none⟩ lv).setCells (w.heap.size + 1) 0 (prC p { v with q := lv }).toList) u s t cs := fun hr => ((hr.mono (P' := fun b => w.heap.size + 2 ≤ b ∧ some b ≠ lv.ownBlock) fun b hlt hb' => ⟨hb', hne b hlt⟩).over hb).keep fun b hb' _ => hk b hb'.1
  refine ⟨⟨Rep.own hws hw, (h.set.over hb).keep fun b hb' _ => hk b hb', fun c hc => ((h.lk c hc).keep fun b _ hlt => hb.block b hlt).keep fun b hb' _ => hk b hb', hq2.rep hl⟩, hws, ⟨z, hq2⟩, key2 (Rep.own h.ws hw), key2 h.set, fun c hc => ⟨key2 (h.lk c hc).told, key2 (h.lk c hc).done, key2 (h.lk c hc).said, key2 (h.lk c hc).due⟩⟩
set_option maxHeartbeats 2000000 in
theorem copyp_any (p : Pr) (v : PrV) (P : Nat → Prop) (w : World) (hp : PIn P w p v) (hq88 : p.q.length * 88 ≤ 140737488351232) :
    Calls Tryz.prog 10 #[.agg (prC p v)] w fun e w' => ∃ v', e = .returned (.agg (prC p v')) ∧ PCp (w.heap.size + 2) w' p v' ∧ Below w.heap.size w w' := by
  have HQ88 := hide hq88
  clear hq88
  obtain ⟨i0, hi, hz0, hz1, hz2⟩ := info_parts infoPw2
  obtain ⟨vw, vs, vl, vq⟩ := v
  obtain ⟨Aw, Cw, bw, ow, rfl, Ws, -, -⟩ := hp.ws.wsAt
  obtain ⟨As, Cs, rfl, sS, nS, -, cS⟩ := hp.set.open (pwC_length _) (by decide)
  obtain ⟨cs, hcs⟩ : ∃ cs, prC p ⟨.slice Aw p.s.W.length Cw, .slice As p.set.length Cs, vl, vq⟩ = cs := ⟨_, rfl⟩
  rw [hcs]
  have HCS := hide hcs
  clear hcs
  go_enter Tryz.func10, Tryz.ntmps10
  go_upto_region 1 with fail
  have C1 : CAt 47 ((w.alloc (.cells cs 47)).alloc (.cells Tryz.zeroCells47 47)) w.heap.size (prC p ⟨.slice Aw p.s.W.length Cw, .slice As p.set.length Cs, vl, vq⟩) := by rw [HCS.out]; exact (CAt.new _ w cs).alloc _
  have R1 := CAt.new2 47 w (.cells cs 47) Tryz.zeroCells47
  have B1 : Below w.heap.size w ((w.alloc (.cells cs 47)).alloc (.cells Tryz.zeroCells47 47)) := ((Below.refl _ w).alloc (Nat.le_refl _) _).alloc (by simp) _
  have hz1' : w.heap.size + 2 ≤ ((w.alloc (.cells cs 47)).alloc (.cells Tryz.zeroCells47 47)).heap.size := by simp
  generalize (w.alloc (.cells cs 47)).alloc (.cells Tryz.zeroCells47 47) = w1 at *
  apply wp_region_lit
  iterate 3 go_step
  refine wpList_load_mid rfl 32 _ rfl w.heap.size 2 rfl _ _ (pr_stake C1) Tryz.underlying32 rfl (by rw [infoS]; rfl) ?_
  go_step
  go_step
  refine (copy_st3 p.s Aw bw ow Cw w1 (Ws.over B1)).mono ?_
  rintro e w2 ⟨A2, C2, rfl, hO2, hb2⟩
  dsimp only
  have C2' := C1.over hb2
  have R2 := R1.over hb2
  have B2 := B1.trans (hb2.mono B1.size)
  have hz2' := Nat.le_trans hz1' hb2.size
  iterate 4 go_step
  refine wpList_store_mid rfl 32 _ _ rfl w.heap.size 2 (stC p.s (.slice A2 p.s.W.length C2)) rfl rfl (C2'.there 2 _ (by rw [prC_size, stC_size]; omega)) (by rw [infoS]; rfl) (stC_one _ _ _ _) ?_
  have C3 := CAt.sets (stC p.s (.slice A2 p.s.W.length C2)).toList 2 _ _ C2'
  rw [pr_ws] at C3
  have R3 := R2.others (c := w.heap.size) (o := 2) (by omega) (stC p.s (.slice A2 p.s.W.length C2)).toList
  have B3 := below_sets (Nat.le_refl _) (stC p.s (.slice A2 p.s.W.length C2)).toList 2 _ B2
  have hO3 := hO2.to (w' := w2.setCells w.heap.size 2 (stC p.s (.slice A2 p.s.W.length C2)).toList) fun k h1 _ => heap_sets (by omega) _ _ _
  have hz3' : w.heap.size + 2 ≤ (w2.setCells w.heap.size 2 (stC p.s (.slice A2 p.s.W.length C2)).toList).heap.size := by have := R3.lt; omega
  clear C1 R1 B1 hb2 C2' R2 B2 hO2 HCS Ws
  generalize w2.setCells w.heap.size 2 (stC p.s (.slice A2 p.s.W.length C2)).toList = w3 at *
  go_simp
  go_upto_region 2 with fail
  have c65 : w3.cell? ⟨w.heap.size, 65, none⟩ = some (.slice As p.set.length Cs) := C3.cell 65
  have oneS := one_pws p.set
  have lnS := pwC_length p.set
  have bS : 0 + p.set.length ≤ maxLen := by unfold maxLen; omega
  have cS3 : ∀ ad, As = some ad → ∀ j u, (pwC p.set)[j]? = some u → w3.cell? (ad.add j) = some u := ((hp.set.over B3).open (pwC_length _) (by decide)).elim fun _ h => h.elim fun _ h => by obtain ⟨e, -, -, -, h⟩ := h; cases e; exact h
  apply wp_region_lit
  iterate 6 go_step
  refine wpList_app rfl _ _ 33 rfl w3.heap.size 104 i0 _ 2 16 Tryz.underlying33 hi hz0 hz1 hz2 rfl (by decide) (.slice none 0 0) 0 [] rfl (World.ownsRow_nil _ _ _ _) As p.set.length Cs (pwC p.set) rfl lnS nS cS3 oneS bS (by omega) (Nat.le_refl _) ?_
  intro A4 C4 w4 ho4 hg4
  rw [Nat.zero_add, List.nil_append] at ho4
  have b4 : Below w3.heap.size w3 w4 := (Below.refl _ w3).grown hg4 (Nat.le_refl _) (fun k hk => by cases hk)
  have rp4 : Rep (fun b => w3.heap.size ≤ b) w4 (.slice A4 p.set.length C4) 2 16 (pwC p.set) := Rep.own ho4 sS
  have C4' := C3.over b4
  have f65 : w4.frozen? ⟨w.heap.size, 65, none⟩ = false := C4'.free 65
  have d65 : w4.cell? ⟨w.heap.size, 65, none⟩ = some (.slice As p.set.length Cs) := C4'.cell 65
  rw [Nat.zero_add]
  have S5 : CpS w p ⟨.slice Aw p.s.W.length Cw, .slice As p.set.length Cs, vl, vq⟩ 0 ⟨.slice A2 p.s.W.length C2, .slice A4 p.set.length C4, vl, vq⟩ (w4.setCell ⟨w.heap.size, 65, none⟩ (.slice A4 p.set.length C4)) := by
    have hk6 := fun (b : Nat) (hb : b ≠ w.heap.size) => Below.heap_setCell w4 ⟨w.heap.size, 65, none⟩ (.slice A4 p.set.length C4) b hb
    refine ⟨?_, (R3.over b4).keep (hk6 _ (by omega)), (B3.trans (b4.mono B3.size)).setCell (Nat.le_refl _) _, ?_, ?_, fun c hc => absurd hc (by omega), fun _ _ => rfl, rfl⟩
    · have := C4'.set 65 (.slice A4 p.set.length C4)
      rwa [pr_set] at this
    · exact Ln.own_of (Ln.own_base (Ln.own_over hO3 b4) (by omega)) fun b hb => hk6 b (by have := (World.ownsRow.lt hO3 b hb).1; omega)
    · exact (rp4.mono (P' := fun b => w.heap.size + 2 ≤ b) fun b _ hb => by have : w3.heap.size ≤ b := hb; omega).keep fun b hb _ => hk6 b (by have : w.heap.size + 2 ≤ b := hb; omega)
  clear ho4 hg4 rp4 C4' C3 R3 B3 hO3 b4 cS3 cS hz3' c65
  go_upto_region 3 with fail
  generalize w4.setCell ⟨w.heap.size, 65, none⟩ (.slice A4 p.set.length C4) = w5 at *
  have HS5 := hide S5
  have HP := hide hp
  generalize hv0 : (⟨.slice Aw p.s.W.length Cw, .slice As p.set.length Cs, vl, vq⟩ : PrV) = v0 at *
  generalize (⟨.slice A2 p.s.W.length C2, .slice A4 p.set.length C4, vl, vq⟩ : PrV) = v5 at *
  have HV0 := hide hv0
  clear S5 hp hv0 f65 d65 oneS lnS bS sS nS hz1' hz2' hi hz0 hz1 hz2
  go_upto_region 4 with fail
  go_loopw [16] (fun i wl => ∃ (k : Nat) (v : PrV), k ≤ 2 ∧ i = .int .i64 (k : Int) ∧ Hid (CpS w p v0 k v wl)) (fun i _ => (2 - intOf i).toNat)
  case atStart => exact ⟨0, v5, by omega, rfl, HS5⟩
  case round =>
    obtain ⟨k, v, hk, rfl, HR⟩ := hrel
    by_cases hk2 : k < 2
    · have hkk : (k : Int) < 2 := by omega
      have hk0 : (0 : Int) ≤ (k : Int) := by omega
      go_upto_region 7 with fail
      have hxl := (HP.out.lk k hk2).keep (w' := wr) fun b _ hlt => HR.out.B.block b hlt
      rw [← HR.out.hl k (Nat.le_refl _)] at hxl
      have hgt : w.heap.size < wr.heap.size := HR.out.C.lt
      have cf : ∀ j, j < 14 → wr.cell? ⟨w.heap.size, 66 + k * 14 + j, none⟩ = (lkL (p.L k) (v.l k))[j]? := fun j hj => (HR.out.C.cell _).trans (pr_link k hk2 j hj)
      refine cp7_wp w.heap.size (66 + k * 14) (p.L k) (v.l k) P wr hxl hgt (cf 3 (by omega)) (cf 5 (by omega)) (cf 6 (by omega)) (cf 7 (by omega)) (cf 8 (by omega)) (cf 9 (by omega)) (fun j _ => HR.out.C.free _) _ _ _ _ _ _ _ _ _ _ _ _ _ _ _ _ _ _ _ _ _ _ _ _ _ _ _ _ _ _ _ _ _ _ _ _ _ _ _ _ _ _ _ _ _ _ _ _ _ _ _ _ _ _ _ _ _ _ _ _ _ _ _ _ _ _ _ ?_
      intro T D S U t22 t23 t24 t25 t26 t27 t28 t29 t30 t31 t32 t33 t34 t35 t36 t37 t38 t39 t40 t41 t42 t43 t44 t45 w6 hb6 h4
      have HN := hide (HR.out.next hk2 hb6 h4)
      clear cf hxl hgt hb6 h4 HR
      generalize (((((w6.setCell ⟨w.heap.size, 66 + k * 14 + 3, none⟩ T).setCell ⟨w.heap.size, 66 + k * 14 + 5, none⟩ D).setCell ⟨w.heap.size, 66 + k * 14 + 6, none⟩ S).setCell ⟨w.heap.size, 66 + k * 14 + 7, none⟩ U).setCell ⟨w.heap.size, 66 + k * 14 + 8, none⟩ (.int .i64 (p.L k).out.g)).setCell ⟨w.heap.size, 66 + k * 14 + 9, none⟩ (.bool (p.L k).out.cl) = w7 at *
      go_wp2
      first | exact ⟨⟨k + 1, _, by omega, by go_num, HN⟩, by simp [intOf]; omega⟩ | ((repeat apply Exists.intro); exact ⟨⟨k + 1, _, by omega, by go_num, HN⟩, rfl⟩)
    · obtain rfl : k = 2 := by omega
      go_upto_region 10 with fail
      have hw64 : p.s.W.length * 64 ≤ 140737488351232 := by obtain ⟨_, _, _, _, _, W, _⟩ := HP.out.ws.wsAt; exact W.len
      obtain ⟨z, hzl, hzr, hzi⟩ := HP.out.q
      obtain ⟨Aq, Cq, eq, sq, nq, cq, -⟩ := hzr.open (quL_length _ _ hzl) (by decide)
      have c96 : wr.cell? ⟨w.heap.size, 96, none⟩ = some (.slice Aq p.q.length Cq) := by
        rw [HR.out.C.cell 96, ← eq, ← HR.out.hq]; rfl
      have HZI := hide hzi
      have HCQ := hide cq
      have HZL := hide hzl
      clear hzi cq hzr nq hzl
      go_upto_region 11 with fail
      clear c96
      have HSZ : Hid (p.q.length * 88 ≤ 140737488351232 ∧ p.s.W.length * 64 ≤ 140737488351232) := ⟨HQ88.out, hw64⟩
      have hq63 : p.q.length ≤ 1800000000000 := by omega
      clear sq hw64
      rename World => w9
      go_loopw [5, 50] (fun lv i wl => ∃ (k : Nat) (z : List (Value × Value)), k ≤ p.q.length ∧ i = .int .i64 (k : Int) ∧ Hid (QOwn w9.heap.size wl lv (p.q.take k) z) ∧ Hid (Below w9.heap.size w9 wl)) (fun _ i _ => p.q.length - (intOf i).toNat)
      case atStart => exact ⟨0, [], Nat.zero_le _, rfl, QOwn.nil _ _, Below.refl _ _⟩
      case round =>
        obtain ⟨k, zk, hk, rfl, HQ, HB⟩ := hrel
        by_cases hlt : k < p.q.length
        · have hkI : (k : Int) < (p.q.length : Int) := by omega
          have hk0 : (0 : Int) ≤ (k : Int) := by omega
          obtain ⟨x, hx⟩ : ∃ x, p.q[k]? = some x := ⟨_, List.getElem?_eq_getElem hlt⟩
          obtain ⟨y, hy⟩ : ∃ y, z[k]? = some y := ⟨_, List.getElem?_eq_getElem (by rw [HZL.out]; exact hlt)⟩
          have hin := HZI.out k x y hx hy
          obtain ⟨y1, y2⟩ := y
          obtain ⟨⟨B1, n1, D1, ey1, -⟩, ⟨B2, n2, D2, ey2, -⟩⟩ := id hin
          dsimp only at ey1 ey2
          subst ey1 ey2
          have hBw : Below w.heap.size w wr := HR.out.B.trans (HB.out.mono (by have := HR.out.lt; omega))
          obtain ⟨bq, oq, rfl, -, hbl, hcell⟩ := HCQ.out (by omega)
          have hc : ∀ j, j < 7 → ∀ u, (akL x (.slice B1 n1 D1, .slice B2 n2 D2))[j]? = some u → wr.cell? ⟨bq, oq + k * 7 + j, none⟩ = some u := fun j hj u hu => by
            rw [hBw.cell (p := ⟨bq, oq + k * 7 + j, none⟩) hbl, Nat.add_assoc]
            exact hcell _ _ ((quL_get p.q z k x _ j hx hy hj).trans hu)
          have e0 := hc 0 (by omega) _ rfl
          have e1 := hc 1 (by omega) _ rfl
          have e2 := hc 2 (by omega) _ rfl
          have e3 := hc 3 (by omega) _ rfl
          have e4 := hc 4 (by omega) _ rfl
          have e5 := hc 5 (by omega) _ rfl
          have e6 := hc 6 (by omega) _ rfl
          rw [Nat.add_zero] at e0
          have HX := hide (show _ ∧ _ from ⟨hx, hin⟩)
          have HBW := hide hBw
          clear hc hcell hin hx hy hBw
          go_upto_region 13 with fail
          have b1 : Below wr.heap.size wr (wr.alloc (.cells #[.int .i64 x.1, .int .i64 x.2.k, .int .i64 x.2.i, .int .i64 x.2.v, .int .i64 x.2.n, .slice B1 n1 D1, .slice B2 n2 D2] 82)) := (Below.refl _ wr).alloc (Nat.le_refl _) _
          have hB9 : w9.heap.size ≤ wr.heap.size := HB.out.size
          refine cp13_wp w9.heap.size wr.heap.size u5 (p.q.take k) zk x (.slice B1 n1 D1, .slice B2 n2 D2) P _ (HQ.out.over b1) (Nat.le_trans hB9 b1.size) (by rw [List.length_take, Nat.min_eq_left hk]; have := HSZ.out.1; omega) ⟨(HX.out.2.1.over HBW.out).over b1, (HX.out.2.2.over HBW.out).over b1⟩ (CAt.new _ _ _) _ _ _ _ _ _ _ _ _ _ _ _ _ _ _ _ _ _ _ _ _ _ _ _ _ _ _ _ _ _ _ _ _ _ _ _ _ _ _ _ _ _ _ _ _ _ _ _ _ _ _ _ _ _ _ _ _ _ _ _ _ _ _ _ _ _ ?_
          intro lv' z' t54 t55 t56 t57 t58 t59 t60 t61 t62 w6 hb6 hq6
          rw [take_one HX.out.1] at hq6
          have HQ6 := hide hq6
          have HB6 := hide (HB.out.trans ((b1.mono hB9).trans hb6))
          clear hq6 hb6 b1 HQ HB HX HBW e0 e1 e2 e3 e4 e5 e6 hB9
          go_wp2
          first | exact ⟨⟨k + 1, z', by omega, by go_num, HQ6, HB6⟩, by simp [intOf]; omega⟩ | ((repeat apply Exists.intro); exact ⟨⟨k + 1, z', by omega, by go_num, HQ6, HB6⟩, rfl⟩)
        · obtain rfl : k = p.q.length := by omega
          have hBw : Below w.heap.size w wr := HR.out.B.trans (HB.out.mono (by have := HR.out.lt; omega))
          have C9 := HR.out.C.later HB.out HR.out.C.lt
          have R9 := HR.out.R.later HB.out HR.out.R.lt
          rw [List.take_length] at HQ
          have HA := hide (HR.out.all HB.out HQ.out HSZ.out.1 HSZ.out.2)
          have d96 : wr.cell? ⟨w.heap.size, 96, none⟩ = some v.q := C9.cell 96
          have f96 : wr.frozen? ⟨w.heap.size, 96, none⟩ = false := C9.free 96
          obtain ⟨Al, Cl, el⟩ := Ln.own_form HQ.out.own
          subst el
          go_upto_region 16 with fail
          have C10 := C9.set 96 (.slice Al p.q.length Cl)
          rw [pr_q] at C10
          have R10 := R9.other (c := w.heap.size) (o := 96) (by omega) (.slice Al p.q.length Cl)
          have B10 := hBw.setCell (p := ⟨w.heap.size, 96, none⟩) (Nat.le_refl _) (.slice Al p.q.length Cl)
          have hone : (prC p { v with q := .slice Al p.q.length Cl }).all (·.oneCell') = true := pr_one HA.out.pin
          apply wp_region_lit
          refine wpList_load_mid rfl 47 _ rfl w.heap.size 0 rfl _ _ C10.range Tryz.underlying47 rfl (by rw [infoPv]; rfl) ?_
          refine wpList_store_mid rfl 47 _ _ rfl (w.heap.size + 1) 0 (prC p { v with q := .slice Al p.q.length Cl }) rfl rfl (R10.there 0 _ (by rw [Z97_size, prC_size]; omega)) (by rw [infoPv]; rfl) hone ?_
          have HZ := hide (show _ ∧ _ from ⟨R10, B10⟩)
          clear C10 R10 B10 C9 R9 d96 f96 HB HQ HR hBw hone
          go_wp2
          exact pr_end Tryz.results10 HZ.out.1 Z97_size (prC_size _ _) _ ⟨_, rfl, HA.out, below_sets (Nat.le_succ _) _ _ _ HZ.out.2⟩ _ rfl rfl
end Go.Proofs.YtkhlihpghbhppaaGreat.Pv

