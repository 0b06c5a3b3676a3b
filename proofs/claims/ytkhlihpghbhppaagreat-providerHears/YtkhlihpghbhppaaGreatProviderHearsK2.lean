/- Parts of the proof: PV13. -/
import Derived.Test.YtkhlihpghbhppaaGreatRows
import Derived.Test.YtkhlihpghbhppaaGreatProviderHearsK1
import Derived.Deep.AppendLies
set_option maxRecDepth 100000
namespace Go.Proofs.YtkhlihpghbhppaaGreat.Pv
open Go.RowKit
theorem quL_length : ∀ (q : List (Int × Pkt)) (z : List (Value × Value)), z.length = q.length → (quL q z).length = q.length * 7
  | [], [], _ => rfl
  | x :: q, y :: z, h => by
    have := quL_length q z (by simpa using h)
    show (akL x y ++ quL q z).length = _
    rw [List.length_append, this, List.length_cons]
    show 7 + _ = _
    omega
  | [], _ :: _, h => by simp at h
  | _ :: _, [], h => by simp at h
theorem quL_app : ∀ (q : List (Int × Pkt)) (z : List (Value × Value)) (x : Int × Pkt) (y : Value × Value), z.length = q.length → quL (q ++ [x]) (z ++ [y]) = quL q z ++ akL x y
  | [], [], x, y, _ => by simp [quL]
  | a :: q, b :: z, x, y, h => by
    show akL a b ++ quL (q ++ [x]) (z ++ [y]) = (akL a b ++ quL q z) ++ _
    rw [quL_app q z x y (by simpa using h), List.append_assoc]
  | [], _ :: _, _, _, h => by simp at h
  | _ :: _, [], _, _, h => by simp at h
theorem quL_get : ∀ (q : List (Int × Pkt)) (z : List (Value × Value)) (i : Nat) (x : Int × Pkt) (y : Value × Value) (j : Nat), q[i]? = some x → z[i]? = some y → j < 7 → (quL q z)[i * 7 + j]? = (akL x y)[j]?
  | a :: q, b :: z, 0, x, y, j, h1, h2, hj => by
    simp at h1 h2
    subst h1 h2
    show (akL a b ++ quL q z)[0 * 7 + j]? = _
    rw [Nat.zero_mul, Nat.zero_add, List.getElem?_append_left (by exact hj)]
  | a :: q, b :: z, i + 1, x, y, j, h1, h2, hj => by
    show (akL a b ++ quL q z)[(i + 1) * 7 + j]? = _
    rw [List.getElem?_append_right (by show 7 ≤ _; omega)]
    rw [show (i + 1) * 7 + j - (akL a b).length = i * 7 + j by show (i + 1) * 7 + j - 7 = _; omega]
    exact quL_get q z i x y j (by simpa using h1) (by simpa using h2) hj
  | [], _, i, _, _, _, h1, _, _ => by simp at h1
  | _ :: _, [], i, _, _, _, _, h2, _ => by simp at h2
/-- a queue in a row of the call's own, its packets' lists elsewhere -/
structure QOwn (B : Nat) (w : World) (v : Value) (q : List (Int × Pkt)) (z : List (Value × Value)) : Prop where
  len : z.length = q.length
  own : w.ownsRow B 82 7 v q.length (quL q z)
  ins : ∀ (i : Nat) (x : Int × Pkt) (y : Value × Value), q[i]? = some x → z[i]? = some y → Rep (fun b => B ≤ b ∧ some b ≠ v.ownBlock) w y.1 2 16 (pwC x.2.S) ∧ Rep (fun b => B ≤ b ∧ some b ≠ v.ownBlock) w y.2 1 8 (inC x.2.D)
theorem QOwn.nil (B : Nat) (w : World) : QOwn B w (.slice none 0 0) [] [] := ⟨rfl, World.ownsRow_nil _ _ _ _, fun i x y h => by simp at h⟩
theorem QOwn.over {B : Nat} {w w' : World} {v : Value} {q : List (Int × Pkt)} {z : List (Value × Value)} (h : QOwn B w v q z) (hb : Below w.heap.size w w') : QOwn B w' v q z :=
  ⟨h.len, Ln.own_over h.own hb, fun i x y hx hy => ⟨(h.ins i x y hx hy).1.over hb, (h.ins i x y hx hy).2.over hb⟩⟩
theorem QOwn.rep {B : Nat} {w : World} {v : Value} {q : List (Int × Pkt)} {z : List (Value × Value)} (h : QOwn B w v q z) (hl : q.length * 88 ≤ 140737488351232) : QRep (fun b => B ≤ b) w v q :=
  ⟨z, h.len, Rep.own h.own (by omega), fun i x y hx hy => ⟨(h.ins i x y hx hy).1.mono fun _ _ hb => hb.1, (h.ins i x y hx hy).2.mono fun _ _ hb => hb.1⟩⟩
/-- one more is put behind -/
theorem QOwn.app {B : Nat} {w w' : World} {v : Value} {q : List (Int × Pkt)} {z : List (Value × Value)} (h : QOwn B w v q z) {x : Int × Pkt} {y : Value × Value} (hy : Rep (fun b => B ≤ b ∧ some b ≠ v.ownBlock) w y.1 2 16 (pwC x.2.S) ∧ Rep (fun b => B ≤ b ∧ some b ≠ v.ownBlock) w y.2 1 8 (inC x.2.D))
    {g cap : Nat} (ho : w'.ownsRow B 82 7 (.slice (some ⟨g, 0, none⟩) (q.length + 1) cap) (q.length + 1) (quL q z ++ akL x y)) (hg : w.grownBy w' v.ownBlock) (hat : v.ownBlock = some g ∨ g = w.heap.size) :
    QOwn B w' (.slice (some ⟨g, 0, none⟩) (q.length + 1) cap) (q ++ [x]) (z ++ [y]) := by
  have key : ∀ {u : Value} {s t : Nat} {cs : List Value}, Rep (fun b => B ≤ b ∧ some b ≠ v.ownBlock) w u s t cs → Rep (fun b => B ≤ b ∧ some b ≠ (Value.slice (some ⟨g, 0, none⟩) (q.length + 1) cap).ownBlock) w' u s t cs := fun hr => by
    have h1 := hr.keep (w' := w') fun b hb hlt => hg.block b hlt hb.2
    have h2 : Rep (fun b => (B ≤ b ∧ some b ≠ v.ownBlock) ∧ b < w.heap.size) w _ _ _ _ := hr.mono fun b hlt hb => ⟨hb, hlt⟩
    have h3 := h2.keep (w' := w') fun b hb hlt => hg.block b hlt hb.1.2
    refine h3.mono fun b _ hb => ⟨hb.1.1, fun e => ?_⟩
    have e' : b = g := by simpa [Value.ownBlock] using e
    subst e'
    rcases hat with hat | hat
    · exact hb.1.2 hat.symm
    · have := hb.2; omega
  refine ⟨by simp [h.len], by rw [quL_app q z x y h.len, List.length_append]; exact ho, fun i a b ha hb => ?_⟩
  by_cases hi : i < q.length
  · rw [List.getElem?_append_left hi] at ha
    rw [List.getElem?_append_left (by rw [h.len]; exact hi)] at hb
    exact ⟨key (h.ins i a b ha hb).1, key (h.ins i a b ha hb).2⟩
  · rw [List.getElem?_append_right (by omega)] at ha
    rw [List.getElem?_append_right (by rw [h.len]; omega), h.len] at hb
    rcases Nat.eq_zero_or_pos (i - q.length) with h0 | h0
    · rw [h0] at ha hb
      simp at ha hb
      subst ha hb
      exact ⟨key hy.1, key hy.2⟩
    · rw [List.getElem?_eq_none (by simp; omega)] at ha
      cases ha
noncomputable def cp13C : Code := subC [1, 1, 1, 1, 1, 0, 1, 9, 9, 1, 1, 0, 9, 1] (Tryz.f10.body.getD .skip)
theorem infoAs : (Tryz.prog.info? 82).map (fun i => (i.zero, i.size, i.bytes)) = some (some (.agg #[.int .i64 0, .int .i64 0, .int .i64 0, .int .i64 0, .int .i64 0, .slice none 0 0, .slice none 0 0]), 7, 88) := by kernel_rfl
set_option maxHeartbeats 8000000 in
set_option maxRecDepth 1000000 in
theorem cp13_wp (B a7 : Nat) (lv : Value) (q : List (Int × Pkt)) (z : List (Value × Value)) (x : Int × Pkt) (y : Value × Value) (P : Nat → Prop) (wl : World) (hq : QOwn B wl lv q z) (hB : B ≤ wl.heap.size) (hl : (q.length + 1) * 88 ≤ 140737488351232)
    (hy : Rep P wl y.1 2 16 (pwC x.2.S) ∧ Rep P wl y.2 1 8 (inC x.2.D)) (h7 : CAt 82 wl a7 #[.int .i64 x.1, .int .i64 x.2.k, .int .i64 x.2.i, .int .i64 x.2.v, .int .i64 x.2.n, y.1, y.2]) (v0 v1 v2 v3 v4 v6 v8 v9 v10 v11 v12 v13 v14 v15 v16 v17 v18 v19 v20 v21 v22 v23 v24 v25 v26 v27 v28 v29 v30 v31 v32 v33 v34 v35 v36 v37 v38 v39 v40 v41 v42 v43 v44 v45 v46 v47 v48 v49 v50 v51 v52 v53 v54 v55 v56 v57 v58 v59 v60 v61 v62 v63 v64 v65 v66 : Value) (Q : Exit → Act → World → Prop)
    (hQ : ∀ (lv' : Value) (z' : List (Value × Value)) (t54 t55 t56 t57 t58 t59 t60 t61 t62 : Value) (w5 : World), Below B wl w5 → QOwn B w5 lv' (q ++ [x]) z' → Q .normal ⟨List.toArray (v0 :: v1 :: v2 :: v3 :: v4 :: (lv') :: v6 :: (.pointer (some ⟨a7, 0, none⟩)) :: v8 :: v9 :: v10 :: v11 :: v12 :: v13 :: v14 :: v15 :: v16 :: v17 :: v18 :: v19 :: v20 :: v21 :: v22 :: v23 :: v24 :: v25 :: v26 :: v27 :: v28 :: v29 :: v30 :: v31 :: v32 :: v33 :: v34 :: v35 :: v36 :: v37 :: v38 :: v39 :: v40 :: v41 :: v42 :: v43 :: v44 :: v45 :: v46 :: v47 :: v48 :: v49 :: v50 :: v51 :: v52 :: v53 :: (t54) :: (t55) :: (t56) :: (t57) :: (t58) :: (t59) :: (t60) :: (t61) :: (t62) :: v63 :: v64 :: v65 :: v66 :: []), []⟩ w5) :
    Code.wp Tryz.prog cp13C Q ⟨List.toArray (v0 :: v1 :: v2 :: v3 :: v4 :: (lv) :: v6 :: (.pointer (some ⟨a7, 0, none⟩)) :: v8 :: v9 :: v10 :: v11 :: v12 :: v13 :: v14 :: v15 :: v16 :: v17 :: v18 :: v19 :: v20 :: v21 :: v22 :: v23 :: v24 :: v25 :: v26 :: v27 :: v28 :: v29 :: v30 :: v31 :: v32 :: v33 :: v34 :: v35 :: v36 :: v37 :: v38 :: v39 :: v40 :: v41 :: v42 :: v43 :: v44 :: v45 :: v46 :: v47 :: v48 :: v49 :: v50 :: v51 :: v52 :: v53 :: v54 :: v55 :: v56 :: v57 :: v58 :: v59 :: v60 :: v61 :: v62 :: v63 :: v64 :: v65 :: v66 :: []), []⟩ wl := by
  obtain ⟨i0, hi, hz0, hz1, hz2⟩ := info_parts infoAs
  have HK := hide hQ
  have HQ := hide hq
  have HY := hide hy
  have hF : ∀ wx, Below wl.heap.size wl wx → wx.cell? ⟨a7, 0, none⟩ = some (.int .i64 x.1) ∧ wx.cell? ⟨a7, 1, none⟩ = some (.int .i64 x.2.k) ∧ wx.cell? ⟨a7, 2, none⟩ = some (.int .i64 x.2.i) ∧ wx.cell? ⟨a7, 3, none⟩ = some (.int .i64 x.2.v) ∧ wx.cell? ⟨a7, 4, none⟩ = some (.int .i64 x.2.n) ∧ wx.cell? ⟨a7, 5, none⟩ = some y.1 ∧ wx.cell? ⟨a7, 6, none⟩ = some y.2 := fun wx h =>
    ⟨(h7.over h).cell 0, (h7.over h).cell 1, (h7.over h).cell 2, (h7.over h).cell 3, (h7.over h).cell 4, (h7.over h).cell 5, (h7.over h).cell 6⟩
  have hoc : y.1.oneCell' = true ∧ y.2.oneCell' = true := by
    obtain ⟨⟨_, _, _, e1, _⟩, ⟨_, _, _, e2, _⟩⟩ := hy
    rw [e1, e2]
    exact ⟨rfl, rfl⟩
  have bq : q.length + 1 ≤ maxLen := by unfold maxLen; omega
  have hnq := hq.own.1
  clear hQ hq hy h7
  obtain ⟨y1, y2⟩ := y
  dsimp only at hF hoc
  conv => arg 2; whnf
  refine wp_region_noPanic ?_
  have hb : Below wl.heap.size wl wl.drew := (Below.refl _ wl).drew
  refine Od.wp_region_C (c := 8) (S := fun wx => Below wl.heap.size wl wx) (by kernel_rfl) ?_
  refine Od.anyC_free (i := 0) (v := lv) (some 54) rfl rfl (by kernel_rfl) (by kernel_rfl) (by kernel_rfl) (by decide) (fun _ _ _ h => h) (Or.inl ⟨by rfl, ?_⟩) hb ?_
  · intro wx; go_simp
  simp only [Act.put, List.setIfInBounds_toArray, List.set_cons_zero, List.set_cons_succ]
  refine Od.anyC_free (i := 1) (v := .pointer (some ⟨a7, 0, none⟩)) (some 55) rfl rfl (by kernel_rfl) (by kernel_rfl) (by kernel_rfl) (by decide) (fun _ _ _ h => h) (Or.inl ⟨by rfl, ?_⟩) hb ?_
  · intro wx; go_simp
  simp only [Act.put, List.setIfInBounds_toArray, List.set_cons_zero, List.set_cons_succ]
  refine Od.anyC_free (i := 3) (v := .pointer (some ⟨a7, 1, none⟩)) (some 57) rfl rfl (by kernel_rfl) (by kernel_rfl) (by kernel_rfl) (by decide) (fun _ _ _ h => h) (Or.inl ⟨by rfl, ?_⟩) hb ?_
  · intro wx; go_simp
  simp only [Act.put, List.setIfInBounds_toArray, List.set_cons_zero, List.set_cons_succ]
  refine Od.anyC_at (i := 2) (v := .int .i64 x.1) (some 56) rfl rfl (by kernel_rfl) (by kernel_rfl) (by kernel_rfl) (by kernel_rfl) (by decide) (fun _ _ _ h => h) (Or.inl ⟨by rfl, ?_⟩) hb ?_
  · intro wx hwx; obtain ⟨l0, l1, l2, l3, l4, l5, l6⟩ := hF wx hwx; go_simp
  simp only [Act.put, List.setIfInBounds_toArray, List.set_cons_zero, List.set_cons_succ]
  refine Od.anyC_at (i := 4) (v := .agg #[.int .i64 x.2.k, .int .i64 x.2.i, .int .i64 x.2.v, .int .i64 x.2.n, y1, y2]) (some 58) rfl rfl (by kernel_rfl) (by kernel_rfl) (by kernel_rfl) (by kernel_rfl) (by decide) (fun _ _ _ h => h) (Or.inl ⟨by rfl, ?_⟩) hb ?_
  · intro wx hwx; obtain ⟨l0, l1, l2, l3, l4, l5, l6⟩ := hF wx hwx; go_simp
  simp only [Act.put, List.setIfInBounds_toArray, List.set_cons_zero, List.set_cons_succ]
  refine Od.anyC_one (i := 5) (by kernel_rfl) rfl (by decide) (fun K hK => ?_)
  rw [if_pos (by rfl)]
  go_simp
  refine (copyk_rep x.2.k x.2.i x.2.v x.2.n x.2.S x.2.D y1 y2 P wl.drew (HY.out.1.over hb) (HY.out.2.over hb)).mono ?_
  rintro e w5 ⟨z1, z2, rfl, r1, r2, hb5⟩
  have b5 : Below wl.heap.size wl w5 := hb.trans hb5
  refine hK _ _ b5 ?_
  clear hK K hb
  have hb := b5
  refine Od.anyC_free (i := 6) (v := .agg #[.int .i64 x.1, .int .i64 x.2.k, .int .i64 x.2.i, .int .i64 x.2.v, .int .i64 x.2.n, z1, z2]) (some 60) rfl rfl (by kernel_rfl) (by kernel_rfl) (by kernel_rfl) (by decide) (fun _ _ _ h => h) (Or.inl ⟨by rfl, ?_⟩) hb ?_
  · intro wx; go_simp
  simp only [Act.put, List.setIfInBounds_toArray, List.set_cons_zero, List.set_cons_succ]
  refine Od.anyC_one (i := 7) (by kernel_rfl) rfl (by decide) (fun K hK => ?_)
  rw [if_pos (by rfl)]
  go_simp
  have b6 : Below wl.heap.size wl (w5.alloc (.cells #[.int .i64 x.1, .int .i64 x.2.k, .int .i64 x.2.i, .int .i64 x.2.v, .int .i64 x.2.n, z1, z2] 82)) := b5.alloc b5.size _
  refine hK _ _ b6 ?_
  clear hK K hb
  have c6 : Below w5.heap.size w5 (w5.alloc (.cells #[.int .i64 x.1, .int .i64 x.2.k, .int .i64 x.2.i, .int .i64 x.2.v, .int .i64 x.2.n, z1, z2] 82)) := (Below.refl _ w5).alloc (Nat.le_refl _) _
  have D6 := CAt.new 82 w5 #[.int .i64 x.1, .int .i64 x.2.k, .int .i64 x.2.i, .int .i64 x.2.v, .int .i64 x.2.n, z1, z2]
  have q6 := HQ.out.over b6
  have key : ∀ {u : Value} {s t : Nat} {cs : List Value}, Rep (fun b => wl.drew.heap.size ≤ b) w5 u s t cs → Rep (fun b => B ≤ b ∧ some b ≠ lv.ownBlock) (w5.alloc (.cells #[.int .i64 x.1, .int .i64 x.2.k, .int .i64 x.2.i, .int .i64 x.2.v, .int .i64 x.2.n, z1, z2] 82)) u s t cs := fun hr => (hr.over c6).mono fun b _ hb => by
    have hb' : wl.heap.size ≤ b := hb
    exact ⟨by omega, fun e => by have := (World.ownsRow.lt HQ.out.own b e.symm).2; omega⟩
  have HR := hide (show _ ∧ _ from ⟨key r1, key r2⟩)
  have oc : z1.oneCell' = true ∧ z2.oneCell' = true := by
    obtain ⟨_, _, _, e1, _⟩ := r1
    obtain ⟨_, _, _, e2, _⟩ := r2
    rw [e1, e2]
    exact ⟨rfl, rfl⟩
  clear key r1 r2 hb5 b5 c6 hF HY
  generalize w5.heap.size = a8 at *
  generalize w5.alloc (.cells #[.int .i64 x.1, .int .i64 x.2.k, .int .i64 x.2.i, .int .i64 x.2.v, .int .i64 x.2.n, z1, z2] 82) = w6 at *
  refine Od.anyC_last (by kernel_rfl) rfl (fun K hK => ?_)
  refine step_append_lies _ rfl _ _ 45 rfl B 82 i0 _ 7 88 Tryz.underlying45 hi hz0 hz1 hz2 rfl (by decide) lv q.length (quL q z) rfl q6.own ⟨a8, 0, none⟩ 1 1 (akL x (z1, z2)) rfl rfl ?_ ?_ (by decide) bq (by omega) (Nat.le_trans hB b6.size) w6.heap.size rfl ?_
  · intro j u hu
    rw [Addr.add_lit, Nat.zero_add, D6.cell]
    simpa [akL] using hu
  · intro u hu
    simp only [akL, List.mem_cons, List.not_mem_nil, or_false] at hu
    rcases hu with rfl | rfl | rfl | rfl | rfl | rfl | rfl <;> first | rfl | exact oc.1 | exact oc.2
  intro g8 cap w7 ho7 hg7 hat _
  refine hK _ _ ?_
  clear hK K
  have q7 := q6.app (x := x) (y := (z1, z2)) HR.out ho7 hg7 hat
  have b7 : Below B wl w7 := (b6.mono hB).grown hg7 (Nat.le_trans hB b6.size) (fun k hk => (World.ownsRow.lt q6.own k hk).1)
  clear ho7 hg7 hat q6 HR D6
  go_simp
  refine Od.any_at (i := 9) (v := .slice (some ⟨g8, 0, none⟩) (q.length + 1) cap) (some 5) rfl rfl (by kernel_rfl) (by kernel_rfl) (by kernel_rfl) (fun _ _ _ h => h) (Or.inl ⟨by rfl, ?_⟩) ?_
  · intro wx; go_simp
  simp only [Act.put, List.setIfInBounds_toArray, List.set_cons_zero, List.set_cons_succ]
  refine wpAny_done (by kernel_rfl) ?_ _
  exact NoPanic.normal (HK.out _ _ _ _ _ _ _ _ _ _ _ w7 b7 q7)
end Go.Proofs.YtkhlihpghbhppaaGreat.Pv

