/- Parts of the proof: PV0 PVK PV7 PV13. -/
import Derived.Test.YtjghbciepinofaaGreatRows
import Derived.Test.YtjghbciepinofaaGreatPEK20
import Derived.Test.YtjghbciepinofaaGreatPEK21
import Derived.Test.YtjghbciepinofaaGreatPEK23
import Derived.Test.YtjghbciepinofaaGreatPEK24
import Derived.Test.YtjghbciepinofaaGreatPEK31
import Derived.Deep.RegionHeld3
import Derived.Deep.DeepCutAuto
import Derived.Deep.AppendLies
set_option maxRecDepth 100000
namespace Go.Proofs.YtjghbciepinofaaGreat.Pv
open Go.RowKit
/-- a link of the provider, the provider -/
structure Lk where
  on : Bool
  gone : Bool
  base : Int
  told : List (Int × Int)
  fresh : Bool
  done : List Int
  out : Ln.Line
  h0 : Int
  h1 : Int
  h2 : Int
  h3 : Int
structure Pr where
  h : Int
  t : Int
  s : St
  set : List (Int × Int)
  L : Nat → Lk
  ml : Int
  mn : Int
  q : List (Int × Pkt)
/-- the slices of a link, of a provider -/
structure LkV where
  told : Value
  done : Value
  said : Value
  due : Value
structure PrV where
  ws : Value
  set : Value
  l : Nat → LkV
  q : Value
def lkL (x : Lk) (v : LkV) : List Value := [.bool x.on, .bool x.gone, .int .i64 x.base, v.told, .bool x.fresh, v.done, v.said, v.due, .int .i64 x.out.g, .bool x.out.cl, .int .i64 x.h0, .int .i64 x.h1, .int .i64 x.h2, .int .i64 x.h3]
def prC (p : Pr) (v : PrV) : Array Value := (([.int .i64 p.h, .int .i64 p.t] : List Value) ++ ((stC p.s v.ws).toList ++ (v.set :: (lkL (p.L 0) (v.l 0) ++ (lkL (p.L 1) (v.l 1) ++ [.int .i64 p.ml, .int .i64 p.mn, v.q]))))).toArray
theorem prC_size (p : Pr) (v : PrV) : (prC p v).size = 97 := rfl
/-- a packet's cells in a queue -/
def akL (x : Int × Pkt) (y : Value × Value) : List Value := [.int .i64 x.1, .int .i64 x.2.k, .int .i64 x.2.i, .int .i64 x.2.v, .int .i64 x.2.n, y.1, y.2]
def quL : List (Int × Pkt) → List (Value × Value) → List Value
  | x :: q, y :: z => akL x y ++ quL q z
  | _, _ => []
/-- a queue lies in memory -/
def QRep (P : Nat → Prop) (w : World) (v : Value) (q : List (Int × Pkt)) : Prop :=
  ∃ z : List (Value × Value), z.length = q.length ∧ Rep P w v 7 80 (quL q z) ∧ ∀ (i : Nat) (x : Int × Pkt) (y : Value × Value), q[i]? = some x → z[i]? = some y → Rep P w y.1 2 16 (pwC x.2.S) ∧ Rep P w y.2 1 8 (inC x.2.D)
structure LkIn (P : Nat → Prop) (w : World) (x : Lk) (v : LkV) : Prop where
  told : Rep P w v.told 2 16 (pwC x.told)
  done : Rep P w v.done 1 8 (inC x.done)
  said : RepC P w v.said 1 16 (txC x.out.S)
  due : RepC P w v.due 1 8 (inC x.out.D)
/-- a provider's lists lie in memory -/
structure PIn (P : Nat → Prop) (w : World) (p : Pr) (v : PrV) : Prop where
  ws : Rep P w v.ws 8 64 (wsL p.s.W)
  set : Rep P w v.set 2 16 (pwC p.set)
  lk : ∀ c, c < 2 → LkIn P w (p.L c) (v.l c)
  q : QRep P w v.q p.q
section
variable {P P' : Nat → Prop} {w w' : World}
theorem QRep.mono {v : Value} {q : List (Int × Pkt)} (h : QRep P w v q) (hp : ∀ b, b < w.heap.size → P b → P' b) : QRep P' w v q := by
  obtain ⟨z, h1, h2, h3⟩ := h
  exact ⟨z, h1, h2.mono hp, fun i x y hx hy => ⟨(h3 i x y hx hy).1.mono hp, (h3 i x y hx hy).2.mono hp⟩⟩
theorem QRep.keep {v : Value} {q : List (Int × Pkt)} (h : QRep P w v q) (hk : ∀ b, P b → b < w.heap.size → w'.heap[b]? = w.heap[b]?) : QRep P w' v q := by
  obtain ⟨z, h1, h2, h3⟩ := h
  exact ⟨z, h1, h2.keep hk, fun i x y hx hy => ⟨(h3 i x y hx hy).1.keep hk, (h3 i x y hx hy).2.keep hk⟩⟩
theorem LkIn.mono {x : Lk} {v : LkV} (h : LkIn P w x v) (hp : ∀ b, b < w.heap.size → P b → P' b) : LkIn P' w x v := ⟨h.told.mono hp, h.done.mono hp, h.said.mono hp, h.due.mono hp⟩
theorem LkIn.keep {x : Lk} {v : LkV} (h : LkIn P w x v) (hk : ∀ b, P b → b < w.heap.size → w'.heap[b]? = w.heap[b]?) : LkIn P w' x v := ⟨h.told.keep hk, h.done.keep hk, h.said.keep hk, h.due.keep hk⟩
theorem PIn.mono {p : Pr} {v : PrV} (h : PIn P w p v) (hp : ∀ b, b < w.heap.size → P b → P' b) : PIn P' w p v := ⟨h.ws.mono hp, h.set.mono hp, fun c hc => (h.lk c hc).mono hp, h.q.mono hp⟩
theorem PIn.keep {p : Pr} {v : PrV} (h : PIn P w p v) (hk : ∀ b, P b → b < w.heap.size → w'.heap[b]? = w.heap[b]?) : PIn P w' p v := ⟨h.ws.keep hk, h.set.keep hk, fun c hc => (h.lk c hc).keep hk, h.q.keep hk⟩
theorem PIn.over {p : Pr} {v : PrV} (h : PIn P w p v) (hb : Below w.heap.size w w') : PIn P w' p v := h.keep fun b _ hlt => hb.block b hlt
end
end Go.Proofs.YtjghbciepinofaaGreat.Pv

set_option maxRecDepth 100000
namespace Go.Proofs.YtjghbciepinofaaGreat.Pv
open Go.RowKit
section
variable {P : Nat → Prop} {w w' : World} {v : Value} {sz bts : Nat} {cs : List Value}
theorem Rep.wsAt {W : List Wt} (h : Rep P w v 8 64 (wsL W)) : ∃ A C b o, v = .slice A W.length C ∧ WsAt w A b o W ∧ (A = none → C = 0) ∧ (0 < W.length → P b) := by
  obtain ⟨A, n, C, h1, h2, h3, h4, h5⟩ := h
  rw [wsL_length] at h2
  have e : n = W.length := by omega
  subst e
  rcases Nat.eq_zero_or_pos W.length with h0 | h0
  · refine ⟨A, C, 0, 0, h1, ⟨fun h => by omega, h3, fun i x hx => ?_⟩, h4.1, fun h => by omega⟩
    have := (List.getElem?_eq_some_iff.1 hx).1
    omega
  · obtain ⟨b, off, rfl, hp, _, hc⟩ := h5 h0
    refine ⟨_, C, b, off, h1, ⟨fun _ => rfl, h3, fun i x hx => ?_⟩, h4.1, fun _ => hp⟩
    have k : ∀ j, j < 8 → ∀ u, (wtL x)[j]? = some u → w.cell? ⟨b, off + i * 8 + j, none⟩ = some u := fun j hj u hu => by
      rw [Nat.add_assoc]
      exact hc _ _ ((wsL_get W i x j hx hj).trans hu)
    exact ⟨k 0 (by omega) _ rfl, k 1 (by omega) _ rfl, k 2 (by omega) _ rfl, k 3 (by omega) _ rfl, k 4 (by omega) _ rfl, k 5 (by omega) _ rfl, k 6 (by omega) _ rfl, k 7 (by omega) _ rfl⟩
end
end Go.Proofs.YtjghbciepinofaaGreat.Pv

set_option maxRecDepth 100000
namespace Go.Proofs.YtjghbciepinofaaGreat.Pv
open Go.RowKit
noncomputable def cp7C : Code := subC [1, 1, 1, 0, 1, 9, 9, 1, 1, 0, 9, 1, 1] (Tryz.f16.body.getD .skip)
/-- a link's four lists, copied -/
structure Lk4 (B : Nat) (w : World) (x : Lk) (T D S U : Value) : Prop where
  told : Rep (fun b => B ≤ b) w T 2 16 (pwC x.told)
  done : Rep (fun b => B ≤ b) w D 1 8 (inC x.done)
  said : Rep (fun b => B ≤ b) w S 1 16 (txC x.out.S)
  due : Rep (fun b => B ≤ b) w U 1 8 (inC x.out.D)
set_option maxHeartbeats 8000000 in
set_option maxRecDepth 1000000 in
theorem cp7_wp (g o : Nat) (x : Lk) (v : LkV) (P : Nat → Prop) (wl : World) (hx : LkIn P wl x v) (hg : g < wl.heap.size)
    (c3 : wl.cell? ⟨g, o + 3, none⟩ = some v.told) (c5 : wl.cell? ⟨g, o + 5, none⟩ = some v.done) (c6 : wl.cell? ⟨g, o + 6, none⟩ = some v.said) (c7 : wl.cell? ⟨g, o + 7, none⟩ = some v.due) (c8 : wl.cell? ⟨g, o + 8, none⟩ = some (.int .i64 x.out.g)) (c9 : wl.cell? ⟨g, o + 9, none⟩ = some (.bool x.out.cl))
    (hz : ∀ k, k < 14 → wl.frozen? ⟨g, o + k, none⟩ = false) (v0 v1 v2 v3 v5 v6 v7 v8 v9 v10 v11 v12 v13 v14 v15 v16 v17 v18 v19 v20 v21 v22 v23 v24 v25 v26 v27 v28 v29 v30 v31 v32 v33 v34 v35 v36 v37 v38 v39 v40 v41 v42 v43 v44 v45 v46 v47 v48 v49 v50 v51 v52 v53 v54 v55 v56 v57 v58 v59 v60 v61 v62 v63 v64 v65 v66 : Value) (Q : Exit → Act → World → Prop)
    (hQ : ∀ (T D S U : Value) (t22 t23 t24 t25 t26 t27 t28 t29 t30 t31 t32 t33 t34 t35 t36 t37 t38 t39 t40 t41 t42 t43 t44 t45 : Value) (w5 : World), Below wl.heap.size wl w5 → Lk4 wl.heap.size w5 x T D S U → Q .normal ⟨List.toArray (v0 :: v1 :: v2 :: v3 :: (.pointer (some ⟨g, o, none⟩)) :: v5 :: v6 :: v7 :: v8 :: v9 :: v10 :: v11 :: v12 :: v13 :: v14 :: v15 :: v16 :: v17 :: v18 :: v19 :: v20 :: v21 :: (t22) :: (t23) :: (t24) :: (t25) :: (t26) :: (t27) :: (t28) :: (t29) :: (t30) :: (t31) :: (t32) :: (t33) :: (t34) :: (t35) :: (t36) :: (t37) :: (t38) :: (t39) :: (t40) :: (t41) :: (t42) :: (t43) :: (t44) :: (t45) :: v46 :: v47 :: v48 :: v49 :: v50 :: v51 :: v52 :: v53 :: v54 :: v55 :: v56 :: v57 :: v58 :: v59 :: v60 :: v61 :: v62 :: v63 :: v64 :: v65 :: v66 :: []), []⟩ ((((((w5.setCell ⟨g, o + 3, none⟩ T).setCell ⟨g, o + 5, none⟩ D).setCell ⟨g, o + 6, none⟩ S).setCell ⟨g, o + 7, none⟩ U).setCell ⟨g, o + 8, none⟩ (.int .i64 x.out.g)).setCell ⟨g, o + 9, none⟩ (.bool x.out.cl))) :
    Code.wp Tryz.prog cp7C Q ⟨List.toArray (v0 :: v1 :: v2 :: v3 :: (.pointer (some ⟨g, o, none⟩)) :: v5 :: v6 :: v7 :: v8 :: v9 :: v10 :: v11 :: v12 :: v13 :: v14 :: v15 :: v16 :: v17 :: v18 :: v19 :: v20 :: v21 :: v22 :: v23 :: v24 :: v25 :: v26 :: v27 :: v28 :: v29 :: v30 :: v31 :: v32 :: v33 :: v34 :: v35 :: v36 :: v37 :: v38 :: v39 :: v40 :: v41 :: v42 :: v43 :: v44 :: v45 :: v46 :: v47 :: v48 :: v49 :: v50 :: v51 :: v52 :: v53 :: v54 :: v55 :: v56 :: v57 :: v58 :: v59 :: v60 :: v61 :: v62 :: v63 :: v64 :: v65 :: v66 :: []), []⟩ wl := by
  obtain ⟨i0, hi, hz0, hz1, hz2⟩ := info_parts infoPw2
  obtain ⟨j0, hj, hy0, hy1, hy2⟩ := info_parts infoI2
  obtain ⟨vt, vd, vsd, vu⟩ := v
  have hxt : Rep P wl vt 2 16 (pwC x.told) := hx.told
  have hxd : Rep P wl vd 1 8 (inC x.done) := hx.done
  have hxs : RepC P wl vsd 1 16 (txC x.out.S) := hx.said
  have hxu : RepC P wl vu 1 8 (inC x.out.D) := hx.due
  obtain ⟨At, Ct, rfl, st, nt, -, -⟩ := hxt.open (pwC_length _) (by decide)
  obtain ⟨Ad, Cd', rfl, sd, nd, -, -⟩ := hxd.open (inC_length _) (by decide)
  obtain ⟨A1, C1, A2, C2, sb, so, db, dO, rfl, rfl, hL, -, -⟩ := RepC.line hxs hxu
  have HK := hide hQ
  dsimp only at c3 c5 c6 c7
  have hF : ∀ wx, Below wl.heap.size wl wx → wx.cell? ⟨g, o + 3, none⟩ = some (.slice At x.told.length Ct) ∧ wx.cell? ⟨g, o + 5, none⟩ = some (.slice Ad x.done.length Cd') ∧ wx.cell? ⟨g, o + 6, none⟩ = some (.slice A1 x.out.S.length C1) ∧ wx.cell? ⟨g, o + 7, none⟩ = some (.slice A2 x.out.D.length C2) ∧ wx.cell? ⟨g, o + 8, none⟩ = some (.int .i64 x.out.g) ∧ wx.cell? ⟨g, o + 9, none⟩ = some (.bool x.out.cl) := fun wx h =>
    ⟨(h.cell (p := ⟨g, o + 3, none⟩) hg).trans c3, (h.cell (p := ⟨g, o + 5, none⟩) hg).trans c5, (h.cell (p := ⟨g, o + 6, none⟩) hg).trans c6, (h.cell (p := ⟨g, o + 7, none⟩) hg).trans c7, (h.cell (p := ⟨g, o + 8, none⟩) hg).trans c8, (h.cell (p := ⟨g, o + 9, none⟩) hg).trans c9⟩
  have bT : 0 + x.told.length ≤ maxLen := by unfold maxLen; omega
  have bD : 0 + x.done.length ≤ maxLen := by unfold maxLen; omega
  clear hQ c3 c5 c6 c7 c8 c9
  conv => arg 2; whnf
  refine wp_region_noPanic ?_
  have hb : Below wl.heap.size wl wl.drew := (Below.refl _ wl).drew
  refine Od.wp_region_C (c := 17) (S := fun wx => Below wl.heap.size wl wx) (by kernel_rfl) ?_
  refine Od.anyC_free (i := 0) (v := .pointer (some ⟨g, o, none⟩)) (some 22) rfl rfl (by kernel_rfl) (by kernel_rfl) (by kernel_rfl) (by decide) (fun _ _ _ h => h) (Or.inl ⟨by rfl, ?_⟩) hb ?_
  · intro wx; go_simp
  simp only [Act.put, List.setIfInBounds_toArray, List.set_cons_zero, List.set_cons_succ]
  refine Od.anyC_free (i := 1) (v := .pointer (some ⟨g, o, none⟩)) (some 23) rfl rfl (by kernel_rfl) (by kernel_rfl) (by kernel_rfl) (by decide) (fun _ _ _ h => h) (Or.inl ⟨by rfl, ?_⟩) hb ?_
  · intro wx; go_simp
  simp only [Act.put, List.setIfInBounds_toArray, List.set_cons_zero, List.set_cons_succ]
  refine Od.anyC_free (i := 2) (v := .pointer (some ⟨g, o, none⟩)) (some 24) rfl rfl (by kernel_rfl) (by kernel_rfl) (by kernel_rfl) (by decide) (fun _ _ _ h => h) (Or.inl ⟨by rfl, ?_⟩) hb ?_
  · intro wx; go_simp
  simp only [Act.put, List.setIfInBounds_toArray, List.set_cons_zero, List.set_cons_succ]
  refine Od.anyC_free (i := 3) (v := .pointer (some ⟨g, o, none⟩)) (some 25) rfl rfl (by kernel_rfl) (by kernel_rfl) (by kernel_rfl) (by decide) (fun _ _ _ h => h) (Or.inl ⟨by rfl, ?_⟩) hb ?_
  · intro wx; go_simp
  simp only [Act.put, List.setIfInBounds_toArray, List.set_cons_zero, List.set_cons_succ]
  refine Od.anyC_free (i := 4) (v := .pointer (some ⟨g, o, none⟩)) (some 26) rfl rfl (by kernel_rfl) (by kernel_rfl) (by kernel_rfl) (by decide) (fun _ _ _ h => h) (Or.inl ⟨by rfl, ?_⟩) hb ?_
  · intro wx; go_simp
  simp only [Act.put, List.setIfInBounds_toArray, List.set_cons_zero, List.set_cons_succ]
  refine Od.anyC_free (i := 5) (v := .pointer (some ⟨g, o + 3, none⟩)) (some 27) rfl rfl (by kernel_rfl) (by kernel_rfl) (by kernel_rfl) (by decide) (fun _ _ _ h => h) (Or.inl ⟨by rfl, ?_⟩) hb ?_
  · intro wx; go_simp
  simp only [Act.put, List.setIfInBounds_toArray, List.set_cons_zero, List.set_cons_succ]
  refine Od.anyC_at (i := 6) (v := .slice At x.told.length Ct) (some 28) rfl rfl (by kernel_rfl) (by kernel_rfl) (by kernel_rfl) (by kernel_rfl) (by decide) (fun _ _ _ h => h) (Or.inl ⟨by rfl, ?_⟩) hb ?_
  · intro wx hwx; obtain ⟨l3, l5, l6, l7, l8, l9⟩ := hF wx hwx; go_simp
  simp only [Act.put, List.setIfInBounds_toArray, List.set_cons_zero, List.set_cons_succ]
  refine Od.anyC_free (i := 8) (v := .pointer (some ⟨g, o, none⟩)) (some 30) rfl rfl (by kernel_rfl) (by kernel_rfl) (by kernel_rfl) (by decide) (fun _ _ _ h => h) (Or.inl ⟨by rfl, ?_⟩) hb ?_
  · intro wx; go_simp
  simp only [Act.put, List.setIfInBounds_toArray, List.set_cons_zero, List.set_cons_succ]
  refine Od.anyC_free (i := 9) (v := .pointer (some ⟨g, o, none⟩)) (some 31) rfl rfl (by kernel_rfl) (by kernel_rfl) (by kernel_rfl) (by decide) (fun _ _ _ h => h) (Or.inl ⟨by rfl, ?_⟩) hb ?_
  · intro wx; go_simp
  simp only [Act.put, List.setIfInBounds_toArray, List.set_cons_zero, List.set_cons_succ]
  refine Od.anyC_free (i := 10) (v := .pointer (some ⟨g, o + 5, none⟩)) (some 32) rfl rfl (by kernel_rfl) (by kernel_rfl) (by kernel_rfl) (by decide) (fun _ _ _ h => h) (Or.inl ⟨by rfl, ?_⟩) hb ?_
  · intro wx; go_simp
  simp only [Act.put, List.setIfInBounds_toArray, List.set_cons_zero, List.set_cons_succ]
  refine Od.anyC_at (i := 11) (v := .slice Ad x.done.length Cd') (some 33) rfl rfl (by kernel_rfl) (by kernel_rfl) (by kernel_rfl) (by kernel_rfl) (by decide) (fun _ _ _ h => h) (Or.inl ⟨by rfl, ?_⟩) hb ?_
  · intro wx hwx; obtain ⟨l3, l5, l6, l7, l8, l9⟩ := hF wx hwx; go_simp
  simp only [Act.put, List.setIfInBounds_toArray, List.set_cons_zero, List.set_cons_succ]
  refine Od.anyC_free (i := 13) (v := .pointer (some ⟨g, o, none⟩)) (some 35) rfl rfl (by kernel_rfl) (by kernel_rfl) (by kernel_rfl) (by decide) (fun _ _ _ h => h) (Or.inl ⟨by rfl, ?_⟩) hb ?_
  · intro wx; go_simp
  simp only [Act.put, List.setIfInBounds_toArray, List.set_cons_zero, List.set_cons_succ]
  refine Od.anyC_free (i := 14) (v := .pointer (some ⟨g, o, none⟩)) (some 36) rfl rfl (by kernel_rfl) (by kernel_rfl) (by kernel_rfl) (by decide) (fun _ _ _ h => h) (Or.inl ⟨by rfl, ?_⟩) hb ?_
  · intro wx; go_simp
  simp only [Act.put, List.setIfInBounds_toArray, List.set_cons_zero, List.set_cons_succ]
  refine Od.anyC_free (i := 15) (v := .pointer (some ⟨g, o + 6, none⟩)) (some 37) rfl rfl (by kernel_rfl) (by kernel_rfl) (by kernel_rfl) (by decide) (fun _ _ _ h => h) (Or.inl ⟨by rfl, ?_⟩) hb ?_
  · intro wx; go_simp
  simp only [Act.put, List.setIfInBounds_toArray, List.set_cons_zero, List.set_cons_succ]
  refine Od.anyC_at (i := 16) (v := .agg #[.slice A1 x.out.S.length C1, .slice A2 x.out.D.length C2, .int .i64 x.out.g, .bool x.out.cl]) (some 38) rfl rfl (by kernel_rfl) (by kernel_rfl) (by kernel_rfl) (by kernel_rfl) (by decide) (fun _ _ _ h => h) (Or.inl ⟨by rfl, ?_⟩) hb ?_
  · intro wx hwx; obtain ⟨l3, l5, l6, l7, l8, l9⟩ := hF wx hwx; go_simp
  simp only [Act.put, List.setIfInBounds_toArray, List.set_cons_zero, List.set_cons_succ]
  refine Od.anyC_one (i := 7) (by kernel_rfl) rfl (by decide) (fun K hK => ?_)
  refine Ln.step_app rfl _ _ 33 rfl wl.heap.size 74 i0 _ 2 16 Tryz.underlying33 hi hz0 hz1 hz2 rfl (by decide) (.slice none 0 0) 0 [] rfl (World.ownsRow_nil _ _ _ _) At x.told.length Ct (pwC x.told) rfl (pwC_length _) nt ((hxt.over hb).cellsOf rfl) (one_pws _) bT (by omega) (Nat.le_refl _) ?_
  intro B1 E1 w5 ho5 hg5
  rw [Nat.zero_add, List.nil_append] at ho5
  have b5 : Below wl.heap.size wl w5 := hb.trans ((Below.refl _ wl.drew).grown hg5 (Nat.le_refl _) (fun k hk => by cases hk))
  have r5 : Rep (fun b => wl.heap.size ≤ b) w5 (.slice B1 x.told.length E1) 2 16 (pwC x.told) := Rep.own ho5 st
  refine hK _ _ b5 ?_
  clear hK K ho5 hg5 hb
  rw [Nat.zero_add]
  go_simp
  refine Od.anyC_one (i := 12) (by kernel_rfl) rfl (by decide) (fun K hK => ?_)
  refine Ln.step_app rfl _ _ 34 rfl w5.heap.size 3 j0 _ 1 8 Tryz.underlying34 hj hy0 hy1 hy2 rfl (by decide) (.slice none 0 0) 0 [] rfl (World.ownsRow_nil _ _ _ _) Ad x.done.length Cd' (inC x.done) rfl (inC_length _) nd ((hxd.over b5).cellsOf rfl) (one_ins _) bD (by omega) (Nat.le_refl _) ?_
  intro B2 E2 w6 ho6 hg6
  rw [Nat.zero_add, List.nil_append] at ho6
  have c6 : Below w5.heap.size w5 w6 := (Below.refl _ w5).grown hg6 (Nat.le_refl _) (fun k hk => by cases hk)
  have b6 : Below wl.heap.size wl w6 := b5.trans (c6.mono b5.size)
  have r6 : Rep (fun b => wl.heap.size ≤ b) w6 (.slice B2 x.done.length E2) 1 8 (inC x.done) := (Rep.own ho6 sd).mono fun b _ h => Nat.le_trans b5.size h
  refine hK _ _ b6 ?_
  clear hK K ho6 hg6
  rw [Nat.zero_add]
  go_simp
  have q5 := r5.over c6
  refine Od.anyC_go (by kernel_rfl) rfl rfl (fun K hK => ?_)
  go_simp
  refine (Ln.copy_any x.out A1 A2 C1 C2 sb so db dO w6 (hL.later b6)).mono ?_
  rintro e w7 ⟨F1, G1, F2, G2, rfl, hOL, hb7⟩
  refine hK _ _ ?_
  clear hK K
  have b7 : Below wl.heap.size wl w7 := b6.trans (hb7.mono b6.size)
  have hlk : Lk4 wl.heap.size w7 x (.slice B1 x.told.length E1) (.slice B2 x.done.length E2) (.slice F1 x.out.S.length G1) (.slice F2 x.out.D.length G2) :=
    ⟨q5.over hb7, r6.over hb7, (Rep.own hOL.oS hL.hls).mono fun b _ h => by have := b6.size; omega, (Rep.own hOL.oD hL.hld).mono fun b _ h => by have := b6.size; omega⟩
  have HLK := hide hlk
  obtain ⟨l3, l5, l6, l7, l8, l9⟩ := hF w7 b7
  have z : ∀ k, k < 14 → w7.frozen? ⟨g, o + k, none⟩ = false := fun k hk => (b7.frozen (p := ⟨g, o + k, none⟩) hg).trans (hz k hk)
  have z3 := z 3 (by omega)
  have z5 := z 5 (by omega)
  have z6 := z 6 (by omega)
  have z7 := z 7 (by omega)
  have z8 := z 8 (by omega)
  have z9 := z 9 (by omega)
  clear hlk hOL hb7 z hz hF q5 r5 r6 c6 b5 b6 hL hxt hxd hxs hxu hx
  refine Od.any_at (i := 18) (v := .pointer (some ⟨g, o, none⟩)) (some 40) rfl rfl (by kernel_rfl) (by kernel_rfl) (by kernel_rfl) (fun _ _ _ h => h) (Or.inl ⟨by rfl, ?_⟩) ?_
  · intro wx; go_simp
  simp only [Act.put, List.setIfInBounds_toArray, List.set_cons_zero, List.set_cons_succ]
  refine Od.any_at (i := 19) (v := .pointer (some ⟨g, o + 3, none⟩)) (some 41) rfl rfl (by kernel_rfl) (by kernel_rfl) (by kernel_rfl) (fun _ _ _ h => h) (Or.inl ⟨by rfl, ?_⟩) ?_
  · intro wx; go_simp
  simp only [Act.put, List.setIfInBounds_toArray, List.set_cons_zero, List.set_cons_succ]
  refine Od.any_go (i := 20) (by kernel_rfl) rfl rfl (fun K hK => ?_)
  go_simp
  refine hK _ _ ?_
  clear hK K
  refine Od.any_at (i := 21) (v := .pointer (some ⟨g, o, none⟩)) (some 42) rfl rfl (by kernel_rfl) (by kernel_rfl) (by kernel_rfl) (fun _ _ _ h => h) (Or.inl ⟨by rfl, ?_⟩) ?_
  · intro wx; go_simp
  simp only [Act.put, List.setIfInBounds_toArray, List.set_cons_zero, List.set_cons_succ]
  refine Od.any_at (i := 22) (v := .pointer (some ⟨g, o + 5, none⟩)) (some 43) rfl rfl (by kernel_rfl) (by kernel_rfl) (by kernel_rfl) (fun _ _ _ h => h) (Or.inl ⟨by rfl, ?_⟩) ?_
  · intro wx; go_simp
  simp only [Act.put, List.setIfInBounds_toArray, List.set_cons_zero, List.set_cons_succ]
  refine Od.any_go (i := 23) (by kernel_rfl) rfl rfl (fun K hK => ?_)
  go_simp
  refine hK _ _ ?_
  clear hK K
  refine Od.any_at (i := 24) (v := .pointer (some ⟨g, o, none⟩)) (some 44) rfl rfl (by kernel_rfl) (by kernel_rfl) (by kernel_rfl) (fun _ _ _ h => h) (Or.inl ⟨by rfl, ?_⟩) ?_
  · intro wx; go_simp
  simp only [Act.put, List.setIfInBounds_toArray, List.set_cons_zero, List.set_cons_succ]
  refine Od.any_at (i := 25) (v := .pointer (some ⟨g, o + 6, none⟩)) (some 45) rfl rfl (by kernel_rfl) (by kernel_rfl) (by kernel_rfl) (fun _ _ _ h => h) (Or.inl ⟨by rfl, ?_⟩) ?_
  · intro wx; go_simp
  simp only [Act.put, List.setIfInBounds_toArray, List.set_cons_zero, List.set_cons_succ]
  refine Od.any_go (i := 26) (by kernel_rfl) rfl rfl (fun K hK => ?_)
  go_simp
  refine hK _ _ ?_
  clear hK K
  refine wpAny_done (by kernel_rfl) ?_ _
  exact NoPanic.normal (HK.out _ _ _ _ _ _ _ _ _ _ _ _ _ _ _ _ _ _ _ _ _ _ _ _ _ _ _ _ w7 b7 HLK.out)
end Go.Proofs.YtjghbciepinofaaGreat.Pv

set_option maxRecDepth 100000
namespace Go.Proofs.YtjghbciepinofaaGreat.Pv
open Go.RowKit
theorem quL_length : ∀ (q : List (Int × Pkt)) (z : List (Value × Value)), z.length = q.length → (quL q z).length = q.length * 7
  | [], [], _ => rfl
  | x :: q, y :: z, h => by
    have := quL_length q z (by simpa using h)
    show (akL x y ++ quL q z).length = _
    rw [List.length_append, this, List.length_cons]
    show 7 + _ = _
    omega
  | [], _ :: _, h => by simp at h
  | _ :: _, [], h => by simp at h
theorem quL_app : ∀ (q : List (Int × Pkt)) (z : List (Value × Value)) (x : Int × Pkt) (y : Value × Value), z.length = q.length → quL (q ++ [x]) (z ++ [y]) = quL q z ++ akL x y
  | [], [], x, y, _ => by simp [quL]
  | a :: q, b :: z, x, y, h => by
    show akL a b ++ quL (q ++ [x]) (z ++ [y]) = (akL a b ++ quL q z) ++ _
    rw [quL_app q z x y (by simpa using h), List.append_assoc]
  | [], _ :: _, _, _, h => by simp at h
  | _ :: _, [], _, _, h => by simp at h
theorem quL_get : ∀ (q : List (Int × Pkt)) (z : List (Value × Value)) (i : Nat) (x : Int × Pkt) (y : Value × Value) (j : Nat), q[i]? = some x → z[i]? = some y → j < 7 → (quL q z)[i * 7 + j]? = (akL x y)[j]?
  | a :: q, b :: z, 0, x, y, j, h1, h2, hj => by
    simp at h1 h2
    subst h1 h2
    show (akL a b ++ quL q z)[0 * 7 + j]? = _
    rw [Nat.zero_mul, Nat.zero_add, List.getElem?_append_left (by exact hj)]
  | a :: q, b :: z, i + 1, x, y, j, h1, h2, hj => by
    show (akL a b ++ quL q z)[(i + 1) * 7 + j]? = _
    rw [List.getElem?_append_right (by show 7 ≤ _; omega)]
    rw [show (i + 1) * 7 + j - (akL a b).length = i * 7 + j by show (i + 1) * 7 + j - 7 = _; omega]
    exact quL_get q z i x y j (by simpa using h1) (by simpa using h2) hj
  | [], _, i, _, _, _, h1, _, _ => by simp at h1
  | _ :: _, [], i, _, _, _, _, h2, _ => by simp at h2
/-- a queue in a row of the call's own, its packets' lists elsewhere -/
structure QOwn (B : Nat) (w : World) (v : Value) (q : List (Int × Pkt)) (z : List (Value × Value)) : Prop where
  len : z.length = q.length
  own : w.ownsRow B 79 7 v q.length (quL q z)
  ins : ∀ (i : Nat) (x : Int × Pkt) (y : Value × Value), q[i]? = some x → z[i]? = some y → Rep (fun b => B ≤ b ∧ some b ≠ v.ownBlock) w y.1 2 16 (pwC x.2.S) ∧ Rep (fun b => B ≤ b ∧ some b ≠ v.ownBlock) w y.2 1 8 (inC x.2.D)
theorem QOwn.nil (B : Nat) (w : World) : QOwn B w (.slice none 0 0) [] [] := ⟨rfl, World.ownsRow_nil _ _ _ _, fun i x y h => by simp at h⟩
theorem QOwn.over {B : Nat} {w w' : World} {v : Value} {q : List (Int × Pkt)} {z : List (Value × Value)} (h : QOwn B w v q z) (hb : Below w.heap.size w w') : QOwn B w' v q z :=
  ⟨h.len, Ln.own_over h.own hb, fun i x y hx hy => ⟨(h.ins i x y hx hy).1.over hb, (h.ins i x y hx hy).2.over hb⟩⟩
theorem QOwn.rep {B : Nat} {w : World} {v : Value} {q : List (Int × Pkt)} {z : List (Value × Value)} (h : QOwn B w v q z) (hl : q.length * 88 ≤ 140737488351232) : QRep (fun b => B ≤ b) w v q :=
  ⟨z, h.len, Rep.own h.own (by omega), fun i x y hx hy => ⟨(h.ins i x y hx hy).1.mono fun _ _ hb => hb.1, (h.ins i x y hx hy).2.mono fun _ _ hb => hb.1⟩⟩
/-- one more is put behind -/
theorem QOwn.app {B : Nat} {w w' : World} {v : Value} {q : List (Int × Pkt)} {z : List (Value × Value)} (h : QOwn B w v q z) {x : Int × Pkt} {y : Value × Value} (hy : Rep (fun b => B ≤ b ∧ some b ≠ v.ownBlock) w y.1 2 16 (pwC x.2.S) ∧ Rep (fun b => B ≤ b ∧ some b ≠ v.ownBlock) w y.2 1 8 (inC x.2.D))
    {g cap : Nat} (ho : w'.ownsRow B 79 7 (.slice (some ⟨g, 0, none⟩) (q.length + 1) cap) (q.length + 1) (quL q z ++ akL x y)) (hg : w.grownBy w' v.ownBlock) (hat : v.ownBlock = some g ∨ g = w.heap.size) :
    QOwn B w' (.slice (some ⟨g, 0, none⟩) (q.length + 1) cap) (q ++ [x]) (z ++ [y]) := by
  have key : ∀ {u : Value} {s t : Nat} {cs : List Value}, Rep (fun b => B ≤ b ∧ some b ≠ v.ownBlock) w u s t cs → Rep (fun b => B ≤ b ∧ some b ≠ (Value.slice (some ⟨g, 0, none⟩) (q.length + 1) cap).ownBlock) w' u s t cs := fun hr => by
    have h1 := hr.keep (w' := w') fun b hb hlt => hg.block b hlt hb.2
    have h2 : Rep (fun b => (B ≤ b ∧ some b ≠ v.ownBlock) ∧ b < w.heap.size) w _ _ _ _ := hr.mono fun b hlt hb => ⟨hb, hlt⟩
    have h3 := h2.keep (w' := w') fun b hb hlt => hg.block b hlt hb.1.2
    refine h3.mono fun b _ hb => ⟨hb.1.1, fun e => ?_⟩
    have e' : b = g := by simpa [Value.ownBlock] using e
    subst e'
    rcases hat with hat | hat
    · exact hb.1.2 hat.symm
    · have := hb.2; omega
  refine ⟨by simp [h.len], by rw [quL_app q z x y h.len, List.length_append]; exact ho, fun i a b ha hb => ?_⟩
  by_cases hi : i < q.length
  · rw [List.getElem?_append_left hi] at ha
    rw [List.getElem?_append_left (by rw [h.len]; exact hi)] at hb
    exact ⟨key (h.ins i a b ha hb).1, key (h.ins i a b ha hb).2⟩
  · rw [List.getElem?_append_right (by omega)] at ha
    rw [List.getElem?_append_right (by rw [h.len]; omega), h.len] at hb
    rcases Nat.eq_zero_or_pos (i - q.length) with h0 | h0
    · rw [h0] at ha hb
      simp at ha hb
      subst ha hb
      exact ⟨key hy.1, key hy.2⟩
    · rw [List.getElem?_eq_none (by simp; omega)] at ha
      cases ha
noncomputable def cp13C : Code := subC [1, 1, 1, 1, 1, 0, 1, 9, 9, 1, 1, 0, 9, 1] (Tryz.f16.body.getD .skip)
theorem infoAs : (Tryz.prog.info? 79).map (fun i => (i.zero, i.size, i.bytes)) = some (some (.agg #[.int .i64 0, .int .i64 0, .int .i64 0, .int .i64 0, .int .i64 0, .slice none 0 0, .slice none 0 0]), 7, 88) := by kernel_rfl
set_option maxHeartbeats 8000000 in
set_option maxRecDepth 1000000 in
theorem cp13_wp (B a7 : Nat) (lv : Value) (q : List (Int × Pkt)) (z : List (Value × Value)) (x : Int × Pkt) (y : Value × Value) (P : Nat → Prop) (wl : World) (hq : QOwn B wl lv q z) (hB : B ≤ wl.heap.size) (hl : (q.length + 1) * 88 ≤ 140737488351232)
    (hy : Rep P wl y.1 2 16 (pwC x.2.S) ∧ Rep P wl y.2 1 8 (inC x.2.D)) (h7 : CAt 79 wl a7 #[.int .i64 x.1, .int .i64 x.2.k, .int .i64 x.2.i, .int .i64 x.2.v, .int .i64 x.2.n, y.1, y.2]) (v0 v1 v2 v3 v4 v6 v8 v9 v10 v11 v12 v13 v14 v15 v16 v17 v18 v19 v20 v21 v22 v23 v24 v25 v26 v27 v28 v29 v30 v31 v32 v33 v34 v35 v36 v37 v38 v39 v40 v41 v42 v43 v44 v45 v46 v47 v48 v49 v50 v51 v52 v53 v54 v55 v56 v57 v58 v59 v60 v61 v62 v63 v64 v65 v66 : Value) (Q : Exit → Act → World → Prop)
    (hQ : ∀ (lv' : Value) (z' : List (Value × Value)) (t54 t55 t56 t57 t58 t59 t60 t61 t62 : Value) (w5 : World), Below B wl w5 → QOwn B w5 lv' (q ++ [x]) z' → Q .normal ⟨List.toArray (v0 :: v1 :: v2 :: v3 :: v4 :: (lv') :: v6 :: (.pointer (some ⟨a7, 0, none⟩)) :: v8 :: v9 :: v10 :: v11 :: v12 :: v13 :: v14 :: v15 :: v16 :: v17 :: v18 :: v19 :: v20 :: v21 :: v22 :: v23 :: v24 :: v25 :: v26 :: v27 :: v28 :: v29 :: v30 :: v31 :: v32 :: v33 :: v34 :: v35 :: v36 :: v37 :: v38 :: v39 :: v40 :: v41 :: v42 :: v43 :: v44 :: v45 :: v46 :: v47 :: v48 :: v49 :: v50 :: v51 :: v52 :: v53 :: (t54) :: (t55) :: (t56) :: (t57) :: (t58) :: (t59) :: (t60) :: (t61) :: (t62) :: v63 :: v64 :: v65 :: v66 :: []), []⟩ w5) :
    Code.wp Tryz.prog cp13C Q ⟨List.toArray (v0 :: v1 :: v2 :: v3 :: v4 :: (lv) :: v6 :: (.pointer (some ⟨a7, 0, none⟩)) :: v8 :: v9 :: v10 :: v11 :: v12 :: v13 :: v14 :: v15 :: v16 :: v17 :: v18 :: v19 :: v20 :: v21 :: v22 :: v23 :: v24 :: v25 :: v26 :: v27 :: v28 :: v29 :: v30 :: v31 :: v32 :: v33 :: v34 :: v35 :: v36 :: v37 :: v38 :: v39 :: v40 :: v41 :: v42 :: v43 :: v44 :: v45 :: v46 :: v47 :: v48 :: v49 :: v50 :: v51 :: v52 :: v53 :: v54 :: v55 :: v56 :: v57 :: v58 :: v59 :: v60 :: v61 :: v62 :: v63 :: v64 :: v65 :: v66 :: []), []⟩ wl := by
  obtain ⟨i0, hi, hz0, hz1, hz2⟩ := info_parts infoAs
  have HK := hide hQ
  have HQ := hide hq
  have HY := hide hy
  have hF : ∀ wx, Below wl.heap.size wl wx → wx.cell? ⟨a7, 0, none⟩ = some (.int .i64 x.1) ∧ wx.cell? ⟨a7, 1, none⟩ = some (.int .i64 x.2.k) ∧ wx.cell? ⟨a7, 2, none⟩ = some (.int .i64 x.2.i) ∧ wx.cell? ⟨a7, 3, none⟩ = some (.int .i64 x.2.v) ∧ wx.cell? ⟨a7, 4, none⟩ = some (.int .i64 x.2.n) ∧ wx.cell? ⟨a7, 5, none⟩ = some y.1 ∧ wx.cell? ⟨a7, 6, none⟩ = some y.2 := fun wx h =>
    ⟨(h7.over h).cell 0, (h7.over h).cell 1, (h7.over h).cell 2, (h7.over h).cell 3, (h7.over h).cell 4, (h7.over h).cell 5, (h7.over h).cell 6⟩
  have hoc : y.1.oneCell' = true ∧ y.2.oneCell' = true := by
    obtain ⟨⟨_, _, _, e1, _⟩, ⟨_, _, _, e2, _⟩⟩ := hy
    rw [e1, e2]
    exact ⟨rfl, rfl⟩
  have bq : q.length + 1 ≤ maxLen := by unfold maxLen; omega
  have hnq := hq.own.1
  clear hQ hq hy h7
  obtain ⟨y1, y2⟩ := y
  dsimp only at hF hoc
  conv => arg 2; whnf
  refine wp_region_noPanic ?_
  have hb : Below wl.heap.size wl wl.drew := (Below.refl _ wl).drew
  refine Od.wp_region_C (c := 8) (S := fun wx => Below wl.heap.size wl wx) (by kernel_rfl) ?_
  refine Od.anyC_free (i := 0) (v := lv) (some 54) rfl rfl (by kernel_rfl) (by kernel_rfl) (by kernel_rfl) (by decide) (fun _ _ _ h => h) (Or.inl ⟨by rfl, ?_⟩) hb ?_
  · intro wx; go_simp
  simp only [Act.put, List.setIfInBounds_toArray, List.set_cons_zero, List.set_cons_succ]
  refine Od.anyC_free (i := 1) (v := .pointer (some ⟨a7, 0, none⟩)) (some 55) rfl rfl (by kernel_rfl) (by kernel_rfl) (by kernel_rfl) (by decide) (fun _ _ _ h => h) (Or.inl ⟨by rfl, ?_⟩) hb ?_
  · intro wx; go_simp
  simp only [Act.put, List.setIfInBounds_toArray, List.set_cons_zero, List.set_cons_succ]
  refine Od.anyC_free (i := 3) (v := .pointer (some ⟨a7, 1, none⟩)) (some 57) rfl rfl (by kernel_rfl) (by kernel_rfl) (by kernel_rfl) (by decide) (fun _ _ _ h => h) (Or.inl ⟨by rfl, ?_⟩) hb ?_
  · intro wx; go_simp
  simp only [Act.put, List.setIfInBounds_toArray, List.set_cons_zero, List.set_cons_succ]
  refine Od.anyC_at (i := 2) (v := .int .i64 x.1) (some 56) rfl rfl (by kernel_rfl) (by kernel_rfl) (by kernel_rfl) (by kernel_rfl) (by decide) (fun _ _ _ h => h) (Or.inl ⟨by rfl, ?_⟩) hb ?_
  · intro wx hwx; obtain ⟨l0, l1, l2, l3, l4, l5, l6⟩ := hF wx hwx; go_simp
  simp only [Act.put, List.setIfInBounds_toArray, List.set_cons_zero, List.set_cons_succ]
  refine Od.anyC_at (i := 4) (v := .agg #[.int .i64 x.2.k, .int .i64 x.2.i, .int .i64 x.2.v, .int .i64 x.2.n, y1, y2]) (some 58) rfl rfl (by kernel_rfl) (by kernel_rfl) (by kernel_rfl) (by kernel_rfl) (by decide) (fun _ _ _ h => h) (Or.inl ⟨by rfl, ?_⟩) hb ?_
  · intro wx hwx; obtain ⟨l0, l1, l2, l3, l4, l5, l6⟩ := hF wx hwx; go_simp
  simp only [Act.put, List.setIfInBounds_toArray, List.set_cons_zero, List.set_cons_succ]
  refine Od.anyC_one (i := 5) (by kernel_rfl) rfl (by decide) (fun K hK => ?_)
  rw [if_pos (by rfl)]
  go_simp
  refine (copyk_rep x.2.k x.2.i x.2.v x.2.n x.2.S x.2.D y1 y2 P wl.drew (HY.out.1.over hb) (HY.out.2.over hb)).mono ?_
  rintro e w5 ⟨z1, z2, rfl, r1, r2, hb5⟩
  have b5 : Below wl.heap.size wl w5 := hb.trans hb5
  refine hK _ _ b5 ?_
  clear hK K hb
  have hb := b5
  refine Od.anyC_free (i := 6) (v := .agg #[.int .i64 x.1, .int .i64 x.2.k, .int .i64 x.2.i, .int .i64 x.2.v, .int .i64 x.2.n, z1, z2]) (some 60) rfl rfl (by kernel_rfl) (by kernel_rfl) (by kernel_rfl) (by decide) (fun _ _ _ h => h) (Or.inl ⟨by rfl, ?_⟩) hb ?_
  · intro wx; go_simp
  simp only [Act.put, List.setIfInBounds_toArray, List.set_cons_zero, List.set_cons_succ]
  refine Od.anyC_one (i := 7) (by kernel_rfl) rfl (by decide) (fun K hK => ?_)
  rw [if_pos (by rfl)]
  go_simp
  have b6 : Below wl.heap.size wl (w5.alloc (.cells #[.int .i64 x.1, .int .i64 x.2.k, .int .i64 x.2.i, .int .i64 x.2.v, .int .i64 x.2.n, z1, z2] 79)) := b5.alloc b5.size _
  refine hK _ _ b6 ?_
  clear hK K hb
  have c6 : Below w5.heap.size w5 (w5.alloc (.cells #[.int .i64 x.1, .int .i64 x.2.k, .int .i64 x.2.i, .int .i64 x.2.v, .int .i64 x.2.n, z1, z2] 79)) := (Below.refl _ w5).alloc (Nat.le_refl _) _
  have D6 := CAt.new 79 w5 #[.int .i64 x.1, .int .i64 x.2.k, .int .i64 x.2.i, .int .i64 x.2.v, .int .i64 x.2.n, z1, z2]
  have q6 := HQ.out.over b6
  have key : ∀ {u : Value} {s t : Nat} {cs : List Value}, Rep (fun b => wl.drew.heap.size ≤ b) w5 u s t cs → Rep (fun b => B ≤ b ∧ some b ≠ lv.ownBlock) (w5.alloc (.cells #[.int .i64 x.1, .int .i64 x.2.k, .int .i64 x.2.i, .int .i64 x.2.v, .int .i64 x.2.n, z1, z2] 79)) u s t cs := fun hr => (hr.over c6).mono fun b _ hb => by
    have hb' : wl.heap.size ≤ b := hb
    exact ⟨by omega, fun e => by have := (World.ownsRow.lt HQ.out.own b e.symm).2; omega⟩
  have HR := hide (show _ ∧ _ from ⟨key r1, key r2⟩)
  have oc : z1.oneCell' = true ∧ z2.oneCell' = true := by
    obtain ⟨_, _, _, e1, _⟩ := r1
    obtain ⟨_, _, _, e2, _⟩ := r2
    rw [e1, e2]
    exact ⟨rfl, rfl⟩
  clear key r1 r2 hb5 b5 c6 hF HY
  generalize w5.heap.size = a8 at *
  generalize w5.alloc (.cells #[.int .i64 x.1, .int .i64 x.2.k, .int .i64 x.2.i, .int .i64 x.2.v, .int .i64 x.2.n, z1, z2] 79) = w6 at *
  refine Od.anyC_last (by kernel_rfl) rfl (fun K hK => ?_)
  refine step_append_lies _ rfl _ _ 45 rfl B 79 i0 _ 7 88 Tryz.underlying45 hi hz0 hz1 hz2 rfl (by decide) lv q.length (quL q z) rfl q6.own ⟨a8, 0, none⟩ 1 1 (akL x (z1, z2)) rfl rfl ?_ ?_ (by decide) bq (by omega) (Nat.le_trans hB b6.size) w6.heap.size rfl ?_
  · intro j u hu
    rw [Addr.add_lit, Nat.zero_add, D6.cell]
    simpa [akL] using hu
  · intro u hu
    simp only [akL, List.mem_cons, List.not_mem_nil, or_false] at hu
    rcases hu with rfl | rfl | rfl | rfl | rfl | rfl | rfl <;> first | rfl | exact oc.1 | exact oc.2
  intro g8 cap w7 ho7 hg7 hat _
  refine hK _ _ ?_
  clear hK K
  have q7 := q6.app (x := x) (y := (z1, z2)) HR.out ho7 hg7 hat
  have b7 : Below B wl w7 := (b6.mono hB).grown hg7 (Nat.le_trans hB b6.size) (fun k hk => (World.ownsRow.lt q6.own k hk).1)
  clear ho7 hg7 hat q6 HR D6
  go_simp
  refine Od.any_at (i := 9) (v := .slice (some ⟨g8, 0, none⟩) (q.length + 1) cap) (some 5) rfl rfl (by kernel_rfl) (by kernel_rfl) (by kernel_rfl) (fun _ _ _ h => h) (Or.inl ⟨by rfl, ?_⟩) ?_
  · intro wx; go_simp
  simp only [Act.put, List.setIfInBounds_toArray, List.set_cons_zero, List.set_cons_succ]
  refine wpAny_done (by kernel_rfl) ?_ _
  exact NoPanic.normal (HK.out _ _ _ _ _ _ _ _ _ _ _ w7 b7 q7)
end Go.Proofs.YtjghbciepinofaaGreat.Pv

