/- Parts of the proof: PKR PKS PLK. -/
import Derived.Test.YtjghbciepinofaaGreatRows
import Derived.Test.YtjghbciepinofaaGreatPK31
import Derived.Test.YtjghbciepinofaaGreatPK32
import Derived.Test.YtjghbciepinofaaGreatPK33
import Derived.Test.YtjghbciepinofaaGreatPK38
import Derived.Test.YtjghbciepinofaaGreatPK48
import Derived.Test.YtjghbciepinofaaGreatPK49
import Derived.Test.YtjghbciepinofaaGreatPK50
set_option maxRecDepth 100000
namespace Go.Proofs.YtjghbciepinofaaGreat.Pv
open Go.RowKit
def loadB (a : Value) : Sem Value := Instr.loadAt 24 a
theorem loadB_eq (a : Value) : Instr.loadAt 24 a = loadB a := rfl
theorem infoBk : (Tryz.prog.info? 24).map (·.size) = some 7 := by kernel_rfl
theorem pr_loadB {w : World} {g : Nat} {p : Pr} {v : PrV} (h : CAt 47 w g (prC p v)) : (loadB (.pointer (some ⟨g, 2, none⟩))).run Tryz.prog w = .ok (.agg #[.int .i64 p.s.b.f0, .int .i64 p.s.b.f1, .int .i64 p.s.b.f2, .int .i64 p.s.b.f3, .int .i64 p.s.b.bo, .int .i64 p.s.b.wa, .int .i64 p.s.b.bu]) w := by
  have hr : w.rangeAt g 2 [.int .i64 p.s.b.f0, .int .i64 p.s.b.f1, .int .i64 p.s.b.f2, .int .i64 p.s.b.f3, .int .i64 p.s.b.bo, .int .i64 p.s.b.wa, .int .i64 p.s.b.bu] := h.part fun j x hj => by
    have hl := (List.getElem?_eq_some_iff.1 hj).1
    have hl' : j < 7 := by simpa using hl
    rcases (show j = 0 ∨ j = 1 ∨ j = 2 ∨ j = 3 ∨ j = 4 ∨ j = 5 ∨ j = 6 by omega) with rfl | rfl | rfl | rfl | rfl | rfl | rfl <;> exact hj
  have := run_loadAt_mid (P := Tryz.prog) w g 2 24 _ _ hr Tryz.underlying24 rfl (by rw [infoBk]; rfl)
  change (Instr.loadAt 24 _).run Tryz.prog w = _
  simpa using this
noncomputable def keep4C : Code := subC [1, 1, 1, 0, 0] (Tryz.f4.body.getD .skip)
attribute [local go_sem ↓] loadS_eq loadP_eq storeP_eq storeS_eq loadB_eq
set_option maxRecDepth 1000000 in
set_option maxHeartbeats 16000000 in
theorem keep4 (p a : Pr) (v va : PrV) (wl : World) (b0 g5 : Nat) (now : Int) (Aa Aq Ap : Option Addr) (na Ca nq Cq np Cp : Nat) (hh : a.h = p.h + 1) (hnq : nq ≤ np)
    (HF : Hid (∀ wx, Below wl.heap.size wl wx → (loadP (.pointer (some ⟨b0, 0, none⟩))).run Tryz.prog wx = .ok (.agg (prC p v)) wx ∧ wx.cell? ⟨g5, 0, none⟩ = some (.int .i64 a.h) ∧ wx.cell? ⟨b0, 0, none⟩ = some (.int .i64 p.h) ∧ wx.cell? ⟨g5, 1, none⟩ = some (.int .i64 now) ∧ (loadB (.pointer (some ⟨g5, 2, none⟩))).run Tryz.prog wx = .ok (.agg #[.int .i64 a.s.b.f0, .int .i64 a.s.b.f1, .int .i64 a.s.b.f2, .int .i64 a.s.b.f3, .int .i64 a.s.b.bo, .int .i64 a.s.b.wa, .int .i64 a.s.b.bu]) wx ∧ (loadB (.pointer (some ⟨b0, 2, none⟩))).run Tryz.prog wx = .ok (.agg #[.int .i64 p.s.b.f0, .int .i64 p.s.b.f1, .int .i64 p.s.b.f2, .int .i64 p.s.b.f3, .int .i64 p.s.b.bo, .int .i64 p.s.b.wa, .int .i64 p.s.b.bu]) wx ∧ wx.cell? ⟨g5, 65, none⟩ = some (.slice Aa na Ca) ∧ (loadS (.pointer (some ⟨g5, 2, none⟩))).run Tryz.prog wx = .ok (.agg (stC a.s va.ws)) wx ∧ wx.cell? ⟨g5, 96, none⟩ = some (.slice Aq nq Cq) ∧ wx.cell? ⟨b0, 96, none⟩ = some (.slice Ap np Cp)))
    (HGP : Hid (∀ wx, Below wl.heap.size wl wx → Calls Tryz.prog 10 #[.agg (prC p v)] wx fun e w' => e = .returned (.bool true) ∧ Below wx.heap.size wx w'))
    (HS1 : Hid (∀ wx, Calls Tryz.prog 11 #[(.agg #[.int .i64 a.s.b.f0, .int .i64 a.s.b.f1, .int .i64 a.s.b.f2, .int .i64 a.s.b.f3, .int .i64 a.s.b.bo, .int .i64 a.s.b.wa, .int .i64 a.s.b.bu])] wx fun e w' => e = .returned (.int .i64 400000) ∧ Below wx.heap.size wx w'))
    (HS2 : Hid (∀ wx, Calls Tryz.prog 11 #[(.agg #[.int .i64 p.s.b.f0, .int .i64 p.s.b.f1, .int .i64 p.s.b.f2, .int .i64 p.s.b.f3, .int .i64 p.s.b.bo, .int .i64 p.s.b.wa, .int .i64 p.s.b.bu])] wx fun e w' => e = .returned (.int .i64 400000) ∧ Below wx.heap.size wx w'))
    (HST : Hid (∀ wx, Calls Tryz.prog 13 #[.agg (stC a.s va.ws)] wx fun e w' => ∃ u, e = .returned u ∧ Rep (fun b => wx.heap.size ≤ b) w' u 2 16 (pwC a.set) ∧ Below wx.heap.size wx w'))
    (HSP : Hid (∀ wx, Below wl.heap.size wl wx → ∀ (u : Value) (P : Nat → Prop), Rep P wx u 2 16 (pwC a.set) → Calls Tryz.prog 12 #[.slice Aa na Ca, u] wx fun e w' => e = .returned (.bool true) ∧ Below wx.heap.size wx w'))
    (v0 v3 v4 v6 v7 v13 v14 v15 v16 v17 v18 v19 v20 v21 v22 v23 v24 v25 v26 v27 v28 v29 v30 v31 : Value) {Q : Exit → Act → World → Prop} (hQ : ∀ (Au : Option Addr) (nu Cu : Nat) (wz : World), Below wl.heap.size wl wz → Q .normal ⟨List.toArray (v0 :: (.int .i64 now) :: (.pointer (some ⟨b0, 0, none⟩)) :: v3 :: v4 :: (.pointer (some ⟨g5, 0, none⟩)) :: v6 :: v7 :: undef :: undef :: undef :: undef :: undef :: v13 :: v14 :: v15 :: v16 :: v17 :: v18 :: v19 :: v20 :: v21 :: v22 :: v23 :: v24 :: v25 :: v26 :: v27 :: v28 :: v29 :: v30 :: v31 :: (.agg (prC p v)) :: (.bool true) :: (.bool false) :: (.bool false) :: (.pointer (some ⟨g5, 0, none⟩)) :: (.int .i64 a.h) :: (.pointer (some ⟨b0, 0, none⟩)) :: (.int .i64 p.h) :: (.int .i64 1) :: (.bool false) :: (.bool false) :: (.bool false) :: (.pointer (some ⟨g5, 1, none⟩)) :: (.int .i64 now) :: (.int .i64 now) :: (.bool false) :: (.bool false) :: (.bool false) :: (.pointer (some ⟨g5, 2, none⟩)) :: (.pointer (some ⟨g5, 2, none⟩)) :: (.agg #[.int .i64 a.s.b.f0, .int .i64 a.s.b.f1, .int .i64 a.s.b.f2, .int .i64 a.s.b.f3, .int .i64 a.s.b.bo, .int .i64 a.s.b.wa, .int .i64 a.s.b.bu]) :: (.int .i64 400000) :: (.pointer (some ⟨b0, 2, none⟩)) :: (.pointer (some ⟨b0, 2, none⟩)) :: (.agg #[.int .i64 p.s.b.f0, .int .i64 p.s.b.f1, .int .i64 p.s.b.f2, .int .i64 p.s.b.f3, .int .i64 p.s.b.bo, .int .i64 p.s.b.wa, .int .i64 p.s.b.bu]) :: (.int .i64 400000) :: (.bool false) :: (.bool false) :: (.bool false) :: (.pointer (some ⟨g5, 65, none⟩)) :: (.slice Aa na Ca) :: (.pointer (some ⟨g5, 2, none⟩)) :: (.agg (stC a.s va.ws)) :: (.slice Au nu Cu) :: (.bool true) :: (.bool false) :: (.bool false) :: (.bool false) :: (.pointer (some ⟨g5, 96, none⟩)) :: (.slice Aq nq Cq) :: (.int .i64 (nq : Int)) :: (.pointer (some ⟨b0, 96, none⟩)) :: (.slice Ap np Cp) :: (.int .i64 (np : Int)) :: (.bool false) :: (.bool false) :: undef :: undef :: undef :: undef :: undef :: undef :: undef :: undef :: undef :: undef :: undef :: undef :: undef :: undef :: undef :: undef :: undef :: undef :: undef :: undef :: undef :: undef :: undef :: undef :: undef :: undef :: undef :: undef :: undef :: undef :: undef :: undef :: undef :: undef :: undef :: undef :: undef :: undef :: undef :: undef :: undef :: undef :: undef :: undef :: undef :: undef :: undef :: undef :: undef :: undef :: undef :: undef :: undef :: undef :: undef :: undef :: undef :: undef :: undef :: undef :: undef :: undef :: undef :: undef :: undef :: undef :: undef :: undef :: undef :: undef :: undef :: undef :: undef :: undef :: undef :: undef :: undef :: undef :: undef :: undef :: undef :: undef :: undef :: undef :: undef :: undef :: undef :: undef :: undef :: undef :: undef :: undef :: undef :: undef :: undef :: undef :: undef :: undef :: undef :: undef :: undef :: undef :: undef :: undef :: undef :: undef :: undef :: undef :: undef :: undef :: undef :: undef :: undef :: undef :: undef :: undef :: undef :: undef :: undef :: []), []⟩ wz) :
    Code.wp Tryz.prog keep4C Q ⟨List.toArray (v0 :: (.int .i64 now) :: (.pointer (some ⟨b0, 0, none⟩)) :: v3 :: v4 :: (.pointer (some ⟨g5, 0, none⟩)) :: v6 :: v7 :: undef :: undef :: undef :: undef :: undef :: v13 :: v14 :: v15 :: v16 :: v17 :: v18 :: v19 :: v20 :: v21 :: v22 :: v23 :: v24 :: v25 :: v26 :: v27 :: v28 :: v29 :: v30 :: v31 :: undef :: undef :: undef :: undef :: undef :: undef :: undef :: undef :: undef :: undef :: undef :: undef :: undef :: undef :: undef :: undef :: undef :: undef :: undef :: undef :: undef :: undef :: undef :: undef :: undef :: undef :: undef :: undef :: undef :: undef :: undef :: undef :: undef :: undef :: undef :: undef :: undef :: undef :: undef :: undef :: undef :: undef :: undef :: undef :: undef :: undef :: undef :: undef :: undef :: undef :: undef :: undef :: undef :: undef :: undef :: undef :: undef :: undef :: undef :: undef :: undef :: undef :: undef :: undef :: undef :: undef :: undef :: undef :: undef :: undef :: undef :: undef :: undef :: undef :: undef :: undef :: undef :: undef :: undef :: undef :: undef :: undef :: undef :: undef :: undef :: undef :: undef :: undef :: undef :: undef :: undef :: undef :: undef :: undef :: undef :: undef :: undef :: undef :: undef :: undef :: undef :: undef :: undef :: undef :: undef :: undef :: undef :: undef :: undef :: undef :: undef :: undef :: undef :: undef :: undef :: undef :: undef :: undef :: undef :: undef :: undef :: undef :: undef :: undef :: undef :: undef :: undef :: undef :: undef :: undef :: undef :: undef :: undef :: undef :: undef :: undef :: undef :: undef :: undef :: undef :: undef :: undef :: undef :: undef :: undef :: undef :: undef :: undef :: undef :: undef :: undef :: undef :: undef :: undef :: undef :: undef :: undef :: undef :: undef :: undef :: undef :: undef :: undef :: undef :: undef :: []), []⟩ wl := by
  have HK := hide hQ
  clear hQ
  have hsub : IntKind.i64.wrap (a.h - p.h) = 1 := by rw [show a.h - p.h = 1 by omega]; exact wrapI (by omega) (by omega)
  have hlen : ¬ ((np : Int) < (nq : Int)) := by omega
  have hlen' : ¬ (np < nq) := by omega
  clear hh
  conv => arg 2; whnf
  refine wp_region_noPanic ?_
  refine wp_region_held_drew (S := fun wx => Below wl.heap.size wl wx) (by kernel_rfl) (Below.refl _ _).drew (fun hS => ?_)
  refine Od.anyH_sl (i := 0) (v := (.agg (prC p v))) (some 32) rfl rfl (by kernel_rfl) (by kernel_rfl) (by kernel_rfl) (fun _ _ _ h => h) (Or.inl ⟨by rfl, fun wx hSw => ?_⟩) hS ?_
  · try dsimp only at hSw
    obtain ⟨lp, c0, d0, c1, lb, mb, c65, ls, c96, d96⟩ := HF.out wx hSw; go_simp
  simp only [Act.put, List.setIfInBounds_toArray, List.set_cons_zero, List.set_cons_succ]
  refine wpAnyH_ready (rs := [1]) (by kernel_rfl) (by simp) ?_
  refine AllReadyH.cons rfl (fun K hK => ?_) AllReadyH.nil
  go_simp
  go_at_call 10
  refine (HGP.out _ (by exact hS)).mono ?_
  rintro e w1 ⟨rfl, hb1⟩
  replace hS := hS.trans (hb1.mono hS.size)
  clear hb1
  dsimp only
  refine hK.out _ _ hS (fun hS => ?_)
  clear hK K
  try simp only [Act.put, List.setIfInBounds_toArray, List.set_cons_zero, List.set_cons_succ]
  refine Od.anyH_sl (i := 2) (v := (.bool false)) (some 34) rfl rfl (by kernel_rfl) (by kernel_rfl) (by kernel_rfl) (fun _ _ _ h => h) (Or.inl ⟨by rfl, fun wx hSw => ?_⟩) hS ?_
  · try dsimp only at hSw
    go_simp
  simp only [Act.put, List.setIfInBounds_toArray, List.set_cons_zero, List.set_cons_succ]
  refine Od.anyH_sl (i := 3) (v := (.bool false)) (some 35) rfl rfl (by kernel_rfl) (by kernel_rfl) (by kernel_rfl) (fun _ _ _ h => h) (Or.inl ⟨by rfl, fun wx hSw => ?_⟩) hS ?_
  · try dsimp only at hSw
    go_simp
  simp only [Act.put, List.setIfInBounds_toArray, List.set_cons_zero, List.set_cons_succ]
  refine Od.anyH_sl (i := 4) (v := (.pointer (some ⟨g5, 0, none⟩))) (some 36) rfl rfl (by kernel_rfl) (by kernel_rfl) (by kernel_rfl) (fun _ _ _ h => h) (Or.inl ⟨by rfl, fun wx hSw => ?_⟩) hS ?_
  · try dsimp only at hSw
    go_simp
  simp only [Act.put, List.setIfInBounds_toArray, List.set_cons_zero, List.set_cons_succ]
  refine Od.anyH_sl (i := 5) (v := (.int .i64 a.h)) (some 37) rfl rfl (by kernel_rfl) (by kernel_rfl) (by kernel_rfl) (fun _ _ _ h => h) (Or.inl ⟨by rfl, fun wx hSw => ?_⟩) hS ?_
  · try dsimp only at hSw
    obtain ⟨lp, c0, d0, c1, lb, mb, c65, ls, c96, d96⟩ := HF.out wx hSw; go_simp
  simp only [Act.put, List.setIfInBounds_toArray, List.set_cons_zero, List.set_cons_succ]
  refine Od.anyH_sl (i := 6) (v := (.pointer (some ⟨b0, 0, none⟩))) (some 38) rfl rfl (by kernel_rfl) (by kernel_rfl) (by kernel_rfl) (fun _ _ _ h => h) (Or.inl ⟨by rfl, fun wx hSw => ?_⟩) hS ?_
  · try dsimp only at hSw
    go_simp
  simp only [Act.put, List.setIfInBounds_toArray, List.set_cons_zero, List.set_cons_succ]
  refine Od.anyH_sl (i := 7) (v := (.int .i64 p.h)) (some 39) rfl rfl (by kernel_rfl) (by kernel_rfl) (by kernel_rfl) (fun _ _ _ h => h) (Or.inl ⟨by rfl, fun wx hSw => ?_⟩) hS ?_
  · try dsimp only at hSw
    obtain ⟨lp, c0, d0, c1, lb, mb, c65, ls, c96, d96⟩ := HF.out wx hSw; go_simp
  simp only [Act.put, List.setIfInBounds_toArray, List.set_cons_zero, List.set_cons_succ]
  refine Od.anyH_sl (i := 8) (v := (.int .i64 1)) (some 40) rfl rfl (by kernel_rfl) (by kernel_rfl) (by kernel_rfl) (fun _ _ _ h => h) (Or.inl ⟨by rfl, fun wx hSw => ?_⟩) hS ?_
  · try dsimp only at hSw
    go_simp
  simp only [Act.put, List.setIfInBounds_toArray, List.set_cons_zero, List.set_cons_succ]
  refine Od.anyH_sl (i := 9) (v := (.bool false)) (some 41) rfl rfl (by kernel_rfl) (by kernel_rfl) (by kernel_rfl) (fun _ _ _ h => h) (Or.inl ⟨by rfl, fun wx hSw => ?_⟩) hS ?_
  · try dsimp only at hSw
    go_simp
  simp only [Act.put, List.setIfInBounds_toArray, List.set_cons_zero, List.set_cons_succ]
  refine Od.anyH_sl (i := 10) (v := (.bool false)) (some 42) rfl rfl (by kernel_rfl) (by kernel_rfl) (by kernel_rfl) (fun _ _ _ h => h) (Or.inl ⟨by rfl, fun wx hSw => ?_⟩) hS ?_
  · try dsimp only at hSw
    go_simp
  simp only [Act.put, List.setIfInBounds_toArray, List.set_cons_zero, List.set_cons_succ]
  refine Od.anyH_sl (i := 11) (v := (.bool false)) (some 43) rfl rfl (by kernel_rfl) (by kernel_rfl) (by kernel_rfl) (fun _ _ _ h => h) (Or.inl ⟨by rfl, fun wx hSw => ?_⟩) hS ?_
  · try dsimp only at hSw
    go_simp
  simp only [Act.put, List.setIfInBounds_toArray, List.set_cons_zero, List.set_cons_succ]
  refine Od.anyH_sl (i := 12) (v := (.pointer (some ⟨g5, 1, none⟩))) (some 44) rfl rfl (by kernel_rfl) (by kernel_rfl) (by kernel_rfl) (fun _ _ _ h => h) (Or.inl ⟨by rfl, fun wx hSw => ?_⟩) hS ?_
  · try dsimp only at hSw
    go_simp
  simp only [Act.put, List.setIfInBounds_toArray, List.set_cons_zero, List.set_cons_succ]
  refine Od.anyH_sl (i := 13) (v := (.int .i64 now)) (some 45) rfl rfl (by kernel_rfl) (by kernel_rfl) (by kernel_rfl) (fun _ _ _ h => h) (Or.inl ⟨by rfl, fun wx hSw => ?_⟩) hS ?_
  · try dsimp only at hSw
    obtain ⟨lp, c0, d0, c1, lb, mb, c65, ls, c96, d96⟩ := HF.out wx hSw; go_simp
  simp only [Act.put, List.setIfInBounds_toArray, List.set_cons_zero, List.set_cons_succ]
  refine Od.anyH_sl (i := 14) (v := (.int .i64 now)) (some 46) rfl rfl (by kernel_rfl) (by kernel_rfl) (by kernel_rfl) (fun _ _ _ h => h) (Or.inl ⟨by rfl, fun wx hSw => ?_⟩) hS ?_
  · try dsimp only at hSw
    go_simp
  simp only [Act.put, List.setIfInBounds_toArray, List.set_cons_zero, List.set_cons_succ]
  refine Od.anyH_sl (i := 15) (v := (.bool false)) (some 47) rfl rfl (by kernel_rfl) (by kernel_rfl) (by kernel_rfl) (fun _ _ _ h => h) (Or.inl ⟨by rfl, fun wx hSw => ?_⟩) hS ?_
  · try dsimp only at hSw
    go_simp
  simp only [Act.put, List.setIfInBounds_toArray, List.set_cons_zero, List.set_cons_succ]
  refine Od.anyH_sl (i := 16) (v := (.bool false)) (some 48) rfl rfl (by kernel_rfl) (by kernel_rfl) (by kernel_rfl) (fun _ _ _ h => h) (Or.inl ⟨by rfl, fun wx hSw => ?_⟩) hS ?_
  · try dsimp only at hSw
    go_simp
  simp only [Act.put, List.setIfInBounds_toArray, List.set_cons_zero, List.set_cons_succ]
  refine Od.anyH_sl (i := 17) (v := (.bool false)) (some 49) rfl rfl (by kernel_rfl) (by kernel_rfl) (by kernel_rfl) (fun _ _ _ h => h) (Or.inl ⟨by rfl, fun wx hSw => ?_⟩) hS ?_
  · try dsimp only at hSw
    go_simp
  simp only [Act.put, List.setIfInBounds_toArray, List.set_cons_zero, List.set_cons_succ]
  refine Od.anyH_sl (i := 18) (v := (.pointer (some ⟨g5, 2, none⟩))) (some 50) rfl rfl (by kernel_rfl) (by kernel_rfl) (by kernel_rfl) (fun _ _ _ h => h) (Or.inl ⟨by rfl, fun wx hSw => ?_⟩) hS ?_
  · try dsimp only at hSw
    go_simp
  simp only [Act.put, List.setIfInBounds_toArray, List.set_cons_zero, List.set_cons_succ]
  refine Od.anyH_sl (i := 19) (v := (.pointer (some ⟨g5, 2, none⟩))) (some 51) rfl rfl (by kernel_rfl) (by kernel_rfl) (by kernel_rfl) (fun _ _ _ h => h) (Or.inl ⟨by rfl, fun wx hSw => ?_⟩) hS ?_
  · try dsimp only at hSw
    go_simp
  simp only [Act.put, List.setIfInBounds_toArray, List.set_cons_zero, List.set_cons_succ]
  refine Od.anyH_sl (i := 20) (v := (.agg #[.int .i64 a.s.b.f0, .int .i64 a.s.b.f1, .int .i64 a.s.b.f2, .int .i64 a.s.b.f3, .int .i64 a.s.b.bo, .int .i64 a.s.b.wa, .int .i64 a.s.b.bu])) (some 52) rfl rfl (by kernel_rfl) (by kernel_rfl) (by kernel_rfl) (fun _ _ _ h => h) (Or.inl ⟨by rfl, fun wx hSw => ?_⟩) hS ?_
  · try dsimp only at hSw
    obtain ⟨lp, c0, d0, c1, lb, mb, c65, ls, c96, d96⟩ := HF.out wx hSw; go_simp
  simp only [Act.put, List.setIfInBounds_toArray, List.set_cons_zero, List.set_cons_succ]
  refine Od.anyH_sl (i := 22) (v := (.pointer (some ⟨b0, 2, none⟩))) (some 54) rfl rfl (by kernel_rfl) (by kernel_rfl) (by kernel_rfl) (fun _ _ _ h => h) (Or.inl ⟨by rfl, fun wx hSw => ?_⟩) hS ?_
  · try dsimp only at hSw
    go_simp
  simp only [Act.put, List.setIfInBounds_toArray, List.set_cons_zero, List.set_cons_succ]
  refine Od.anyH_sl (i := 23) (v := (.pointer (some ⟨b0, 2, none⟩))) (some 55) rfl rfl (by kernel_rfl) (by kernel_rfl) (by kernel_rfl) (fun _ _ _ h => h) (Or.inl ⟨by rfl, fun wx hSw => ?_⟩) hS ?_
  · try dsimp only at hSw
    go_simp
  simp only [Act.put, List.setIfInBounds_toArray, List.set_cons_zero, List.set_cons_succ]
  refine Od.anyH_sl (i := 24) (v := (.agg #[.int .i64 p.s.b.f0, .int .i64 p.s.b.f1, .int .i64 p.s.b.f2, .int .i64 p.s.b.f3, .int .i64 p.s.b.bo, .int .i64 p.s.b.wa, .int .i64 p.s.b.bu])) (some 56) rfl rfl (by kernel_rfl) (by kernel_rfl) (by kernel_rfl) (fun _ _ _ h => h) (Or.inl ⟨by rfl, fun wx hSw => ?_⟩) hS ?_
  · try dsimp only at hSw
    obtain ⟨lp, c0, d0, c1, lb, mb, c65, ls, c96, d96⟩ := HF.out wx hSw; go_simp
  simp only [Act.put, List.setIfInBounds_toArray, List.set_cons_zero, List.set_cons_succ]
  refine wpAnyH_ready (rs := [21]) (by kernel_rfl) (by simp) ?_
  refine AllReadyH.cons rfl (fun K hK => ?_) AllReadyH.nil
  go_simp
  go_at_call 11
  refine (HS1.out _).mono ?_
  rintro e w1 ⟨rfl, hb1⟩
  replace hS := hS.trans (hb1.mono hS.size)
  clear hb1
  dsimp only
  refine hK.out _ _ hS (fun hS => ?_)
  clear hK K
  try simp only [Act.put, List.setIfInBounds_toArray, List.set_cons_zero, List.set_cons_succ]
  refine wpAnyH_ready (rs := [25]) (by kernel_rfl) (by simp) ?_
  refine AllReadyH.cons rfl (fun K hK => ?_) AllReadyH.nil
  go_simp
  go_at_call 11
  refine (HS2.out _).mono ?_
  rintro e w1 ⟨rfl, hb1⟩
  replace hS := hS.trans (hb1.mono hS.size)
  clear hb1
  dsimp only
  refine hK.out _ _ hS (fun hS => ?_)
  clear hK K
  try simp only [Act.put, List.setIfInBounds_toArray, List.set_cons_zero, List.set_cons_succ]
  refine Od.anyH_sl (i := 26) (v := (.bool false)) (some 58) rfl rfl (by kernel_rfl) (by kernel_rfl) (by kernel_rfl) (fun _ _ _ h => h) (Or.inl ⟨by rfl, fun wx hSw => ?_⟩) hS ?_
  · try dsimp only at hSw
    go_simp
  simp only [Act.put, List.setIfInBounds_toArray, List.set_cons_zero, List.set_cons_succ]
  refine Od.anyH_sl (i := 27) (v := (.bool false)) (some 59) rfl rfl (by kernel_rfl) (by kernel_rfl) (by kernel_rfl) (fun _ _ _ h => h) (Or.inl ⟨by rfl, fun wx hSw => ?_⟩) hS ?_
  · try dsimp only at hSw
    go_simp
  simp only [Act.put, List.setIfInBounds_toArray, List.set_cons_zero, List.set_cons_succ]
  refine Od.anyH_sl (i := 28) (v := (.bool false)) (some 60) rfl rfl (by kernel_rfl) (by kernel_rfl) (by kernel_rfl) (fun _ _ _ h => h) (Or.inl ⟨by rfl, fun wx hSw => ?_⟩) hS ?_
  · try dsimp only at hSw
    go_simp
  simp only [Act.put, List.setIfInBounds_toArray, List.set_cons_zero, List.set_cons_succ]
  refine Od.anyH_sl (i := 29) (v := (.pointer (some ⟨g5, 65, none⟩))) (some 61) rfl rfl (by kernel_rfl) (by kernel_rfl) (by kernel_rfl) (fun _ _ _ h => h) (Or.inl ⟨by rfl, fun wx hSw => ?_⟩) hS ?_
  · try dsimp only at hSw
    go_simp
  simp only [Act.put, List.setIfInBounds_toArray, List.set_cons_zero, List.set_cons_succ]
  refine Od.anyH_sl (i := 30) (v := (.slice Aa na Ca)) (some 62) rfl rfl (by kernel_rfl) (by kernel_rfl) (by kernel_rfl) (fun _ _ _ h => h) (Or.inl ⟨by rfl, fun wx hSw => ?_⟩) hS ?_
  · try dsimp only at hSw
    obtain ⟨lp, c0, d0, c1, lb, mb, c65, ls, c96, d96⟩ := HF.out wx hSw; go_simp
  simp only [Act.put, List.setIfInBounds_toArray, List.set_cons_zero, List.set_cons_succ]
  refine Od.anyH_sl (i := 31) (v := (.pointer (some ⟨g5, 2, none⟩))) (some 63) rfl rfl (by kernel_rfl) (by kernel_rfl) (by kernel_rfl) (fun _ _ _ h => h) (Or.inl ⟨by rfl, fun wx hSw => ?_⟩) hS ?_
  · try dsimp only at hSw
    go_simp
  simp only [Act.put, List.setIfInBounds_toArray, List.set_cons_zero, List.set_cons_succ]
  refine Od.anyH_sl (i := 32) (v := (.agg (stC a.s va.ws))) (some 64) rfl rfl (by kernel_rfl) (by kernel_rfl) (by kernel_rfl) (fun _ _ _ h => h) (Or.inl ⟨by rfl, fun wx hSw => ?_⟩) hS ?_
  · try dsimp only at hSw
    obtain ⟨lp, c0, d0, c1, lb, mb, c65, ls, c96, d96⟩ := HF.out wx hSw; go_simp
  simp only [Act.put, List.setIfInBounds_toArray, List.set_cons_zero, List.set_cons_succ]
  refine wpAnyH_ready (rs := [33]) (by kernel_rfl) (by simp) ?_
  refine AllReadyH.cons rfl (fun K hK => ?_) AllReadyH.nil
  go_simp
  go_at_call 13
  refine (HST.out _).mono ?_
  rintro e w2 ⟨u, rfl, U2, hb2⟩
  obtain ⟨Au, nu, Cu, rfl⟩ := U2.one'
  have HU := hide U2
  replace hS := hS.trans (hb2.mono hS.size)
  clear hb2 U2
  dsimp only
  refine hK.out _ _ hS (fun hS => ?_)
  clear hK K
  try simp only [Act.put, List.setIfInBounds_toArray, List.set_cons_zero, List.set_cons_succ]
  refine wpAnyH_ready (rs := [34]) (by kernel_rfl) (by simp) ?_
  refine AllReadyH.cons rfl (fun K hK => ?_) AllReadyH.nil
  go_simp
  go_at_call 12
  refine (HSP.out _ (by exact hS) _ _ HU.out).mono ?_
  rintro e w3 ⟨rfl, hb3⟩
  replace hS := hS.trans (hb3.mono hS.size)
  clear hb3
  dsimp only
  refine hK.out _ _ hS (fun hS => ?_)
  clear hK K
  try simp only [Act.put, List.setIfInBounds_toArray, List.set_cons_zero, List.set_cons_succ]
  refine Od.anyH_sl (i := 35) (v := (.bool false)) (some 67) rfl rfl (by kernel_rfl) (by kernel_rfl) (by kernel_rfl) (fun _ _ _ h => h) (Or.inl ⟨by rfl, fun wx hSw => ?_⟩) hS ?_
  · try dsimp only at hSw
    go_simp
  simp only [Act.put, List.setIfInBounds_toArray, List.set_cons_zero, List.set_cons_succ]
  refine Od.anyH_sl (i := 36) (v := (.bool false)) (some 68) rfl rfl (by kernel_rfl) (by kernel_rfl) (by kernel_rfl) (fun _ _ _ h => h) (Or.inl ⟨by rfl, fun wx hSw => ?_⟩) hS ?_
  · try dsimp only at hSw
    go_simp
  simp only [Act.put, List.setIfInBounds_toArray, List.set_cons_zero, List.set_cons_succ]
  refine Od.anyH_sl (i := 37) (v := (.bool false)) (some 69) rfl rfl (by kernel_rfl) (by kernel_rfl) (by kernel_rfl) (fun _ _ _ h => h) (Or.inl ⟨by rfl, fun wx hSw => ?_⟩) hS ?_
  · try dsimp only at hSw
    go_simp
  simp only [Act.put, List.setIfInBounds_toArray, List.set_cons_zero, List.set_cons_succ]
  refine Od.anyH_sl (i := 38) (v := (.pointer (some ⟨g5, 96, none⟩))) (some 70) rfl rfl (by kernel_rfl) (by kernel_rfl) (by kernel_rfl) (fun _ _ _ h => h) (Or.inl ⟨by rfl, fun wx hSw => ?_⟩) hS ?_
  · try dsimp only at hSw
    go_simp
  simp only [Act.put, List.setIfInBounds_toArray, List.set_cons_zero, List.set_cons_succ]
  refine Od.anyH_sl (i := 39) (v := (.slice Aq nq Cq)) (some 71) rfl rfl (by kernel_rfl) (by kernel_rfl) (by kernel_rfl) (fun _ _ _ h => h) (Or.inl ⟨by rfl, fun wx hSw => ?_⟩) hS ?_
  · try dsimp only at hSw
    obtain ⟨lp, c0, d0, c1, lb, mb, c65, ls, c96, d96⟩ := HF.out wx hSw; go_simp
  simp only [Act.put, List.setIfInBounds_toArray, List.set_cons_zero, List.set_cons_succ]
  refine Od.anyH_sl (i := 40) (v := (.int .i64 (nq : Int))) (some 72) rfl rfl (by kernel_rfl) (by kernel_rfl) (by kernel_rfl) (fun _ _ _ h => h) (Or.inl ⟨by rfl, fun wx hSw => ?_⟩) hS ?_
  · try dsimp only at hSw
    go_simp
  simp only [Act.put, List.setIfInBounds_toArray, List.set_cons_zero, List.set_cons_succ]
  refine Od.anyH_sl (i := 41) (v := (.pointer (some ⟨b0, 96, none⟩))) (some 73) rfl rfl (by kernel_rfl) (by kernel_rfl) (by kernel_rfl) (fun _ _ _ h => h) (Or.inl ⟨by rfl, fun wx hSw => ?_⟩) hS ?_
  · try dsimp only at hSw
    go_simp
  simp only [Act.put, List.setIfInBounds_toArray, List.set_cons_zero, List.set_cons_succ]
  refine Od.anyH_sl (i := 42) (v := (.slice Ap np Cp)) (some 74) rfl rfl (by kernel_rfl) (by kernel_rfl) (by kernel_rfl) (fun _ _ _ h => h) (Or.inl ⟨by rfl, fun wx hSw => ?_⟩) hS ?_
  · try dsimp only at hSw
    obtain ⟨lp, c0, d0, c1, lb, mb, c65, ls, c96, d96⟩ := HF.out wx hSw; go_simp
  simp only [Act.put, List.setIfInBounds_toArray, List.set_cons_zero, List.set_cons_succ]
  refine Od.anyH_sl (i := 43) (v := (.int .i64 (np : Int))) (some 75) rfl rfl (by kernel_rfl) (by kernel_rfl) (by kernel_rfl) (fun _ _ _ h => h) (Or.inl ⟨by rfl, fun wx hSw => ?_⟩) hS ?_
  · try dsimp only at hSw
    go_simp
  simp only [Act.put, List.setIfInBounds_toArray, List.set_cons_zero, List.set_cons_succ]
  refine Od.anyH_sl (i := 44) (v := (.bool false)) (some 76) rfl rfl (by kernel_rfl) (by kernel_rfl) (by kernel_rfl) (fun _ _ _ h => h) (Or.inl ⟨by rfl, fun wx hSw => ?_⟩) hS ?_
  · try dsimp only at hSw
    go_simp
  simp only [Act.put, List.setIfInBounds_toArray, List.set_cons_zero, List.set_cons_succ]
  refine Od.anyH_sl (i := 45) (v := (.bool false)) (some 77) rfl rfl (by kernel_rfl) (by kernel_rfl) (by kernel_rfl) (fun _ _ _ h => h) (Or.inl ⟨by rfl, fun wx hSw => ?_⟩) hS ?_
  · try dsimp only at hSw
    go_simp
  simp only [Act.put, List.setIfInBounds_toArray, List.set_cons_zero, List.set_cons_succ]
  refine wpAnyH_done (by kernel_rfl) ?_ _
  exact NoPanic.normal (HK.out Au nu Cu _ hS)
end Go.Proofs.YtjghbciepinofaaGreat.Pv

set_option maxRecDepth 100000
namespace Go.Proofs.YtjghbciepinofaaGreat.Pv
open Go.RowKit
noncomputable def keep14C : Code := subC [1, 1, 1, 1, 0, 1, 9, 9, 1, 1, 0, 9, 1, 1, 1, 1, 1, 0] (Tryz.f4.body.getD .skip)
set_option maxRecDepth 1000000 in
set_option maxHeartbeats 16000000 in
theorem keep14 (ah : Int) (set : List (Int × Int)) (wl : World) (g5 gx gy gq : Nat) (Aa Ad At Ax Az : Option Addr) (na Ca nd Cd0 nt Ct nx Cx Cz : Nat)
    (HF : Hid (∀ wx, Below wl.heap.size wl wx → wx.cell? ⟨gq, 0, none⟩ = some (.int .i64 1) ∧ wx.cell? ⟨gq, 1, none⟩ = some (.int .i64 ah) ∧ wx.cell? ⟨gq, 4, none⟩ = some (.slice Ad nd Cd0) ∧ wx.cell? ⟨g5, 0, none⟩ = some (.int .i64 ah) ∧ wx.cell? ⟨gy, 3, none⟩ = some (.slice At nt Ct) ∧ wx.cell? ⟨g5, 65, none⟩ = some (.slice Aa na Ca) ∧ wx.cell? ⟨gx, 3, none⟩ = some (.slice Ax nx Cx) ∧ wx.cell? ⟨gx, 4, none⟩ = some (.bool false) ∧ wx.cell? ⟨gx, 5, none⟩ = some (.slice Az 0 Cz)))
    (HAP : Hid (∀ wx, Below wl.heap.size wl wx → Calls Tryz.prog 15 #[.slice At nt Ct, .slice Ad nd Cd0] wx fun e w' => ∃ u, e = .returned u ∧ Rep (fun b => wx.heap.size ≤ b) w' u 2 16 (pwC set) ∧ Below wx.heap.size wx w'))
    (HS1 : Hid (∀ wx, Below wl.heap.size wl wx → ∀ (u : Value) (P : Nat → Prop), Rep P wx u 2 16 (pwC set) → Calls Tryz.prog 12 #[u, .slice Aa na Ca] wx fun e w' => e = .returned (.bool true) ∧ Below wx.heap.size wx w'))
    (HS2 : Hid (∀ wx, Below wl.heap.size wl wx → Calls Tryz.prog 12 #[.slice Ax nx Cx, .slice Aa na Ca] wx fun e w' => e = .returned (.bool true) ∧ Below wx.heap.size wx w'))
    (v0 v1 v2 v3 v4 v6 v7 v8 v13 v14 v15 v16 v17 v18 v19 v20 v21 v22 v23 v24 v25 v26 v27 v28 v29 v30 v31 v32 v33 v34 v35 v36 v37 v38 v39 v40 v41 v42 v43 v44 v45 v46 v47 v48 v49 v50 v51 v52 v53 v54 v55 v56 v57 v58 v59 v60 v61 v62 v63 v64 v65 v66 v67 v68 v69 v70 v71 v72 v73 v74 v75 v76 v77 v78 v79 v80 v81 v82 v83 v84 v85 v86 v87 v88 v89 v90 v91 v92 v93 v94 v95 v96 v97 v98 v99 v100 v101 v102 v103 v104 v105 v106 v107 v108 v109 v110 v111 v112 v113 v114 v115 v116 v117 v118 v119 v120 v121 v122 v123 v124 v125 v126 v127 v128 v129 v130 v131 v132 v133 v134 v135 v136 v137 v138 v139 v140 v141 v142 v143 v144 v145 v146 v147 v148 v149 v150 v151 v152 v153 v154 v155 v156 v157 v158 v159 v160 v161 v162 v163 v164 v165 v166 v167 v168 v169 v170 v171 v172 v173 v174 v175 v176 v177 v178 v179 v180 v181 v182 v183 v184 v185 v186 v187 v188 v189 v190 v191 v192 v193 v194 v195 v196 : Value) {Q : Exit → Act → World → Prop} (hQ : ∀ (Au : Option Addr) (nu Cu : Nat) (wz : World), Below wl.heap.size wl wz → Q .normal ⟨List.toArray (v0 :: v1 :: v2 :: v3 :: v4 :: (.pointer (some ⟨g5, 0, none⟩)) :: v6 :: v7 :: v8 :: (.pointer (some ⟨gx, 0, none⟩)) :: (.pointer (some ⟨gy, 0, none⟩)) :: (.pointer (some ⟨gq, 0, none⟩)) :: (.int .i64 0) :: v13 :: v14 :: v15 :: v16 :: v17 :: v18 :: v19 :: v20 :: v21 :: v22 :: v23 :: v24 :: v25 :: v26 :: v27 :: v28 :: v29 :: v30 :: v31 :: v32 :: v33 :: v34 :: v35 :: v36 :: v37 :: v38 :: v39 :: v40 :: v41 :: v42 :: v43 :: v44 :: v45 :: v46 :: v47 :: v48 :: v49 :: v50 :: v51 :: v52 :: v53 :: v54 :: v55 :: v56 :: v57 :: v58 :: v59 :: v60 :: v61 :: v62 :: v63 :: v64 :: v65 :: v66 :: v67 :: v68 :: v69 :: v70 :: v71 :: v72 :: v73 :: v74 :: v75 :: v76 :: v77 :: v78 :: v79 :: v80 :: v81 :: v82 :: v83 :: v84 :: v85 :: v86 :: v87 :: v88 :: v89 :: v90 :: v91 :: v92 :: v93 :: v94 :: v95 :: v96 :: v97 :: v98 :: v99 :: v100 :: v101 :: v102 :: v103 :: v104 :: v105 :: v106 :: v107 :: v108 :: v109 :: v110 :: v111 :: v112 :: v113 :: v114 :: v115 :: v116 :: v117 :: v118 :: v119 :: v120 :: v121 :: v122 :: v123 :: v124 :: v125 :: v126 :: v127 :: v128 :: v129 :: v130 :: v131 :: v132 :: v133 :: v134 :: v135 :: v136 :: v137 :: v138 :: v139 :: v140 :: v141 :: v142 :: v143 :: v144 :: v145 :: v146 :: v147 :: v148 :: v149 :: v150 :: v151 :: v152 :: (.int .i64 0) :: (.bool false) :: (.bool false) :: (.pointer (some ⟨gq, 0, none⟩)) :: (.int .i64 1) :: (.bool false) :: (.bool false) :: (.bool false) :: (.pointer (some ⟨gq, 1, none⟩)) :: (.int .i64 ah) :: (.pointer (some ⟨g5, 0, none⟩)) :: (.int .i64 ah) :: (.bool false) :: (.bool false) :: (.bool false) :: (.pointer (some ⟨gy, 3, none⟩)) :: (.slice At nt Ct) :: (.pointer (some ⟨gq, 4, none⟩)) :: (.slice Ad nd Cd0) :: (.slice Au nu Cu) :: (.pointer (some ⟨g5, 65, none⟩)) :: (.slice Aa na Ca) :: (.bool true) :: (.bool false) :: (.bool false) :: (.bool false) :: (.pointer (some ⟨gx, 3, none⟩)) :: (.slice Ax nx Cx) :: (.pointer (some ⟨g5, 65, none⟩)) :: (.slice Aa na Ca) :: (.bool true) :: (.bool false) :: (.bool false) :: (.bool false) :: (.pointer (some ⟨gx, 4, none⟩)) :: (.bool false) :: (.bool false) :: (.bool false) :: (.pointer (some ⟨gx, 5, none⟩)) :: (.slice Az 0 Cz) :: (.int .i64 0) :: (.bool false) :: (.bool false) :: v196 :: []), []⟩ wz) :
    Code.wp Tryz.prog keep14C Q ⟨List.toArray (v0 :: v1 :: v2 :: v3 :: v4 :: (.pointer (some ⟨g5, 0, none⟩)) :: v6 :: v7 :: v8 :: (.pointer (some ⟨gx, 0, none⟩)) :: (.pointer (some ⟨gy, 0, none⟩)) :: (.pointer (some ⟨gq, 0, none⟩)) :: (.int .i64 0) :: v13 :: v14 :: v15 :: v16 :: v17 :: v18 :: v19 :: v20 :: v21 :: v22 :: v23 :: v24 :: v25 :: v26 :: v27 :: v28 :: v29 :: v30 :: v31 :: v32 :: v33 :: v34 :: v35 :: v36 :: v37 :: v38 :: v39 :: v40 :: v41 :: v42 :: v43 :: v44 :: v45 :: v46 :: v47 :: v48 :: v49 :: v50 :: v51 :: v52 :: v53 :: v54 :: v55 :: v56 :: v57 :: v58 :: v59 :: v60 :: v61 :: v62 :: v63 :: v64 :: v65 :: v66 :: v67 :: v68 :: v69 :: v70 :: v71 :: v72 :: v73 :: v74 :: v75 :: v76 :: v77 :: v78 :: v79 :: v80 :: v81 :: v82 :: v83 :: v84 :: v85 :: v86 :: v87 :: v88 :: v89 :: v90 :: v91 :: v92 :: v93 :: v94 :: v95 :: v96 :: v97 :: v98 :: v99 :: v100 :: v101 :: v102 :: v103 :: v104 :: v105 :: v106 :: v107 :: v108 :: v109 :: v110 :: v111 :: v112 :: v113 :: v114 :: v115 :: v116 :: v117 :: v118 :: v119 :: v120 :: v121 :: v122 :: v123 :: v124 :: v125 :: v126 :: v127 :: v128 :: v129 :: v130 :: v131 :: v132 :: v133 :: v134 :: v135 :: v136 :: v137 :: v138 :: v139 :: v140 :: v141 :: v142 :: v143 :: v144 :: v145 :: v146 :: v147 :: v148 :: v149 :: v150 :: v151 :: v152 :: v153 :: v154 :: v155 :: v156 :: v157 :: v158 :: v159 :: v160 :: v161 :: v162 :: v163 :: v164 :: v165 :: v166 :: v167 :: v168 :: v169 :: v170 :: v171 :: v172 :: v173 :: v174 :: v175 :: v176 :: v177 :: v178 :: v179 :: v180 :: v181 :: v182 :: v183 :: v184 :: v185 :: v186 :: v187 :: v188 :: v189 :: v190 :: v191 :: v192 :: v193 :: v194 :: v195 :: v196 :: []), []⟩ wl := by
  have HK := hide hQ
  clear hQ
  conv => arg 2; whnf
  refine wp_region_noPanic ?_
  refine wp_region_held_drew (S := fun wx => Below wl.heap.size wl wx) (by kernel_rfl) (Below.refl _ _).drew (fun hS => ?_)
  refine Od.anyH_sl (i := 0) (v := (.int .i64 0)) (some 153) rfl rfl (by kernel_rfl) (by kernel_rfl) (by kernel_rfl) (fun _ _ _ h => h) (Or.inl ⟨by rfl, fun wx hSw => ?_⟩) hS ?_
  · try dsimp only at hSw
    go_simp
  simp only [Act.put, List.setIfInBounds_toArray, List.set_cons_zero, List.set_cons_succ]
  refine Od.anyH_sl (i := 1) (v := (.bool false)) (some 154) rfl rfl (by kernel_rfl) (by kernel_rfl) (by kernel_rfl) (fun _ _ _ h => h) (Or.inl ⟨by rfl, fun wx hSw => ?_⟩) hS ?_
  · try dsimp only at hSw
    go_simp
  simp only [Act.put, List.setIfInBounds_toArray, List.set_cons_zero, List.set_cons_succ]
  refine Od.anyH_sl (i := 2) (v := (.bool false)) (some 155) rfl rfl (by kernel_rfl) (by kernel_rfl) (by kernel_rfl) (fun _ _ _ h => h) (Or.inl ⟨by rfl, fun wx hSw => ?_⟩) hS ?_
  · try dsimp only at hSw
    go_simp
  simp only [Act.put, List.setIfInBounds_toArray, List.set_cons_zero, List.set_cons_succ]
  refine Od.anyH_sl (i := 3) (v := (.pointer (some ⟨gq, 0, none⟩))) (some 156) rfl rfl (by kernel_rfl) (by kernel_rfl) (by kernel_rfl) (fun _ _ _ h => h) (Or.inl ⟨by rfl, fun wx hSw => ?_⟩) hS ?_
  · try dsimp only at hSw
    go_simp
  simp only [Act.put, List.setIfInBounds_toArray, List.set_cons_zero, List.set_cons_succ]
  refine Od.anyH_sl (i := 4) (v := (.int .i64 1)) (some 157) rfl rfl (by kernel_rfl) (by kernel_rfl) (by kernel_rfl) (fun _ _ _ h => h) (Or.inl ⟨by rfl, fun wx hSw => ?_⟩) hS ?_
  · try dsimp only at hSw
    obtain ⟨q0, q1, q4, h5, y3, s5, x3, x4, x5⟩ := HF.out wx hSw; go_simp
  simp only [Act.put, List.setIfInBounds_toArray, List.set_cons_zero, List.set_cons_succ]
  refine Od.anyH_sl (i := 5) (v := (.bool false)) (some 158) rfl rfl (by kernel_rfl) (by kernel_rfl) (by kernel_rfl) (fun _ _ _ h => h) (Or.inl ⟨by rfl, fun wx hSw => ?_⟩) hS ?_
  · try dsimp only at hSw
    go_simp
  simp only [Act.put, List.setIfInBounds_toArray, List.set_cons_zero, List.set_cons_succ]
  refine Od.anyH_sl (i := 6) (v := (.bool false)) (some 159) rfl rfl (by kernel_rfl) (by kernel_rfl) (by kernel_rfl) (fun _ _ _ h => h) (Or.inl ⟨by rfl, fun wx hSw => ?_⟩) hS ?_
  · try dsimp only at hSw
    go_simp
  simp only [Act.put, List.setIfInBounds_toArray, List.set_cons_zero, List.set_cons_succ]
  refine Od.anyH_sl (i := 7) (v := (.bool false)) (some 160) rfl rfl (by kernel_rfl) (by kernel_rfl) (by kernel_rfl) (fun _ _ _ h => h) (Or.inl ⟨by rfl, fun wx hSw => ?_⟩) hS ?_
  · try dsimp only at hSw
    go_simp
  simp only [Act.put, List.setIfInBounds_toArray, List.set_cons_zero, List.set_cons_succ]
  refine Od.anyH_sl (i := 8) (v := (.pointer (some ⟨gq, 1, none⟩))) (some 161) rfl rfl (by kernel_rfl) (by kernel_rfl) (by kernel_rfl) (fun _ _ _ h => h) (Or.inl ⟨by rfl, fun wx hSw => ?_⟩) hS ?_
  · try dsimp only at hSw
    go_simp
  simp only [Act.put, List.setIfInBounds_toArray, List.set_cons_zero, List.set_cons_succ]
  refine Od.anyH_sl (i := 9) (v := (.int .i64 ah)) (some 162) rfl rfl (by kernel_rfl) (by kernel_rfl) (by kernel_rfl) (fun _ _ _ h => h) (Or.inl ⟨by rfl, fun wx hSw => ?_⟩) hS ?_
  · try dsimp only at hSw
    obtain ⟨q0, q1, q4, h5, y3, s5, x3, x4, x5⟩ := HF.out wx hSw; go_simp
  simp only [Act.put, List.setIfInBounds_toArray, List.set_cons_zero, List.set_cons_succ]
  refine Od.anyH_sl (i := 10) (v := (.pointer (some ⟨g5, 0, none⟩))) (some 163) rfl rfl (by kernel_rfl) (by kernel_rfl) (by kernel_rfl) (fun _ _ _ h => h) (Or.inl ⟨by rfl, fun wx hSw => ?_⟩) hS ?_
  · try dsimp only at hSw
    go_simp
  simp only [Act.put, List.setIfInBounds_toArray, List.set_cons_zero, List.set_cons_succ]
  refine Od.anyH_sl (i := 11) (v := (.int .i64 ah)) (some 164) rfl rfl (by kernel_rfl) (by kernel_rfl) (by kernel_rfl) (fun _ _ _ h => h) (Or.inl ⟨by rfl, fun wx hSw => ?_⟩) hS ?_
  · try dsimp only at hSw
    obtain ⟨q0, q1, q4, h5, y3, s5, x3, x4, x5⟩ := HF.out wx hSw; go_simp
  simp only [Act.put, List.setIfInBounds_toArray, List.set_cons_zero, List.set_cons_succ]
  refine Od.anyH_sl (i := 12) (v := (.bool false)) (some 165) rfl rfl (by kernel_rfl) (by kernel_rfl) (by kernel_rfl) (fun _ _ _ h => h) (Or.inl ⟨by rfl, fun wx hSw => ?_⟩) hS ?_
  · try dsimp only at hSw
    go_simp
  simp only [Act.put, List.setIfInBounds_toArray, List.set_cons_zero, List.set_cons_succ]
  refine Od.anyH_sl (i := 13) (v := (.bool false)) (some 166) rfl rfl (by kernel_rfl) (by kernel_rfl) (by kernel_rfl) (fun _ _ _ h => h) (Or.inl ⟨by rfl, fun wx hSw => ?_⟩) hS ?_
  · try dsimp only at hSw
    go_simp
  simp only [Act.put, List.setIfInBounds_toArray, List.set_cons_zero, List.set_cons_succ]
  refine Od.anyH_sl (i := 14) (v := (.bool false)) (some 167) rfl rfl (by kernel_rfl) (by kernel_rfl) (by kernel_rfl) (fun _ _ _ h => h) (Or.inl ⟨by rfl, fun wx hSw => ?_⟩) hS ?_
  · try dsimp only at hSw
    go_simp
  simp only [Act.put, List.setIfInBounds_toArray, List.set_cons_zero, List.set_cons_succ]
  refine Od.anyH_sl (i := 15) (v := (.pointer (some ⟨gy, 3, none⟩))) (some 168) rfl rfl (by kernel_rfl) (by kernel_rfl) (by kernel_rfl) (fun _ _ _ h => h) (Or.inl ⟨by rfl, fun wx hSw => ?_⟩) hS ?_
  · try dsimp only at hSw
    go_simp
  simp only [Act.put, List.setIfInBounds_toArray, List.set_cons_zero, List.set_cons_succ]
  refine Od.anyH_sl (i := 16) (v := (.slice At nt Ct)) (some 169) rfl rfl (by kernel_rfl) (by kernel_rfl) (by kernel_rfl) (fun _ _ _ h => h) (Or.inl ⟨by rfl, fun wx hSw => ?_⟩) hS ?_
  · try dsimp only at hSw
    obtain ⟨q0, q1, q4, h5, y3, s5, x3, x4, x5⟩ := HF.out wx hSw; go_simp
  simp only [Act.put, List.setIfInBounds_toArray, List.set_cons_zero, List.set_cons_succ]
  refine Od.anyH_sl (i := 17) (v := (.pointer (some ⟨gq, 4, none⟩))) (some 170) rfl rfl (by kernel_rfl) (by kernel_rfl) (by kernel_rfl) (fun _ _ _ h => h) (Or.inl ⟨by rfl, fun wx hSw => ?_⟩) hS ?_
  · try dsimp only at hSw
    go_simp
  simp only [Act.put, List.setIfInBounds_toArray, List.set_cons_zero, List.set_cons_succ]
  refine Od.anyH_sl (i := 18) (v := (.slice Ad nd Cd0)) (some 171) rfl rfl (by kernel_rfl) (by kernel_rfl) (by kernel_rfl) (fun _ _ _ h => h) (Or.inl ⟨by rfl, fun wx hSw => ?_⟩) hS ?_
  · try dsimp only at hSw
    obtain ⟨q0, q1, q4, h5, y3, s5, x3, x4, x5⟩ := HF.out wx hSw; go_simp
  simp only [Act.put, List.setIfInBounds_toArray, List.set_cons_zero, List.set_cons_succ]
  refine Od.anyH_sl (i := 20) (v := (.pointer (some ⟨g5, 65, none⟩))) (some 173) rfl rfl (by kernel_rfl) (by kernel_rfl) (by kernel_rfl) (fun _ _ _ h => h) (Or.inl ⟨by rfl, fun wx hSw => ?_⟩) hS ?_
  · try dsimp only at hSw
    go_simp
  simp only [Act.put, List.setIfInBounds_toArray, List.set_cons_zero, List.set_cons_succ]
  refine Od.anyH_sl (i := 21) (v := (.slice Aa na Ca)) (some 174) rfl rfl (by kernel_rfl) (by kernel_rfl) (by kernel_rfl) (fun _ _ _ h => h) (Or.inl ⟨by rfl, fun wx hSw => ?_⟩) hS ?_
  · try dsimp only at hSw
    obtain ⟨q0, q1, q4, h5, y3, s5, x3, x4, x5⟩ := HF.out wx hSw; go_simp
  simp only [Act.put, List.setIfInBounds_toArray, List.set_cons_zero, List.set_cons_succ]
  refine wpAnyH_ready (rs := [19]) (by kernel_rfl) (by simp) ?_
  refine AllReadyH.cons rfl (fun K hK => ?_) AllReadyH.nil
  go_simp
  go_at_call 15
  refine (HAP.out _ (by exact hS)).mono ?_
  rintro e w2 ⟨u, rfl, U2, hb2⟩
  obtain ⟨Au, nu, Cu, rfl⟩ := U2.one'
  have HU := hide U2
  replace hS := hS.trans (hb2.mono hS.size)
  clear hb2 U2
  dsimp only
  refine hK.out _ _ hS (fun hS => ?_)
  clear hK K
  try simp only [Act.put, List.setIfInBounds_toArray, List.set_cons_zero, List.set_cons_succ]
  refine wpAnyH_ready (rs := [22]) (by kernel_rfl) (by simp) ?_
  refine AllReadyH.cons rfl (fun K hK => ?_) AllReadyH.nil
  go_simp
  go_at_call 12
  refine (HS1.out _ (by exact hS) _ _ HU.out).mono ?_
  rintro e w3 ⟨rfl, hb3⟩
  replace hS := hS.trans (hb3.mono hS.size)
  clear hb3
  dsimp only
  refine hK.out _ _ hS (fun hS => ?_)
  clear hK K
  try simp only [Act.put, List.setIfInBounds_toArray, List.set_cons_zero, List.set_cons_succ]
  refine Od.anyH_sl (i := 23) (v := (.bool false)) (some 176) rfl rfl (by kernel_rfl) (by kernel_rfl) (by kernel_rfl) (fun _ _ _ h => h) (Or.inl ⟨by rfl, fun wx hSw => ?_⟩) hS ?_
  · try dsimp only at hSw
    go_simp
  simp only [Act.put, List.setIfInBounds_toArray, List.set_cons_zero, List.set_cons_succ]
  refine Od.anyH_sl (i := 24) (v := (.bool false)) (some 177) rfl rfl (by kernel_rfl) (by kernel_rfl) (by kernel_rfl) (fun _ _ _ h => h) (Or.inl ⟨by rfl, fun wx hSw => ?_⟩) hS ?_
  · try dsimp only at hSw
    go_simp
  simp only [Act.put, List.setIfInBounds_toArray, List.set_cons_zero, List.set_cons_succ]
  refine Od.anyH_sl (i := 25) (v := (.bool false)) (some 178) rfl rfl (by kernel_rfl) (by kernel_rfl) (by kernel_rfl) (fun _ _ _ h => h) (Or.inl ⟨by rfl, fun wx hSw => ?_⟩) hS ?_
  · try dsimp only at hSw
    go_simp
  simp only [Act.put, List.setIfInBounds_toArray, List.set_cons_zero, List.set_cons_succ]
  refine Od.anyH_sl (i := 26) (v := (.pointer (some ⟨gx, 3, none⟩))) (some 179) rfl rfl (by kernel_rfl) (by kernel_rfl) (by kernel_rfl) (fun _ _ _ h => h) (Or.inl ⟨by rfl, fun wx hSw => ?_⟩) hS ?_
  · try dsimp only at hSw
    go_simp
  simp only [Act.put, List.setIfInBounds_toArray, List.set_cons_zero, List.set_cons_succ]
  refine Od.anyH_sl (i := 27) (v := (.slice Ax nx Cx)) (some 180) rfl rfl (by kernel_rfl) (by kernel_rfl) (by kernel_rfl) (fun _ _ _ h => h) (Or.inl ⟨by rfl, fun wx hSw => ?_⟩) hS ?_
  · try dsimp only at hSw
    obtain ⟨q0, q1, q4, h5, y3, s5, x3, x4, x5⟩ := HF.out wx hSw; go_simp
  simp only [Act.put, List.setIfInBounds_toArray, List.set_cons_zero, List.set_cons_succ]
  refine Od.anyH_sl (i := 28) (v := (.pointer (some ⟨g5, 65, none⟩))) (some 181) rfl rfl (by kernel_rfl) (by kernel_rfl) (by kernel_rfl) (fun _ _ _ h => h) (Or.inl ⟨by rfl, fun wx hSw => ?_⟩) hS ?_
  · try dsimp only at hSw
    go_simp
  simp only [Act.put, List.setIfInBounds_toArray, List.set_cons_zero, List.set_cons_succ]
  refine Od.anyH_sl (i := 29) (v := (.slice Aa na Ca)) (some 182) rfl rfl (by kernel_rfl) (by kernel_rfl) (by kernel_rfl) (fun _ _ _ h => h) (Or.inl ⟨by rfl, fun wx hSw => ?_⟩) hS ?_
  · try dsimp only at hSw
    obtain ⟨q0, q1, q4, h5, y3, s5, x3, x4, x5⟩ := HF.out wx hSw; go_simp
  simp only [Act.put, List.setIfInBounds_toArray, List.set_cons_zero, List.set_cons_succ]
  refine wpAnyH_ready (rs := [30]) (by kernel_rfl) (by simp) ?_
  refine AllReadyH.cons rfl (fun K hK => ?_) AllReadyH.nil
  go_simp
  go_at_call 12
  refine (HS2.out _ (by exact hS)).mono ?_
  rintro e w4 ⟨rfl, hb4⟩
  replace hS := hS.trans (hb4.mono hS.size)
  clear hb4
  dsimp only
  refine hK.out _ _ hS (fun hS => ?_)
  clear hK K
  try simp only [Act.put, List.setIfInBounds_toArray, List.set_cons_zero, List.set_cons_succ]
  refine Od.anyH_sl (i := 31) (v := (.bool false)) (some 184) rfl rfl (by kernel_rfl) (by kernel_rfl) (by kernel_rfl) (fun _ _ _ h => h) (Or.inl ⟨by rfl, fun wx hSw => ?_⟩) hS ?_
  · try dsimp only at hSw
    go_simp
  simp only [Act.put, List.setIfInBounds_toArray, List.set_cons_zero, List.set_cons_succ]
  refine Od.anyH_sl (i := 32) (v := (.bool false)) (some 185) rfl rfl (by kernel_rfl) (by kernel_rfl) (by kernel_rfl) (fun _ _ _ h => h) (Or.inl ⟨by rfl, fun wx hSw => ?_⟩) hS ?_
  · try dsimp only at hSw
    go_simp
  simp only [Act.put, List.setIfInBounds_toArray, List.set_cons_zero, List.set_cons_succ]
  refine Od.anyH_sl (i := 33) (v := (.bool false)) (some 186) rfl rfl (by kernel_rfl) (by kernel_rfl) (by kernel_rfl) (fun _ _ _ h => h) (Or.inl ⟨by rfl, fun wx hSw => ?_⟩) hS ?_
  · try dsimp only at hSw
    go_simp
  simp only [Act.put, List.setIfInBounds_toArray, List.set_cons_zero, List.set_cons_succ]
  refine Od.anyH_sl (i := 34) (v := (.pointer (some ⟨gx, 4, none⟩))) (some 187) rfl rfl (by kernel_rfl) (by kernel_rfl) (by kernel_rfl) (fun _ _ _ h => h) (Or.inl ⟨by rfl, fun wx hSw => ?_⟩) hS ?_
  · try dsimp only at hSw
    go_simp
  simp only [Act.put, List.setIfInBounds_toArray, List.set_cons_zero, List.set_cons_succ]
  refine Od.anyH_sl (i := 35) (v := (.bool false)) (some 188) rfl rfl (by kernel_rfl) (by kernel_rfl) (by kernel_rfl) (fun _ _ _ h => h) (Or.inl ⟨by rfl, fun wx hSw => ?_⟩) hS ?_
  · try dsimp only at hSw
    obtain ⟨q0, q1, q4, h5, y3, s5, x3, x4, x5⟩ := HF.out wx hSw; go_simp
  simp only [Act.put, List.setIfInBounds_toArray, List.set_cons_zero, List.set_cons_succ]
  refine Od.anyH_sl (i := 36) (v := (.bool false)) (some 189) rfl rfl (by kernel_rfl) (by kernel_rfl) (by kernel_rfl) (fun _ _ _ h => h) (Or.inl ⟨by rfl, fun wx hSw => ?_⟩) hS ?_
  · try dsimp only at hSw
    go_simp
  simp only [Act.put, List.setIfInBounds_toArray, List.set_cons_zero, List.set_cons_succ]
  refine Od.anyH_sl (i := 37) (v := (.bool false)) (some 190) rfl rfl (by kernel_rfl) (by kernel_rfl) (by kernel_rfl) (fun _ _ _ h => h) (Or.inl ⟨by rfl, fun wx hSw => ?_⟩) hS ?_
  · try dsimp only at hSw
    go_simp
  simp only [Act.put, List.setIfInBounds_toArray, List.set_cons_zero, List.set_cons_succ]
  refine Od.anyH_sl (i := 38) (v := (.pointer (some ⟨gx, 5, none⟩))) (some 191) rfl rfl (by kernel_rfl) (by kernel_rfl) (by kernel_rfl) (fun _ _ _ h => h) (Or.inl ⟨by rfl, fun wx hSw => ?_⟩) hS ?_
  · try dsimp only at hSw
    go_simp
  simp only [Act.put, List.setIfInBounds_toArray, List.set_cons_zero, List.set_cons_succ]
  refine Od.anyH_sl (i := 39) (v := (.slice Az 0 Cz)) (some 192) rfl rfl (by kernel_rfl) (by kernel_rfl) (by kernel_rfl) (fun _ _ _ h => h) (Or.inl ⟨by rfl, fun wx hSw => ?_⟩) hS ?_
  · try dsimp only at hSw
    obtain ⟨q0, q1, q4, h5, y3, s5, x3, x4, x5⟩ := HF.out wx hSw; go_simp
  simp only [Act.put, List.setIfInBounds_toArray, List.set_cons_zero, List.set_cons_succ]
  refine Od.anyH_sl (i := 40) (v := (.int .i64 0)) (some 193) rfl rfl (by kernel_rfl) (by kernel_rfl) (by kernel_rfl) (fun _ _ _ h => h) (Or.inl ⟨by rfl, fun wx hSw => ?_⟩) hS ?_
  · try dsimp only at hSw
    go_simp
  simp only [Act.put, List.setIfInBounds_toArray, List.set_cons_zero, List.set_cons_succ]
  refine Od.anyH_sl (i := 41) (v := (.bool false)) (some 194) rfl rfl (by kernel_rfl) (by kernel_rfl) (by kernel_rfl) (fun _ _ _ h => h) (Or.inl ⟨by rfl, fun wx hSw => ?_⟩) hS ?_
  · try dsimp only at hSw
    go_simp
  simp only [Act.put, List.setIfInBounds_toArray, List.set_cons_zero, List.set_cons_succ]
  refine Od.anyH_sl (i := 42) (v := (.bool false)) (some 195) rfl rfl (by kernel_rfl) (by kernel_rfl) (by kernel_rfl) (fun _ _ _ h => h) (Or.inl ⟨by rfl, fun wx hSw => ?_⟩) hS ?_
  · try dsimp only at hSw
    go_simp
  simp only [Act.put, List.setIfInBounds_toArray, List.set_cons_zero, List.set_cons_succ]
  refine wpAnyH_done (by kernel_rfl) ?_ _
  exact NoPanic.normal (HK.out Au nu Cu _ hS)
end Go.Proofs.YtjghbciepinofaaGreat.Pv

set_option maxRecDepth 100000
namespace Go.Proofs.YtjghbciepinofaaGreat.Pv
open Go.RowKit
theorem pr_links' {w : World} {b : Nat} {p : Pr} {v : PrV} (h : CAt 47 w b (prC p v)) : w.rangeAt b 66 (lkL (p.L 0) (v.l 0) ++ lkL (p.L 1) (v.l 1)) := h.part fun j x hx => by
  have hj : j < 28 := (List.getElem?_eq_some_iff.1 hx).1
  by_cases h14 : j < 14
  · rw [List.getElem?_append_left (by exact h14)] at hx
    have := pr_link (p := p) (v := v) 0 (by omega) j h14
    rw [Nat.zero_mul, Nat.add_zero] at this
    rw [this]; exact hx
  · obtain ⟨i, rfl⟩ : ∃ i, j = 14 + i := ⟨j - 14, by omega⟩
    rw [List.getElem?_append_right (by show 14 ≤ _; omega)] at hx
    have e : 14 + i - (lkL (p.L 0) (v.l 0)).length = i := by show 14 + i - 14 = i; omega
    rw [e] at hx
    have := pr_link (p := p) (v := v) 1 (by omega) i (by omega)
    rw [show 66 + 1 * 14 + i = 66 + (14 + i) by omega] at this
    rw [this]; exact hx
def loadLs (a : Value) : Sem Value := Instr.loadAt 42 a
theorem loadLs_eq (a : Value) : Instr.loadAt 42 a = loadLs a := rfl
def storeLk (a v : Value) : Sem Unit := Instr.storeAt 41 a v
theorem storeLk_eq (a v : Value) : Instr.storeAt 41 a v = storeLk a v := rfl
theorem infoLks : (Tryz.prog.info? 42).map (·.size) = some 28 := by kernel_rfl
theorem pr_loadLs {w : World} {b : Nat} {p : Pr} {v : PrV} (h : CAt 47 w b (prC p v)) : (loadLs (.pointer (some ⟨b, 66, none⟩))).run Tryz.prog w = .ok (.agg (lkL (p.L 0) (v.l 0) ++ lkL (p.L 1) (v.l 1)).toArray) w :=
  run_loadAt_mid (P := Tryz.prog) w b 66 42 _ _ (pr_links' h) Tryz.underlying42 rfl (by rw [infoLks]; rfl)
theorem ixL0 (x x' : Lk) (u u' : LkV) (w : World) : (Instr.index 42 (.agg (lkL x u ++ lkL x' u').toArray) (.int .i64 0)).run Tryz.prog w = .ok (.agg (lkL x u).toArray) w := by kernel_rfl
theorem ixL1 (x x' : Lk) (u u' : LkV) (w : World) : (Instr.index 42 (.agg (lkL x u ++ lkL x' u').toArray) (.int .i64 1)).run Tryz.prog w = .ok (.agg (lkL x' u').toArray) w := by kernel_rfl
theorem ixL (L : Nat → Lk) (l : Nat → LkV) (k : Nat) (hk : k < 2) (w : World) : (Instr.index 42 (.agg (lkL (L 0) (l 0) ++ lkL (L 1) (l 1)).toArray) (.int .i64 (k : Int))).run Tryz.prog w = .ok (.agg (lkL (L k) (l k)).toArray) w := by
  rcases (show k = 0 ∨ k = 1 by omega) with rfl | rfl
  · exact ixL0 _ _ _ _ w
  · exact ixL1 _ _ _ _ w
def Z14 : Array Value := #[.bool false, .bool false, .int .i64 0, .slice none 0 0, .bool false, .slice none 0 0, .slice none 0 0, .slice none 0 0, .int .i64 0, .bool false, .int .i64 0, .int .i64 0, .int .i64 0, .int .i64 0]
/-- a link laid into a new block -/
theorem lk_laid {P : Nat → Prop} {w2 : World} {x : Lk} {u : LkV} (h : LkIn P w2 x u) : ∃ w3, (storeLk (.pointer (some ⟨w2.heap.size, 0, none⟩)) (.agg (lkL x u).toArray)).run Tryz.prog (w2.alloc (.cells Z14 41)) = .ok () w3 ∧ CAt 41 w3 w2.heap.size (lkL x u).toArray ∧ Below w2.heap.size w2 w3 := by
  have hone : ((lkL x u).toArray).all (·.oneCell') = true := by rw [Array.all_eq_true_iff_forall_mem]; exact fun z hz => lk_one h z (by simpa using hz)
  refine ⟨_, run_storeAt_mid (P := Tryz.prog) (w2.alloc (.cells Z14 41)) w2.heap.size 0 41 (lkL x u).toArray ((CAt.new 41 w2 Z14).there 0 _ (by show 0 + 14 ≤ 14; omega)) (by rw [infoLk]; rfl) hone, (CAt.new 41 w2 Z14).setAll rfl, below_sets (Nat.le_refl _) _ _ _ ((Below.refl _ w2).alloc (Nat.le_refl _) _)⟩
/-- a packet's set that Decode made -/
theorem lies_repS {w : World} {B : Nat} {S : List (Int × Int)} {D : List Int} {sa da : Option Addr} {cs sb so db dO : Nat} (L : Cd.Lies w S D sa da sb so db dO) (r1 : Cd.Rm B sa S.length cs sb) (hS : S.length ≤ 6) : Rep (fun _ => True) w (.slice sa S.length cs) 2 16 (pwC S) := by
  refine ⟨sa, S.length, cs, rfl, pwC_length _, by omega, ⟨r1.1, r1.2.1⟩, fun h0 => ⟨sb, so, L.hsa h0, trivial, World.block_lt_of_cell? w _ (L.PS 0 h0).1, fun j u hu => ?_⟩⟩
  have hj : j < S.length * 2 := by have := (List.getElem?_eq_some_iff.1 hu).1; rwa [pwC_length] at this
  have hi : j / 2 < S.length := by omega
  have hp := L.PS (j / 2) hi
  have hg := pwC_get S (j / 2) hi
  rcases (show j % 2 = 0 ∨ j % 2 = 1 by omega) with h | h
  · have e : j / 2 * 2 = j := by omega
    rw [e] at hg hp
    rw [hp.1, ← hg.1, hu]
  · have e : j / 2 * 2 + 1 = j := by omega
    have h2 := hp.2
    rw [Nat.add_assoc, e] at h2
    rw [h2, ← hg.2, e, hu]
theorem st_apply {P Q : Nat → Prop} {w : World} {v v' : Value} {l l' : List (Int × Int)} (h : Rep P w v 2 16 (pwC l)) (h' : Rep Q w v' 2 16 (pwC l')) : Calls Tryz.prog 15 #[v, v'] w fun e w' => ∃ u, e = .returned u ∧ Rep (fun b => w.heap.size ≤ b) w' u 2 16 (pwC (Df.applyL l l')) ∧ Below w.heap.size w w' := by
  obtain ⟨A, C, b, off, rfl, p1⟩ := h.pin
  obtain ⟨A', C', b', off', rfl, p2⟩ := h'.pin
  refine (Df.apply_any l l' A A' C C' b off b' off' w p1 p2).mono ?_
  rintro e w' ⟨x, rfl, hp, hb⟩
  have hl : (Df.applyL l l').length ≤ 6 := Df.those_len _ _ 6
  exact ⟨x, rfl, Rep.pows hp (by omega), hb⟩
theorem same_rep {P Q : Nat → Prop} {w : World} {v v' : Value} {l : List (Int × Int)} (h : Rep P w v 2 16 (pwC l)) (h' : Rep Q w v' 2 16 (pwC l)) : Calls Tryz.prog 12 #[v, v'] w fun e w' => e = .returned (.bool true) ∧ Below w.heap.size w w' := by
  obtain ⟨A, C, b, off, rfl, p1⟩ := h.pin
  obtain ⟨A', C', b', off', rfl, p2⟩ := h'.pin
  exact Df.same_any l A A' C C' b off b' off' w p1 p2
theorem wrap64_four : wrap64 400000 = 400000 := by
  unfold wrap64
  omega
theorem bank_sum {s : St} (h : goodS s = true) : wrap64 (s.b.f0 + s.b.f1 + s.b.f2 + s.b.f3 + s.b.bo + s.b.wa + s.b.bu) = 400000 := by
  have hb := ((goodS_iff s).1 h).1
  rw [good_iff] at hb
  rw [hb.2.2.2.2.2.2.2]
  exact wrap64_four
attribute [local go_sem ↓] loadS_eq loadP_eq storeP_eq storeS_eq loadB_eq loadLs_eq loadLk_eq storeLk_eq
set_option maxRecDepth 1000000 in
set_option maxHeartbeats 16000000 in
theorem kpkeeps_walk (p : Pr) (v : PrV) (w : World) (now : Int) (hp : PIn (fun _ => True) w p v) (hq88 : p.q.length * 88 ≤ 140737488351232) :
    Calls Tryz.prog 4 #[.agg (prC p v), .int .i64 now] w fun e w' => e = .returned (.bool true) ∧ Below w.heap.size w w' := by
  have hec := end_code p now
  have HPE := hide (fun (h : goodP p = true ∧ isT now = true ∧ p.t ≤ now) => end_all (p := p) (now := now) h)
  have HPD : Hid ((endP p now).2.2 = 2 → (endP p now).2.1 = []) := fun h => by
    unfold endP at *
    split at h
    · simp at h
    · rename_i hh; rw [if_neg hh]
  have HEN := hide (fun (wx : World) (hb : Below w.heap.size w wx) => pend_any p v (fun _ => True) wx now (hp.over hb) (by omega))
  generalize endP p now = E at *
  obtain ⟨a, pd, f⟩ := E
  dsimp only at hec HPE HPD
  have HPV := hide (fun (wx : World) => kprovides_any wx)
  have HP := hide hp
  have HQ88 := hide hq88
  clear hp hq88
  go_enter Tryz.func4, Tryz.ntmps4
  go_upto_region 1 with fail
  have C0 : CAt 47 (w.alloc (.cells (prC p v) 47)) w.heap.size (prC p v) := CAt.new _ w _
  have B0 : Below w.heap.size w (w.alloc (.cells (prC p v) 47)) := (Below.refl _ w).alloc (Nat.le_refl _) _
  generalize w.alloc (.cells (prC p v) 47) = w0 at *
  have l0 := pr_loadP C0 (prC_size _ _)
  have H0 := hide (show _ ∧ _ from ⟨C0, B0⟩)
  have HE0 := hide (HEN.out w0 B0)
  clear C0 B0 HEN
  go_upto_region 2 with (go_at_call 9; refine HE0.out.mono ?_; rintro e w2 ⟨va, u2, rfl, P2, U2, hb2⟩; clear l0; dsimp only at P2 U2; dsimp only; obtain ⟨Au, Cu, rfl, -⟩ := U2.open (inC_length _) (by decide); obtain ⟨w3, s2, D3, Q3, bS⟩ := pr_laid P2; have HL3 := hide (show _ ∧ _ ∧ _ ∧ _ from ⟨D3, Q3, bS, hb2⟩); clear D3 Q3 bS hb2 P2 U2)
  have b3 := HL3.out.2.2.2.trans (HL3.out.2.2.1.mono HL3.out.2.2.2.size)
  have C3 := H0.out.1.over b3
  have B3 := H0.out.2.trans (b3.mono H0.out.2.size)
  have D3 := HL3.out.1
  have Q3 := HL3.out.2.1
  have hgw : w.heap.size < w2.heap.size := Nat.lt_of_lt_of_le H0.out.1.lt HL3.out.2.2.2.size
  clear s2 b3 HL3 H0 HE0
  generalize w2.heap.size = g5 at *
  have H3 := hide (show _ ∧ _ ∧ _ ∧ _ from ⟨C3, D3, B3, Q3⟩)
  have hlt3 := D3.lt
  clear C3 D3 B3 Q3
  rcases hec with ⟨rfl, hok⟩ | rfl
  rotate_left
  · have hpd := HPD.out rfl
    subst hpd
    clear HPE HPD
    go_wp2_with (go_at_call 8; refine (HPV.out _).mono ?_; rintro e w5 ⟨rfl, hb5⟩; have HB5 := hide hb5; clear hb5)
    go_ret
    exact ⟨rfl, H3.out.2.2.1.trans (HB5.out.mono H3.out.2.2.1.size)⟩
  have E := HPE.out hok
  have HE := hide E
  have hgp := hok.1
  clear HPE HPD hok E
  go_upto_region 4 with (go_at_call 8; refine (HPV.out _).mono ?_; rintro e w4 ⟨rfl, hb4⟩)
  have C4 := H3.out.1.over hb4
  have D4 := H3.out.2.1.over hb4
  have B4 := H3.out.2.2.1.trans (hb4.mono H3.out.2.2.1.size)
  have Q4 := H3.out.2.2.2.over hb4
  have P4 := HP.out.over B4
  clear H3 hb4 hlt3
  obtain ⟨Aa, na, Ca, ea⟩ := Q4.set.one'
  obtain ⟨zq, hzl, hzr, -⟩ := id Q4.q
  obtain ⟨Aq, Cq, eq, -⟩ := hzr.open (quL_length _ _ hzl) (by decide)
  obtain ⟨zp, hpl, hpr, -⟩ := id P4.q
  obtain ⟨Ap, Cp, ep, -⟩ := hpr.open (quL_length _ _ hpl) (by decide)
  have H4 := hide (show _ ∧ _ ∧ _ ∧ _ ∧ _ from ⟨C4, D4, B4, Q4, P4⟩)
  have HEA := hide (show _ ∧ _ ∧ _ from ⟨ea, eq, ep⟩)
  clear C4 D4 B4 Q4 P4 hzl hzr hpl hpr ea eq ep
  have HF4 : Hid (∀ wx, Below w4.heap.size w4 wx → (loadP (.pointer (some ⟨w.heap.size, 0, none⟩))).run Tryz.prog wx = .ok (.agg (prC p v)) wx ∧ wx.cell? ⟨g5, 0, none⟩ = some (.int .i64 a.h) ∧ wx.cell? ⟨w.heap.size, 0, none⟩ = some (.int .i64 p.h) ∧ wx.cell? ⟨g5, 1, none⟩ = some (.int .i64 now) ∧ (loadB (.pointer (some ⟨g5, 2, none⟩))).run Tryz.prog wx = .ok (.agg #[.int .i64 a.s.b.f0, .int .i64 a.s.b.f1, .int .i64 a.s.b.f2, .int .i64 a.s.b.f3, .int .i64 a.s.b.bo, .int .i64 a.s.b.wa, .int .i64 a.s.b.bu]) wx ∧ (loadB (.pointer (some ⟨w.heap.size, 2, none⟩))).run Tryz.prog wx = .ok (.agg #[.int .i64 p.s.b.f0, .int .i64 p.s.b.f1, .int .i64 p.s.b.f2, .int .i64 p.s.b.f3, .int .i64 p.s.b.bo, .int .i64 p.s.b.wa, .int .i64 p.s.b.bu]) wx ∧ wx.cell? ⟨g5, 65, none⟩ = some (.slice Aa na Ca) ∧ (loadS (.pointer (some ⟨g5, 2, none⟩))).run Tryz.prog wx = .ok (.agg (stC a.s va.ws)) wx ∧ wx.cell? ⟨g5, 96, none⟩ = some (.slice Aq a.q.length Cq) ∧ wx.cell? ⟨w.heap.size, 96, none⟩ = some (.slice Ap p.q.length Cp)) := fun wx hb => by
    have C := H4.out.1.over hb
    have D := H4.out.2.1.over hb
    refine ⟨pr_loadP C (prC_size _ _), D.cell 0, C.cell 0, by rw [← HE.out.t]; exact D.cell 1, pr_loadB D, pr_loadB C, by rw [← HEA.out.1]; exact D.cell 65, pr_loadS D, by rw [← HEA.out.2.1]; exact D.cell 96, by rw [← HEA.out.2.2]; exact C.cell 96⟩
  have hgs : goodS p.s = true := by
    unfold goodP at hgp
    simp only [Bool.and_eq_true] at hgp
    exact hgp.1.1.1.1.1.1.1
  refine keep4 p a v va w4 w.heap.size g5 now Aa Aq Ap na Ca a.q.length Cq p.q.length Cp HE.out.h HE.out.ql HF4 (fun wx hb => by have := pgood_any p v (fun _ => True) wx (H4.out.2.2.2.2.over hb); rw [hgp] at this; exact this) (fun wx => by have := sum_any a.s.b.f0 a.s.b.f1 a.s.b.f2 a.s.b.f3 a.s.b.bo a.s.b.wa a.s.b.bu wx; rw [bank_sum HE.out.good] at this; exact this) (fun wx => by have := sum_any p.s.b.f0 p.s.b.f1 p.s.b.f2 p.s.b.f3 p.s.b.bo p.s.b.wa p.s.b.bu wx; rw [bank_sum hgs] at this; exact this) (fun wx => by have := st_set a.s va.ws wx HE.out.good; rw [← HE.out.set] at this; exact this) (fun wx hb u P hu => by have := (H4.out.2.2.2.1.set.over hb); rw [HEA.out.1] at this; exact same_rep this hu) _ _ _ _ _ _ _ _ _ _ _ _ _ _ _ _ _ _ _ _ _ _ _ _ ?_
  intro Ax nx Cx w5 hb5
  simp only [Exit.then]
  apply_assumption
  have C5 := H4.out.1.over hb5
  have D5 := H4.out.2.1.over hb5
  have B5 := H4.out.2.2.1.trans (hb5.mono H4.out.2.2.1.size)
  have Q5 := H4.out.2.2.2.1.over hb5
  have P5 := H4.out.2.2.2.2.over hb5
  have ll := pr_loadLs D5
  have HLK := hide (fun (c : Nat) (hc : c < 2) => klk_of (HE.out.lk c hc))
  have HSB := hide HE.out.setB
  have HTB : Hid (∀ c, c < 2 → setB (-1) (p.L c).told = true) := fun c hc => by
    unfold goodP at hgp
    simp only [Bool.and_eq_true, goodLk] at hgp
    rcases (show c = 0 ∨ c = 1 by omega) with rfl | rfl
    · exact hgp.1.2.1.2.1.2
    · exact hgp.1.2.2.2.1.2
  have H5 := hide (show _ ∧ _ ∧ _ ∧ _ ∧ _ from ⟨C5, D5, B5, Q5, P5⟩)
  have hlt5 := D5.lt
  have HEA1 := hide HEA.out.1
  clear C5 D5 B5 Q5 P5 hb5 H4 HF4 HEA hgs hgp
  have HIX := hide (fun (k : Nat) (hk : k < 2) (wx : World) => ixL a.L va.l k hk wx)
  generalize (lkL (a.L 0) (va.l 0) ++ lkL (a.L 1) (va.l 1)).toArray = LS at *
  go_upto_region 7 with fail
  go_loopw [80] (fun i wl => ∃ (k : Nat), k ≤ 2 ∧ i = .int .i64 (k : Int) ∧ Hid (Below w5.heap.size w5 wl)) (fun i _ => 2 - (intOf i).toNat)
  case atStart => exact ⟨0, Nat.zero_le _, rfl, Below.refl _ _⟩
  case round =>
    obtain ⟨k, hk, rfl, HB⟩ := hrel
    by_cases hlt : k < 2
    rotate_left
    · obtain rfl : k = 2 := by omega
      go_wp2
      go_ret
      exact ⟨rfl, H5.out.2.2.1.trans (HB.out.mono H5.out.2.2.1.size)⟩
    have hkI : (k : Int) < 2 := by omega
    have hkz : (0 : Int) ≤ (k : Int) := by omega
    have hix := fun wx => HIX.out k hlt wx
    have L1 := (H5.out.2.2.2.1.lk k hlt).keep (w' := wr) fun b _ hl => HB.out.block b hl
    obtain ⟨w6, s6, X6, b6⟩ := lk_laid L1
    have hz6 := b6.size
    have hsz5 := HB.out.size
    have hgr : g5 < wr.heap.size := by omega
    unfold Z14 at s6
    have HB6 := hide (HB.out.trans (b6.mono HB.out.size))
    have C6 := H5.out.1.over HB6.out
    have lk6 := pr_loadLk C6 k hlt
    have L2 := (H5.out.2.2.2.2.lk k hlt).keep (w' := w6) fun b _ hl => HB6.out.block b hl
    obtain ⟨w7, s7, X7, b7⟩ := lk_laid L2
    unfold Z14 at s7
    have HB7 := hide (HB6.out.trans (b7.mono HB6.out.size))
    have X6' := X6.over b7
    have hgy : wr.heap.size < w6.heap.size := X6.lt
    have hlt6 : wr.heap.size < w6.heap.size := X6.lt
    have hwg : w.heap.size < w6.heap.size := by omega
    clear L1 L2 C6 b6 HB
    go_upto_region 10 with fail
    have K := HLK.out k hlt
    have LA := (H5.out.2.2.2.1.lk k hlt).keep (w' := w7) fun b _ hl => HB7.out.block b hl
    have LP := (H5.out.2.2.2.2.lk k hlt).keep (w' := w7) fun b _ hl => HB7.out.block b hl
    obtain ⟨A1, C1, A2, C2, sb, so, db, dO, es, ed, hL, -, -⟩ := RepC.line LA.said LA.due
    obtain ⟨A3, C3, A4, C4, sb', so', db', dO', es', ed', hL', -, -⟩ := RepC.line LP.said LP.due
    obtain ⟨At, nt, Ct, et⟩ := LP.told.one'
    obtain ⟨Aw, nw, Cw, ew⟩ := LA.told.one'
    obtain ⟨Az, Cz, ez, -⟩ := LA.done.open (inC_length _) (by decide)
    have x0 : w7.cell? ⟨wr.heap.size, 0, none⟩ = some (.bool (p.L k).on) := by rw [← K.on]; exact X6'.cell 0
    have x1 : w7.cell? ⟨wr.heap.size, 1, none⟩ = some (.bool (p.L k).gone) := by rw [← K.gone]; exact X6'.cell 1
    have x2 : w7.cell? ⟨wr.heap.size, 2, none⟩ = some (.int .i64 (p.L k).base) := by rw [← K.base]; exact X6'.cell 2
    have x6 : w7.cell? ⟨wr.heap.size, 6, none⟩ = some (.slice A1 (a.L k).out.S.length C1) := by rw [← es]; exact X6'.cell 6
    have y0 : w7.cell? ⟨w6.heap.size, 0, none⟩ = some (.bool (p.L k).on) := X7.cell 0
    have y1 : w7.cell? ⟨w6.heap.size, 1, none⟩ = some (.bool (p.L k).gone) := X7.cell 1
    have y2 : w7.cell? ⟨w6.heap.size, 2, none⟩ = some (.int .i64 (p.L k).base) := X7.cell 2
    have y6 : w7.cell? ⟨w6.heap.size, 6, none⟩ = some (.slice A3 (p.L k).out.S.length C3) := by rw [← es']; exact X7.cell 6
    have hm : (p.L k).out.S.length ≤ 8796093022202 := by have := hL'.hls; omega
    have HF14 : Hid (∀ wx, Below w7.heap.size w7 wx → wx.cell? ⟨g5, 0, none⟩ = some (.int .i64 a.h) ∧ wx.cell? ⟨w6.heap.size, 3, none⟩ = some (.slice At nt Ct) ∧ wx.cell? ⟨g5, 65, none⟩ = some (.slice Aa na Ca) ∧ wx.cell? ⟨wr.heap.size, 3, none⟩ = some (.slice Aw nw Cw) ∧ wx.cell? ⟨wr.heap.size, 4, none⟩ = some (.bool (a.L k).fresh) ∧ wx.cell? ⟨wr.heap.size, 5, none⟩ = some (.slice Az (a.L k).done.length Cz)) := fun wx hb => by
      have D := (H5.out.2.1.over HB7.out).over hb
      have X := X6'.over hb
      have Y := X7.over hb
      exact ⟨D.cell 0, by rw [← et]; exact Y.cell 3, by rw [← HEA1.out]; exact D.cell 65, by rw [← ew]; exact X.cell 3, X.cell 4, by rw [← ez]; exact X.cell 5⟩
    have HLL := hide (show _ ∧ _ ∧ _ from ⟨LA, LP, hL⟩)
    have HT := hide (show _ ∧ _ from ⟨et, ew⟩)
    have hlt7 := X7.lt
    have HBW := hide (H5.out.2.2.1.trans (HB7.out.mono H5.out.2.2.1.size))
    clear es ed es' ed' hL hL' LA LP X6 X6' X7 s6 s7 lk6 hix b7 et ew ez
    generalize wr.heap.size = gx at *
    generalize w6.heap.size = gy at *
    rcases K.said with hS | ⟨hS, s, D, hs, hs100, hde, hdp, htold, hfresh, hdone⟩
    · rw [hS] at x6
      clear HF14 K
      generalize (p.L k).out.S.length = m at *
      go_wp2
      go_roundw
      case rel => exact ⟨k + 1, by omega, by go_num, HB7⟩
      case measure => simp [intOf]; omega
    have hcell : w7.cell? ⟨sb, so + (p.L k).out.S.length, none⟩ = some (.string s) := by
      have := HLL.out.2.2.PS (p.L k).out.S.length (by omega)
      rw [this]
      simp [List.getD, hs]
    obtain rfl : A1 = some ⟨sb, so, none⟩ := HLL.out.2.2.hsa (by omega)
    rw [hS] at x6
    have HHS := hide (show _ ∧ _ ∧ _ ∧ _ ∧ _ ∧ _ from ⟨hs100, hde, hdp, htold, hfresh, hdone⟩)
    have HDC := hide (Cd.decode_any s w7 (by unfold maxLen; omega))
    rw [hde, hdp] at HDC
    dsimp only at HDC
    clear hS K hs hs100 hde hdp htold hfresh hdone
    generalize hm' : (p.L k).out.S.length = m at *
    clear hm'
    have hwr : IntKind.i64.wrap (((m + 1 : Nat) : Int) - 1) = (m : Int) := by rw [show ((m + 1 : Nat) : Int) - 1 = (m : Int) by omega]; exact wrapI (by omega) (by omega)
    have hwr2 : IntKind.i64.wrap (((m + 1 : Nat) : Int) - (m : Int)) = 1 := by rw [show ((m + 1 : Nat) : Int) - (m : Int) = 1 by omega]; exact wrapI (by omega) (by omega)
    generalize hdl : Df.diffL (p.L k).told a.set = dl at *
    have HDL := hide hdl
    clear hdl
    go_upto_region 14 with (go_at_call 14; refine HDC.out.mono ?_; rintro e w8 ⟨sa, da, cs, cd, sb2, so2, db2, dO2, rfl, hLi, hRm, hb8⟩; have HL8 := hide (show _ ∧ _ ∧ _ from ⟨hLi, hRm, hb8⟩); clear hLi hRm hb8 hcell x0 x1 x2 x6 y0 y1 y2 y6)
    have KQ := CAt.new 49 w8 #[.int .i64 1, .int .i64 a.h, .int .i64 0, .int .i64 0, .slice sa dl.length cs, .slice da D.length cd]
    have bA : Below w8.heap.size w8 (w8.alloc (.cells #[.int .i64 1, .int .i64 a.h, .int .i64 0, .int .i64 0, .slice sa dl.length cs, .slice da D.length cd] 49)) := (Below.refl _ w8).alloc (Nat.le_refl _) _
    have hb9 := HL8.out.2.2.trans (bA.mono HL8.out.2.2.size)
    have RD : Rep (fun _ => True) w8 (.slice sa dl.length cs) 2 16 (pwC dl) := lies_repS HL8.out.1 HL8.out.2.1.1 (by rw [← HDL.out]; exact diff_len6 _ _)
    have R9 := RD.over bA
    clear bA HL8 RD
    generalize w8.alloc (.cells #[.int .i64 1, .int .i64 a.h, .int .i64 0, .int .i64 0, .slice sa dl.length cs, .slice da D.length cd] 49) = w9 at *
    generalize w8.heap.size = gq at *
    have HB9 := hide hb9
    have HK9 := hide (show _ ∧ _ from ⟨KQ, R9⟩)
    have hap := set_apply (HTB.out k hlt) HSB.out
    rw [HDL.out] at hap
    clear hb9 KQ R9
    refine keep14 a.h a.set w9 g5 gx gy gq Aa sa At Aw Az na Ca dl.length cs nt Ct nw Cw Cz (fun wx hb => ?_) (fun wx hb => ?_) (fun wx hb u P hu => ?_) (fun wx hb => ?_) _ _ _ _ _ _ _ _ _ _ _ _ _ _ _ _ _ _ _ _ _ _ _ _ _ _ _ _ _ _ _ _ _ _ _ _ _ _ _ _ _ _ _ _ _ _ _ _ _ _ _ _ _ _ _ _ _ _ _ _ _ _ _ _ _ _ _ _ _ _ _ _ _ _ _ _ _ _ _ _ _ _ _ _ _ _ _ _ _ _ _ _ _ _ _ _ _ _ _ _ _ _ _ _ _ _ _ _ _ _ _ _ _ _ _ _ _ _ _ _ _ _ _ _ _ _ _ _ _ _ _ _ _ _ _ _ _ _ _ _ _ _ _ _ _ _ _ _ _ _ _ _ _ _ _ _ _ _ _ _ _ _ _ _ _ _ _ _ _ _ _ _ _ _ _ _ _ _ _ _ _ _ _ _ _ _ _ _ _ _ _ _ ?_
    · obtain ⟨f1, f2, f3, f4, f5, f6⟩ := HF14.out wx (HB9.out.trans (hb.mono HB9.out.size))
      rw [HHS.out.2.2.2.2.1] at f5
      rw [HHS.out.2.2.2.2.2] at f6
      have Kx := HK9.out.1.over hb
      exact ⟨Kx.cell 0, Kx.cell 1, Kx.cell 4, f1, f2, f3, f4, f5, f6⟩
    · have h1 := HLL.out.2.1.told.over (HB9.out.trans (hb.mono HB9.out.size))
      rw [HT.out.1] at h1
      have := st_apply h1 (HK9.out.2.over hb)
      rw [hap] at this
      exact this
    · have h1 := (H5.out.2.2.2.1.set.over HB7.out).over (HB9.out.trans (hb.mono HB9.out.size))
      rw [HEA1.out] at h1
      exact same_rep hu h1
    · have h1 := (H5.out.2.2.2.1.set.over HB7.out).over (HB9.out.trans (hb.mono HB9.out.size))
      have h2 := HLL.out.1.told.over (HB9.out.trans (hb.mono HB9.out.size))
      rw [HEA1.out] at h1
      rw [HHS.out.2.2.2.1, HT.out.2] at h2
      exact same_rep h2 h1
    intro Av nv Cv w10 hb10
    have HB10 := hide (HB7.out.trans ((HB9.out.trans (hb10.mono HB9.out.size)).mono HB7.out.size))
    clear hb10 HF14 HHS HLL HT HK9 hap HDL
    simp only [Exit.then]
    apply_assumption
    go_wp2
    go_roundw
    case rel => exact ⟨k + 1, by omega, by go_num, HB10⟩
    case measure => simp [intOf]; omega
end Go.Proofs.YtjghbciepinofaaGreat.Pv

