/- Parts of the proof: PDX PDY PWD ML1. -/
import Derived.Test.YtjghbciepinofaaGreatRows
import Derived.Test.YtjghbciepinofaaGreatPEK47
import Derived.Test.YtjghbciepinofaaGreatPEK52
import Derived.BigQuiet
import Derived.WalkSmall
import Derived.Deep.RegionHeld3
import Derived.OwnWalk
set_option maxRecDepth 100000
namespace Go.Proofs.YtjghbciepinofaaGreat.Pv
open Go.RowKit
def TurnsB (w : World) (g : Nat) (P : Nat → Prop) (r : Pr × Bool) (e : Ending) (w' : World) : Prop := ∃ v', e = .returned (.bool r.2) ∧ CAt 47 w' g (prC r.1 v') ∧ PIn (New P w 0) w' r.1 v' ∧ Alt g w w'
theorem Alt.drewN {g : Nat} {w w' : World} (h : Alt g w w') (n : Nat) : Alt g w (w'.drewN n) := h.trans ⟨rfl, rfl, rfl, Nat.le_refl _, fun _ _ _ => rfl⟩
attribute [local go_sem ↓] loadS_eq loadP_eq storeP_eq storeS_eq
set_option maxHeartbeats 8000000 in
theorem pdeal_double (g : Nat) (p : Pr) (v : PrV) (P : Nat → Prop) (w : World) (c : Nat) (hc : c < 2) (x : Pkt) (y1 y2 : Value) (hC : CAt 47 w g (prC p v)) (hp : PIn P w p v) (hg : ¬ P g) (hgs : goodS p.s = true) (hk : x.k = 4) (hv : x.k = 3 ∨ x.k = 4 → 0 ≤ x.v ∧ x.v < 6) :
    Calls Tryz.prog 67 #[.pointer (some ⟨g, 0, none⟩), .agg #[.int .i64 (c : Int), .int .i64 x.k, .int .i64 x.i, .int .i64 x.v, .int .i64 x.n, y1, y2]] w (TurnsB w g P (dealP p c x)) := by
  have hD : dealP p c x = if x.k = 2 then ({ p with s := { p.s with W := relW c x.i p.s.W } }, true)
    else if x.k = 4 then
      if (p.s.V x.v.toNat).dead = true then (p, true) else ({ p with s := punS p.s x.v.toNat (maxI x.i (p.L c).base) }, true)
    else if (p.s.V x.v.toNat).jail = true then ({ p with L := updL p.L c { p.L c with done := doneL (p.L c).done x.v } }, true)
    else if p.ml < 1 then (p, false)
    else ({ p with ml := wrap64 (p.ml - powV (p.s.V x.v.toNat)), s := setJ p.s x.v.toNat true (p.s.V x.v.toNat).dead, L := updL p.L c { p.L c with done := doneL (p.L c).done x.v } }, true) := by unfold dealP; rfl
  generalize dealP p c x = D at *
  have HD := hide hD
  have HKX := hide hk
  clear hk
  have HP := hide hp
  have hgl := hC.lt
  have hcc : (c : Int) < 2 := by omega
  have hcz : (0 : Int) ≤ (c : Int) := by omega
  clear hD
  go_enter Tryz.func67, Tryz.ntmps67
  go_upto_region 1 with fail
  have K0 := CAt.new 79 w #[.int .i64 (c : Int), .int .i64 x.k, .int .i64 x.i, .int .i64 x.v, .int .i64 x.n, y1, y2]
  have b0 : Below w.heap.size w (w.alloc (.cells #[.int .i64 (c : Int), .int .i64 x.k, .int .i64 x.i, .int .i64 x.v, .int .i64 x.n, y1, y2] 79)) := (Below.refl _ w).alloc (Nat.le_refl _) _
  generalize w.alloc (.cells #[.int .i64 (c : Int), .int .i64 x.k, .int .i64 x.i, .int .i64 x.v, .int .i64 x.n, y1, y2] 79) = w0 at *
  have k0 : w0.cell? ⟨w.heap.size, 0, none⟩ = some (.int .i64 (c : Int)) := K0.cell 0
  have hz0 := K0.lt
  have H0 := hide (show _ ∧ _ ∧ _ from ⟨hC.over b0, K0, b0⟩)
  clear hC hp K0 b0
  go_quiet (fail)
  simp only [Exit.then]
  apply_assumption
  have C1 := H0.out.1.over (below_drewN (Below.refl w0.heap.size w0) nq)
  have K1 := H0.out.2.1.over (below_drewN (Below.refl w0.heap.size w0) nq)
  have b1 := below_drewN H0.out.2.2 nq
  clear k0 H0
  generalize w0.drewN nq = w1 at *
  have k00 : w1.cell? ⟨w.heap.size, 0, none⟩ = some (.int .i64 (c : Int)) := K1.cell 0
  have k1 : w1.cell? ⟨w.heap.size, 1, none⟩ = some (.int .i64 x.k) := K1.cell 1
  have k2 : w1.cell? ⟨w.heap.size, 2, none⟩ = some (.int .i64 x.i) := K1.cell 2
  have k3 : w1.cell? ⟨w.heap.size, 3, none⟩ = some (.int .i64 x.v) := K1.cell 3
  have hz1 := K1.lt
  have hzg := C1.lt
  have P1 := HP.out.ofNew b1 0
  have m1 := pr_loadS C1
  have H1 := hide (show _ ∧ _ ∧ _ ∧ _ from ⟨C1, K1, b1, P1⟩)
  clear C1 K1 b1 P1
  have hk := HKX.out
  rw [hk] at k1
  replace HD := hide ((HD.out.trans (if_neg (by omega))).trans (if_pos hk))
  obtain ⟨hv0, hv1⟩ := hv (.inr hk)
  obtain ⟨n, hn, hn6⟩ : ∃ n : Nat, x.v = (n : Int) ∧ n < 6 := ⟨x.v.toNat, by omega, by omega⟩
  rw [hn, Int.toNat_natCast] at HD
  rw [hn] at k3
  have hnn : (n : Int) < 6 := by omega
  have hnz : (0 : Int) ≤ (n : Int) := by omega
  have d4 := (pr_val H1.out.1 hn6).2.2
  have HNV := hide hn
  clear hv hv0 hv1 hn
  go_upto_region 8 with fail
  go_quiet (fail)
  simp only [Exit.then]
  apply_assumption
  have C2 := H1.out.1.over (below_drewN (Below.refl w1.heap.size w1) nq)
  have K2 := H1.out.2.1.over (below_drewN (Below.refl w1.heap.size w1) nq)
  have b2 := below_drewN H1.out.2.2.1 nq
  clear k00 k1 k2 k3 d4 m1 hz1 hzg H1
  generalize w1.drewN nq = w2 at *
  cases hdd : (p.s.V n).dead
  · replace HD := hide (HD.out.trans (if_neg (by simp [hdd])))
    have e2 : w2.cell? ⟨w.heap.size, 2, none⟩ = some (.int .i64 x.i) := K2.cell 2
    have e3 : w2.cell? ⟨w.heap.size, 3, none⟩ = some (.int .i64 (n : Int)) := by rw [← HNV.out]; exact K2.cell 3
    have e6 : w2.cell? ⟨g, 66 + c * 14 + 2, none⟩ = some (.int .i64 (p.L c).base) := (C2.lk hc).facts.2.2.1
    have hzg2 := C2.lt
    have hzk2 := K2.lt
    have HPU := hide (fun (wx : World) (hb : Below w2.heap.size w2 wx) => ppunish_any g p v P wx n (maxI x.i (p.L c).base) (C2.over hb) ((HP.out.ws.over b2).over hb) hgs hn6 hdd)
    have HMX : Hid (maxI x.i (p.L c).base = if x.i < (p.L c).base then (p.L c).base else x.i) := rfl
    have H2 := hide (show _ ∧ _ ∧ _ from ⟨C2, K2, b2⟩)
    clear C2 K2 b2
    generalize hO : 66 + c * 14 = o at *
    have HO := hide hO
    clear hO
    go_upto_region 9 with fail
    generalize hBS : (p.L c).base = bs at *
    have HBS := hide hBS
    clear hBS
    generalize maxI x.i bs = mx at *
    generalize punS p.s n mx = s2 at *
    have hcs : (x.i < bs ∧ mx = bs) ∨ (¬ x.i < bs ∧ mx = x.i) := by
      by_cases h : x.i < bs
      · exact .inl ⟨h, HMX.out.trans (if_pos h)⟩
      · exact .inr ⟨h, HMX.out.trans (if_neg h)⟩
    clear HMX
    rcases hcs with ⟨hlt, hmx⟩ | ⟨hlt, hmx⟩
    all_goals
      rw [hmx] at HPU
      apply wp_join (fun w' => ∃ u, CAt 47 w' g (prC { p with s := s2 } { v with ws := u }) ∧ Rep (fun b => w2.heap.size ≤ b) w' u 8 64 (wsL s2.W) ∧ Alt g w2 w')
      · refine wp_region_noPanic ?_
        have HS2 : Hid (∀ wx, Below w2.heap.size w2 wx → wx.cell? ⟨w.heap.size, 2, none⟩ = some (.int .i64 x.i) ∧ wx.cell? ⟨w.heap.size, 3, none⟩ = some (.int .i64 (n : Int)) ∧ wx.cell? ⟨g, o + 2, none⟩ = some (.int .i64 bs)) := fun wx hb => ⟨(hb.cell (p := ⟨w.heap.size, 2, none⟩) hzk2).trans e2, (hb.cell (p := ⟨w.heap.size, 3, none⟩) hzk2).trans e3, (hb.cell (p := ⟨g, o + 2, none⟩) hzg2).trans e6⟩
        have HSK : Hid (∀ (w3 : World) (u3 : Value), CAt 47 w3 g (prC { p with s := s2 } { v with ws := u3 }) → Alt g w2.drew w3 → w3.cell? ⟨w.heap.size, 2, none⟩ = some (.int .i64 x.i) ∧ w3.cell? ⟨w.heap.size, 3, none⟩ = some (.int .i64 (n : Int)) ∧ w3.cell? ⟨g, o + 2, none⟩ = some (.int .i64 bs)) := fun w3 u3 C3 A3 => by
          have K3 := A3.cat (b := w.heap.size) (by omega) (H2.out.2.1.over (Below.refl w2.heap.size w2).drew)
          refine ⟨K3.cell 2, by rw [← HNV.out]; exact K3.cell 3, ?_⟩
          have h := (C3.lk hc).facts.2.2.1
          rw [HO.out, HBS.out] at h
          exact h
        have hb := Below.refl w2.heap.size w2
        go_region_held3 (fun wx => wx.cell? ⟨w.heap.size, 2, none⟩ = some (.int .i64 x.i) ∧ wx.cell? ⟨w.heap.size, 3, none⟩ = some (.int .i64 (n : Int)) ∧ wx.cell? ⟨g, o + 2, none⟩ = some (.int .i64 bs)) (first | exact HS3.out | (refine HS2.out _ ?_; first | with_reducible exact hb | with_reducible exact hb.drew)) ((go_at_call 112; refine (HPU.out _ (by exact (Below.refl _ _).drew)).mono ?_; rintro e w3 ⟨u3, rfl, C3, U3, A3⟩; have HS3 := hide (HSK.out w3 u3 C3 A3); have HW3 := hide (show _ ∧ _ ∧ _ from ⟨C3, U3, A3⟩); clear C3 U3 A3; dsimp only))
        all_goals
          exact NoPanic.normal ⟨rfl, rfl, u3, HW3.out.1, HW3.out.2.1, (Alt.of (Below.refl _ _).drew).trans HW3.out.2.2⟩
      rintro w' ⟨u, C3, U3, A3⟩
      have N3 := A3.pin (new_not hg hgl) (HP.out.ofNew H2.out.2.2 0)
      have hs2 := H2.out.2.2.size
      have HZ := hide (show _ ∧ _ ∧ _ ∧ _ from ⟨C3, (Alt.of (g := g) H2.out.2.2).trans A3, U3, N3⟩)
      clear C3 U3 A3 N3 e2 e3 e6 hzg2 hzk2
      first | simp only [Exit.inBlock, Exit.then] | simp only [Exit.then] | skip
      apply_assumption
      go_wp2
      go_ret
      rw [HD.out]
      exact ⟨{ v with ws := u }, rfl, HZ.out.1, ⟨HZ.out.2.2.1.mono fun b _ h => .inr (by omega), HZ.out.2.2.2.set, HZ.out.2.2.2.lk, HZ.out.2.2.2.q⟩, HZ.out.2.1⟩
  · replace HD := hide (HD.out.trans (if_pos hdd))
    have P2 := HP.out.ofNew b2 0
    have HZ := hide (show _ ∧ _ ∧ _ from ⟨C2, b2, P2⟩)
    clear C2 K2 b2 P2
    go_wp2
    go_ret
    rw [HD.out]
    exact ⟨v, rfl, HZ.out.1, HZ.out.2.2, Alt.of HZ.out.2.1⟩
end Go.Proofs.YtjghbciepinofaaGreat.Pv

set_option maxRecDepth 100000
namespace Go.Proofs.YtjghbciepinofaaGreat.Pv
open Go.RowKit
attribute [local go_sem ↓] loadS_eq loadP_eq storeP_eq storeS_eq
set_option maxHeartbeats 8000000 in
theorem pdeal_matured (g : Nat) (p : Pr) (v : PrV) (P : Nat → Prop) (w : World) (c : Nat) (hc : c < 2) (x : Pkt) (y1 y2 : Value) (hC : CAt 47 w g (prC p v)) (hp : PIn P w p v) (hg : ¬ P g) (_hgs : goodS p.s = true) (hk : x.k = 2) (_hv : x.k = 3 ∨ x.k = 4 → 0 ≤ x.v ∧ x.v < 6) :
    Calls Tryz.prog 67 #[.pointer (some ⟨g, 0, none⟩), .agg #[.int .i64 (c : Int), .int .i64 x.k, .int .i64 x.i, .int .i64 x.v, .int .i64 x.n, y1, y2]] w (TurnsB w g P (dealP p c x)) := by
  have hD : dealP p c x = if x.k = 2 then ({ p with s := { p.s with W := relW c x.i p.s.W } }, true)
    else if x.k = 4 then
      if (p.s.V x.v.toNat).dead = true then (p, true) else ({ p with s := punS p.s x.v.toNat (maxI x.i (p.L c).base) }, true)
    else if (p.s.V x.v.toNat).jail = true then ({ p with L := updL p.L c { p.L c with done := doneL (p.L c).done x.v } }, true)
    else if p.ml < 1 then (p, false)
    else ({ p with ml := wrap64 (p.ml - powV (p.s.V x.v.toNat)), s := setJ p.s x.v.toNat true (p.s.V x.v.toNat).dead, L := updL p.L c { p.L c with done := doneL (p.L c).done x.v } }, true) := by unfold dealP; rfl
  generalize dealP p c x = D at *
  have HD := hide hD
  have HKX := hide hk
  clear hk
  have HP := hide hp
  have hgl := hC.lt
  have hcc : (c : Int) < 2 := by omega
  have hcz : (0 : Int) ≤ (c : Int) := by omega
  clear hD
  go_enter Tryz.func67, Tryz.ntmps67
  go_upto_region 1 with fail
  have K0 := CAt.new 79 w #[.int .i64 (c : Int), .int .i64 x.k, .int .i64 x.i, .int .i64 x.v, .int .i64 x.n, y1, y2]
  have b0 : Below w.heap.size w (w.alloc (.cells #[.int .i64 (c : Int), .int .i64 x.k, .int .i64 x.i, .int .i64 x.v, .int .i64 x.n, y1, y2] 79)) := (Below.refl _ w).alloc (Nat.le_refl _) _
  generalize w.alloc (.cells #[.int .i64 (c : Int), .int .i64 x.k, .int .i64 x.i, .int .i64 x.v, .int .i64 x.n, y1, y2] 79) = w0 at *
  have k0 : w0.cell? ⟨w.heap.size, 0, none⟩ = some (.int .i64 (c : Int)) := K0.cell 0
  have hz0 := K0.lt
  have H0 := hide (show _ ∧ _ ∧ _ from ⟨hC.over b0, K0, b0⟩)
  clear hC hp K0 b0
  go_quiet (fail)
  simp only [Exit.then]
  apply_assumption
  have C1 := H0.out.1.over (below_drewN (Below.refl w0.heap.size w0) nq)
  have K1 := H0.out.2.1.over (below_drewN (Below.refl w0.heap.size w0) nq)
  have b1 := below_drewN H0.out.2.2 nq
  clear k0 H0
  generalize w0.drewN nq = w1 at *
  have k00 : w1.cell? ⟨w.heap.size, 0, none⟩ = some (.int .i64 (c : Int)) := K1.cell 0
  have k1 : w1.cell? ⟨w.heap.size, 1, none⟩ = some (.int .i64 x.k) := K1.cell 1
  have k2 : w1.cell? ⟨w.heap.size, 2, none⟩ = some (.int .i64 x.i) := K1.cell 2
  have k3 : w1.cell? ⟨w.heap.size, 3, none⟩ = some (.int .i64 x.v) := K1.cell 3
  have hz1 := K1.lt
  have hzg := C1.lt
  have P1 := HP.out.ofNew b1 0
  have m1 := pr_loadS C1
  have H1 := hide (show _ ∧ _ ∧ _ ∧ _ from ⟨C1, K1, b1, P1⟩)
  clear C1 K1 b1 P1
  have hk := HKX.out
  rw [hk] at k1
  replace HD := hide (HD.out.trans (if_pos hk))
  obtain ⟨s', hs'⟩ : ∃ s' : St, { p.s with W := relW c x.i p.s.W } = s' := ⟨_, rfl⟩
  have hsW : relW c x.i p.s.W = s'.W := by rw [← hs']
  have hrl := fun (wx : World) (hb : Below w1.heap.size w1 wx) => st_rel (H1.out.2.2.2.ws.over hb) c x.i hc
  rw [hs'] at hrl HD
  rw [hsW] at hrl
  have HRL := hide hrl
  clear hrl hs' hsW
  have m1d := pr_loadS (H1.out.1.over (Below.refl w1.heap.size w1).drew)
  go_upto_region 4 with fail
  apply wp_joinx (fun u w' => ∃ w3, w' = w3.setCells g 2 (stC s' u).toList ∧ Below w1.heap.size w1 w3 ∧ Rep (fun b => w1.heap.size ≤ b) w3 u 8 64 (wsL s'.W))
  · refine wp_region_noPanic ?_
    have HW3 : Hid (∀ (w3 : World) (u3 : Value), Below w1.heap.size w1 w3 → (∃ A n C, u3 = .slice A n C) → ∃ wS, wS = w3.setCells g 2 (stC s' u3).toList ∧ (storeS (.pointer (some ⟨g, 2, none⟩)) (.agg (stC s' u3))).run Tryz.prog w3 = .ok () wS) := fun w3 u3 b3 h3 => ⟨_, rfl, pr_storeS (H1.out.1.over b3) (prC_size _ _) (stC_size s' u3) (st_one s' h3)⟩
    have HRD := hide (HRL.out w1.drew (Below.refl _ _).drew)
    go_region_with (go_at_call 110; refine HRD.out.mono ?_; rintro e w3 ⟨u3, rfl, U3, hb3⟩; have b3 := (Below.refl w1.heap.size w1).drew.trans hb3; obtain ⟨wS, hwS, sS3⟩ := HW3.out w3 u3 b3 U3.one'; have HwS := hide hwS; clear hwS)
    all_goals
      exact NoPanic.normal ⟨u3, rfl, rfl, w3, HwS.out, b3, U3⟩
  rintro u w' ⟨w3, rfl, b3, U3⟩
  have C4 := (H1.out.1.over b3).stake s' u
  have A4 := (Alt.of (g := g) (H1.out.2.2.1.trans (b3.mono H1.out.2.2.1.size))).sets (stC s' u).toList 2
  have hs1 := H1.out.2.2.1.size
  have U4 := U3.sets (g := g) (fun h => by omega) 2 (stC s' u).toList
  have N4 := (H1.out.2.2.2.over b3).sets (g := g) (new_not hg hgl) 2 (stC s' u).toList
  have HZ := hide (show _ ∧ _ ∧ _ ∧ _ from ⟨C4, A4, U4, N4⟩)
  clear C4 A4 U4 N4 b3 U3 m1 m1d k00 k1 k2 k3 hz1 hzg
  generalize w3.setCells g 2 (stC s' u).toList = w4 at *
  simp only [Exit.inBlock, Exit.then]
  apply_assumption
  go_wp2
  go_ret
  have hd := HD.out
  rw [hd]
  exact ⟨{ v with ws := u }, rfl, HZ.out.1, ⟨HZ.out.2.2.1.mono fun b _ h => .inr (by omega), HZ.out.2.2.2.set, HZ.out.2.2.2.lk, HZ.out.2.2.2.q⟩, HZ.out.2.1⟩
set_option maxHeartbeats 8000000 in
theorem pdeal_down (g : Nat) (p : Pr) (v : PrV) (P : Nat → Prop) (w : World) (c : Nat) (hc : c < 2) (x : Pkt) (y1 y2 : Value) (hC : CAt 47 w g (prC p v)) (hp : PIn P w p v) (hg : ¬ P g) (_hgs : goodS p.s = true) (hk : x.k = 3) (_hv : x.k = 3 ∨ x.k = 4 → 0 ≤ x.v ∧ x.v < 6)
    (HDN : x.k = 3 → ∀ (wx : World) (v : PrV) (P' : Nat → Prop), CAt 47 wx g (prC p v) → PIn P' wx p v → ¬ P' g → Calls Tryz.prog 111 #[.pointer (some ⟨g, 0, none⟩), .pointer (some ⟨g, 66 + c * 14, none⟩), .int .i64 x.v] wx (TurnsB wx g P' (dealP p c x))) :
    Calls Tryz.prog 67 #[.pointer (some ⟨g, 0, none⟩), .agg #[.int .i64 (c : Int), .int .i64 x.k, .int .i64 x.i, .int .i64 x.v, .int .i64 x.n, y1, y2]] w (TurnsB w g P (dealP p c x)) := by
  have hD : dealP p c x = if x.k = 2 then ({ p with s := { p.s with W := relW c x.i p.s.W } }, true)
    else if x.k = 4 then
      if (p.s.V x.v.toNat).dead = true then (p, true) else ({ p with s := punS p.s x.v.toNat (maxI x.i (p.L c).base) }, true)
    else if (p.s.V x.v.toNat).jail = true then ({ p with L := updL p.L c { p.L c with done := doneL (p.L c).done x.v } }, true)
    else if p.ml < 1 then (p, false)
    else ({ p with ml := wrap64 (p.ml - powV (p.s.V x.v.toNat)), s := setJ p.s x.v.toNat true (p.s.V x.v.toNat).dead, L := updL p.L c { p.L c with done := doneL (p.L c).done x.v } }, true) := by unfold dealP; rfl
  generalize dealP p c x = D at *
  have HD := hide hD
  have HKX := hide hk
  clear hk
  have HDW := hide HDN
  have HP := hide hp
  have hgl := hC.lt
  have hcc : (c : Int) < 2 := by omega
  have hcz : (0 : Int) ≤ (c : Int) := by omega
  clear hD HDN
  go_enter Tryz.func67, Tryz.ntmps67
  go_upto_region 1 with fail
  have K0 := CAt.new 79 w #[.int .i64 (c : Int), .int .i64 x.k, .int .i64 x.i, .int .i64 x.v, .int .i64 x.n, y1, y2]
  have b0 : Below w.heap.size w (w.alloc (.cells #[.int .i64 (c : Int), .int .i64 x.k, .int .i64 x.i, .int .i64 x.v, .int .i64 x.n, y1, y2] 79)) := (Below.refl _ w).alloc (Nat.le_refl _) _
  generalize w.alloc (.cells #[.int .i64 (c : Int), .int .i64 x.k, .int .i64 x.i, .int .i64 x.v, .int .i64 x.n, y1, y2] 79) = w0 at *
  have k0 : w0.cell? ⟨w.heap.size, 0, none⟩ = some (.int .i64 (c : Int)) := K0.cell 0
  have hz0 := K0.lt
  have H0 := hide (show _ ∧ _ ∧ _ from ⟨hC.over b0, K0, b0⟩)
  clear hC hp K0 b0
  go_quiet (fail)
  simp only [Exit.then]
  apply_assumption
  have C1 := H0.out.1.over (below_drewN (Below.refl w0.heap.size w0) nq)
  have K1 := H0.out.2.1.over (below_drewN (Below.refl w0.heap.size w0) nq)
  have b1 := below_drewN H0.out.2.2 nq
  clear k0 H0
  generalize w0.drewN nq = w1 at *
  have k00 : w1.cell? ⟨w.heap.size, 0, none⟩ = some (.int .i64 (c : Int)) := K1.cell 0
  have k1 : w1.cell? ⟨w.heap.size, 1, none⟩ = some (.int .i64 x.k) := K1.cell 1
  have k2 : w1.cell? ⟨w.heap.size, 2, none⟩ = some (.int .i64 x.i) := K1.cell 2
  have k3 : w1.cell? ⟨w.heap.size, 3, none⟩ = some (.int .i64 x.v) := K1.cell 3
  have hz1 := K1.lt
  have hzg := C1.lt
  have P1 := HP.out.ofNew b1 0
  have m1 := pr_loadS C1
  have H1 := hide (show _ ∧ _ ∧ _ ∧ _ from ⟨C1, K1, b1, P1⟩)
  clear C1 K1 b1 P1
  have hk := HKX.out
  rw [hk] at k1
  replace HDW := hide (HDW.out hk)
  have HDX := hide (HDW.out w1 v _ H1.out.1 H1.out.2.2.2 (new_not hg hgl))
  clear HDW
  go_wp2_with (go_at_call 111; refine HDX.out.mono ?_; rintro e w2 ⟨v2, rfl, C2, P2, A2⟩)
  go_ret
  refine ⟨v2, rfl, C2, P2.mono fun b _ h => ?_, (Alt.of H1.out.2.2.1).trans A2⟩
  rcases h with ⟨h, _⟩ | h
  · exact h
  · exact .inr (by have := H1.out.2.2.1.size; omega)
end Go.Proofs.YtjghbciepinofaaGreat.Pv

set_option maxRecDepth 100000
namespace Go.Proofs.YtjghbciepinofaaGreat.Pv
open Go.RowKit
/-- one number is put behind a list that has no room: a new block -/
theorem apI {P : Nat → Prop} (w : World) (A : Option Addr) (y : Nat) (l : List Int) (x : Int) (hr : Rep P w (.slice A l.length l.length) 1 8 (inC l)) (h60 : l.length ≤ 60) (hy : w.cell? ⟨y, 0, none⟩ = some (.int .i64 x)) :
    ∃ C w', (Builtin.append_ #[34, 34] 34 #[.slice A l.length l.length, .slice (some ⟨y, 0, none⟩) 1 1]).run Tryz.prog w = .ok (.slice (some ⟨w.heap.size, 0, none⟩) (l.length + 1) C) w' ∧ l.length + 1 ≤ C ∧ RowI w' w.heap.size (l ++ [x]) ∧ Below w.heap.size w w' := by
  obtain ⟨i0, hi, hz0, hz1, hz2⟩ := info_parts Ln.infoI
  have hnews : ∀ j v, ([.int .i64 x] : List Value)[j]? = some v → w.cell? ((⟨y, 0, none⟩ : Addr).add j) = some v := fun j v hv => by
    rw [Addr.add_lit, Nat.zero_add]
    have hj := (List.getElem?_eq_some_iff.1 hv).1
    obtain rfl : j = 0 := by simpa using hj
    simp at hv
    rw [hy, hv]
  have new : ∀ (arr tail : Array Value), arr.toList = inC (l ++ [x]) → RowI (w.drew.alloc (.cells (arr ++ tail) 3)) w.heap.size (l ++ [x]) := fun arr tail ha => by
    refine ⟨arr ++ tail, heap_alloc_new w.drew _, fun i z hz => ?_⟩
    have hz' : (inC (l ++ [x]))[i]? = some (.int .i64 z) := by unfold inC; rw [List.getElem?_map, hz]; rfl
    have hj' : arr[i]? = some (Value.int .i64 z) := by rw [← ha] at hz'; simpa using hz'
    rw [Array.getElem?_append_left (Array.getElem?_eq_some_iff.1 hj').1]
    exact hj'
  have happ : inC (l ++ [x]) = inC l ++ [.int .i64 x] := by simp [inC]
  have hcl : (inC l).length = l.length := by simp [inC]
  have hnx : ∀ n : Nat, n ≤ 60 → Builtin.nextslicecap (n + 1) n * 8 ≤ 281474976710656 := fun n hn => by
    rcases Nat.eq_zero_or_pos n with rfl | hp
    · rw [nextslicecap_zero (by omega)]; omega
    · have := nextslicecap_succ hp; omega
  obtain ⟨A', n', C', h1, h2, h3, h4, h5⟩ := hr
  cases h1
  cases A with
  | none =>
    have h0 : l.length = 0 := by
      rcases Nat.eq_zero_or_pos l.length with h | h
      · exact h
      · obtain ⟨b, off, e, _⟩ := h5 h; cases e
    obtain rfl : l = [] := List.length_eq_zero_iff.1 h0
    refine ⟨_, _, run_append_nil (P := Tryz.prog) w 34 34 3 i0 _ Tryz.underlying34 hi hz0 ⟨y, 0, none⟩ 1 1 [.int .i64 x] (by rw [hz1]; rfl) hnews (by omega) (by omega) (by rw [hz2]; omega), grownCap_ge _ _ _ _, ?_, (Below.refl _ w).drew.alloc (Nat.le_refl _) _⟩
    exact new _ _ (by simp [inC])
  | some a =>
    have hold : ∀ j v, (inC l)[j]? = some v → w.cell? (a.add j) = some v := fun j v hv => by
      have h0 : 0 < l.length := by
        have := (List.getElem?_eq_some_iff.1 hv).1
        omega
      obtain ⟨b, off, e, _, _, hc⟩ := h5 h0
      cases e
      rw [Addr.add_lit]
      exact hc j v hv
    refine ⟨_, _, run_append_grow (P := Tryz.prog) w 34 34 3 i0 _ Tryz.underlying34 hi hz0 a l.length l.length (inC l) (by rw [hz1, hcl]; omega) hold ⟨y, 0, none⟩ 1 1 [.int .i64 x] (by rw [hz1]; rfl) hnews (by omega) (by omega) (by rw [hz2]; exact hnx _ h60), grownCap_ge _ _ _ _, ?_, (Below.refl _ w).drew.alloc (Nat.le_refl _) _⟩
    exact new _ _ (by simp [happ])
theorem wpList_apI {P : Nat → Prop} {ops : Array Oper} {rest : List Oper} {o : Oper} {a : Act} {w : World} {Q : Exit → Act → World → Prop} (hgd : o.guard = none) (hty : o.type = 34) (p q : Operand)
    (hop : o.op = Op.call { callee := Callee.builtin Builtin.append, args := #[p, q], argTypes := #[34, 34] }) (A : Option Addr) (y : Nat) (l : List Int) (x : Int) (hs : a.eval p = .slice A l.length l.length) (hx : a.eval q = .slice (some ⟨y, 0, none⟩) 1 1)
    (hr : Rep P w (.slice A l.length l.length) 1 8 (inC l)) (h60 : l.length ≤ 60) (hy : w.cell? ⟨y, 0, none⟩ = some (.int .i64 x))
    (h : ∀ g C w', g = w.heap.size → l.length + 1 ≤ C → RowI w' g (l ++ [x]) → Below w.heap.size w w' → wpList Tryz.prog ops Q rest (a.put o.dst (.slice (some ⟨g, 0, none⟩) (l.length + 1) C)) w') : wpList Tryz.prog ops Q (o :: rest) a w := by
  refine wpList_plain hgd fun K hK' => ?_
  unfold Oper.wp
  obtain ⟨C, w', hr, hC, hrow, hB⟩ := apI w A y l x hr h60 hy
  simp [execOp, hop, resolve, invoke, builtin, hs, hx, hty, hr, Result.andThen]
  exact hK' _ _ (h _ _ _ rfl hC hrow hB)
set_option maxHeartbeats 4000000 in
theorem pwithV_any (D : List Int) (u : Value) (P : Nat → Prop) (w : World) (v : Int) (hu : Rep P w u 1 8 (inC D)) (hD : riseB (-1) D = true) (h0 : 0 ≤ v) (h5 : v < 6) :
    Calls Tryz.prog 149 #[u, .int .i64 v] w fun e w' => ∃ u', e = .returned u' ∧ Rep (New P w 0) w' u' 1 8 (inC (doneL D v)) ∧ Below w.heap.size w w' := by
  have HC := hide (containsI_any D u P w v hu)
  have hlen := rise_len hD
  by_cases hv : v ∈ D
  · have hE := done_in hD hv
    rw [hE]
    have hd : decide (v ∈ D) = true := by simpa using hv
    rw [hd] at HC
    have HU := hide hu
    clear hu hD hE hd hv
    go_enter Tryz.func149, Tryz.ntmps149
    go_wp2_with (go_at_call 161; refine HC.out.mono ?_; rintro e w1 ⟨rfl, rfl⟩)
    go_ret
    exact ⟨_, rfl, HU.out.mono fun b hl hb => .inl ⟨hb, hl⟩, Below.refl _ _⟩
  · have hE := done_sort hD h0 (by omega) hv
    rw [← hE]
    have hd : decide (v ∈ D) = false := by simpa using hv
    rw [hd] at HC
    obtain ⟨A, C, rfl, hs, hn, hc, -⟩ := hu.open (inC_length _) (by decide)
    have hroom := hu.room rfl
    have b1 : Below w.heap.size w (w.alloc (.cells #[.int .i64 v] 3)) := (Below.refl _ w).alloc (Nat.le_refl _) _
    have HU := hide (hu.clip.over b1)
    have hcl := clipI_any A D.length C hroom.1 (fun e => (hn e).1) (by omega) w
    have hlen2 : (D ++ [v]).length = D.length + 1 := by simp
    have HS : Hid (∀ (g C' : Nat) (w' : World), RowI w' g (D ++ [v]) → Calls Tryz.prog 163 #[.slice (some ⟨g, 0, none⟩) (D.length + 1) C'] w' fun e w2 => e = .returned (.tuple #[]) ∧ RowI w2 g (isrtI (D ++ [v])) ∧ ButB g w' w2) := fun g C' w' h => by
      have := sortI_any g C' (D ++ [v]) w' h (by omega)
      rw [hlen2] at this
      exact this
    have HB1 := hide b1
    have HL2 := hide hlen2
    have hcell := (CAt.new 3 w #[.int .i64 v]).cell 0
    have HCE := hide hcell
    clear hu hD hE hd hv hs hn hc hroom b1 hlen2 hcell
    go_enter Tryz.func149, Tryz.ntmps149
    go_wp2_with (first
      | (go_at_call 161; refine HC.out.mono ?_; rintro e w1 ⟨rfl, rfl⟩)
      | (go_at_call 162; refine hcl.mono ?_; rintro e w1 ⟨rfl, rfl⟩)
      | (at_builtin; refine wpList_apI rfl rfl _ _ rfl A w.heap.size D v rfl rfl HU.out (by omega) HCE.out ?_; intro g C' w' hg hC' hrow hbel; have HG := hide hg; have HR := hide (show _ ∧ _ ∧ _ from ⟨hC', hrow, hbel⟩); clear hg hC' hrow hbel)
      | (go_at_call 163; refine (HS.out _ _ _ HR.out.2.1).mono ?_; rintro e w2 ⟨rfl, h1⟩; have H1 := hide h1; clear h1))
    go_ret
    have hz : g = w.heap.size + 1 := by rw [HG.out]; simp
    have hll : (isrtI (D ++ [v])).length = D.length + 1 := by rw [isrtI_length]; exact HL2.out
    have hR := RowI.rep (C := C') H1.out.1 (by rw [hll]; exact HR.out.1) (by rw [hll]; omega)
    rw [hll] at hR
    refine ⟨_, rfl, hR.mono fun b _ e => .inr (by omega), (HB1.out.trans (HR.out.2.2.mono HB1.out.size)).trans (H1.out.2.below (by omega) ?_)⟩
    have := HR.out.2.2.size
    have := HB1.out.size
    omega
end Go.Proofs.YtjghbciepinofaaGreat.Pv

set_option maxRecDepth 100000
namespace Go.Proofs.YtjghbciepinofaaGreat
theorem swap_perm : ∀ (l : List Pw) (p : Nat), p + 1 < l.length → (swapAt l p).Perm l
  | [], _, h => by simp at h
  | [_], _, h => by simp at h
  | a :: b :: t, 0, _ => by
    have e : swapAt (a :: b :: t) 0 = b :: a :: t := by simp [swapAt]
    rw [e]
    exact List.Perm.swap a b t
  | a :: b :: t, p + 1, h => by
    have e : swapAt (a :: b :: t) (p + 1) = a :: swapAt (b :: t) p := by simp [swapAt]
    rw [e]
    exact (swap_perm (b :: t) p (by simp at h ⊢; omega)).cons a
theorem swap_getD (l : List Pw) (p : Nat) (h : p + 1 < l.length) (i : Nat) : (swapAt l p).getD i pz = if i = p then l.getD (p + 1) pz else if i = p + 1 then l.getD p pz else l.getD i pz := by
  unfold swapAt
  simp only [List.getD_eq_getElem?_getD, List.getElem?_set, List.length_set]
  by_cases h1 : i = p
  · subst h1; simp [show i < l.length by omega]
  · by_cases h2 : i = p + 1
    · subst h2; simp [h]
    · rw [if_neg (by omega), if_neg (by omega), if_neg h1, if_neg h2]
/-- no element of the first is less than one ahead of it -/
def Srt (lt : Pw → Pw → Bool) (l : List Pw) (m : Nat) : Prop := ∀ i j, i < j → j < m → lt (l.getD j pz) (l.getD i pz) = false
structure Ord (lt : Pw → Pw → Bool) : Prop where
  asym : ∀ a b, lt a b = true → lt b a = false
  trans : ∀ a b c, lt b a = false → lt c b = false → lt c a = false
theorem ins_srt {lt : Pw → Pw → Bool} (o : Ord lt) : ∀ (p : Nat) (l : List Pw) (m : Nat), p < m → m ≤ l.length → (∀ i j, i < j → j < m → j ≠ p → lt (l.getD j pz) (l.getD i pz) = false) → Srt lt (insG lt p l) m
  | 0, l, m, _, _, h => fun i j hij hj => h i j hij hj (by omega)
  | p + 1, l, m, hp, hm, h => by
    rw [insG]
    split
    · rename_i hlt
      refine ins_srt o p _ m (by omega) (by rw [swap_length]; exact hm) fun i j hij hj hjp => ?_
      have hs := swap_getD l p (by omega)
      rw [hs j, hs i]
      by_cases h1 : j = p + 1
      · subst h1
        rw [if_neg (by omega), if_pos rfl]
        by_cases h2 : i = p
        · subst h2; rw [if_pos rfl]; exact o.asym _ _ hlt
        · rw [if_neg h2, if_neg (by omega)]; exact h i p (by omega) (by omega) (by omega)
      · rw [if_neg hjp, if_neg h1]
        by_cases h2 : i = p
        · subst h2; rw [if_pos rfl]; exact h _ j (by omega) hj h1
        · rw [if_neg h2]
          by_cases h3 : i = p + 1
          · subst h3; rw [if_pos rfl]; exact h p j (by omega) hj h1
          · rw [if_neg h3]; exact h i j hij hj h1
    · rename_i hlt
      have hlt' : lt (l.getD (p + 1) pz) (l.getD p pz) = false := by simpa using hlt
      intro i j hij hj
      by_cases h1 : j = p + 1
      · subst h1
        by_cases h2 : i = p
        · subst h2; exact hlt'
        · exact o.trans _ _ _ (h i p (by omega) (by omega) (by omega)) hlt'
      · exact h i j hij hj h1
theorem ins_perm (lt : Pw → Pw → Bool) : ∀ (p : Nat) (l : List Pw), p < l.length → (insG lt p l).Perm l
  | 0, _, _ => List.Perm.refl _
  | p + 1, l, h => by
    rw [insG]
    split
    · exact (ins_perm lt p _ (by rw [swap_length]; omega)).trans (swap_perm l p h)
    · exact List.Perm.refl _
theorem sortTo_srt {lt : Pw → Pw → Bool} (o : Ord lt) (l : List Pw) : ∀ k, k < l.length → Srt lt (sortTo lt l k) (k + 1)
  | 0, _ => fun i j hij hj => by omega
  | k + 1, h => by
    rw [sortTo]
    exact ins_srt o (k + 1) _ (k + 2) (by omega) (by rw [sortTo_length]; omega) fun i j hij hj hk => sortTo_srt o l k (by omega) i j hij (by omega)
theorem sortTo_perm (lt : Pw → Pw → Bool) (l : List Pw) : ∀ k, k < l.length → (sortTo lt l k).Perm l
  | 0, _ => List.Perm.refl _
  | k + 1, h => by
    rw [sortTo]
    exact (ins_perm lt (k + 1) _ (by rw [sortTo_length]; exact h)).trans (sortTo_perm lt l k (by omega))
theorem isort_perm (lt : Pw → Pw → Bool) (l : List Pw) : (isort lt l).Perm l := by
  unfold isort
  rcases Nat.eq_zero_or_pos l.length with h | h
  · rw [h]; exact List.Perm.refl _
  · exact sortTo_perm lt l _ (by omega)
theorem isort_srt {lt : Pw → Pw → Bool} (o : Ord lt) (l : List Pw) : Srt lt (isort lt l) l.length := by
  unfold isort
  rcases Nat.eq_zero_or_pos l.length with h | h
  · intro i j hij hj; omega
  · have := sortTo_srt o l (l.length - 1) (by omega)
    rwa [show l.length - 1 + 1 = l.length by omega] at this
theorem ltV_iff (a b : Pw) : ltV a b = true ↔ a.1 < b.1 := by
  unfold ltV cmpV cmpI
  rw [decide_eq_true_eq]
  split
  · simp_all
  · split <;> simp_all <;> omega
theorem ltP_iff (a b : Pw) : ltP a b = true ↔ b.2 < a.2 ∨ (a.2 = b.2 ∧ a.1 < b.1) := by
  unfold ltP cmpP cmpV cmpI
  rw [decide_eq_true_eq]
  repeat' split
  all_goals (constructor <;> intro h <;> first | omega | (exfalso; omega) | exact absurd h (by decide))
theorem ltV_no (a b : Pw) : ltV a b = false ↔ ¬ a.1 < b.1 := by rw [← ltV_iff, Bool.not_eq_true]
theorem ltP_no (a b : Pw) : ltP a b = false ↔ ¬ (b.2 < a.2 ∨ (a.2 = b.2 ∧ a.1 < b.1)) := by rw [← ltP_iff, Bool.not_eq_true]
theorem ordV : Ord ltV := ⟨fun a b h => by rw [ltV_no]; rw [ltV_iff] at h; omega, fun a b c h1 h2 => by rw [ltV_no] at *; omega⟩
theorem ordP : Ord ltP := ⟨fun a b h => by rw [ltP_no]; rw [ltP_iff] at h; omega, fun a b c h1 h2 => by rw [ltP_no] at *; omega⟩
theorem mem_cand (V : Nat → Vd) (x : Pw) : ∀ k, x ∈ cand V k ↔ ∃ i : Nat, i < k ∧ x = ((i : Int), pwr (V i)) ∧ 0 < pwr (V i) ∧ (V i).jail = false
  | 0 => by simp [cand]
  | k + 1 => by
    rw [cand]
    have ih := mem_cand V x k
    split
    · rename_i h
      simp only [Bool.and_eq_true, decide_eq_true_eq, Bool.not_eq_true'] at h
      rw [List.mem_append, ih, List.mem_singleton]
      constructor
      · rintro (⟨i, hi, h1⟩ | rfl)
        · exact ⟨i, by omega, h1⟩
        · exact ⟨k, by omega, rfl, h.1, h.2⟩
      · rintro ⟨i, hi, h1⟩
        rcases Nat.lt_or_ge i k with h2 | h2
        · exact .inl ⟨i, h2, h1⟩
        · obtain rfl : i = k := by omega
          exact .inr h1.1
    · rename_i h
      simp only [Bool.and_eq_true, decide_eq_true_eq, Bool.not_eq_true'] at h
      rw [ih]
      constructor
      · rintro ⟨i, hi, h1⟩
        exact ⟨i, by omega, h1⟩
      · rintro ⟨i, hi, h1⟩
        rcases Nat.lt_or_ge i k with h2 | h2
        · exact ⟨i, h2, h1⟩
        · obtain rfl : i = k := by omega
          exact absurd h1.2 h
theorem cand_nodup (V : Nat → Vd) : ∀ k, (cand V k).Pairwise (fun a b => a.1 ≠ b.1)
  | 0 => List.Pairwise.nil
  | k + 1 => by
    rw [cand]
    split
    · rw [List.pairwise_append]
      refine ⟨cand_nodup V k, List.pairwise_singleton _ _, fun a ha b hb => ?_⟩
      rw [mem_cand] at ha
      obtain ⟨i, hi, rfl, _⟩ := ha
      rw [List.mem_singleton] at hb
      subst hb
      show (i : Int) ≠ (k : Int)
      omega
    · exact cand_nodup V k
theorem set_mem (V : Nat → Vd) (x : Pw) : x ∈ setS V ↔ x ∈ (isort ltP (cand V 6)).take 4 := (isort_perm _ _).mem_iff
theorem set_in (V : Nat → Vd) (x : Pw) (h : x ∈ setS V) : ∃ i : Nat, i < 6 ∧ x = ((i : Int), pwr (V i)) ∧ 0 < pwr (V i) ∧ (V i).jail = false := by
  rw [set_mem] at h
  exact (mem_cand V x 6).1 ((isort_perm _ _).mem_iff.1 (List.mem_of_mem_take h))
end Go.Proofs.YtjghbciepinofaaGreat

