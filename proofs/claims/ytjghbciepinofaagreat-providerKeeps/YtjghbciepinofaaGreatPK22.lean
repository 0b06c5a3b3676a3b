/- Parts of the proof: PDA PDB. -/
import Derived.Test.YtjghbciepinofaaGreatRows
import Derived.Test.YtjghbciepinofaaGreatPK21
set_option maxRecDepth 100000
namespace Go.Proofs.YtjghbciepinofaaGreat.Pv
open Go.RowKit
theorem Rep.one' {P : Nat → Prop} {w : World} {v : Value} {sz bts : Nat} {cs : List Value} (h : Rep P w v sz bts cs) : ∃ A n C, v = .slice A n C := by
  obtain ⟨A, n, C, e, _⟩ := h
  exact ⟨A, n, C, e⟩
theorem st_one {v : Value} (s : St) (h : ∃ A n C, v = .slice A n C) : (stC s v).all (·.oneCell') = true := by
  obtain ⟨A, n, C, rfl⟩ := h
  exact stC_one _ _ _ _
attribute [local go_sem ↓] loadS_eq loadP_eq storeP_eq storeS_eq
set_option maxHeartbeats 8000000 in
theorem pdeleg_any (p : Pr) (v : PrV) (P : Nat → Prop) (w : World) (d x n : Int) (hp : PIn P w p v) :
    Calls Tryz.prog 25 #[.agg (prC p v), .int .i64 d, .int .i64 x, .int .i64 n] w (AnsP P w (delegP p d x n)) := by
  have hD : delegP p d x n = if goodP p = true then ({ p with s := (delegS p.s d x n).1 }, (delegS p.s d x n).2) else (p, 2) := rfl
  generalize delegP p d x n = D at *
  have HD := hide hD
  clear hD
  have hone := pr_one hp
  have HGD := hide (fun (wx : World) (hb : Below w.heap.size w wx) => pgood_any p v P wx (hp.over hb))
  have HN := hide (fun (wx : World) (hb : Below w.heap.size w wx) => hp.ofNew hb 2)
  have HP := hide hp
  clear hp
  generalize goodP p = G at *
  go_enter Tryz.func25, Tryz.ntmps25
  go_upto_region 1 with fail
  change Code.wp Tryz.prog _ _ _ ((w.alloc (.cells (prC p v) 47)).alloc (.cells Tryz.zeroCells47 47))
  have C0 : CAt 47 ((w.alloc (.cells (prC p v) 47)).alloc (.cells Tryz.zeroCells47 47)) w.heap.size (prC p v) := (CAt.new _ w _).alloc _
  have R0 : CAt 47 ((w.alloc (.cells (prC p v) 47)).alloc (.cells Tryz.zeroCells47 47)) (w.heap.size + 1) Tryz.zeroCells47 := CAt.new2 _ w _ _
  have B0 : Below w.heap.size w ((w.alloc (.cells (prC p v) 47)).alloc (.cells Tryz.zeroCells47 47)) := ((Below.refl _ w).alloc (Nat.le_refl _) _).alloc (by simp) _
  generalize (w.alloc (.cells (prC p v) 47)).alloc (.cells Tryz.zeroCells47 47) = w0 at *
  have l0 := pr_loadP C0 (prC_size _ _)
  have H0 := hide (show _ ∧ _ ∧ _ from ⟨C0, R0, B0⟩)
  clear C0 R0 B0
  cases G
  · have HR := hide (HD.out.trans (if_neg (by simp)))
    clear HD
    go_upto_region 2 with (go_at_call 10; refine (HGD.out _ H0.out.2.2).mono ?_; rintro e w1 ⟨rfl, hb1⟩; clear l0)
    have R1 := H0.out.2.1.over hb1
    have l1 := pr_loadP (H0.out.1.over hb1) (prC_size _ _)
    have s1 := pr_storeP R1 Z97_size (prC_size p v) hone
    have B1 := H0.out.2.2.trans (hb1.mono H0.out.2.2.size)
    have HZ := hide (show _ ∧ _ from ⟨R1, B1⟩)
    clear R1 B1 hb1 hone
    go_wp2
    exact prov_end2 Tryz.results25 HZ.out.1 Z97_size HZ.out.2 p v 2 D HR.out (HN.out _ HZ.out.2) _ rfl rfl rfl
  · have HR := hide (HD.out.trans (if_pos rfl))
    clear HD
    obtain ⟨Aw, Cw, bw, ow, ews, Ws, -, -⟩ := HP.out.ws.wsAt
    have hdl := fun (wx : World) (hb : Below w.heap.size w wx) => deleg_any p.s Aw bw ow Cw d x n wx (Ws.over hb)
    rw [← ews] at hdl
    have HDL := hide hdl
    have hsl : ∃ A n C, v.ws = .slice A n C := HP.out.ws.one'
    clear hdl ews Ws
    go_upto_region 3 with (go_at_call 10; refine (HGD.out _ H0.out.2.2).mono ?_; rintro e w1 ⟨rfl, hb1⟩; clear l0)
    have C1 := H0.out.1.over hb1
    have R1 := H0.out.2.1.over hb1
    have B1 := H0.out.2.2.trans (hb1.mono H0.out.2.2.size)
    have m1 := pr_loadS C1
    have H1 := hide (show _ ∧ _ ∧ _ from ⟨C1, R1, B1⟩)
    clear C1 R1 B1 hb1 H0
    have hW : (delegS p.s d x n).1.W = p.s.W := by
      unfold delegS
      repeat' split
      all_goals rfl
    have HW := hide hW
    have HSM : Hid ((delegS p.s d x n).2 ≠ 0 → (delegS p.s d x n).1 = p.s) := fun h => by
      unfold delegS at h ⊢
      repeat' split
      all_goals first | rfl | (simp_all; done)
    clear hW
    generalize delegS p.s d x n = r at *
    obtain ⟨s', er⟩ := r
    dsimp only at HR HDL HW HSM
    have one2 := st_one s' hsl
    go_upto_region 4 with (go_at_call 64; refine (HDL.out _ H1.out.2.2).mono ?_; rintro e w2 ⟨rfl, hb2⟩; clear m1; have sS2 := st_storeS (CAt.new 32 w2 Z63) rfl (stC_size s' v.ws) one2; unfold Z63 at sS2)
    change Code.wp Tryz.prog _ _ _ ((w2.alloc (.cells Z63 32)).setCells w2.heap.size 0 (stC s' v.ws).toList)
    have hb3 : Below w2.heap.size w2 ((w2.alloc (.cells Z63 32)).setCells w2.heap.size 0 (stC s' v.ws).toList) := below_sets (Nat.le_refl _) _ _ _ ((Below.refl _ w2).alloc (Nat.le_refl _) _)
    have T3 : CAt 32 ((w2.alloc (.cells Z63 32)).setCells w2.heap.size 0 (stC s' v.ws).toList) w2.heap.size (stC s' v.ws) := (CAt.new 32 w2 Z63).setAll rfl
    have C3 := (H1.out.1.over hb2).over hb3
    have R3 := (H1.out.2.1.over hb2).over hb3
    have B3 := (H1.out.2.2.trans (hb2.mono H1.out.2.2.size)).trans (hb3.mono (Nat.le_trans H1.out.2.2.size hb2.size))
    have hne : w.heap.size < w2.heap.size := (H1.out.1.over hb2).lt
    clear sS2 hb2 hb3 HDL
    generalize (w2.alloc (.cells Z63 32)).setCells w2.heap.size 0 (stC s' v.ws).toList = w3 at *
    by_cases he : er = 0
    · subst he
      have mS := st_loadS T3 (stC_size _ _)
      have sS := pr_storeS C3 (prC_size _ _) (stC_size s' v.ws) one2
      have C4 := C3.stake s' v.ws
      have R4 := R3.others (c := w.heap.size) (o := 2) (by omega) (stC s' v.ws).toList
      have B4 := below_sets (b := w.heap.size) (Nat.le_refl _) (stC s' v.ws).toList 2 _ B3
      have N4 : PIn (New P w 2) (w3.setCells w.heap.size 2 (stC s' v.ws).toList) { p with s := s' } { v with ws := v.ws } := by
        have := (HN.out _ B3).sets (g := w.heap.size) (new_no (j := 0) (by omega)) 2 (stC s' v.ws).toList
        exact ⟨by rw [show (wsL s'.W) = wsL p.s.W by rw [HW.out]]; exact this.ws, this.set, this.lk, this.q⟩
      have l4 := pr_loadP C4 (prC_size _ _)
      have s4 := pr_storeP R4 Z97_size (prC_size { p with s := s' } { v with ws := v.ws }) (pr_one N4)
      have HZ := hide (show _ ∧ _ ∧ _ from ⟨R4, B4, N4⟩)
      clear C3 R3 B3 C4 R4 B4 N4 T3 hone
      go_upto_region 7 with fail
      generalize w3.setCells w.heap.size 2 (stC s' v.ws).toList = w4 at *
      clear mS sS
      go_wp2
      exact prov_end2 Tryz.results25 HZ.out.1 Z97_size HZ.out.2.1 _ _ 0 D HR.out HZ.out.2.2 _ rfl rfl rfl
    · have l3 := pr_loadP C3 (prC_size _ _)
      have s3 := pr_storeP R3 Z97_size (prC_size p v) hone
      have heb : (er != 0) = true := by simpa using he
      have HZ := hide (show _ ∧ _ from ⟨R3, B3⟩)
      have hsame : s' = p.s := HSM.out he
      subst hsame
      clear C3 R3 B3 T3 hone
      go_wp2
      exact prov_end2 Tryz.results25 HZ.out.1 Z97_size HZ.out.2 p v er D HR.out (HN.out _ HZ.out.2) _ rfl rfl rfl
end Go.Proofs.YtjghbciepinofaaGreat.Pv

set_option maxRecDepth 100000
namespace Go.Proofs.YtjghbciepinofaaGreat.Pv
open Go.RowKit
theorem bury_good {s : St} {x : Nat} (hg : goodS s = true) (hx : x < 6) (hd : (s.V x).dead = false) : buryS s x = (setJ s x true true, 0) := by
  unfold buryS
  rw [if_pos (refE_good hg hx), Int.toNat_natCast, if_neg (by simp [hd])]
theorem slash_dead (s : St) (x : Nat) (h : Int) : ((slashS s x h 50).V x).dead = (s.V x).dead := by
  show (setV s.V x _ x).dead = _
  rw [setV_at]
  rfl
theorem Rep.sets {P : Nat → Prop} {w : World} {v : Value} {sz bts : Nat} {cs : List Value} (h : Rep P w v sz bts cs) {g : Nat} (hg : ¬ P g) (o : Nat) (vs : List Value) : Rep P (w.setCells g o vs) v sz bts cs := h.keep fun b hb _ => heap_sets (show b ≠ g from fun e => hg (by rw [← e]; exact hb)) vs o w
attribute [local go_sem ↓] loadS_eq loadP_eq storeP_eq storeS_eq
set_option maxHeartbeats 8000000 in
theorem ppunish_any (g : Nat) (p : Pr) (v : PrV) (P : Nat → Prop) (w : World) (x : Nat) (h : Int) (hC : CAt 47 w g (prC p v)) (hp : Rep P w v.ws 8 64 (wsL p.s.W)) (hg : goodS p.s = true) (hx : x < 6) (hd : (p.s.V x).dead = false) :
    Calls Tryz.prog 112 #[.pointer (some ⟨g, 0, none⟩), .int .i64 (x : Int), .int .i64 h] w fun e w' => ∃ u, e = .returned (.tuple #[]) ∧ CAt 47 w' g (prC { p with s := punS p.s x h } { v with ws := u }) ∧ Rep (fun b => w.heap.size ≤ b) w' u 8 64 (wsL (punS p.s x h).W) ∧ Alt g w w' := by
  have m0 := pr_loadS hC
  have hgt := hC.lt
  have HS := hide (st_slash hp x h hg hx)
  have k := kp_slash hg (v := x) hx h (f := 50) (by decide)
  have hd1 : ((slashS p.s x h 50).V x).dead = false := (slash_dead _ _ _).trans hd
  have hB : buryS (slashS p.s x h 50) x = (punS p.s x h, 0) := bury_good k.good hx hd1
  have HPW : Hid ((punS p.s x h).W = (slashS p.s x h 50).W) := rfl
  generalize punS p.s x h = s2 at *
  generalize slashS p.s x h 50 = s1 at *
  have HC := hide hC
  have HB := hide hB
  clear hC hp hg hd hB k hd1
  go_enter Tryz.func112, Tryz.ntmps112
  go_upto_region 1 with (go_at_call 150; refine HS.out.mono ?_; rintro e w1 ⟨u, y, rfl, hu, hb1⟩; clear m0; have sS1 := pr_storeS (HC.out.over hb1) (prC_size _ _) (stC_size s1 u) (st_one s1 hu.one'))
  have C2 := (HC.out.over hb1).stake s1 u
  have U2 := hu.sets (g := g) (by show ¬ _ ≤ g; omega) 2 (stC s1 u).toList
  have A2 := Alt.sets (stC s1 u).toList (Alt.of (g := g) hb1) 2
  clear sS1 hb1
  generalize w1.setCells g 2 (stC s1 u).toList = w2 at *
  have m2 := pr_loadS C2
  have hbu := st_bury U2 (x : Int)
  rw [HB.out] at hbu
  have HBU := hide hbu
  have H2 := hide (show _ ∧ _ ∧ _ from ⟨C2, U2, A2⟩)
  have one2 := st_one s2 hu.one'
  have hz2 := A2.size
  clear C2 U2 A2 hbu hu HC HB HS
  go_wp2_with (go_at_call 151; refine HBU.out.mono ?_; rintro e w3 ⟨rfl, hb3⟩; clear m2; have sS3 := pr_storeS (H2.out.1.over hb3) (prC_size _ _) (stC_size s2 u) one2)
  go_end0
  have C3 := (H2.out.1.over hb3).stake s2 u
  refine ⟨u, rfl, C3, ?_, H2.out.2.2.trans (Alt.sets (stC s2 u).toList (Alt.of (g := g) hb3) 2)⟩
  rw [HPW.out]
  exact (H2.out.2.1.over hb3).sets (by show ¬ _ ≤ g; omega) 2 _
end Go.Proofs.YtjghbciepinofaaGreat.Pv

