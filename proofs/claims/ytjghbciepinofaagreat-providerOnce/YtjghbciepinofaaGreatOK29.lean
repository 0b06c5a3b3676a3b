/- Parts of the proof: PST PDA. -/
import Derived.Test.YtjghbciepinofaaGreatRows
import Derived.Test.YtjghbciepinofaaGreatOK25
import Derived.Test.YtjghbciepinofaaGreatOK26
set_option maxRecDepth 100000
namespace Go.Proofs.YtjghbciepinofaaGreat.Pv
open Go.RowKit
theorem pwL_eq : ∀ l : List (Int × Int), pwL l = pwC l
  | [] => rfl
  | x :: r => by show _ :: _ :: pwL r = _; rw [pwL_eq r]; rfl
theorem Rep.pows {w : World} {B : Nat} {v : Value} {l : List (Int × Int)} (h : Pows w B v l) (hl : l.length ≤ 8796093021952) : Rep (fun b => B ≤ b) w v 2 16 (pwC l) := by
  have h' : w.ownsRow B 74 2 v l.length (pwL l) := h
  rw [pwL_eq] at h'
  exact Rep.own h' (by omega)
theorem Rep.prow {w : World} {B : Nat} {v : Value} {l : List (Int × Int)} (h : PRow w B v l) (hl : l.length ≤ 8796093021952) : Rep (fun b => B ≤ b) w v 2 16 (pwC l) := by
  rcases h with ⟨rfl, rfl⟩ | ⟨g, cap, rfl, hB, ⟨cur, h1, h2⟩, h3, h4⟩
  · exact Rep.nil _ _ _ _
  · refine ⟨_, l.length, cap, rfl, pwC_length l, by omega, ⟨fun h => (by cases h), h3⟩, fun _ => ⟨g, 0, rfl, hB, (Array.getElem?_eq_some_iff.1 h1).1, fun j u hu => ?_⟩⟩
    have hj : j < l.length * 2 := by have := (List.getElem?_eq_some_iff.1 hu).1; rwa [pwC_length] at this
    have hi : j / 2 < l.length := by omega
    obtain ⟨a1, a2⟩ := pwC_get l (j / 2) hi
    have ex : l[j / 2]? = some (l.getD (j / 2) (0, 0)) := by simp [List.getD, hi]
    obtain ⟨b1, b2⟩ := h2 (j / 2) _ ex
    rw [Nat.zero_add]
    simp only [World.cell?, h1]
    rcases (show j = j / 2 * 2 ∨ j = j / 2 * 2 + 1 by omega) with e | e
    · rw [← e] at a1 b1; rw [a1] at hu; cases hu; simpa using b1
    · rw [← e] at a2 b2; rw [a2] at hu; cases hu; simpa using b2
/-- a list of powers, as Diff, Apply and All want it -/
theorem Rep.pin {P : Nat → Prop} {w : World} {v : Value} {l : List (Int × Int)} (h : Rep P w v 2 16 (pwC l)) : ∃ ao c b off, v = .slice ao l.length c ∧ Df.PIn w l ao b off := by
  obtain ⟨A, C, e, hs, -, hc, -⟩ := h.open (pwC_length _) (by decide)
  rcases Nat.eq_zero_or_pos l.length with h0 | h0
  · exact ⟨A, C, 0, 0, e, by omega, fun h => by omega, fun i hi => by omega⟩
  · obtain ⟨b, off, e2, -, -, hcell⟩ := hc h0
    exact ⟨A, C, b, off, e, by omega, fun _ => e2, fun i hi => ⟨by rw [hcell _ _ (pwC_get l i hi).1], by rw [Nat.add_assoc, hcell _ _ (pwC_get l i hi).2]⟩⟩
theorem OwnW.rep {B : Nat} {w : World} {A : Option Addr} {C : Nat} {W : List Wt} (h : OwnW B w A C W) (hl : W.length * 64 ≤ 140737488351232) : Rep (fun b => B ≤ b) w (.slice A W.length C) 8 64 (wsL W) := Rep.own h hl
theorem OwnN.rep {B : Nat} {w : World} {A : Option Addr} {C : Nat} {l : List Int} (h : OwnN B w A C l) (hl : l.length * 8 ≤ 140737488351232) : Rep (fun b => B ≤ b) w (.slice A l.length C) 1 8 (inC l) := Rep.own h hl
section
variable {P : Nat → Prop} {w : World} {s : St} {u : Value} (hu : Rep P w u 8 64 (wsL s.W))
include hu
theorem st_jail (v : Int) : Calls Tryz.prog 148 #[.agg (stC s u), .int .i64 v] w fun e w' => e = .returned (.tuple #[.agg (stC (jailS s v).1 u), .int .i64 (jailS s v).2]) ∧ Below w.heap.size w w' := by
  obtain ⟨A, C, b, o, rfl, W, -, -⟩ := hu.wsAt
  exact sjail_any s A b o C v w W
theorem st_bury (v : Int) : Calls Tryz.prog 151 #[.agg (stC s u), .int .i64 v] w fun e w' => e = .returned (.tuple #[.agg (stC (buryS s v).1 u), .int .i64 (buryS s v).2]) ∧ Below w.heap.size w w' := by
  obtain ⟨A, C, b, o, rfl, W, -, -⟩ := hu.wsAt
  exact sbury_any s A b o C v w W
theorem st_slash (v : Nat) (h : Int) (hg : goodS s = true) (hv : v < 6) : Calls Tryz.prog 150 #[.agg (stC s u), .int .i64 (v : Int), .int .i64 h, .int .i64 50] w fun e w' => ∃ u' x, e = .returned (.tuple #[.agg (stC (slashS s v h 50) u'), x, .int .i64 0]) ∧ Rep (fun b => w.heap.size ≤ b) w' u' 8 64 (wsL (slashS s v h 50).W) ∧ Below w.heap.size w w' := by
  obtain ⟨A, C, b, o, rfl, W, -, -⟩ := hu.wsAt
  refine (sslash_yes s A b o C v h 50 w W hg hv (by decide)).mono ?_
  rintro e w' ⟨A', C', rfl, h1, hb⟩
  exact ⟨_, _, rfl, OwnW.rep h1 (good_len (kp_slash hg (v := v) hv h (f := 50) (by decide)).good), hb⟩
theorem st_pay (t : Int) (hg : goodS s = true) : Calls Tryz.prog 31 #[.agg (stC s u), .int .i64 t] w fun e w' => ∃ u' x, e = .returned (.tuple #[.agg (stC (payS s t) u'), x, .int .i64 0]) ∧ Rep (fun b => w.heap.size ≤ b) w' u' 8 64 (wsL (payS s t).W) ∧ Rep (fun b => w.heap.size ≤ b) w' x 1 8 (inC (paidW t s.W)) ∧ Below w.heap.size w w' := by
  obtain ⟨A, C, b, o, rfl, W, -, -⟩ := hu.wsAt
  refine (spay_yes s A b o C t w W hg).mono ?_
  rintro e w' ⟨A', C', A2, C2, rfl, h1, h2, hb⟩
  have h60 := ((goodS_iff _).1 hg).2.2.2.1
  have hpl : (paidW t s.W).length ≤ s.W.length := by
    unfold paidW paidL
    rw [List.length_map]
    exact List.length_filter_le _ _
  exact ⟨_, _, rfl, OwnW.rep h1 (good_len (kp_pay hg t).good), OwnN.rep h2 (by omega), hb⟩
theorem st_rel (c : Nat) (h : Int) (hc : c < 2) : Calls Tryz.prog 110 #[.agg (stC s u), .int .i64 (c : Int), .int .i64 h] w fun e w' => ∃ u', e = .returned (.agg (stC { s with W := relW c h s.W } u')) ∧ Rep (fun b => w.heap.size ≤ b) w' u' 8 64 (wsL (relW c h s.W)) ∧ Below w.heap.size w w' := by
  obtain ⟨A, C, b, o, rfl, W, -, -⟩ := hu.wsAt
  have hl : (relW c h s.W).length = s.W.length := List.length_map _
  match c, hc with
  | 0, _ =>
    refine (srelease_0 s A b o C h w W W.len).mono ?_
    rintro e w' ⟨A', C', rfl, h1, hb⟩
    have := OwnW.rep h1 (by rw [hl]; exact W.len)
    rw [hl] at this
    exact ⟨_, rfl, this, hb⟩
  | 1, _ =>
    refine (srelease_1 s A b o C h w W W.len).mono ?_
    rintro e w' ⟨A', C', rfl, h1, hb⟩
    have := OwnW.rep h1 (by rw [hl]; exact W.len)
    rw [hl] at this
    exact ⟨_, rfl, this, hb⟩
end
theorem setS_len (V : Nat → Vd) : (setS V).length ≤ 4 := by
  unfold setS
  rw [isort_length, List.length_take]
  omega
theorem st_set (s : St) (u : Value) (w : World) (hg : goodS s = true) : Calls Tryz.prog 13 #[.agg (stC s u)] w fun e w' => ∃ v, e = .returned v ∧ Rep (fun b => w.heap.size ≤ b) w' v 2 16 (pwC (setS s.V)) ∧ Below w.heap.size w w' := by
  refine (sset_any s u w fun k hk => (vOk_amounts (good_vals hg k hk).1).1).mono ?_
  rintro e w' ⟨v, rfl, h1, hb⟩
  exact ⟨v, rfl, Rep.prow h1 (by have := setS_len s.V; omega), hb⟩
theorem st_all {P : Nat → Prop} {w : World} {v : Value} {l : List (Int × Int)} (h : Rep P w v 2 16 (pwC l)) : Calls Tryz.prog 29 #[v] w fun e w' => e = .returned (.int .i64 (Df.allN l)) ∧ Below w.heap.size w w' := by
  obtain ⟨ao, c, b, off, rfl, hp⟩ := h.pin
  exact Df.all_any l ao c b off w hp
theorem st_diff {P Q : Nat → Prop} {w : World} {v v' : Value} {l l' : List (Int × Int)} (h : Rep P w v 2 16 (pwC l)) (h' : Rep Q w v' 2 16 (pwC l')) : Calls Tryz.prog 71 #[v, v'] w fun e w' => ∃ u, e = .returned u ∧ Rep (fun b => w.heap.size ≤ b) w' u 2 16 (pwC (Df.diffL l l')) ∧ Below w.heap.size w w' := by
  obtain ⟨ao, c, b, off, rfl, hp⟩ := h.pin
  obtain ⟨ao', c', b', off', rfl, hp'⟩ := h'.pin
  refine (Df.diff_any l l' ao ao' c c' b off b' off' w hp hp').mono ?_
  rintro e w' ⟨u, rfl, h1, hb⟩
  exact ⟨u, rfl, Rep.pows h1 (Nat.le_trans (Df.those_len _ _ 6) (by decide)), hb⟩
end Go.Proofs.YtjghbciepinofaaGreat.Pv

set_option maxRecDepth 100000
namespace Go.Proofs.YtjghbciepinofaaGreat.Pv
open Go.RowKit
theorem Rep.one' {P : Nat → Prop} {w : World} {v : Value} {sz bts : Nat} {cs : List Value} (h : Rep P w v sz bts cs) : ∃ A n C, v = .slice A n C := by
  obtain ⟨A, n, C, e, _⟩ := h
  exact ⟨A, n, C, e⟩
theorem st_one {v : Value} (s : St) (h : ∃ A n C, v = .slice A n C) : (stC s v).all (·.oneCell') = true := by
  obtain ⟨A, n, C, rfl⟩ := h
  exact stC_one _ _ _ _
attribute [local go_sem ↓] loadS_eq loadP_eq storeP_eq storeS_eq
set_option maxHeartbeats 8000000 in
theorem pdeleg_any (p : Pr) (v : PrV) (P : Nat → Prop) (w : World) (d x n : Int) (hp : PIn P w p v) :
    Calls Tryz.prog 25 #[.agg (prC p v), .int .i64 d, .int .i64 x, .int .i64 n] w (AnsP P w (delegP p d x n)) := by
  have hD : delegP p d x n = if goodP p = true then ({ p with s := (delegS p.s d x n).1 }, (delegS p.s d x n).2) else (p, 2) := rfl
  generalize delegP p d x n = D at *
  have HD := hide hD
  clear hD
  have hone := pr_one hp
  have HGD := hide (fun (wx : World) (hb : Below w.heap.size w wx) => pgood_any p v P wx (hp.over hb))
  have HN := hide (fun (wx : World) (hb : Below w.heap.size w wx) => hp.ofNew hb 2)
  have HP := hide hp
  clear hp
  generalize goodP p = G at *
  go_enter Tryz.func25, Tryz.ntmps25
  go_upto_region 1 with fail
  change Code.wp Tryz.prog _ _ _ ((w.alloc (.cells (prC p v) 47)).alloc (.cells Tryz.zeroCells47 47))
  have C0 : CAt 47 ((w.alloc (.cells (prC p v) 47)).alloc (.cells Tryz.zeroCells47 47)) w.heap.size (prC p v) := (CAt.new _ w _).alloc _
  have R0 : CAt 47 ((w.alloc (.cells (prC p v) 47)).alloc (.cells Tryz.zeroCells47 47)) (w.heap.size + 1) Tryz.zeroCells47 := CAt.new2 _ w _ _
  have B0 : Below w.heap.size w ((w.alloc (.cells (prC p v) 47)).alloc (.cells Tryz.zeroCells47 47)) := ((Below.refl _ w).alloc (Nat.le_refl _) _).alloc (by simp) _
  generalize (w.alloc (.cells (prC p v) 47)).alloc (.cells Tryz.zeroCells47 47) = w0 at *
  have l0 := pr_loadP C0 (prC_size _ _)
  have H0 := hide (show _ ∧ _ ∧ _ from ⟨C0, R0, B0⟩)
  clear C0 R0 B0
  cases G
  · have HR := hide (HD.out.trans (if_neg (by simp)))
    clear HD
    go_upto_region 2 with (go_at_call 10; refine (HGD.out _ H0.out.2.2).mono ?_; rintro e w1 ⟨rfl, hb1⟩; clear l0)
    have R1 := H0.out.2.1.over hb1
    have l1 := pr_loadP (H0.out.1.over hb1) (prC_size _ _)
    have s1 := pr_storeP R1 Z97_size (prC_size p v) hone
    have B1 := H0.out.2.2.trans (hb1.mono H0.out.2.2.size)
    have HZ := hide (show _ ∧ _ from ⟨R1, B1⟩)
    clear R1 B1 hb1 hone
    go_wp2
    exact prov_end2 Tryz.results25 HZ.out.1 Z97_size HZ.out.2 p v 2 D HR.out (HN.out _ HZ.out.2) _ rfl rfl rfl
  · have HR := hide (HD.out.trans (if_pos rfl))
    clear HD
    obtain ⟨Aw, Cw, bw, ow, ews, Ws, -, -⟩ := HP.out.ws.wsAt
    have hdl := fun (wx : World) (hb : Below w.heap.size w wx) => deleg_any p.s Aw bw ow Cw d x n wx (Ws.over hb)
    rw [← ews] at hdl
    have HDL := hide hdl
    have hsl : ∃ A n C, v.ws = .slice A n C := HP.out.ws.one'
    clear hdl ews Ws
    go_upto_region 3 with (go_at_call 10; refine (HGD.out _ H0.out.2.2).mono ?_; rintro e w1 ⟨rfl, hb1⟩; clear l0)
    have C1 := H0.out.1.over hb1
    have R1 := H0.out.2.1.over hb1
    have B1 := H0.out.2.2.trans (hb1.mono H0.out.2.2.size)
    have m1 := pr_loadS C1
    have H1 := hide (show _ ∧ _ ∧ _ from ⟨C1, R1, B1⟩)
    clear C1 R1 B1 hb1 H0
    have hW : (delegS p.s d x n).1.W = p.s.W := by
      unfold delegS
      repeat' split
      all_goals rfl
    have HW := hide hW
    have HSM : Hid ((delegS p.s d x n).2 ≠ 0 → (delegS p.s d x n).1 = p.s) := fun h => by
      unfold delegS at h ⊢
      repeat' split
      all_goals first | rfl | (simp_all; done)
    clear hW
    generalize delegS p.s d x n = r at *
    obtain ⟨s', er⟩ := r
    dsimp only at HR HDL HW HSM
    have one2 := st_one s' hsl
    go_upto_region 4 with (go_at_call 64; refine (HDL.out _ H1.out.2.2).mono ?_; rintro e w2 ⟨rfl, hb2⟩; clear m1; have sS2 := st_storeS (CAt.new 32 w2 Z63) rfl (stC_size s' v.ws) one2; unfold Z63 at sS2)
    change Code.wp Tryz.prog _ _ _ ((w2.alloc (.cells Z63 32)).setCells w2.heap.size 0 (stC s' v.ws).toList)
    have hb3 : Below w2.heap.size w2 ((w2.alloc (.cells Z63 32)).setCells w2.heap.size 0 (stC s' v.ws).toList) := below_sets (Nat.le_refl _) _ _ _ ((Below.refl _ w2).alloc (Nat.le_refl _) _)
    have T3 : CAt 32 ((w2.alloc (.cells Z63 32)).setCells w2.heap.size 0 (stC s' v.ws).toList) w2.heap.size (stC s' v.ws) := (CAt.new 32 w2 Z63).setAll rfl
    have C3 := (H1.out.1.over hb2).over hb3
    have R3 := (H1.out.2.1.over hb2).over hb3
    have B3 := (H1.out.2.2.trans (hb2.mono H1.out.2.2.size)).trans (hb3.mono (Nat.le_trans H1.out.2.2.size hb2.size))
    have hne : w.heap.size < w2.heap.size := (H1.out.1.over hb2).lt
    clear sS2 hb2 hb3 HDL
    generalize (w2.alloc (.cells Z63 32)).setCells w2.heap.size 0 (stC s' v.ws).toList = w3 at *
    by_cases he : er = 0
    · subst he
      have mS := st_loadS T3 (stC_size _ _)
      have sS := pr_storeS C3 (prC_size _ _) (stC_size s' v.ws) one2
      have C4 := C3.stake s' v.ws
      have R4 := R3.others (c := w.heap.size) (o := 2) (by omega) (stC s' v.ws).toList
      have B4 := below_sets (b := w.heap.size) (Nat.le_refl _) (stC s' v.ws).toList 2 _ B3
      have N4 : PIn (New P w 2) (w3.setCells w.heap.size 2 (stC s' v.ws).toList) { p with s := s' } { v with ws := v.ws } := by
        have := (HN.out _ B3).sets (g := w.heap.size) (new_no (j := 0) (by omega)) 2 (stC s' v.ws).toList
        exact ⟨by rw [show (wsL s'.W) = wsL p.s.W by rw [HW.out]]; exact this.ws, this.set, this.lk, this.q⟩
      have l4 := pr_loadP C4 (prC_size _ _)
      have s4 := pr_storeP R4 Z97_size (prC_size { p with s := s' } { v with ws := v.ws }) (pr_one N4)
      have HZ := hide (show _ ∧ _ ∧ _ from ⟨R4, B4, N4⟩)
      clear C3 R3 B3 C4 R4 B4 N4 T3 hone
      go_upto_region 7 with fail
      generalize w3.setCells w.heap.size 2 (stC s' v.ws).toList = w4 at *
      clear mS sS
      go_wp2
      exact prov_end2 Tryz.results25 HZ.out.1 Z97_size HZ.out.2.1 _ _ 0 D HR.out HZ.out.2.2 _ rfl rfl rfl
    · have l3 := pr_loadP C3 (prC_size _ _)
      have s3 := pr_storeP R3 Z97_size (prC_size p v) hone
      have heb : (er != 0) = true := by simpa using he
      have HZ := hide (show _ ∧ _ from ⟨R3, B3⟩)
      have hsame : s' = p.s := HSM.out he
      subst hsame
      clear C3 R3 B3 T3 hone
      go_wp2
      exact prov_end2 Tryz.results25 HZ.out.1 Z97_size HZ.out.2 p v er D HR.out (HN.out _ HZ.out.2) _ rfl rfl rfl
end Go.Proofs.YtjghbciepinofaaGreat.Pv

