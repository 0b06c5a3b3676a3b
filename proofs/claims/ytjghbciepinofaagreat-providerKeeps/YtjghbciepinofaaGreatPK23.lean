/- Parts of the proof: PEA PDX. -/
import Derived.Test.YtjghbciepinofaaGreatRows
import Derived.Test.YtjghbciepinofaaGreatPK6
import Derived.Test.YtjghbciepinofaaGreatPK18
import Derived.Test.YtjghbciepinofaaGreatPK22
import Derived.Test.YtjghbciepinofaaGreatPK37
import Derived.Test.YtjghbciepinofaaGreatPK45
import Derived.BigQuiet
import Derived.WalkSmall
import Derived.Deep.RegionHeld3
set_option maxRecDepth 100000
namespace Go.Proofs.YtjghbciepinofaaGreat.Pv
open Go.RowKit
/-- what End answers -/
def AnsE (P : Nat → Prop) (w : World) (r : Pr × List Int × Int) (e : Ending) (w' : World) : Prop := ∃ v' u, e = .returned (.tuple #[.agg (prC r.1 v'), u, .int .i64 r.2.2]) ∧ PIn (New P w 2) w' r.1 v' ∧ Rep (New P w 2) w' u 1 8 (inC r.2.1) ∧ Below w.heap.size w w'
theorem results_prov3 {fn : Func} {p q u : Tmp} (h : fn.results = #[.cell p 47, .tmp q, .tmp u]) (tmps : Array Value) (w : World) (g : Nat) (cs : Array Value) (v v2 : Value)
    (hp : tmps.getD p undef = .pointer (some ⟨g, 0, none⟩)) (hq : tmps.getD q undef = v) (hu : tmps.getD u undef = v2) (hg : CAt 47 w g cs) (hsz : cs.size = 97) :
    (results fn tmps).run Tryz.prog w = .ok (.tuple #[.agg cs, v, v2]) w := by
  have hp' : tmps[p]?.getD undef = .pointer (some ⟨g, 0, none⟩) := by simpa using hp
  have hq' : tmps[q]?.getD undef = v := by simpa using hq
  have hu' : tmps[u]?.getD undef = v2 := by simpa using hu
  simp [results, h, hp', hq', hu', asAddr, run_loadVar_row w g 47 47 cs (0, 0) _ hg Tryz.underlying47 rfl (by rw [infoPv, hsz])]
theorem prov_end3 {f : Func} {t q y : Tmp} (hres : f.results = #[.cell t 47, .tmp q, .tmp y]) {P : Nat → Prop} {w wq : World} {zs : Array Value} (R : CAt 47 wq (w.heap.size + 1) zs) (hz : zs.size = 97) (H : Below w.heap.size w wq) (p' : Pr) (v' : PrV) (u : Value) (l : List Int) (er : Int) (r : Pr × List Int × Int) (hr : r = (p', l, er)) (hp : PIn (New P w 2) wq p' v') (hu : Rep (New P w 2) wq u 1 8 (inC l)) (act : Act)
    (h8 : act.tmps.getD t undef = .pointer (some ⟨w.heap.size + 1, 0, none⟩)) (h9 : act.tmps.getD q undef = u) (h10 : act.tmps.getD y undef = .int .i64 er) (hd : act.defers = []) :
    bodyPost Tryz.prog f (AnsE P w r) Exit.ret act (wq.setCells (w.heap.size + 1) 0 (prC p' v').toList) := by
  subst hr
  have R3 := R.setAll (ds := prC p' v') (by rw [hz]; rfl)
  exact bodyPost_ret (v := .tuple #[.agg (prC p' v'), u, .int .i64 er]) (results_prov3 hres _ _ _ _ _ _ h8 h9 h10 R3 rfl) hd ⟨v', u, rfl, hp.sets (new_no (by omega)) _ _, hu.sets (new_no (by omega)) _ _, below_sets (Nat.le_succ _) _ _ _ H⟩
/-- a call through a pointer to a provider -/
def Turns (w : World) (g : Nat) (P : Nat → Prop) (p' : Pr) (e : Ending) (w' : World) : Prop := ∃ v', e = .returned (.tuple #[]) ∧ CAt 47 w' g (prC p' v') ∧ PIn (New P w 0) w' p' v' ∧ Alt g w w'
theorem new_not {P : Nat → Prop} {w : World} {g : Nat} (hP : ¬ P g) (hg : g < w.heap.size) : ¬ New P w 0 g := fun h => by
  rcases h with ⟨h, _⟩ | h
  · exact hP h
  · omega
theorem set_h (p : Pr) (v : PrV) (x : Int) : (prC p v).setIfInBounds 0 (.int .i64 x) = prC { p with h := x } v := rfl
theorem set_t (p : Pr) (v : PrV) (x : Int) : (prC p v).setIfInBounds 1 (.int .i64 x) = prC { p with t := x } v := rfl
theorem set_ml (p : Pr) (v : PrV) (x : Int) : (prC p v).setIfInBounds 94 (.int .i64 x) = prC { p with ml := x } v := rfl
theorem set_mn (p : Pr) (v : PrV) (x : Int) : (prC p v).setIfInBounds 95 (.int .i64 x) = prC { p with mn := x } v := rfl
/-- blocks that were there, or that came later, but for one -/
def Nx (P : Nat → Prop) (w : World) (g b : Nat) : Prop := (P b ∧ b < w.heap.size) ∨ (w.heap.size + 2 ≤ b ∧ b ≠ g)
theorem nx_no {P : Nat → Prop} {w : World} {g : Nat} (hg : w.heap.size ≤ g) : ¬ Nx P w g g := fun h => by
  rcases h with ⟨_, h⟩ | ⟨_, h⟩
  · omega
  · exact h rfl
theorem nx_of {P : Nat → Prop} {w wl : World} {g b : Nat} (hw : w.heap.size + 2 ≤ wl.heap.size) (hg : g < wl.heap.size) (h : New (Nx P w g) wl 0 b) : Nx P w g b := by
  rcases h with ⟨h, _⟩ | h
  · exact h
  · exact .inr ⟨by omega, by omega⟩
theorem nx_new {P : Nat → Prop} {w : World} {g b : Nat} (h : Nx P w g b) : New P w 2 b := by
  rcases h with h | h
  · exact .inl h
  · exact .inr h.1
theorem PIn.nx {P : Nat → Prop} {w w' : World} {p : Pr} {v : PrV} (h : PIn P w p v) (hb : Below w.heap.size w w') (g : Nat) : PIn (Nx P w g) w' p v := (h.mono (P' := fun b => Nx P w g b ∧ b < w.heap.size) fun _ hl hp => ⟨.inl ⟨hp, hl⟩, hl⟩).over hb |>.mono fun _ _ h => h.1
theorem allN_I64 (l : List (Int × Int)) : Mt.I64 (Df.allN l) := by
  have key : ∀ (l : List (Int × Int)) (a : Int), Mt.I64 a → Mt.I64 (l.foldl (fun s x => (s + x.2 + 9223372036854775808) % 18446744073709551616 - 9223372036854775808) a) := by
    intro l
    induction l with
    | nil => exact fun a h => h
    | cons x l ih => exact fun a _ => ih _ (by show Mt.I64 ((a + x.2 + 9223372036854775808) % 18446744073709551616 - 9223372036854775808); unfold Mt.I64; omega)
  exact key l 0 (by unfold Mt.I64; omega)
/-- a list of powers is stored -/
def storeL (a v : Value) : Sem Unit := Instr.storeAt 33 a v
theorem storeL_eq (a v : Value) : Instr.storeAt 33 a v = storeL a v := rfl
theorem pr_storeL {w : World} {b o : Nat} {u v : Value} (hv : ∃ A n C, v = .slice A n C) (hc : w.cell? ⟨b, o, none⟩ = some u) (hf : w.frozen? ⟨b, o, none⟩ = false) : (storeL (.pointer (some ⟨b, o, none⟩)) v).run Tryz.prog w = .ok () (w.setCell ⟨b, o, none⟩ v) := by
  obtain ⟨A, n, C, rfl⟩ := hv
  change (Instr.storeAt 33 _ _).run Tryz.prog w = _
  go_simp
attribute [local go_sem ↓] storeL_eq
attribute [local go_sem ↓] loadS_eq loadP_eq storeP_eq storeS_eq
set_option maxHeartbeats 8000000 in
theorem pend_of (p : Pr) (v : PrV) (P : Nat → Prop) (w : World) (now : Int) (hp : PIn P w p v) (q0 q1 q2 : Pr)
    (HQ : goodP p = true → isT now = true → p.t ≤ now → ∀ (g : Nat) (v : PrV) (wx : World) (P' : Nat → Prop), CAt 47 wx g (prC (tickP p now) v) → PIn P' wx (tickP p now) v → ¬ P' g → Calls Tryz.prog 30 #[.pointer (some ⟨g, 0, none⟩)] wx (Turns wx g P' (queueP (tickP p now))))
    (hg2 : goodP p = true → goodS (queueP (tickP p now)).s = true)
    (HT : goodP p = true → isT now = true → p.t ≤ now → ∀ (c : Nat), c < 2 → ∀ (g : Nat) (v : PrV) (wx : World) (P' : Nat → Prop), CAt 47 wx g (prC (if c = 0 then q0 else q1) v) → PIn P' wx (if c = 0 then q0 else q1) v → ¬ P' g → Calls Tryz.prog 32 #[.pointer (some ⟨g, 0, none⟩), .pointer (some ⟨g, 66 + c * 14, none⟩)] wx (Turns wx g P' (if c = 0 then q1 else q2)))
    (hq0 : q0 = paidP (queueP (tickP p now)) now) (hq1 : q1 = tellP q0 0) (hq2 : q2 = tellP q1 1) :
    Calls Tryz.prog 9 #[.agg (prC p v), .int .i64 now] w (AnsE P w (endP p now)) := by
  have hD : endP p now = if goodP p = true ∧ isT now = true ∧ p.t ≤ now then (q2, paidW now (queueP (tickP p now)).s.W, 0) else (p, [], 2) := by unfold endP; rw [hq2, hq1, hq0]
  generalize endP p now = D at *
  have HD := hide hD
  clear hD hq1 hq2
  have hone := pr_one hp
  have HGD := hide (fun (wx : World) (hb : Below w.heap.size w wx) => pgood_any p v P wx (hp.over hb))
  have HN := hide (fun (wx : World) (hb : Below w.heap.size w wx) => hp.ofNew hb 2)
  have HP := hide hp
  have HHQ := hide HQ
  have HHT := hide HT
  have Hg2 := hide hg2
  have Hq0 := hide hq0
  have HGH : Hid (goodP p = true → 0 ≤ p.h ∧ p.h ≤ 1099511627775) := fun h => by
    unfold goodP at h
    simp only [Bool.and_eq_true, decide_eq_true_eq] at h
    exact ⟨h.1.1.1.1.1.1.2, h.1.1.1.1.1.2⟩
  clear hp HQ HT hg2 hq0
  generalize goodP p = G at *
  go_enter Tryz.func9, Tryz.ntmps9
  go_upto_region 1 with fail
  change Code.wp Tryz.prog _ _ _ ((w.alloc (.cells (prC p v) 47)).alloc (.cells Tryz.zeroCells47 47))
  have C0 : CAt 47 ((w.alloc (.cells (prC p v) 47)).alloc (.cells Tryz.zeroCells47 47)) w.heap.size (prC p v) := (CAt.new _ w _).alloc _
  have R0 : CAt 47 ((w.alloc (.cells (prC p v) 47)).alloc (.cells Tryz.zeroCells47 47)) (w.heap.size + 1) Tryz.zeroCells47 := CAt.new2 _ w _ _
  have B0 : Below w.heap.size w ((w.alloc (.cells (prC p v) 47)).alloc (.cells Tryz.zeroCells47 47)) := ((Below.refl _ w).alloc (Nat.le_refl _) _).alloc (by simp) _
  generalize (w.alloc (.cells (prC p v) 47)).alloc (.cells Tryz.zeroCells47 47) = w0 at *
  have l0 := pr_loadP C0 (prC_size _ _)
  have H0 := hide (show _ ∧ _ ∧ _ from ⟨C0, R0, B0⟩)
  clear C0 R0 B0
  by_cases hok : G = true ∧ isT now = true ∧ p.t ≤ now
  · obtain ⟨rfl, hti, htn⟩ := hok
    replace HD := hide (HD.out.trans (if_pos ⟨rfl, hti, htn⟩))
    obtain ⟨hh0, hh1⟩ := HGH.out rfl
    replace HHQ := hide (HHQ.out rfl hti htn)
    replace HHT := hide (HHT.out rfl hti htn)
    replace Hg2 := hide (Hg2.out rfl)
    clear HGH
    go_upto_region 3 with (first
      | (go_at_call 10; refine (HGD.out _ H0.out.2.2).mono ?_; rintro e w1 ⟨rfl, hb1⟩; clear l0; have a1 : w1.cell? ⟨w.heap.size, 1, none⟩ = some (.int .i64 p.t) := (H0.out.1.over hb1).cell 1)
      | (go_at_call 27; refine (ptime_any _ _).mono ?_; rintro e w' ⟨rfl, rfl⟩))
    have C1 := H0.out.1.over hb1
    have R1 := H0.out.2.1.over hb1
    have B1 := H0.out.2.2.trans (hb1.mono H0.out.2.2.size)
    have l1 := pr_loadP C1 (prC_size _ _)
    have s1 := pr_storeP (CAt.new 47 w1 Tryz.zeroCells47) Z97_size (prC_size p v) hone
    have H1 := hide (show _ ∧ _ ∧ _ from ⟨C1, R1, B1⟩)
    have hlt1 := R1.lt
    clear C1 R1 B1 hb1 H0 HGD a1
    go_upto_region 4 with fail
    have bS : Below w1.heap.size w1 ((w1.alloc (.cells Tryz.zeroCells47 47)).setCells w1.heap.size 0 (prC p v).toList) := below_sets (Nat.le_refl _) _ _ _ ((Below.refl _ w1).alloc (Nat.le_refl _) _)
    have N2 : CAt 47 ((w1.alloc (.cells Tryz.zeroCells47 47)).setCells w1.heap.size 0 (prC p v).toList) w1.heap.size (prC p v) := (CAt.new 47 w1 Tryz.zeroCells47).setAll (by rw [Z97_size]; rfl)
    have C2 := H1.out.1.over bS
    have R2 := H1.out.2.1.over bS
    have B2 := H1.out.2.2.trans (bS.mono H1.out.2.2.size)
    clear bS l1 s1
    generalize (w1.alloc (.cells Tryz.zeroCells47 47)).setCells w1.heap.size 0 (prC p v).toList = w2 at *
    generalize w1.heap.size = gn at *
    have n0 : w2.cell? ⟨gn, 0, none⟩ = some (.int .i64 p.h) := N2.cell 0
    have n1 : w2.cell? ⟨gn, 1, none⟩ = some (.int .i64 p.t) := N2.cell 1
    have nf0 := N2.free 0
    have nf1 := N2.free 1
    have N4 := (N2.set 0 (.int .i64 (p.h + 1))).set 1 (.int .i64 now)
    rw [set_h, set_t] at N4
    have C4 := (C2.other (c := gn) (o := 0) (by omega) (.int .i64 (p.h + 1))).other (c := gn) (o := 1) (by omega) (.int .i64 now)
    have R4 := (R2.other (c := gn) (o := 0) (by omega) (.int .i64 (p.h + 1))).other (c := gn) (o := 1) (by omega) (.int .i64 now)
    have B4 := (B2.setCell (p := ⟨gn, 0, none⟩) (by show _ ≤ gn; omega) (.int .i64 (p.h + 1))).setCell (p := ⟨gn, 1, none⟩) (by show _ ≤ gn; omega) (.int .i64 now)
    have hltn := N2.lt
    clear C2 R2 B2 N2
    go_upto_region 6 with fail
    clear n0 n1 nf0 nf1
    generalize (w2.setCell ⟨gn, 0, none⟩ (.int .i64 (p.h + 1))).setCell ⟨gn, 1, none⟩ (.int .i64 now) = w4 at *
    obtain ⟨⟨-, -, c65, c94, c95, -⟩, -⟩ := pr_facts C4
    have m94 : w4.cell? ⟨gn, 94, none⟩ = some (.int .i64 p.ml) := N4.cell 94
    have m95 : w4.cell? ⟨gn, 95, none⟩ = some (.int .i64 p.mn) := N4.cell 95
    have f94 := N4.free 94
    have f95 := N4.free 95
    have hz4 := C4.lt
    have hzn := N4.lt
    have HAL := hide (fun (wx : World) (hb : Below w.heap.size w wx) => st_all (HP.out.set.over hb))
    have H4 := hide (show _ ∧ _ ∧ _ ∧ _ from ⟨N4, C4, R4, B4⟩)
    clear N4 C4 R4 B4 H1
    have HIA := hide (allN_I64 p.set)
    have HTK : Hid (tickP p now = { p with h := p.h + 1, t := now, ml := if now < p.mn then p.ml else Mt.alw (Df.allN p.set), mn := if now < p.mn then p.mn else wrap64 (now + 10) }) := rfl
    have HMT := hide (fun (wx : World) => Mt.mtick_any p.ml p.mn (Df.allN p.set) now HIA.out wx)
    generalize Df.allN p.set = al at *
    generalize (if now < p.mn then p.ml else Mt.alw al) = ml' at *
    generalize (if now < p.mn then p.mn else wrap64 (now + 10)) = mn' at *
    apply wp_join (fun w' => ∃ w6, w' = (w6.setCell ⟨gn, 94, none⟩ (.int .i64 ml')).setCell ⟨gn, 95, none⟩ (.int .i64 mn') ∧ Below w4.heap.size w4 w6)
    · refine wp_region_noPanic ?_
      go_region_with (first
        | (go_at_call 29; refine (HAL.out _ (by exact H4.out.2.2.2.drew)).mono ?_; rintro e w5 ⟨rfl, hb5⟩; obtain ⟨⟨-, -, d65, d94, d95, -⟩, -⟩ := pr_facts (H4.out.2.1.over ((Below.refl _ _).drew.trans hb5)))
        | (go_at_call 28; refine (HMT.out _).mono ?_; rintro e w6 ⟨rfl, hb6⟩; have N6 := (H4.out.1.over ((Below.refl _ _).drew.trans hb5)).over hb6; have n94 : w6.cell? ⟨gn, 94, none⟩ = some (.int .i64 p.ml) := N6.cell 94; have n95 : w6.cell? ⟨gn, 95, none⟩ = some (.int .i64 p.mn) := N6.cell 95; have nf94 := N6.free 94; have nf95 := N6.free 95; have hz6 := N6.lt; clear N6))
      all_goals
        have b46 := (Below.refl w4.heap.size w4).drew.trans hb5
        exact NoPanic.normal ⟨rfl, rfl, _, rfl, b46.trans (hb6.mono b46.size)⟩
    rintro w' ⟨w6, rfl, b6⟩
    have N7 := ((H4.out.1.over b6).set 94 (.int .i64 ml')).set 95 (.int .i64 mn')
    rw [set_ml, set_mn] at N7
    have R7 := ((H4.out.2.2.1.over b6).other (c := gn) (o := 94) (by omega) (.int .i64 ml')).other (c := gn) (o := 95) (by omega) (.int .i64 mn')
    have C7 := ((H4.out.2.1.over b6).other (c := gn) (o := 94) (by omega) (.int .i64 ml')).other (c := gn) (o := 95) (by omega) (.int .i64 mn')
    have B7 := ((H4.out.2.2.2.trans (b6.mono H4.out.2.2.2.size)).setCell (p := ⟨gn, 94, none⟩) (by show _ ≤ gn; omega) (.int .i64 ml')).setCell (p := ⟨gn, 95, none⟩) (by show _ ≤ gn; omega) (.int .i64 mn')
    have hp6 := HP.out.nx B7 gn
    have hp7 : PIn (Nx P w gn) _ (tickP p now) v := ⟨hp6.ws, hp6.set, hp6.lk, hp6.q⟩
    clear hp6
    rw [← HTK.out] at N7
    clear b6 H4 c65 c94 c95 m94 m95 f94 f95 hz4 hzn HAL HIA HMT HTK
    generalize (w6.setCell ⟨gn, 94, none⟩ (.int .i64 ml')).setCell ⟨gn, 95, none⟩ (.int .i64 mn') = w7 at *
    have HQ7 := hide (HHQ.out gn v w7 (Nx P w gn) N7 hp7 (nx_no (by omega)))
    have H7 := hide (show _ ∧ _ ∧ _ from ⟨C7, R7, B7⟩)
    have hz7 := N7.lt
    have hr7 := R7.lt
    have hgs := Hg2.out
    clear N7 R7 B7 C7 hp7 HHQ Hg2
    generalize queueP (tickP p now) = p2 at *
    simp only [Exit.then]
    apply_assumption
    go_upto_region 8 with (go_at_call 30; refine HQ7.out.mono ?_; rintro e w8 ⟨v8, rfl, C8, P8, A8⟩)
    have R8 := A8.cat (b := w.heap.size + 1) (by omega) H7.out.2.1
    have B8 := H7.out.2.2.trans (A8.below (by omega) H7.out.2.2.size)
    have hs7 := A8.size
    have P8' : PIn (Nx P w gn) w8 p2 v8 := P8.mono fun b _ hb => nx_of (by omega) hz7 hb
    have m8 := pr_loadS C8
    have HPY := hide (st_pay P8'.ws now hgs)
    have H8 := hide (show _ ∧ _ ∧ _ ∧ _ from ⟨C8, R8, B8, P8'⟩)
    have hz8 := C8.lt
    clear P8 P8' A8 C8 R8 B8 HQ7 H7
    have hge := (kp_pay hgs now).good
    have HST := hide (fun (u : Value) (wx : World) => st_set (payS p2.s now) u wx hge)
    have HLN := hide (setS_len (payS p2.s now).V)
    have Hq0' : Hid (q0 = { p2 with s := payS p2.s now, set := setS (payS p2.s now).V }) := Hq0.out
    clear Hq0
    generalize payS p2.s now = s3 at *
    generalize setS s3.V = st3 at *
    go_upto_region 9 with (go_at_call 31; refine HPY.out.mono ?_; rintro e w9 ⟨u9, x9, rfl, U9, X9, hb9⟩; clear m8; have one9 := st_one s3 U9.one'; have sS9 := st_storeS (CAt.new 32 w9 Z63) rfl (stC_size s3 u9) one9; unfold Z63 at sS9)
    change Code.wp Tryz.prog _ _ _ ((w9.alloc (.cells Z63 32)).setCells w9.heap.size 0 (stC s3 u9).toList)
    have bS : Below w9.heap.size w9 ((w9.alloc (.cells Z63 32)).setCells w9.heap.size 0 (stC s3 u9).toList) := below_sets (Nat.le_refl _) _ _ _ ((Below.refl _ w9).alloc (Nat.le_refl _) _)
    have T10 : CAt 32 ((w9.alloc (.cells Z63 32)).setCells w9.heap.size 0 (stC s3 u9).toList) w9.heap.size (stC s3 u9) := (CAt.new 32 w9 Z63).setAll rfl
    have b10 := hb9.trans (bS.mono hb9.size)
    have C10 := H8.out.1.over b10
    have R10 := H8.out.2.1.over b10
    have B10 := H8.out.2.2.1.trans (b10.mono H8.out.2.2.1.size)
    have P10 := H8.out.2.2.2.over b10
    have U10 := U9.over bS
    have X10 := X9.over bS
    have hs9 := hb9.size
    clear bS b10 sS9 hb9 U9 X9 H8 HPY
    generalize (w9.alloc (.cells Z63 32)).setCells w9.heap.size 0 (stC s3 u9).toList = w10 at *
    have hz10 := T10.lt
    generalize w9.heap.size = tb at *
    have H10 := hide (show _ ∧ _ ∧ _ ∧ _ ∧ _ ∧ _ ∧ _ from ⟨T10, C10, R10, B10, P10, U10, X10⟩)
    have k10 := st_loadS (T10.over (Below.refl _ _).drew) (stC_size _ _)
    clear T10 C10 R10 B10 P10 U10 X10
    go_upto_region 11 with fail
    apply wp_joinx (fun s11 w' => ∃ w11 wS, w' = wS.setCell ⟨gn, 65, none⟩ s11 ∧ wS = w11.setCells gn 2 (stC s3 u9).toList ∧ Below w10.heap.size w10 w11 ∧ Rep (fun b => w10.heap.size ≤ b) w11 s11 2 16 (pwC st3))
    · refine wp_region_noPanic ?_
      have HW11 : Hid (∀ w11, Below w10.heap.size w10 w11 → ∃ wS, wS = w11.setCells gn 2 (stC s3 u9).toList ∧ (storeS (.pointer (some ⟨gn, 2, none⟩)) (.agg (stC s3 u9))).run Tryz.prog w11 = .ok () wS ∧ wS.cell? ⟨gn, 65, none⟩ = some v8.set ∧ wS.frozen? ⟨gn, 65, none⟩ = false ∧ gn < wS.heap.size) := fun w11 b11 => by
        have C11 := H10.out.2.1.over b11
        have C12 := C11.stake s3 u9
        exact ⟨_, rfl, pr_storeS C11 (prC_size _ _) (stC_size s3 u9) one9, C12.cell 65, C12.free 65, C12.lt⟩
      go_region_with (go_at_call 13; refine (HST.out _ _).mono ?_; rintro e w11 ⟨s11, rfl, S11, hb11⟩; have b11 := (Below.refl w10.heap.size w10).drew.trans hb11; have k11 := st_loadS (H10.out.1.over b11) (stC_size _ _); obtain ⟨wS, hwS, sS11, y65, yf65, yz⟩ := HW11.out w11 b11; have sL11 := pr_storeL S11.one' y65 yf65; clear y65 yf65; have HwS := hide hwS; clear hwS)
      all_goals exact NoPanic.normal ⟨s11, rfl, rfl, w11, wS, rfl, HwS.out, b11, S11⟩
    rintro s11 w' ⟨w11, wS, rfl, hwS, b11, S11⟩
    have C12 := (H10.out.2.1.over b11).stake s3 u9
    have R12 := (H10.out.2.2.1.over b11).others (c := gn) (o := 2) (by omega) (stC s3 u9).toList
    have B11 := H10.out.2.2.2.1.trans (b11.mono H10.out.2.2.2.1.size)
    have B12 := below_sets (b := gn) (B := w.heap.size) (by omega) (stC s3 u9).toList 2 _ B11
    rw [← hwS] at C12 R12 B12
    have C13 := C12.set 65 s11
    rw [pr_set] at C13
    have R13 := R12.other (c := gn) (o := 65) (by omega) s11
    have B13 := B12.setCell (p := ⟨gn, 65, none⟩) (by show _ ≤ gn; omega) s11
    have A13 : Alt gn w11 (wS.setCell ⟨gn, 65, none⟩ s11) := by rw [hwS]; exact (Alt.sets (stC s3 u9).toList (Alt.refl gn w11) 2).set 65 s11
    have hs10 := H10.out.1.lt
    have P13 : PIn (Nx P w gn) (wS.setCell ⟨gn, 65, none⟩ s11) q0 { v8 with ws := u9, set := s11 } := by
      have no := nx_no (P := P) (w := w) (g := gn) (by omega)
      have p1 := A13.pin no (H10.out.2.2.2.2.1.over b11)
      have hU : Rep (Nx P w gn) w11 u9 8 64 (wsL s3.W) := (H10.out.2.2.2.2.2.1.over b11).mono fun b _ hb => .inr (by have hb' : w8.heap.size ≤ b := hb; omega)
      have hS : Rep (Nx P w gn) w11 s11 2 16 (pwC st3) := S11.mono fun b _ hb => .inr (by have hb' : w10.heap.size ≤ b := hb; omega)
      rw [Hq0'.out]
      exact ⟨A13.rep no hU, A13.rep no hS, p1.lk, p1.q⟩
    have X13 : Rep (Nx P w gn) (wS.setCell ⟨gn, 65, none⟩ s11) x9 1 8 (inC (paidW now p2.s.W)) := A13.rep (nx_no (by omega)) ((H10.out.2.2.2.2.2.2.over b11).mono fun b _ hb => .inr (by have hb' : w8.heap.size ≤ b := hb; omega))
    have C13' : CAt 47 (wS.setCell ⟨gn, 65, none⟩ s11) gn (prC q0 { v8 with ws := u9, set := s11 }) := by rw [Hq0'.out]; exact C13
    clear C12 R12 B11 B12 C13 A13 hwS b11 S11 H10
    generalize ({ v8 with ws := u9, set := s11 } : PrV) = v13 at *
    generalize wS.setCell ⟨gn, 65, none⟩ s11 = w13 at *
    have hz13 := C13'.lt
    have hr13 := R13.lt
    have H13 := hide (show _ ∧ _ ∧ _ ∧ _ ∧ _ from ⟨C13', R13, B13, P13, X13⟩)
    clear C13' R13 B13 P13 X13 k10 HST HLN Hq0'
    simp only [Exit.then]
    apply_assumption
    go_upto_region 13 with fail
    go_loopw [60] (fun i wl => ∃ (k : Nat) (vk : PrV), k ≤ 2 ∧ i = .int .i64 (k : Int) ∧ Hid (CAt 47 wl gn (prC (if k = 0 then q0 else if k = 1 then q1 else q2) vk) ∧ PIn (Nx P w gn) wl (if k = 0 then q0 else if k = 1 then q1 else q2) vk ∧ Alt gn w13 wl)) (fun i _ => (2 - intOf i).toNat)
    case atStart => exact ⟨0, v13, by omega, rfl, H13.out.1, H13.out.2.2.2.1, Alt.refl _ _⟩
    case round =>
      obtain ⟨k, vk, hk, rfl, HR⟩ := hrel
      by_cases hk2 : k < 2
      · have hkk : (k : Int) < 2 := by omega
        have hk0 : (0 : Int) ≤ (k : Int) := by omega
        have e1 : (if k = 0 then q0 else if k = 1 then q1 else q2) = if k = 0 then q0 else q1 := by
          rcases (show k = 0 ∨ k = 1 by omega) with rfl | rfl <;> rfl
        have e2 : (if k = 0 then q1 else q2) = if k + 1 = 0 then q0 else if k + 1 = 1 then q1 else q2 := by
          rcases (show k = 0 ∨ k = 1 by omega) with rfl | rfl <;> rfl
        have hsz := HR.out.2.2.size
        have ht := HHT.out k hk2 gn vk wr (Nx P w gn) (by rw [← e1]; exact HR.out.1) (by rw [← e1]; exact HR.out.2.1) (nx_no (by omega))
        rw [e2] at ht
        have HTT := hide ht
        clear ht e1 e2
        go_upto_region 16 with (go_at_call 32; refine HTT.out.mono ?_; rintro e w14 ⟨v14, rfl, C14, P14, A14⟩)
        have HF := hide (show _ ∧ _ ∧ _ from ⟨C14, P14.mono (P' := Nx P w gn) (fun b _ hb => nx_of (by omega) (by omega) hb), HR.out.2.2.trans A14⟩)
        clear C14 P14 A14 HTT HR
        go_wp2
        first | exact ⟨⟨k + 1, v14, by omega, by go_num, HF⟩, by simp [intOf]; omega⟩ | ((repeat apply Exists.intro); exact ⟨⟨k + 1, v14, by omega, by go_num, HF⟩, rfl⟩)
      · obtain rfl : k = 2 := by omega
        have C15 : CAt 47 wr gn (prC q2 vk) := HR.out.1
        have P15 : PIn (Nx P w gn) wr q2 vk := HR.out.2.1
        have A15 := HR.out.2.2
        have R15 := A15.cat (b := w.heap.size + 1) (by omega) H13.out.2.1
        have B15 := H13.out.2.2.1.trans (A15.below (by omega) H13.out.2.2.1.size)
        have X15 := A15.rep (nx_no (P := P) (w := w) (g := gn) (by omega)) H13.out.2.2.2.2
        have l15 := pr_loadP C15 (prC_size _ _)
        have s15 := pr_storeP R15 Z97_size (prC_size q2 vk) (pr_one P15)
        have HZ := hide (show _ ∧ _ ∧ _ ∧ _ from ⟨R15, B15, P15.mono (P' := New P w 2) (fun _ _ h => nx_new h), X15.mono (P' := New P w 2) (fun _ _ h => nx_new h)⟩)
        clear C15 P15 A15 R15 B15 X15 HR H13 HHT
        go_wp2
        exact prov_end3 Tryz.results9 HZ.out.1 Z97_size HZ.out.2.1 q2 vk x9 _ 0 D HD.out HZ.out.2.2.1 HZ.out.2.2.2 _ rfl rfl rfl rfl
  · replace HD := hide (HD.out.trans (if_neg hok))
    have hcs : G = false ∨ (G = true ∧ isT now = false) ∨ (G = true ∧ isT now = true ∧ now < p.t) := by
      cases G
      · exact .inl rfl
      · cases h : isT now
        · exact .inr (.inl ⟨rfl, rfl⟩)
        · exact .inr (.inr ⟨rfl, rfl, by have := hok; simp only [h, true_and] at this; omega⟩)
    clear hok HHQ HHT Hg2 HGH Hq0
    rcases hcs with rfl | ⟨rfl, h1⟩ | ⟨rfl, h1, h2⟩
    all_goals
      go_upto_region 2 with (first
        | (go_at_call 10; refine (HGD.out _ H0.out.2.2).mono ?_; rintro e w1 ⟨rfl, hb1⟩; clear l0; have a1 : w1.cell? ⟨w.heap.size, 1, none⟩ = some (.int .i64 p.t) := (H0.out.1.over hb1).cell 1)
        | (go_at_call 27; refine (ptime_any _ _).mono ?_; rintro e w' ⟨rfl, rfl⟩))
      have R1 := H0.out.2.1.over hb1
      have l1 := pr_loadP (H0.out.1.over hb1) (prC_size _ _)
      have s1 := pr_storeP R1 Z97_size (prC_size p v) hone
      have B1 := H0.out.2.2.trans (hb1.mono H0.out.2.2.size)
      have HZ := hide (show _ ∧ _ from ⟨R1, B1⟩)
      clear R1 B1 hb1 hone H0 HGD a1
      go_wp2
      exact prov_end3 Tryz.results9 HZ.out.1 Z97_size HZ.out.2 p v (.slice none 0 0) [] 2 D HD.out (HN.out _ HZ.out.2) (Rep.nil _ _ _ _) _ rfl rfl rfl rfl
end Go.Proofs.YtjghbciepinofaaGreat.Pv

set_option maxRecDepth 100000
namespace Go.Proofs.YtjghbciepinofaaGreat.Pv
open Go.RowKit
def TurnsB (w : World) (g : Nat) (P : Nat → Prop) (r : Pr × Bool) (e : Ending) (w' : World) : Prop := ∃ v', e = .returned (.bool r.2) ∧ CAt 47 w' g (prC r.1 v') ∧ PIn (New P w 0) w' r.1 v' ∧ Alt g w w'
theorem Alt.drewN {g : Nat} {w w' : World} (h : Alt g w w') (n : Nat) : Alt g w (w'.drewN n) := h.trans ⟨rfl, rfl, rfl, Nat.le_refl _, fun _ _ _ => rfl⟩
attribute [local go_sem ↓] loadS_eq loadP_eq storeP_eq storeS_eq
set_option maxHeartbeats 8000000 in
theorem pdeal_double (g : Nat) (p : Pr) (v : PrV) (P : Nat → Prop) (w : World) (c : Nat) (hc : c < 2) (x : Pkt) (y1 y2 : Value) (hC : CAt 47 w g (prC p v)) (hp : PIn P w p v) (hg : ¬ P g) (hgs : goodS p.s = true) (hk : x.k = 4) (hv : x.k = 3 ∨ x.k = 4 → 0 ≤ x.v ∧ x.v < 6) :
    Calls Tryz.prog 67 #[.pointer (some ⟨g, 0, none⟩), .agg #[.int .i64 (c : Int), .int .i64 x.k, .int .i64 x.i, .int .i64 x.v, .int .i64 x.n, y1, y2]] w (TurnsB w g P (dealP p c x)) := by
  have hD : dealP p c x = if x.k = 2 then ({ p with s := { p.s with W := relW c x.i p.s.W } }, true)
    else if x.k = 4 then
      if (p.s.V x.v.toNat).dead = true then (p, true) else ({ p with s := punS p.s x.v.toNat (maxI x.i (p.L c).base) }, true)
    else if (p.s.V x.v.toNat).jail = true then ({ p with L := updL p.L c { p.L c with done := doneL (p.L c).done x.v } }, true)
    else if p.ml < 1 then (p, false)
    else ({ p with ml := wrap64 (p.ml - powV (p.s.V x.v.toNat)), s := setJ p.s x.v.toNat true (p.s.V x.v.toNat).dead, L := updL p.L c { p.L c with done := doneL (p.L c).done x.v } }, true) := by unfold dealP; rfl
  generalize dealP p c x = D at *
  have HD := hide hD
  have HKX := hide hk
  clear hk
  have HP := hide hp
  have hgl := hC.lt
  have hcc : (c : Int) < 2 := by omega
  have hcz : (0 : Int) ≤ (c : Int) := by omega
  clear hD
  go_enter Tryz.func67, Tryz.ntmps67
  go_upto_region 1 with fail
  have K0 := CAt.new 79 w #[.int .i64 (c : Int), .int .i64 x.k, .int .i64 x.i, .int .i64 x.v, .int .i64 x.n, y1, y2]
  have b0 : Below w.heap.size w (w.alloc (.cells #[.int .i64 (c : Int), .int .i64 x.k, .int .i64 x.i, .int .i64 x.v, .int .i64 x.n, y1, y2] 79)) := (Below.refl _ w).alloc (Nat.le_refl _) _
  generalize w.alloc (.cells #[.int .i64 (c : Int), .int .i64 x.k, .int .i64 x.i, .int .i64 x.v, .int .i64 x.n, y1, y2] 79) = w0 at *
  have k0 : w0.cell? ⟨w.heap.size, 0, none⟩ = some (.int .i64 (c : Int)) := K0.cell 0
  have hz0 := K0.lt
  have H0 := hide (show _ ∧ _ ∧ _ from ⟨hC.over b0, K0, b0⟩)
  clear hC hp K0 b0
  go_quiet (fail)
  simp only [Exit.then]
  apply_assumption
  have C1 := H0.out.1.over (below_drewN (Below.refl w0.heap.size w0) nq)
  have K1 := H0.out.2.1.over (below_drewN (Below.refl w0.heap.size w0) nq)
  have b1 := below_drewN H0.out.2.2 nq
  clear k0 H0
  generalize w0.drewN nq = w1 at *
  have k00 : w1.cell? ⟨w.heap.size, 0, none⟩ = some (.int .i64 (c : Int)) := K1.cell 0
  have k1 : w1.cell? ⟨w.heap.size, 1, none⟩ = some (.int .i64 x.k) := K1.cell 1
  have k2 : w1.cell? ⟨w.heap.size, 2, none⟩ = some (.int .i64 x.i) := K1.cell 2
  have k3 : w1.cell? ⟨w.heap.size, 3, none⟩ = some (.int .i64 x.v) := K1.cell 3
  have hz1 := K1.lt
  have hzg := C1.lt
  have P1 := HP.out.ofNew b1 0
  have m1 := pr_loadS C1
  have H1 := hide (show _ ∧ _ ∧ _ ∧ _ from ⟨C1, K1, b1, P1⟩)
  clear C1 K1 b1 P1
  have hk := HKX.out
  rw [hk] at k1
  replace HD := hide ((HD.out.trans (if_neg (by omega))).trans (if_pos hk))
  obtain ⟨hv0, hv1⟩ := hv (.inr hk)
  obtain ⟨n, hn, hn6⟩ : ∃ n : Nat, x.v = (n : Int) ∧ n < 6 := ⟨x.v.toNat, by omega, by omega⟩
  rw [hn, Int.toNat_natCast] at HD
  rw [hn] at k3
  have hnn : (n : Int) < 6 := by omega
  have hnz : (0 : Int) ≤ (n : Int) := by omega
  have d4 := (pr_val H1.out.1 hn6).2.2
  have HNV := hide hn
  clear hv hv0 hv1 hn
  go_upto_region 8 with fail
  go_quiet (fail)
  simp only [Exit.then]
  apply_assumption
  have C2 := H1.out.1.over (below_drewN (Below.refl w1.heap.size w1) nq)
  have K2 := H1.out.2.1.over (below_drewN (Below.refl w1.heap.size w1) nq)
  have b2 := below_drewN H1.out.2.2.1 nq
  clear k00 k1 k2 k3 d4 m1 hz1 hzg H1
  generalize w1.drewN nq = w2 at *
  cases hdd : (p.s.V n).dead
  · replace HD := hide (HD.out.trans (if_neg (by simp [hdd])))
    have e2 : w2.cell? ⟨w.heap.size, 2, none⟩ = some (.int .i64 x.i) := K2.cell 2
    have e3 : w2.cell? ⟨w.heap.size, 3, none⟩ = some (.int .i64 (n : Int)) := by rw [← HNV.out]; exact K2.cell 3
    have e6 : w2.cell? ⟨g, 66 + c * 14 + 2, none⟩ = some (.int .i64 (p.L c).base) := (C2.lk hc).facts.2.2.1
    have hzg2 := C2.lt
    have hzk2 := K2.lt
    have HPU := hide (fun (wx : World) (hb : Below w2.heap.size w2 wx) => ppunish_any g p v P wx n (maxI x.i (p.L c).base) (C2.over hb) ((HP.out.ws.over b2).over hb) hgs hn6 hdd)
    have HMX : Hid (maxI x.i (p.L c).base = if x.i < (p.L c).base then (p.L c).base else x.i) := rfl
    have H2 := hide (show _ ∧ _ ∧ _ from ⟨C2, K2, b2⟩)
    clear C2 K2 b2
    generalize hO : 66 + c * 14 = o at *
    have HO := hide hO
    clear hO
    go_upto_region 9 with fail
    generalize hBS : (p.L c).base = bs at *
    have HBS := hide hBS
    clear hBS
    generalize maxI x.i bs = mx at *
    generalize punS p.s n mx = s2 at *
    have hcs : (x.i < bs ∧ mx = bs) ∨ (¬ x.i < bs ∧ mx = x.i) := by
      by_cases h : x.i < bs
      · exact .inl ⟨h, HMX.out.trans (if_pos h)⟩
      · exact .inr ⟨h, HMX.out.trans (if_neg h)⟩
    clear HMX
    rcases hcs with ⟨hlt, hmx⟩ | ⟨hlt, hmx⟩
    all_goals
      rw [hmx] at HPU
      apply wp_join (fun w' => ∃ u, CAt 47 w' g (prC { p with s := s2 } { v with ws := u }) ∧ Rep (fun b => w2.heap.size ≤ b) w' u 8 64 (wsL s2.W) ∧ Alt g w2 w')
      · refine wp_region_noPanic ?_
        have HS2 : Hid (∀ wx, Below w2.heap.size w2 wx → wx.cell? ⟨w.heap.size, 2, none⟩ = some (.int .i64 x.i) ∧ wx.cell? ⟨w.heap.size, 3, none⟩ = some (.int .i64 (n : Int)) ∧ wx.cell? ⟨g, o + 2, none⟩ = some (.int .i64 bs)) := fun wx hb => ⟨(hb.cell (p := ⟨w.heap.size, 2, none⟩) hzk2).trans e2, (hb.cell (p := ⟨w.heap.size, 3, none⟩) hzk2).trans e3, (hb.cell (p := ⟨g, o + 2, none⟩) hzg2).trans e6⟩
        have HSK : Hid (∀ (w3 : World) (u3 : Value), CAt 47 w3 g (prC { p with s := s2 } { v with ws := u3 }) → Alt g w2.drew w3 → w3.cell? ⟨w.heap.size, 2, none⟩ = some (.int .i64 x.i) ∧ w3.cell? ⟨w.heap.size, 3, none⟩ = some (.int .i64 (n : Int)) ∧ w3.cell? ⟨g, o + 2, none⟩ = some (.int .i64 bs)) := fun w3 u3 C3 A3 => by
          have K3 := A3.cat (b := w.heap.size) (by omega) (H2.out.2.1.over (Below.refl w2.heap.size w2).drew)
          refine ⟨K3.cell 2, by rw [← HNV.out]; exact K3.cell 3, ?_⟩
          have h := (C3.lk hc).facts.2.2.1
          rw [HO.out, HBS.out] at h
          exact h
        have hb := Below.refl w2.heap.size w2
        go_region_held3 (fun wx => wx.cell? ⟨w.heap.size, 2, none⟩ = some (.int .i64 x.i) ∧ wx.cell? ⟨w.heap.size, 3, none⟩ = some (.int .i64 (n : Int)) ∧ wx.cell? ⟨g, o + 2, none⟩ = some (.int .i64 bs)) (first | exact HS3.out | (refine HS2.out _ ?_; first | with_reducible exact hb | with_reducible exact hb.drew)) ((go_at_call 112; refine (HPU.out _ (by exact (Below.refl _ _).drew)).mono ?_; rintro e w3 ⟨u3, rfl, C3, U3, A3⟩; have HS3 := hide (HSK.out w3 u3 C3 A3); have HW3 := hide (show _ ∧ _ ∧ _ from ⟨C3, U3, A3⟩); clear C3 U3 A3; dsimp only))
        all_goals
          exact NoPanic.normal ⟨rfl, rfl, u3, HW3.out.1, HW3.out.2.1, (Alt.of (Below.refl _ _).drew).trans HW3.out.2.2⟩
      rintro w' ⟨u, C3, U3, A3⟩
      have N3 := A3.pin (new_not hg hgl) (HP.out.ofNew H2.out.2.2 0)
      have hs2 := H2.out.2.2.size
      have HZ := hide (show _ ∧ _ ∧ _ ∧ _ from ⟨C3, (Alt.of (g := g) H2.out.2.2).trans A3, U3, N3⟩)
      clear C3 U3 A3 N3 e2 e3 e6 hzg2 hzk2
      first | simp only [Exit.inBlock, Exit.then] | simp only [Exit.then] | skip
      apply_assumption
      go_wp2
      go_ret
      rw [HD.out]
      exact ⟨{ v with ws := u }, rfl, HZ.out.1, ⟨HZ.out.2.2.1.mono fun b _ h => .inr (by omega), HZ.out.2.2.2.set, HZ.out.2.2.2.lk, HZ.out.2.2.2.q⟩, HZ.out.2.1⟩
  · replace HD := hide (HD.out.trans (if_pos hdd))
    have P2 := HP.out.ofNew b2 0
    have HZ := hide (show _ ∧ _ ∧ _ from ⟨C2, b2, P2⟩)
    clear C2 K2 b2 P2
    go_wp2
    go_ret
    rw [HD.out]
    exact ⟨v, rfl, HZ.out.1, HZ.out.2.2, Alt.of HZ.out.2.1⟩
end Go.Proofs.YtjghbciepinofaaGreat.Pv

