/- Parts of the proof: PDB PEA PDC PWS. -/
import Derived.Test.YtjghbciepinofaaGreatRows
import Derived.Test.YtjghbciepinofaaGreatPEK19
import Derived.Test.YtjghbciepinofaaGreatPEK21
import Derived.Test.YtjghbciepinofaaGreatPEK42
import Derived.Test.YtjghbciepinofaaGreatPEK44
import Derived.Test.YtjghbciepinofaaGreatPEK48
import Derived.Test.YtjghbciepinofaaGreatPEK49
import Derived.Test.YtjghbciepinofaaGreatPEK51
import Derived.BigQuiet
import Derived.Deep.QuietTactic
import Derived.Deep.RegionHeld3
import Derived.Deep.RegionWith
import Derived.Deep.DeepCutAuto
set_option maxRecDepth 100000
namespace Go.Proofs.YtjghbciepinofaaGreat.Pv
open Go.RowKit
theorem bury_good {s : St} {x : Nat} (hg : goodS s = true) (hx : x < 6) (hd : (s.V x).dead = false) : buryS s x = (setJ s x true true, 0) := by
  unfold buryS
  rw [if_pos (refE_good hg hx), Int.toNat_natCast, if_neg (by simp [hd])]
theorem slash_dead (s : St) (x : Nat) (h : Int) : ((slashS s x h 50).V x).dead = (s.V x).dead := by
  show (setV s.V x _ x).dead = _
  rw [setV_at]
  rfl
theorem Rep.sets {P : Nat → Prop} {w : World} {v : Value} {sz bts : Nat} {cs : List Value} (h : Rep P w v sz bts cs) {g : Nat} (hg : ¬ P g) (o : Nat) (vs : List Value) : Rep P (w.setCells g o vs) v sz bts cs := h.keep fun b hb _ => heap_sets (show b ≠ g from fun e => hg (by rw [← e]; exact hb)) vs o w
attribute [local go_sem ↓] loadS_eq loadP_eq storeP_eq storeS_eq
set_option maxHeartbeats 8000000 in
theorem ppunish_any (g : Nat) (p : Pr) (v : PrV) (P : Nat → Prop) (w : World) (x : Nat) (h : Int) (hC : CAt 47 w g (prC p v)) (hp : Rep P w v.ws 8 64 (wsL p.s.W)) (hg : goodS p.s = true) (hx : x < 6) (hd : (p.s.V x).dead = false) :
    Calls Tryz.prog 112 #[.pointer (some ⟨g, 0, none⟩), .int .i64 (x : Int), .int .i64 h] w fun e w' => ∃ u, e = .returned (.tuple #[]) ∧ CAt 47 w' g (prC { p with s := punS p.s x h } { v with ws := u }) ∧ Rep (fun b => w.heap.size ≤ b) w' u 8 64 (wsL (punS p.s x h).W) ∧ Alt g w w' := by
  have m0 := pr_loadS hC
  have hgt := hC.lt
  have HS := hide (st_slash hp x h hg hx)
  have k := kp_slash hg (v := x) hx h (f := 50) (by decide)
  have hd1 : ((slashS p.s x h 50).V x).dead = false := (slash_dead _ _ _).trans hd
  have hB : buryS (slashS p.s x h 50) x = (punS p.s x h, 0) := bury_good k.good hx hd1
  have HPW : Hid ((punS p.s x h).W = (slashS p.s x h 50).W) := rfl
  generalize punS p.s x h = s2 at *
  generalize slashS p.s x h 50 = s1 at *
  have HC := hide hC
  have HB := hide hB
  clear hC hp hg hd hB k hd1
  go_enter Tryz.func112, Tryz.ntmps112
  go_upto_region 1 with (go_at_call 150; refine HS.out.mono ?_; rintro e w1 ⟨u, y, rfl, hu, hb1⟩; clear m0; have sS1 := pr_storeS (HC.out.over hb1) (prC_size _ _) (stC_size s1 u) (st_one s1 hu.one'))
  have C2 := (HC.out.over hb1).stake s1 u
  have U2 := hu.sets (g := g) (by show ¬ _ ≤ g; omega) 2 (stC s1 u).toList
  have A2 := Alt.sets (stC s1 u).toList (Alt.of (g := g) hb1) 2
  clear sS1 hb1
  generalize w1.setCells g 2 (stC s1 u).toList = w2 at *
  have m2 := pr_loadS C2
  have hbu := st_bury U2 (x : Int)
  rw [HB.out] at hbu
  have HBU := hide hbu
  have H2 := hide (show _ ∧ _ ∧ _ from ⟨C2, U2, A2⟩)
  have one2 := st_one s2 hu.one'
  have hz2 := A2.size
  clear C2 U2 A2 hbu hu HC HB HS
  go_wp2_with (go_at_call 151; refine HBU.out.mono ?_; rintro e w3 ⟨rfl, hb3⟩; clear m2; have sS3 := pr_storeS (H2.out.1.over hb3) (prC_size _ _) (stC_size s2 u) one2)
  go_end0
  have C3 := (H2.out.1.over hb3).stake s2 u
  refine ⟨u, rfl, C3, ?_, H2.out.2.2.trans (Alt.sets (stC s2 u).toList (Alt.of (g := g) hb3) 2)⟩
  rw [HPW.out]
  exact (H2.out.2.1.over hb3).sets (by show ¬ _ ≤ g; omega) 2 _
end Go.Proofs.YtjghbciepinofaaGreat.Pv

set_option maxRecDepth 100000
namespace Go.Proofs.YtjghbciepinofaaGreat.Pv
open Go.RowKit
/-- what End answers -/
def AnsE (P : Nat → Prop) (w : World) (r : Pr × List Int × Int) (e : Ending) (w' : World) : Prop := ∃ v' u, e = .returned (.tuple #[.agg (prC r.1 v'), u, .int .i64 r.2.2]) ∧ PIn (New P w 2) w' r.1 v' ∧ Rep (New P w 2) w' u 1 8 (inC r.2.1) ∧ Below w.heap.size w w'
theorem results_prov3 {fn : Func} {p q u : Tmp} (h : fn.results = #[.cell p 47, .tmp q, .tmp u]) (tmps : Array Value) (w : World) (g : Nat) (cs : Array Value) (v v2 : Value)
    (hp : tmps.getD p undef = .pointer (some ⟨g, 0, none⟩)) (hq : tmps.getD q undef = v) (hu : tmps.getD u undef = v2) (hg : CAt 47 w g cs) (hsz : cs.size = 97) :
    (results fn tmps).run Tryz.prog w = .ok (.tuple #[.agg cs, v, v2]) w := by
  have hp' : tmps[p]?.getD undef = .pointer (some ⟨g, 0, none⟩) := by simpa using hp
  have hq' : tmps[q]?.getD undef = v := by simpa using hq
  have hu' : tmps[u]?.getD undef = v2 := by simpa using hu
  simp [results, h, hp', hq', hu', asAddr, run_loadVar_row w g 47 47 cs (0, 0) _ hg Tryz.underlying47 rfl (by rw [infoPv, hsz])]
theorem prov_end3 {f : Func} {t q y : Tmp} (hres : f.results = #[.cell t 47, .tmp q, .tmp y]) {P : Nat → Prop} {w wq : World} {zs : Array Value} (R : CAt 47 wq (w.heap.size + 1) zs) (hz : zs.size = 97) (H : Below w.heap.size w wq) (p' : Pr) (v' : PrV) (u : Value) (l : List Int) (er : Int) (r : Pr × List Int × Int) (hr : r = (p', l, er)) (hp : PIn (New P w 2) wq p' v') (hu : Rep (New P w 2) wq u 1 8 (inC l)) (act : Act)
    (h8 : act.tmps.getD t undef = .pointer (some ⟨w.heap.size + 1, 0, none⟩)) (h9 : act.tmps.getD q undef = u) (h10 : act.tmps.getD y undef = .int .i64 er) (hd : act.defers = []) :
    bodyPost Tryz.prog f (AnsE P w r) Exit.ret act (wq.setCells (w.heap.size + 1) 0 (prC p' v').toList) := by
  subst hr
  have R3 := R.setAll (ds := prC p' v') (by rw [hz]; rfl)
  exact bodyPost_ret (v := .tuple #[.agg (prC p' v'), u, .int .i64 er]) (results_prov3 hres _ _ _ _ _ _ h8 h9 h10 R3 rfl) hd ⟨v', u, rfl, hp.sets (new_no (by omega)) _ _, hu.sets (new_no (by omega)) _ _, below_sets (Nat.le_succ _) _ _ _ H⟩
/-- a call through a pointer to a provider -/
def Turns (w : World) (g : Nat) (P : Nat → Prop) (p' : Pr) (e : Ending) (w' : World) : Prop := ∃ v', e = .returned (.tuple #[]) ∧ CAt 47 w' g (prC p' v') ∧ PIn (New P w 0) w' p' v' ∧ Alt g w w'
theorem new_not {P : Nat → Prop} {w : World} {g : Nat} (hP : ¬ P g) (hg : g < w.heap.size) : ¬ New P w 0 g := fun h => by
  rcases h with ⟨h, _⟩ | h
  · exact hP h
  · omega
theorem set_h (p : Pr) (v : PrV) (x : Int) : (prC p v).setIfInBounds 0 (.int .i64 x) = prC { p with h := x } v := rfl
theorem set_t (p : Pr) (v : PrV) (x : Int) : (prC p v).setIfInBounds 1 (.int .i64 x) = prC { p with t := x } v := rfl
theorem set_ml (p : Pr) (v : PrV) (x : Int) : (prC p v).setIfInBounds 94 (.int .i64 x) = prC { p with ml := x } v := rfl
theorem set_mn (p : Pr) (v : PrV) (x : Int) : (prC p v).setIfInBounds 95 (.int .i64 x) = prC { p with mn := x } v := rfl
/-- blocks that were there, or that came later, but for one -/
def Nx (P : Nat → Prop) (w : World) (g b : Nat) : Prop := (P b ∧ b < w.heap.size) ∨ (w.heap.size + 2 ≤ b ∧ b ≠ g)
theorem nx_no {P : Nat → Prop} {w : World} {g : Nat} (hg : w.heap.size ≤ g) : ¬ Nx P w g g := fun h => by
  rcases h with ⟨_, h⟩ | ⟨_, h⟩
  · omega
  · exact h rfl
theorem nx_of {P : Nat → Prop} {w wl : World} {g b : Nat} (hw : w.heap.size + 2 ≤ wl.heap.size) (hg : g < wl.heap.size) (h : New (Nx P w g) wl 0 b) : Nx P w g b := by
  rcases h with ⟨h, _⟩ | h
  · exact h
  · exact .inr ⟨by omega, by omega⟩
theorem nx_new {P : Nat → Prop} {w : World} {g b : Nat} (h : Nx P w g b) : New P w 2 b := by
  rcases h with h | h
  · exact .inl h
  · exact .inr h.1
theorem PIn.nx {P : Nat → Prop} {w w' : World} {p : Pr} {v : PrV} (h : PIn P w p v) (hb : Below w.heap.size w w') (g : Nat) : PIn (Nx P w g) w' p v := (h.mono (P' := fun b => Nx P w g b ∧ b < w.heap.size) fun _ hl hp => ⟨.inl ⟨hp, hl⟩, hl⟩).over hb |>.mono fun _ _ h => h.1
theorem allN_I64 (l : List (Int × Int)) : Mt.I64 (Df.allN l) := by
  have key : ∀ (l : List (Int × Int)) (a : Int), Mt.I64 a → Mt.I64 (l.foldl (fun s x => (s + x.2 + 9223372036854775808) % 18446744073709551616 - 9223372036854775808) a) := by
    intro l
    induction l with
    | nil => exact fun a h => h
    | cons x l ih => exact fun a _ => ih _ (by show Mt.I64 ((a + x.2 + 9223372036854775808) % 18446744073709551616 - 9223372036854775808); unfold Mt.I64; omega)
  exact key l 0 (by unfold Mt.I64; omega)
/-- a list of powers is stored -/
def storeL (a v : Value) : Sem Unit := Instr.storeAt 33 a v
theorem storeL_eq (a v : Value) : Instr.storeAt 33 a v = storeL a v := rfl
theorem pr_storeL {w : World} {b o : Nat} {u v : Value} (hv : ∃ A n C, v = .slice A n C) (hc : w.cell? ⟨b, o, none⟩ = some u) (hf : w.frozen? ⟨b, o, none⟩ = false) : (storeL (.pointer (some ⟨b, o, none⟩)) v).run Tryz.prog w = .ok () (w.setCell ⟨b, o, none⟩ v) := by
  obtain ⟨A, n, C, rfl⟩ := hv
  change (Instr.storeAt 33 _ _).run Tryz.prog w = _
  go_simp
attribute [local go_sem ↓] storeL_eq
attribute [local go_sem ↓] loadS_eq loadP_eq storeP_eq storeS_eq
set_option maxHeartbeats 8000000 in
theorem pend_of (p : Pr) (v : PrV) (P : Nat → Prop) (w : World) (now : Int) (hp : PIn P w p v) (q0 q1 q2 : Pr)
    (HQ : goodP p = true → isT now = true → p.t ≤ now → ∀ (g : Nat) (v : PrV) (wx : World) (P' : Nat → Prop), CAt 47 wx g (prC (tickP p now) v) → PIn P' wx (tickP p now) v → ¬ P' g → Calls Tryz.prog 30 #[.pointer (some ⟨g, 0, none⟩)] wx (Turns wx g P' (queueP (tickP p now))))
    (hg2 : goodP p = true → goodS (queueP (tickP p now)).s = true)
    (HT : goodP p = true → isT now = true → p.t ≤ now → ∀ (c : Nat), c < 2 → ∀ (g : Nat) (v : PrV) (wx : World) (P' : Nat → Prop), CAt 47 wx g (prC (if c = 0 then q0 else q1) v) → PIn P' wx (if c = 0 then q0 else q1) v → ¬ P' g → Calls Tryz.prog 32 #[.pointer (some ⟨g, 0, none⟩), .pointer (some ⟨g, 66 + c * 14, none⟩)] wx (Turns wx g P' (if c = 0 then q1 else q2)))
    (hq0 : q0 = paidP (queueP (tickP p now)) now) (hq1 : q1 = tellP q0 0) (hq2 : q2 = tellP q1 1) :
    Calls Tryz.prog 9 #[.agg (prC p v), .int .i64 now] w (AnsE P w (endP p now)) := by
  have hD : endP p now = if goodP p = true ∧ isT now = true ∧ p.t ≤ now then (q2, paidW now (queueP (tickP p now)).s.W, 0) else (p, [], 2) := by unfold endP; rw [hq2, hq1, hq0]
  generalize endP p now = D at *
  have HD := hide hD
  clear hD hq1 hq2
  have hone := pr_one hp
  have HGD := hide (fun (wx : World) (hb : Below w.heap.size w wx) => pgood_any p v P wx (hp.over hb))
  have HN := hide (fun (wx : World) (hb : Below w.heap.size w wx) => hp.ofNew hb 2)
  have HP := hide hp
  have HHQ := hide HQ
  have HHT := hide HT
  have Hg2 := hide hg2
  have Hq0 := hide hq0
  have HGH : Hid (goodP p = true → 0 ≤ p.h ∧ p.h ≤ 1099511627775) := fun h => by
    unfold goodP at h
    simp only [Bool.and_eq_true, decide_eq_true_eq] at h
    exact ⟨h.1.1.1.1.1.1.2, h.1.1.1.1.1.2⟩
  clear hp HQ HT hg2 hq0
  generalize goodP p = G at *
  go_enter Tryz.func9, Tryz.ntmps9
  go_upto_region 1 with fail
  change Code.wp Tryz.prog _ _ _ ((w.alloc (.cells (prC p v) 47)).alloc (.cells Tryz.zeroCells47 47))
  have C0 : CAt 47 ((w.alloc (.cells (prC p v) 47)).alloc (.cells Tryz.zeroCells47 47)) w.heap.size (prC p v) := (CAt.new _ w _).alloc _
  have R0 : CAt 47 ((w.alloc (.cells (prC p v) 47)).alloc (.cells Tryz.zeroCells47 47)) (w.heap.size + 1) Tryz.zeroCells47 := CAt.new2 _ w _ _
  have B0 : Below w.heap.size w ((w.alloc (.cells (prC p v) 47)).alloc (.cells Tryz.zeroCells47 47)) := ((Below.refl _ w).alloc (Nat.le_refl _) _).alloc (by simp) _
  generalize (w.alloc (.cells (prC p v) 47)).alloc (.cells Tryz.zeroCells47 47) = w0 at *
  have l0 := pr_loadP C0 (prC_size _ _)
  have H0 := hide (show _ ∧ _ ∧ _ from ⟨C0, R0, B0⟩)
  clear C0 R0 B0
  by_cases hok : G = true ∧ isT now = true ∧ p.t ≤ now
  · obtain ⟨rfl, hti, htn⟩ := hok
    replace HD := hide (HD.out.trans (if_pos ⟨rfl, hti, htn⟩))
    obtain ⟨hh0, hh1⟩ := HGH.out rfl
    replace HHQ := hide (HHQ.out rfl hti htn)
    replace HHT := hide (HHT.out rfl hti htn)
    replace Hg2 := hide (Hg2.out rfl)
    clear HGH
    go_upto_region 3 with (first
      | (go_at_call 10; refine (HGD.out _ H0.out.2.2).mono ?_; rintro e w1 ⟨rfl, hb1⟩; clear l0; have a1 : w1.cell? ⟨w.heap.size, 1, none⟩ = some (.int .i64 p.t) := (H0.out.1.over hb1).cell 1)
      | (go_at_call 27; refine (ptime_any _ _).mono ?_; rintro e w' ⟨rfl, rfl⟩))
    have C1 := H0.out.1.over hb1
    have R1 := H0.out.2.1.over hb1
    have B1 := H0.out.2.2.trans (hb1.mono H0.out.2.2.size)
    have l1 := pr_loadP C1 (prC_size _ _)
    have s1 := pr_storeP (CAt.new 47 w1 Tryz.zeroCells47) Z97_size (prC_size p v) hone
    have H1 := hide (show _ ∧ _ ∧ _ from ⟨C1, R1, B1⟩)
    have hlt1 := R1.lt
    clear C1 R1 B1 hb1 H0 HGD a1
    go_upto_region 4 with fail
    have bS : Below w1.heap.size w1 ((w1.alloc (.cells Tryz.zeroCells47 47)).setCells w1.heap.size 0 (prC p v).toList) := below_sets (Nat.le_refl _) _ _ _ ((Below.refl _ w1).alloc (Nat.le_refl _) _)
    have N2 : CAt 47 ((w1.alloc (.cells Tryz.zeroCells47 47)).setCells w1.heap.size 0 (prC p v).toList) w1.heap.size (prC p v) := (CAt.new 47 w1 Tryz.zeroCells47).setAll (by rw [Z97_size]; rfl)
    have C2 := H1.out.1.over bS
    have R2 := H1.out.2.1.over bS
    have B2 := H1.out.2.2.trans (bS.mono H1.out.2.2.size)
    clear bS l1 s1
    generalize (w1.alloc (.cells Tryz.zeroCells47 47)).setCells w1.heap.size 0 (prC p v).toList = w2 at *
    generalize w1.heap.size = gn at *
    have n0 : w2.cell? ⟨gn, 0, none⟩ = some (.int .i64 p.h) := N2.cell 0
    have n1 : w2.cell? ⟨gn, 1, none⟩ = some (.int .i64 p.t) := N2.cell 1
    have nf0 := N2.free 0
    have nf1 := N2.free 1
    have N4 := (N2.set 0 (.int .i64 (p.h + 1))).set 1 (.int .i64 now)
    rw [set_h, set_t] at N4
    have C4 := (C2.other (c := gn) (o := 0) (by omega) (.int .i64 (p.h + 1))).other (c := gn) (o := 1) (by omega) (.int .i64 now)
    have R4 := (R2.other (c := gn) (o := 0) (by omega) (.int .i64 (p.h + 1))).other (c := gn) (o := 1) (by omega) (.int .i64 now)
    have B4 := (B2.setCell (p := ⟨gn, 0, none⟩) (by show _ ≤ gn; omega) (.int .i64 (p.h + 1))).setCell (p := ⟨gn, 1, none⟩) (by show _ ≤ gn; omega) (.int .i64 now)
    have hltn := N2.lt
    clear C2 R2 B2 N2
    go_upto_region 6 with fail
    clear n0 n1 nf0 nf1
    generalize (w2.setCell ⟨gn, 0, none⟩ (.int .i64 (p.h + 1))).setCell ⟨gn, 1, none⟩ (.int .i64 now) = w4 at *
    obtain ⟨⟨-, -, c65, c94, c95, -⟩, -⟩ := pr_facts C4
    have m94 : w4.cell? ⟨gn, 94, none⟩ = some (.int .i64 p.ml) := N4.cell 94
    have m95 : w4.cell? ⟨gn, 95, none⟩ = some (.int .i64 p.mn) := N4.cell 95
    have f94 := N4.free 94
    have f95 := N4.free 95
    have hz4 := C4.lt
    have hzn := N4.lt
    have HAL := hide (fun (wx : World) (hb : Below w.heap.size w wx) => st_all (HP.out.set.over hb))
    have H4 := hide (show _ ∧ _ ∧ _ ∧ _ from ⟨N4, C4, R4, B4⟩)
    clear N4 C4 R4 B4 H1
    have HIA := hide (allN_I64 p.set)
    have HTK : Hid (tickP p now = { p with h := p.h + 1, t := now, ml := if now < p.mn then p.ml else Mt.alw (Df.allN p.set), mn := if now < p.mn then p.mn else wrap64 (now + 10) }) := rfl
    have HMT := hide (fun (wx : World) => Mt.mtick_any p.ml p.mn (Df.allN p.set) now HIA.out wx)
    generalize Df.allN p.set = al at *
    generalize (if now < p.mn then p.ml else Mt.alw al) = ml' at *
    generalize (if now < p.mn then p.mn else wrap64 (now + 10)) = mn' at *
    apply wp_join (fun w' => ∃ w6, w' = (w6.setCell ⟨gn, 94, none⟩ (.int .i64 ml')).setCell ⟨gn, 95, none⟩ (.int .i64 mn') ∧ Below w4.heap.size w4 w6)
    · refine wp_region_noPanic ?_
      go_region_with (first
        | (go_at_call 29; refine (HAL.out _ (by exact H4.out.2.2.2.drew)).mono ?_; rintro e w5 ⟨rfl, hb5⟩; obtain ⟨⟨-, -, d65, d94, d95, -⟩, -⟩ := pr_facts (H4.out.2.1.over ((Below.refl _ _).drew.trans hb5)))
        | (go_at_call 28; refine (HMT.out _).mono ?_; rintro e w6 ⟨rfl, hb6⟩; have N6 := (H4.out.1.over ((Below.refl _ _).drew.trans hb5)).over hb6; have n94 : w6.cell? ⟨gn, 94, none⟩ = some (.int .i64 p.ml) := N6.cell 94; have n95 : w6.cell? ⟨gn, 95, none⟩ = some (.int .i64 p.mn) := N6.cell 95; have nf94 := N6.free 94; have nf95 := N6.free 95; have hz6 := N6.lt; clear N6))
      all_goals
        have b46 := (Below.refl w4.heap.size w4).drew.trans hb5
        exact NoPanic.normal ⟨rfl, rfl, _, rfl, b46.trans (hb6.mono b46.size)⟩
    rintro w' ⟨w6, rfl, b6⟩
    have N7 := ((H4.out.1.over b6).set 94 (.int .i64 ml')).set 95 (.int .i64 mn')
    rw [set_ml, set_mn] at N7
    have R7 := ((H4.out.2.2.1.over b6).other (c := gn) (o := 94) (by omega) (.int .i64 ml')).other (c := gn) (o := 95) (by omega) (.int .i64 mn')
    have C7 := ((H4.out.2.1.over b6).other (c := gn) (o := 94) (by omega) (.int .i64 ml')).other (c := gn) (o := 95) (by omega) (.int .i64 mn')
    have B7 := ((H4.out.2.2.2.trans (b6.mono H4.out.2.2.2.size)).setCell (p := ⟨gn, 94, none⟩) (by show _ ≤ gn; omega) (.int .i64 ml')).setCell (p := ⟨gn, 95, none⟩) (by show _ ≤ gn; omega) (.int .i64 mn')
    have hp6 := HP.out.nx B7 gn
    have hp7 : PIn (Nx P w gn) _ (tickP p now) v := ⟨hp6.ws, hp6.set, hp6.lk, hp6.q⟩
    clear hp6
    rw [← HTK.out] at N7
    clear b6 H4 c65 c94 c95 m94 m95 f94 f95 hz4 hzn HAL HIA HMT HTK
    generalize (w6.setCell ⟨gn, 94, none⟩ (.int .i64 ml')).setCell ⟨gn, 95, none⟩ (.int .i64 mn') = w7 at *
    have HQ7 := hide (HHQ.out gn v w7 (Nx P w gn) N7 hp7 (nx_no (by omega)))
    have H7 := hide (show _ ∧ _ ∧ _ from ⟨C7, R7, B7⟩)
    have hz7 := N7.lt
    have hr7 := R7.lt
    have hgs := Hg2.out
    clear N7 R7 B7 C7 hp7 HHQ Hg2
    generalize queueP (tickP p now) = p2 at *
    simp only [Exit.then]
    apply_assumption
    go_upto_region 8 with (go_at_call 30; refine HQ7.out.mono ?_; rintro e w8 ⟨v8, rfl, C8, P8, A8⟩)
    have R8 := A8.cat (b := w.heap.size + 1) (by omega) H7.out.2.1
    have B8 := H7.out.2.2.trans (A8.below (by omega) H7.out.2.2.size)
    have hs7 := A8.size
    have P8' : PIn (Nx P w gn) w8 p2 v8 := P8.mono fun b _ hb => nx_of (by omega) hz7 hb
    have m8 := pr_loadS C8
    have HPY := hide (st_pay P8'.ws now hgs)
    have H8 := hide (show _ ∧ _ ∧ _ ∧ _ from ⟨C8, R8, B8, P8'⟩)
    have hz8 := C8.lt
    clear P8 P8' A8 C8 R8 B8 HQ7 H7
    have hge := (kp_pay hgs now).good
    have HST := hide (fun (u : Value) (wx : World) => st_set (payS p2.s now) u wx hge)
    have HLN := hide (setS_len (payS p2.s now).V)
    have Hq0' : Hid (q0 = { p2 with s := payS p2.s now, set := setS (payS p2.s now).V }) := Hq0.out
    clear Hq0
    generalize payS p2.s now = s3 at *
    generalize setS s3.V = st3 at *
    go_upto_region 9 with (go_at_call 31; refine HPY.out.mono ?_; rintro e w9 ⟨u9, x9, rfl, U9, X9, hb9⟩; clear m8; have one9 := st_one s3 U9.one'; have sS9 := st_storeS (CAt.new 32 w9 Z63) rfl (stC_size s3 u9) one9; unfold Z63 at sS9)
    change Code.wp Tryz.prog _ _ _ ((w9.alloc (.cells Z63 32)).setCells w9.heap.size 0 (stC s3 u9).toList)
    have bS : Below w9.heap.size w9 ((w9.alloc (.cells Z63 32)).setCells w9.heap.size 0 (stC s3 u9).toList) := below_sets (Nat.le_refl _) _ _ _ ((Below.refl _ w9).alloc (Nat.le_refl _) _)
    have T10 : CAt 32 ((w9.alloc (.cells Z63 32)).setCells w9.heap.size 0 (stC s3 u9).toList) w9.heap.size (stC s3 u9) := (CAt.new 32 w9 Z63).setAll rfl
    have b10 := hb9.trans (bS.mono hb9.size)
    have C10 := H8.out.1.over b10
    have R10 := H8.out.2.1.over b10
    have B10 := H8.out.2.2.1.trans (b10.mono H8.out.2.2.1.size)
    have P10 := H8.out.2.2.2.over b10
    have U10 := U9.over bS
    have X10 := X9.over bS
    have hs9 := hb9.size
    clear bS b10 sS9 hb9 U9 X9 H8 HPY
    generalize (w9.alloc (.cells Z63 32)).setCells w9.heap.size 0 (stC s3 u9).toList = w10 at *
    have hz10 := T10.lt
    generalize w9.heap.size = tb at *
    have H10 := hide (show _ ∧ _ ∧ _ ∧ _ ∧ _ ∧ _ ∧ _ from ⟨T10, C10, R10, B10, P10, U10, X10⟩)
    have k10 := st_loadS (T10.over (Below.refl _ _).drew) (stC_size _ _)
    clear T10 C10 R10 B10 P10 U10 X10
    go_upto_region 11 with fail
    apply wp_joinx (fun s11 w' => ∃ w11 wS, w' = wS.setCell ⟨gn, 65, none⟩ s11 ∧ wS = w11.setCells gn 2 (stC s3 u9).toList ∧ Below w10.heap.size w10 w11 ∧ Rep (fun b => w10.heap.size ≤ b) w11 s11 2 16 (pwC st3))
    · refine wp_region_noPanic ?_
      have HW11 : Hid (∀ w11, Below w10.heap.size w10 w11 → ∃ wS, wS = w11.setCells gn 2 (stC s3 u9).toList ∧ (storeS (.pointer (some ⟨gn, 2, none⟩)) (.agg (stC s3 u9))).run Tryz.prog w11 = .ok () wS ∧ wS.cell? ⟨gn, 65, none⟩ = some v8.set ∧ wS.frozen? ⟨gn, 65, none⟩ = false ∧ gn < wS.heap.size) := fun w11 b11 => by
        have C11 := H10.out.2.1.over b11
        have C12 := C11.stake s3 u9
        exact ⟨_, rfl, pr_storeS C11 (prC_size _ _) (stC_size s3 u9) one9, C12.cell 65, C12.free 65, C12.lt⟩
      go_region_with (go_at_call 13; refine (HST.out _ _).mono ?_; rintro e w11 ⟨s11, rfl, S11, hb11⟩; have b11 := (Below.refl w10.heap.size w10).drew.trans hb11; have k11 := st_loadS (H10.out.1.over b11) (stC_size _ _); obtain ⟨wS, hwS, sS11, y65, yf65, yz⟩ := HW11.out w11 b11; have sL11 := pr_storeL S11.one' y65 yf65; clear y65 yf65; have HwS := hide hwS; clear hwS)
      all_goals exact NoPanic.normal ⟨s11, rfl, rfl, w11, wS, rfl, HwS.out, b11, S11⟩
    rintro s11 w' ⟨w11, wS, rfl, hwS, b11, S11⟩
    have C12 := (H10.out.2.1.over b11).stake s3 u9
    have R12 := (H10.out.2.2.1.over b11).others (c := gn) (o := 2) (by omega) (stC s3 u9).toList
    have B11 := H10.out.2.2.2.1.trans (b11.mono H10.out.2.2.2.1.size)
    have B12 := below_sets (b := gn) (B := w.heap.size) (by omega) (stC s3 u9).toList 2 _ B11
    rw [← hwS] at C12 R12 B12
    have C13 := C12.set 65 s11
    rw [pr_set] at C13
    have R13 := R12.other (c := gn) (o := 65) (by omega) s11
    have B13 := B12.setCell (p := ⟨gn, 65, none⟩) (by show _ ≤ gn; omega) s11
    have A13 : Alt gn w11 (wS.setCell ⟨gn, 65, none⟩ s11) := by rw [hwS]; exact (Alt.sets (stC s3 u9).toList (Alt.refl gn w11) 2).set 65 s11
    have hs10 := H10.out.1.lt
    have P13 : PIn (Nx P w gn) (wS.setCell ⟨gn, 65, none⟩ s11) q0 { v8 with ws := u9, set := s11 } := by
      have no := nx_no (P := P) (w := w) (g := gn) (by omega)
      have p1 := A13.pin no (H10.out.2.2.2.2.1.over b11)
      have hU : Rep (Nx P w gn) w11 u9 8 64 (wsL s3.W) := (H10.out.2.2.2.2.2.1.over b11).mono fun b _ hb => .inr (by have hb' : w8.heap.size ≤ b := hb; omega)
      have hS : Rep (Nx P w gn) w11 s11 2 16 (pwC st3) := S11.mono fun b _ hb => .inr (by have hb' : w10.heap.size ≤ b := hb; omega)
      rw [Hq0'.out]
      exact ⟨A13.rep no hU, A13.rep no hS, p1.lk, p1.q⟩
    have X13 : Rep (Nx P w gn) (wS.setCell ⟨gn, 65, none⟩ s11) x9 1 8 (inC (paidW now p2.s.W)) := A13.rep (nx_no (by omega)) ((H10.out.2.2.2.2.2.2.over b11).mono fun b _ hb => .inr (by have hb' : w8.heap.size ≤ b := hb; omega))
    have C13' : CAt 47 (wS.setCell ⟨gn, 65, none⟩ s11) gn (prC q0 { v8 with ws := u9, set := s11 }) := by rw [Hq0'.out]; exact C13
    clear C12 R12 B11 B12 C13 A13 hwS b11 S11 H10
    generalize ({ v8 with ws := u9, set := s11 } : PrV) = v13 at *
    generalize wS.setCell ⟨gn, 65, none⟩ s11 = w13 at *
    have hz13 := C13'.lt
    have hr13 := R13.lt
    have H13 := hide (show _ ∧ _ ∧ _ ∧ _ ∧ _ from ⟨C13', R13, B13, P13, X13⟩)
    clear C13' R13 B13 P13 X13 k10 HST HLN Hq0'
    simp only [Exit.then]
    apply_assumption
    go_upto_region 13 with fail
    go_loopw [60] (fun i wl => ∃ (k : Nat) (vk : PrV), k ≤ 2 ∧ i = .int .i64 (k : Int) ∧ Hid (CAt 47 wl gn (prC (if k = 0 then q0 else if k = 1 then q1 else q2) vk) ∧ PIn (Nx P w gn) wl (if k = 0 then q0 else if k = 1 then q1 else q2) vk ∧ Alt gn w13 wl)) (fun i _ => (2 - intOf i).toNat)
    case atStart => exact ⟨0, v13, by omega, rfl, H13.out.1, H13.out.2.2.2.1, Alt.refl _ _⟩
    case round =>
      obtain ⟨k, vk, hk, rfl, HR⟩ := hrel
      by_cases hk2 : k < 2
      · have hkk : (k : Int) < 2 := by omega
        have hk0 : (0 : Int) ≤ (k : Int) := by omega
        have e1 : (if k = 0 then q0 else if k = 1 then q1 else q2) = if k = 0 then q0 else q1 := by
          rcases (show k = 0 ∨ k = 1 by omega) with rfl | rfl <;> rfl
        have e2 : (if k = 0 then q1 else q2) = if k + 1 = 0 then q0 else if k + 1 = 1 then q1 else q2 := by
          rcases (show k = 0 ∨ k = 1 by omega) with rfl | rfl <;> rfl
        have hsz := HR.out.2.2.size
        have ht := HHT.out k hk2 gn vk wr (Nx P w gn) (by rw [← e1]; exact HR.out.1) (by rw [← e1]; exact HR.out.2.1) (nx_no (by omega))
        rw [e2] at ht
        have HTT := hide ht
        clear ht e1 e2
        go_upto_region 16 with (go_at_call 32; refine HTT.out.mono ?_; rintro e w14 ⟨v14, rfl, C14, P14, A14⟩)
        have HF := hide (show _ ∧ _ ∧ _ from ⟨C14, P14.mono (P' := Nx P w gn) (fun b _ hb => nx_of (by omega) (by omega) hb), HR.out.2.2.trans A14⟩)
        clear C14 P14 A14 HTT HR
        go_wp2
        first | exact ⟨⟨k + 1, v14, by omega, by go_num, HF⟩, by simp [intOf]; omega⟩ | ((repeat apply Exists.intro); exact ⟨⟨k + 1, v14, by omega, by go_num, HF⟩, rfl⟩)
      · obtain rfl : k = 2 := by omega
        have C15 : CAt 47 wr gn (prC q2 vk) := HR.out.1
        have P15 : PIn (Nx P w gn) wr q2 vk := HR.out.2.1
        have A15 := HR.out.2.2
        have R15 := A15.cat (b := w.heap.size + 1) (by omega) H13.out.2.1
        have B15 := H13.out.2.2.1.trans (A15.below (by omega) H13.out.2.2.1.size)
        have X15 := A15.rep (nx_no (P := P) (w := w) (g := gn) (by omega)) H13.out.2.2.2.2
        have l15 := pr_loadP C15 (prC_size _ _)
        have s15 := pr_storeP R15 Z97_size (prC_size q2 vk) (pr_one P15)
        have HZ := hide (show _ ∧ _ ∧ _ ∧ _ from ⟨R15, B15, P15.mono (P' := New P w 2) (fun _ _ h => nx_new h), X15.mono (P' := New P w 2) (fun _ _ h => nx_new h)⟩)
        clear C15 P15 A15 R15 B15 X15 HR H13 HHT
        go_wp2
        exact prov_end3 Tryz.results9 HZ.out.1 Z97_size HZ.out.2.1 q2 vk x9 _ 0 D HD.out HZ.out.2.2.1 HZ.out.2.2.2 _ rfl rfl rfl rfl
  · replace HD := hide (HD.out.trans (if_neg hok))
    have hcs : G = false ∨ (G = true ∧ isT now = false) ∨ (G = true ∧ isT now = true ∧ now < p.t) := by
      cases G
      · exact .inl rfl
      · cases h : isT now
        · exact .inr (.inl ⟨rfl, rfl⟩)
        · exact .inr (.inr ⟨rfl, rfl, by have := hok; simp only [h, true_and] at this; omega⟩)
    clear hok HHQ HHT Hg2 HGH Hq0
    rcases hcs with rfl | ⟨rfl, h1⟩ | ⟨rfl, h1, h2⟩
    all_goals
      go_upto_region 2 with (first
        | (go_at_call 10; refine (HGD.out _ H0.out.2.2).mono ?_; rintro e w1 ⟨rfl, hb1⟩; clear l0; have a1 : w1.cell? ⟨w.heap.size, 1, none⟩ = some (.int .i64 p.t) := (H0.out.1.over hb1).cell 1)
        | (go_at_call 27; refine (ptime_any _ _).mono ?_; rintro e w' ⟨rfl, rfl⟩))
      have R1 := H0.out.2.1.over hb1
      have l1 := pr_loadP (H0.out.1.over hb1) (prC_size _ _)
      have s1 := pr_storeP R1 Z97_size (prC_size p v) hone
      have B1 := H0.out.2.2.trans (hb1.mono H0.out.2.2.size)
      have HZ := hide (show _ ∧ _ from ⟨R1, B1⟩)
      clear R1 B1 hb1 hone H0 HGD a1
      go_wp2
      exact prov_end3 Tryz.results9 HZ.out.1 Z97_size HZ.out.2 p v (.slice none 0 0) [] 2 D HD.out (HN.out _ HZ.out.2) (Rep.nil _ _ _ _) _ rfl rfl rfl rfl
end Go.Proofs.YtjghbciepinofaaGreat.Pv

set_option maxRecDepth 100000
namespace Go.Proofs.YtjghbciepinofaaGreat.Pv
open Go.RowKit
/-- a queue with one more behind, in a new block -/
theorem QRep.app {P P' : Nat → Prop} {w w' : World} {q : List (Int × Pkt)} {z : List (Value × Value)} {x : Int × Pkt} {y : Value × Value} (hl : z.length = q.length) (hz : ∀ (i : Nat) (x : Int × Pkt) (y : Value × Value), q[i]? = some x → z[i]? = some y → Rep P w y.1 2 16 (pwC x.2.S) ∧ Rep P w y.2 1 8 (inC x.2.D)) (hP : ∀ b, b < w.heap.size → P b → P' b) (hb : Below w.heap.size w w') (hy : Rep P' w' y.1 2 16 (pwC x.2.S) ∧ Rep P' w' y.2 1 8 (inC x.2.D)) (hb88 : q.length * 88 ≤ 140737488351232) {g C : Nat} (hC : q.length + 1 ≤ C) (hg : P' g) (hlt : g < w'.heap.size) (hc : ∀ j u, (quL q z ++ akL x y)[j]? = some u → w'.cell? ⟨g, j, none⟩ = some u) : QRep P' w' (.slice (some ⟨g, 0, none⟩) (q.length + 1) C) (q ++ [x]) := by
  refine ⟨z ++ [y], by simp [hl], ⟨_, q.length + 1, C, rfl, ?_, by omega, ⟨fun h => (by cases h), hC⟩, fun _ => ⟨g, 0, rfl, hg, hlt, fun j u hu => ?_⟩⟩, fun i a b ha hb' => ?_⟩
  · rw [quL_length _ _ (by simp [hl])]; simp
  · rw [quL_app q z x y hl] at hu
    rw [Nat.zero_add]
    exact hc j u hu
  · by_cases hi : i < q.length
    · rw [List.getElem?_append_left hi] at ha
      rw [List.getElem?_append_left (by omega)] at hb'
      have := hz i a b ha hb'
      exact ⟨(this.1.mono hP).over hb, (this.2.mono hP).over hb⟩
    · rw [List.getElem?_append_right (by omega)] at ha hb'
      have e1 := (List.getElem?_eq_some_iff.1 ha).1
      have e2 : i - q.length = 0 := by simpa using e1
      rw [e2] at ha
      rw [hl, e2] at hb'
      cases ha
      cases hb'
      exact hy
attribute [local go_sem ↓] loadS_eq loadP_eq storeP_eq storeS_eq
end Go.Proofs.YtjghbciepinofaaGreat.Pv

set_option maxRecDepth 100000
namespace Go.Proofs.YtjghbciepinofaaGreat.Pv
open Go.RowKit
set_option maxHeartbeats 4000000 in
theorem indexI_any (l : List Int) (u : Value) (P : Nat → Prop) (w : World) (v : Int) (hu : Rep P w u 1 8 (inC l)) :
    Calls Tryz.prog 169 #[u, .int .i64 v] w fun e w' => (∃ r : Int, e = .returned (.int .i64 r) ∧ decide (0 ≤ r) = decide (v ∈ l)) ∧ w = w' := by
  obtain ⟨A, C, rfl, hs, -, hc, -⟩ := hu.open (inC_length _) (by decide)
  have HC := hide hc
  have hla : l.length ≤ 17592186044405 := by omega
  obtain ⟨G, hG⟩ : ∃ G, decide (v ∈ l) = G := ⟨_, rfl⟩
  have HG := hide hG
  rw [hG]
  clear hc hu hs hG
  go_enter Tryz.func169, Tryz.ntmps169
  go_wp2
  go_loop [8] (fun i => ∃ (k : Nat), k ≤ l.length ∧ i = .int .i64 (k : Int) ∧ Hid (G = decide (v ∈ l.drop k))) (fun i => l.length - (intOf i).toNat)
  case atStart => exact ⟨0, Nat.zero_le _, rfl, by rw [List.drop_zero]; exact HG.out.symm⟩
  case round =>
    obtain ⟨k, hk, rfl, HR⟩ := hrel
    by_cases hlt : k < l.length
    · have hkI : (k : Int) < (l.length : Int) := by omega
      obtain ⟨x, hx, hd⟩ := drop_at2 hlt
      obtain ⟨ba, oa, rfl, -, hbl, hcell⟩ := HC.out (by omega)
      have gx : l.getD k 0 = x := by simp [List.getD, hx]
      have p0 := inC_get l k hlt
      rw [gx] at p0
      have c0 : w.cell? ⟨ba, oa + k, none⟩ = some (.int .i64 x) := hcell _ _ p0
      have HE : Hid (G = decide (v ∈ x :: l.drop (k + 1))) := by have := HR.out; rw [hd] at this; exact this
      clear HR hd hx gx p0 hcell
      by_cases h1 : v = x
      · subst h1
        have e : G = true := by rw [HE.out]; simp
        subst e
        clear HE HG
        go_wp2
        go_ret
        exact ⟨⟨_, rfl, by simp⟩, rfl⟩
      · have HE2 : Hid (G = decide (v ∈ l.drop (k + 1))) := by rw [Hid, HE.out]; simp [h1]
        clear HE
        go_wp2
        go_round
        case rel => exact ⟨k + 1, by omega, by go_num, HE2⟩
        case measure => simp [intOf]; omega
    · obtain rfl : k = l.length := by omega
      have e : G = false := by have := HR.out; rw [List.drop_length] at this; simpa using this
      subst e
      go_wp2
      go_ret
      exact ⟨⟨_, rfl, by decide⟩, rfl⟩
theorem containsI_any (l : List Int) (u : Value) (P : Nat → Prop) (w : World) (v : Int) (hu : Rep P w u 1 8 (inC l)) :
    Calls Tryz.prog 161 #[u, .int .i64 v] w fun e w' => e = .returned (.bool (decide (v ∈ l))) ∧ w = w' := by
  have HI := hide (indexI_any l u P w v hu)
  generalize decide (v ∈ l) = G at *
  clear hu
  go_enter Tryz.func161, Tryz.ntmps161
  go_wp2_with (go_at_call 169; refine HI.out.mono ?_; rintro e w1 ⟨⟨r, rfl, hr⟩, rfl⟩)
  go_ret
  subst hr
  exact ⟨rfl, rfl⟩
theorem clipI_any (ao : Option Addr) (n c : Nat) (hn : n ≤ c) (h0 : ao = none → n = 0) (hc : (n : Int) < 4611686018427387904) (w : World) : Calls Tryz.prog 162 #[.slice ao n c] w fun e w' => e = .returned (.slice ao n n) ∧ w = w' := by
  have h1 : (n : Int) ≤ (c : Int) := by omega
  have h2 : (0 : Int) ≤ (n : Int) := by omega
  go_enter Tryz.func162, Tryz.ntmps162
  cases ao
  · obtain rfl := h0 rfl
    go_wp2
    go_ret
    exact ⟨rfl, rfl⟩
  · clear h0
    go_wp2
    go_ret
    exact ⟨rfl, rfl⟩
/-- a row of numbers lies at a block's beginning -/
def RowI (w : World) (g : Nat) (l : List Int) : Prop := ∃ cur : Array Value, w.heap[g]? = some (.cells cur 3 (0, 0)) ∧ ∀ (i : Nat) (x : Int), l[i]? = some x → cur[i]? = some (Value.int .i64 x)
theorem RowI.later {w w' : World} {g : Nat} {l : List Int} (h : RowI w g l) (hb : Below w.heap.size w w') : RowI w' g l := by
  obtain ⟨cur, hc, hx⟩ := h
  exact ⟨cur, (hb.block g (Array.getElem?_eq_some_iff.1 hc).1).trans hc, hx⟩
theorem RowI.cell {w : World} {g : Nat} {l : List Int} (h : RowI w g l) {i : Nat} (hi : i < l.length) : w.cell? ⟨g, i, none⟩ = some (.int .i64 (l.getD i 0)) := by
  obtain ⟨cur, hc, hx⟩ := h
  have e : l[i]? = some (l.getD i 0) := by simp [List.getD, hi]
  have h1 := hx i _ e
  simp only [World.cell?, hc]
  simp [h1]
theorem RowI.free {w : World} {g : Nat} {l : List Int} (h : RowI w g l) (o : Nat) : w.frozen? ⟨g, o, none⟩ = false := by
  obtain ⟨cur, hc, _⟩ := h
  simp [World.frozen?, hc]
theorem RowI.lt {w : World} {g : Nat} {l : List Int} (h : RowI w g l) : g < w.heap.size := by
  obtain ⟨cur, hc, _⟩ := h
  exact (Array.getElem?_eq_some_iff.1 hc).1
theorem RowI.put {w : World} {g : Nat} {l : List Int} (h : RowI w g l) {i : Nat} (hi : i < l.length) (x : Int) : RowI (w.setCell ⟨g, i, none⟩ (.int .i64 x)) g (l.set i x) := by
  obtain ⟨cur, hc, hx⟩ := h
  have s1 : i < cur.size := (Array.getElem?_eq_some_iff.1 (hx i _ (List.getElem?_eq_getElem hi))).1
  refine ⟨cur.setIfInBounds i (.int .i64 x), ?_, fun j y hy => ?_⟩
  · simp [World.setCell, Array.getElem?_modify, hc]
  · rw [List.getElem?_set] at hy
    by_cases hj : i = j
    · subst hj
      rw [if_pos rfl, if_pos hi] at hy
      simp at hy
      subst hy
      simp [s1]
    · rw [if_neg hj] at hy
      have h1 := hx j y hy
      simp only [Array.getElem?_setIfInBounds]
      rw [if_neg hj]
      exact h1
theorem RowI.rep {w : World} {g C : Nat} {l : List Int} (h : RowI w g l) (hC : l.length ≤ C) (hl : l.length * 8 ≤ 140737488351232) : Rep (fun b => b = g) w (.slice (some ⟨g, 0, none⟩) l.length C) 1 8 (inC l) := by
  refine ⟨_, l.length, C, rfl, by simp [inC], hl, ⟨fun e => (by cases e), hC⟩, fun h0 => ⟨g, 0, rfl, rfl, h.lt, fun j u hu => ?_⟩⟩
  have hj : j < l.length := by have := (List.getElem?_eq_some_iff.1 hu).1; rw [inC_length] at this; omega
  rw [Nat.zero_add, h.cell hj, ← hu, inC_get l j hj]
theorem lessI_any (x y : Int) (w : World) : Calls Tryz.prog 177 #[.int .i64 x, .int .i64 y] w fun e w' => e = .returned (.bool (decide (x < y))) ∧ w = w' := by
  go_enter Tryz.func177, Tryz.ntmps177
  by_cases h : x < y
  · go_wp2_with (go_at_call 136; refine (isnan_any _ _).mono ?_; rintro e w1 ⟨rfl, rfl⟩)
    all_goals (go_ret; exact ⟨by simp [h], rfl⟩)
  · go_wp2_with (go_at_call 136; refine (isnan_any _ _).mono ?_; rintro e w1 ⟨rfl, rfl⟩)
    all_goals (go_ret; exact ⟨by simp, rfl⟩)
set_option maxHeartbeats 4000000 in
theorem insI_any (g cap : Nat) (l : List Int) (w : World) (h : RowI w g l) (hn : l.length ≤ 12) :
    Calls Tryz.prog 171 #[.slice (some ⟨g, 0, none⟩) l.length cap, .int .i64 0, .int .i64 (l.length : Int)] w fun e w' => e = .returned (.tuple #[]) ∧ RowI w' g (isrtI l) ∧ ButB g w w' := by
  have HR0 := hide h
  clear h
  go_enter Tryz.func171, Tryz.ntmps171
  go_wp2
  go_loopw [6] (fun i wl => ∃ m : Nat, i = .int .i64 ((m : Int) + 1) ∧ (m + 1 ≤ l.length ∨ m = 0) ∧ Hid (RowI wl g (srtI l m) ∧ ButB g w wl)) (fun i _ => l.length - (intOf i).toNat)
  case atStart => exact ⟨0, rfl, .inr rfl, HR0.out, ButB.refl _ _⟩
  case round =>
    obtain ⟨m, rfl, hm, HR⟩ := hrel
    by_cases hlt : m + 1 < l.length
    · rename World => wo
      have hlt' : (m : Int) + 1 < (l.length : Int) := by omega
      go_wp2_with fail
      go_loopw [7] (fun j wl => ∃ (p : Nat) (l' : List Int), j = .int .i64 (p : Int) ∧ p ≤ m + 1 ∧ l'.length = l.length ∧ Hid (insI (m + 1) (srtI l m) = insI p l' ∧ RowI wl g l' ∧ ButB g w wl)) (fun j _ => (intOf j).toNat)
      case atStart => exact ⟨m + 1, srtI l m, by go_num, Nat.le_refl _, srtI_length _ _, rfl, HR.out⟩
      case round =>
        obtain ⟨p, l', rfl, hp, hl', HI⟩ := hrel
        have hsz : w.heap.size ≤ wr.heap.size := HI.out.2.2.size
        cases p with
        | zero =>
          have hg0 : decide ((0 : Int) < 0) = false := by decide
          go_upto_region 4 with fail
          go_quiet (fail)
          go_wp2
          go_roundw
          case rel => exact ⟨m + 1, by go_num, .inl (by omega), (by rw [srtI, HI.out.1]; exact HI.out.2.1), (show ButB g w (wr.drewN nq) from HI.out.2.2.drewN nq)⟩
          case measure => simp [intOf]; omega
        | succ p =>
          have hp1 : p + 1 < l'.length := by omega
          have c0 := HI.out.2.1.cell (i := p + 1) hp1
          have d0 := HI.out.2.1.cell (i := p) (by omega)
          have hC := lessI_any (l'.getD (p + 1) 0) (l'.getD p 0)
          have hgl := HI.out.2.1.lt
          have HI1 : Hid (insI (m + 1) (srtI l m) = if l'.getD (p + 1) 0 < l'.getD p 0 then insI p (swI l' p) else l') := HI.out.1
          have HRow := hide HI.out.2
          clear HI
          generalize hA : l'.getD (p + 1) 0 = A at *
          generalize hB : l'.getD p 0 = B at *
          have HA := hide hA
          have HB := hide hB
          clear hA hB
          have hw1 : IntKind.i64.wrap (((p + 1 : Nat) : Int) - 1) = (p : Int) := by rw [show ((p + 1 : Nat) : Int) - 1 = (p : Int) by omega]; exact wrapI (by omega) (by omega)
          generalize hq : p + 1 = q at *
          have HQ := hide hq
          clear hq
          have hq0 : (0 : Int) ≤ (q : Int) := by omega
          have hq1 : (q : Int) < (l.length : Int) := by omega
          have hp0 : (0 : Int) ≤ (p : Int) := by omega
          have hp2 : (p : Int) < (l.length : Int) := by have := HQ.out; omega
          have hg0 : decide (0 < q) = true := by have := HQ.out; simp; omega
          go_upto_region 4 with fail
          go_region_held3 (fun wx => wx.cell? ⟨g, q, none⟩ = some (.int .i64 A) ∧ wx.cell? ⟨g, p, none⟩ = some (.int .i64 B)) (first | go_keep | exact ⟨c0, d0⟩)
            (first | (go_at_call 177; refine (hC _).mono ?_; rintro e w1 ⟨rfl, rfl⟩))
          rename_i hh
          obtain ⟨c0', d0'⟩ := hh
          have hR1 := HRow.out.1.later (w' := wr.drew) (show Below wr.heap.size wr wr.drew from (Below.refl _ wr).drew)
          have hB1 : ButB g w wr.drew := HRow.out.2.trans (ButB.of_below (show Below wr.heap.size wr wr.drew from (Below.refl _ wr).drew))
          generalize wr.drew = w1 at *
          have HR1 := hide hR1
          have HB1 := hide hB1
          have f0 := hR1.free q
          have f2 := hR1.free p
          clear hR1 hB1 c0 d0 HRow hC
          by_cases hr : A < B
          · have hd : decide (A < B) = true := by simpa using hr
            rw [hd]
            have hqp := HQ.out
            have n1 : ¬ p = q := by omega
            have n2 : ¬ q = p := by omega
            clear hqp
            go_upto_region 6 with fail
            go_region
            have hsw : (l'.set q B).set p A = swI l' p := by rw [swI, HQ.out, HA.out, HB.out]
            have HR2 : Hid (RowI (((w1.setCell ⟨g, q, none⟩ (.int .i64 B)).setCell ⟨g, p, none⟩ (.int .i64 A)).drew) g (swI l' p)) := by
              rw [← hsw]
              exact (HR1.out.put hp1 B).put (by simp; omega) A
            have HB2 : Hid (ButB g w (((w1.setCell ⟨g, q, none⟩ (.int .i64 B)).setCell ⟨g, p, none⟩ (.int .i64 A)).drew)) := ((HB1.out.set _ _).set _ _).drew
            have HE : Hid (insI (m + 1) (srtI l m) = insI p (swI l' p)) := by rw [HI1.out]; exact if_pos hr
            clear hsw
            generalize ((w1.setCell ⟨g, q, none⟩ (.int .i64 B)).setCell ⟨g, p, none⟩ (.int .i64 A)).drew = w2 at *
            go_wp2
            go_roundw
            case rel => exact ⟨p, swI l' p, rfl, by have := HQ.out; omega, (by rw [swI_length]; exact hl'), HE.out, HR2.out, HB2.out⟩
            case measure => have := HQ.out; simp [intOf]; omega
          · have hd : decide (A < B) = false := by simpa using hr
            rw [hd]
            have HE : Hid (insI (m + 1) (srtI l m) = l') := by rw [HI1.out]; exact if_neg hr
            go_wp2
            go_roundw
            case rel => exact ⟨m + 1, by go_num, .inl (by omega), (by rw [srtI, HE.out]; exact HR1.out), HB1.out⟩
            case measure => simp [intOf]; omega
    · have hE : isrtI l = srtI l m := by
        unfold isrtI
        rcases hm with h | rfl
        · rw [show l.length - 1 = m by omega]
        · rcases (show l.length = 0 ∨ l.length = 1 by omega) with h | h <;> rw [h]
      have HE := hide hE
      clear hE
      go_wp2
      go_end0
      exact ⟨rfl, by rw [HE.out]; exact HR.out.1, HR.out.2⟩
set_option maxHeartbeats 4000000 in
theorem pdqI_any (g cap : Nat) (lim : Int) (l : List Int) (w : World) (h : RowI w g l) (hn : l.length ≤ 12) :
    Calls Tryz.prog 170 #[.slice (some ⟨g, 0, none⟩) l.length cap, .int .i64 0, .int .i64 (l.length : Int), .int .i64 lim] w fun e w' => e = .returned (.tuple #[]) ∧ RowI w' g (isrtI l) ∧ ButB g w w' := by
  have hI := insI_any g cap l w h hn
  have hn' : (l.length : Int) ≤ 12 := by omega
  clear h
  go_enter Tryz.func170, Tryz.ntmps170
  go_wp2_with fail
  go_loopw [1, 2] (fun a b wl => a = .int .i64 0 ∧ b = .int .i64 (l.length : Int) ∧ Hid (wl = w)) (fun _ _ _ => 0)
  case atStart => exact ⟨rfl, rfl, rfl⟩
  case round =>
    obtain ⟨rfl, rfl, HW⟩ := hrel
    have e := HW.out
    subst e
    clear HW
    go_wp2_with (go_at_call 171; refine hI.mono ?_; rintro e w1 ⟨rfl, h1⟩; have H1 := hide h1; clear h1)
    exact bodyPost_ret (v := .tuple #[]) (by simp [results, Tryz.results170]) rfl ⟨rfl, H1.out⟩
theorem bitslen_I (n : Nat) (hn : n ≤ 12) (w : World) : Calls Tryz.prog 87 #[.int .u64 (n : Int)] w fun e w' => (∃ k, e = .returned (.int .i64 k)) ∧ w = w' := by
  have hL := Ra.len64 n (by omega)
  go_enter Tryz.func87, Tryz.ntmps87
  go_wp2_with (go_at_call 135; refine (hL _).mono ?_; rintro e w1 ⟨rfl, rfl⟩)
  go_ret
  exact ⟨⟨_, rfl⟩, rfl⟩
set_option maxHeartbeats 1000000 in
theorem sortI_any (g cap : Nat) (l : List Int) (w : World) (h : RowI w g l) (hn : l.length ≤ 12) :
    Calls Tryz.prog 163 #[.slice (some ⟨g, 0, none⟩) l.length cap] w fun e w' => e = .returned (.tuple #[]) ∧ RowI w' g (isrtI l) ∧ ButB g w w' := by
  have hP := fun lim => pdqI_any g cap lim l w h hn
  have hL := bitslen_I l.length hn w
  clear h
  go_enter Tryz.func163, Tryz.ntmps163
  go_wp2_with (first
    | (go_at_call 87; refine hL.mono ?_; rintro e w1 ⟨⟨k, rfl⟩, rfl⟩)
    | (go_at_call 170; refine (hP _).mono ?_; rintro e w2 ⟨rfl, h1⟩; have H1 := hide h1; clear h1))
  go_end0
  exact ⟨rfl, H1.out⟩
end Go.Proofs.YtjghbciepinofaaGreat.Pv

