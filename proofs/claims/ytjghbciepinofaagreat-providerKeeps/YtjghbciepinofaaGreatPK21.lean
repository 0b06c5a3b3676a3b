/- Parts of the proof: PGC PST. -/
import Derived.Test.YtjghbciepinofaaGreatRows
import Derived.Test.YtjghbciepinofaaGreatPK6
import Derived.Test.YtjghbciepinofaaGreatPK10
import Derived.Test.YtjghbciepinofaaGreatPK12
import Derived.Test.YtjghbciepinofaaGreatPK19
import Derived.Test.YtjghbciepinofaaGreatPK20
import Derived.Test.YtjghbciepinofaaGreatPK41
import Derived.Test.YtjghbciepinofaaGreatPK49
import Derived.Deep.MidRow
set_option maxRecDepth 100000
namespace Go.Proofs.YtjghbciepinofaaGreat.Pv
open Go.RowKit
theorem good_len {s : St} (hg : goodS s = true) : s.W.length * 64 ≤ 140737488351232 := by
  have := ((goodS_iff _).1 hg).2.2.2.1
  omega
/-- a provider is loaded, stored; a stake is stored -/
def loadP (v : Value) : Sem Value := Instr.loadAt 47 v
theorem loadP_eq (v : Value) : Instr.loadAt 47 v = loadP v := rfl
def storeP (a v : Value) : Sem Unit := Instr.storeAt 47 a v
theorem storeP_eq (a v : Value) : Instr.storeAt 47 a v = storeP a v := rfl
def storeS (a v : Value) : Sem Unit := Instr.storeAt 32 a v
theorem storeS_eq (a v : Value) : Instr.storeAt 32 a v = storeS a v := rfl
theorem pr_loadP {w : World} {g : Nat} {cs : Array Value} (h : CAt 47 w g cs) (hs : cs.size = 97) : (loadP (.pointer (some ⟨g, 0, none⟩))).run Tryz.prog w = .ok (.agg cs) w := by
  have := run_loadAt_mid (P := Tryz.prog) w g 0 47 cs.toList _ h.range Tryz.underlying47 rfl (by rw [infoPv]; simp [hs])
  change (Instr.loadAt 47 _).run Tryz.prog w = _
  simpa using this
theorem pr_storeP {w : World} {g : Nat} {zs cs : Array Value} (h : CAt 47 w g zs) (hz : zs.size = 97) (hs : cs.size = 97) (h1 : cs.all (·.oneCell') = true) : (storeP (.pointer (some ⟨g, 0, none⟩)) (.agg cs)).run Tryz.prog w = .ok () (w.setCells g 0 cs.toList) :=
  run_storeAt_mid (P := Tryz.prog) w g 0 47 cs (h.there 0 _ (by rw [hz, hs]; omega)) (by rw [infoPv, hs]) h1
theorem pr_storeS {w : World} {g : Nat} {cs ds : Array Value} (h : CAt 47 w g cs) (hc : cs.size = 97) (hs : ds.size = 63) (h1 : ds.all (·.oneCell') = true) : (storeS (.pointer (some ⟨g, 2, none⟩)) (.agg ds)).run Tryz.prog w = .ok () (w.setCells g 2 ds.toList) :=
  run_storeAt_mid (P := Tryz.prog) w g 2 32 ds (h.there 2 _ (by rw [hc, hs]; omega)) (by rw [infoS, hs]) h1
theorem st_storeS {w : World} {g : Nat} {cs ds : Array Value} (h : CAt 32 w g cs) (hc : cs.size = 63) (hs : ds.size = 63) (h1 : ds.all (·.oneCell') = true) : (storeS (.pointer (some ⟨g, 0, none⟩)) (.agg ds)).run Tryz.prog w = .ok () (w.setCells g 0 ds.toList) :=
  run_storeAt_mid (P := Tryz.prog) w g 0 32 ds (h.there 0 _ (by rw [hc, hs]; omega)) (by rw [infoS, hs]) h1
theorem st_loadS {w : World} {g : Nat} {cs : Array Value} (h : CAt 32 w g cs) (hc : cs.size = 63) : (loadS (.pointer (some ⟨g, 0, none⟩))).run Tryz.prog w = .ok (.agg cs) w := SAt.loadS h hc
/-- a stake stored into a provider -/
theorem CAt.stake {w : World} {g : Nat} {p : Pr} {v : PrV} (h : CAt 47 w g (prC p v)) (s : St) (u : Value) : CAt 47 (w.setCells g 2 (stC s u).toList) g (prC { p with s := s } { v with ws := u }) := by
  have := CAt.sets (stC s u).toList 2 w _ h
  rwa [show spl (prC p v) 2 (stC s u).toList = prC { p with s := s } { v with ws := u } from spl_mid [.int .i64 p.h, .int .i64 p.t] (stC p.s v.ws).toList _ (stC s u).toList rfl] at this
/-- a validator's cells in a provider -/
theorem pr_val {w : World} {g : Nat} {p : Pr} {v : PrV} (h : CAt 47 w g (prC p v)) {y : Nat} (hy : y < 6) : w.cell? ⟨g, 9 + y * 5, none⟩ = some (.int .i64 (p.s.V y).tok) ∧ w.cell? ⟨g, 9 + y * 5 + 3, none⟩ = some (.bool (p.s.V y).jail) ∧ w.cell? ⟨g, 9 + y * 5 + 4, none⟩ = some (.bool (p.s.V y).dead) := by
  rcases (show y = 0 ∨ y = 1 ∨ y = 2 ∨ y = 3 ∨ y = 4 ∨ y = 5 by omega) with rfl | rfl | rfl | rfl | rfl | rfl <;> exact ⟨h.cell _, h.cell _, h.cell _⟩
theorem Alt.pin {g : Nat} {w w' : World} (h : Alt g w w') {P : Nat → Prop} (hP : ¬ P g) {p : Pr} {v : PrV} (hp : PIn P w p v) : PIn P w' p v := hp.keep fun b hb hlt => h.block b hlt (fun e => hP (e ▸ hb))
/-- what a provider's function answers -/
def AnsP (P : Nat → Prop) (w : World) (r : Pr × Int) (e : Ending) (w' : World) : Prop := ∃ v', e = .returned (.tuple #[.agg (prC r.1 v'), .int .i64 r.2]) ∧ PIn (New P w 2) w' r.1 v' ∧ Below w.heap.size w w'
theorem results_prov2 {fn : Func} {p q : Tmp} (h : fn.results = #[.cell p 47, .tmp q]) (tmps : Array Value) (w : World) (g : Nat) (cs : Array Value) (v : Value)
    (hp : tmps.getD p undef = .pointer (some ⟨g, 0, none⟩)) (hq : tmps.getD q undef = v) (hg : CAt 47 w g cs) (hsz : cs.size = 97) :
    (results fn tmps).run Tryz.prog w = .ok (.tuple #[.agg cs, v]) w := by
  have hp' : tmps[p]?.getD undef = .pointer (some ⟨g, 0, none⟩) := by simpa using hp
  have hq' : tmps[q]?.getD undef = v := by simpa using hq
  simp [results, h, hp', hq', asAddr, run_loadVar_row w g 47 47 cs (0, 0) _ hg Tryz.underlying47 rfl (by rw [infoPv, hsz])]
theorem PIn.sets {P : Nat → Prop} {w : World} {p : Pr} {v : PrV} (h : PIn P w p v) {g : Nat} (hg : ¬ P g) (o : Nat) (vs : List Value) : PIn P (w.setCells g o vs) p v := h.keep fun b hb _ => heap_sets (show b ≠ g from fun e => hg (by rw [← e]; exact hb)) vs o w
theorem PIn.ofNew {P : Nat → Prop} {w w' : World} {p : Pr} {v : PrV} (h : PIn P w p v) (hb : Below w.heap.size w w') (k : Nat) : PIn (New P w k) w' p v := (h.mono (P' := fun b => New P w k b ∧ b < w.heap.size) fun _ hl hp => ⟨.inl ⟨hp, hl⟩, hl⟩).over hb |>.mono fun _ _ h => h.1
/-- a provider and an error are answered: stored into the result's block ahead -/
theorem prov_end2 {f : Func} {t q : Tmp} (hres : f.results = #[.cell t 47, .tmp q]) {P : Nat → Prop} {w wq : World} {zs : Array Value} (R : CAt 47 wq (w.heap.size + 1) zs) (hz : zs.size = 97) (H : Below w.heap.size w wq) (p' : Pr) (v' : PrV) (er : Int) (r : Pr × Int) (hr : r = (p', er)) (hp : PIn (New P w 2) wq p' v') (act : Act)
    (h8 : act.tmps.getD t undef = .pointer (some ⟨w.heap.size + 1, 0, none⟩)) (h9 : act.tmps.getD q undef = .int .i64 er) (hd : act.defers = []) :
    bodyPost Tryz.prog f (AnsP P w r) Exit.ret act (wq.setCells (w.heap.size + 1) 0 (prC p' v').toList) := by
  subst hr
  have R3 := R.setAll (ds := prC p' v') (by rw [hz]; rfl)
  exact bodyPost_ret (v := .tuple #[.agg (prC p' v'), .int .i64 er]) (results_prov2 hres _ _ _ _ _ h8 h9 R3 rfl) hd ⟨v', rfl, hp.sets (new_no (by omega)) _ _, below_sets (Nat.le_succ _) _ _ _ H⟩
end Go.Proofs.YtjghbciepinofaaGreat.Pv

set_option maxRecDepth 100000
namespace Go.Proofs.YtjghbciepinofaaGreat.Pv
open Go.RowKit
theorem pwL_eq : ∀ l : List (Int × Int), pwL l = pwC l
  | [] => rfl
  | x :: r => by show _ :: _ :: pwL r = _; rw [pwL_eq r]; rfl
theorem Rep.pows {w : World} {B : Nat} {v : Value} {l : List (Int × Int)} (h : Pows w B v l) (hl : l.length ≤ 8796093021952) : Rep (fun b => B ≤ b) w v 2 16 (pwC l) := by
  have h' : w.ownsRow B 74 2 v l.length (pwL l) := h
  rw [pwL_eq] at h'
  exact Rep.own h' (by omega)
theorem Rep.prow {w : World} {B : Nat} {v : Value} {l : List (Int × Int)} (h : PRow w B v l) (hl : l.length ≤ 8796093021952) : Rep (fun b => B ≤ b) w v 2 16 (pwC l) := by
  rcases h with ⟨rfl, rfl⟩ | ⟨g, cap, rfl, hB, ⟨cur, h1, h2⟩, h3, h4⟩
  · exact Rep.nil _ _ _ _
  · refine ⟨_, l.length, cap, rfl, pwC_length l, by omega, ⟨fun h => (by cases h), h3⟩, fun _ => ⟨g, 0, rfl, hB, (Array.getElem?_eq_some_iff.1 h1).1, fun j u hu => ?_⟩⟩
    have hj : j < l.length * 2 := by have := (List.getElem?_eq_some_iff.1 hu).1; rwa [pwC_length] at this
    have hi : j / 2 < l.length := by omega
    obtain ⟨a1, a2⟩ := pwC_get l (j / 2) hi
    have ex : l[j / 2]? = some (l.getD (j / 2) (0, 0)) := by simp [List.getD, hi]
    obtain ⟨b1, b2⟩ := h2 (j / 2) _ ex
    rw [Nat.zero_add]
    simp only [World.cell?, h1]
    rcases (show j = j / 2 * 2 ∨ j = j / 2 * 2 + 1 by omega) with e | e
    · rw [← e] at a1 b1; rw [a1] at hu; cases hu; simpa using b1
    · rw [← e] at a2 b2; rw [a2] at hu; cases hu; simpa using b2
/-- a list of powers, as Diff, Apply and All want it -/
theorem Rep.pin {P : Nat → Prop} {w : World} {v : Value} {l : List (Int × Int)} (h : Rep P w v 2 16 (pwC l)) : ∃ ao c b off, v = .slice ao l.length c ∧ Df.PIn w l ao b off := by
  obtain ⟨A, C, e, hs, -, hc, -⟩ := h.open (pwC_length _) (by decide)
  rcases Nat.eq_zero_or_pos l.length with h0 | h0
  · exact ⟨A, C, 0, 0, e, by omega, fun h => by omega, fun i hi => by omega⟩
  · obtain ⟨b, off, e2, -, -, hcell⟩ := hc h0
    exact ⟨A, C, b, off, e, by omega, fun _ => e2, fun i hi => ⟨by rw [hcell _ _ (pwC_get l i hi).1], by rw [Nat.add_assoc, hcell _ _ (pwC_get l i hi).2]⟩⟩
theorem OwnW.rep {B : Nat} {w : World} {A : Option Addr} {C : Nat} {W : List Wt} (h : OwnW B w A C W) (hl : W.length * 64 ≤ 140737488351232) : Rep (fun b => B ≤ b) w (.slice A W.length C) 8 64 (wsL W) := Rep.own h hl
theorem OwnN.rep {B : Nat} {w : World} {A : Option Addr} {C : Nat} {l : List Int} (h : OwnN B w A C l) (hl : l.length * 8 ≤ 140737488351232) : Rep (fun b => B ≤ b) w (.slice A l.length C) 1 8 (inC l) := Rep.own h hl
section
variable {P : Nat → Prop} {w : World} {s : St} {u : Value} (hu : Rep P w u 8 64 (wsL s.W))
include hu
theorem st_jail (v : Int) : Calls Tryz.prog 148 #[.agg (stC s u), .int .i64 v] w fun e w' => e = .returned (.tuple #[.agg (stC (jailS s v).1 u), .int .i64 (jailS s v).2]) ∧ Below w.heap.size w w' := by
  obtain ⟨A, C, b, o, rfl, W, -, -⟩ := hu.wsAt
  exact sjail_any s A b o C v w W
theorem st_bury (v : Int) : Calls Tryz.prog 151 #[.agg (stC s u), .int .i64 v] w fun e w' => e = .returned (.tuple #[.agg (stC (buryS s v).1 u), .int .i64 (buryS s v).2]) ∧ Below w.heap.size w w' := by
  obtain ⟨A, C, b, o, rfl, W, -, -⟩ := hu.wsAt
  exact sbury_any s A b o C v w W
theorem st_slash (v : Nat) (h : Int) (hg : goodS s = true) (hv : v < 6) : Calls Tryz.prog 150 #[.agg (stC s u), .int .i64 (v : Int), .int .i64 h, .int .i64 50] w fun e w' => ∃ u' x, e = .returned (.tuple #[.agg (stC (slashS s v h 50) u'), x, .int .i64 0]) ∧ Rep (fun b => w.heap.size ≤ b) w' u' 8 64 (wsL (slashS s v h 50).W) ∧ Below w.heap.size w w' := by
  obtain ⟨A, C, b, o, rfl, W, -, -⟩ := hu.wsAt
  refine (sslash_yes s A b o C v h 50 w W hg hv (by decide)).mono ?_
  rintro e w' ⟨A', C', rfl, h1, hb⟩
  exact ⟨_, _, rfl, OwnW.rep h1 (good_len (kp_slash hg (v := v) hv h (f := 50) (by decide)).good), hb⟩
theorem st_pay (t : Int) (hg : goodS s = true) : Calls Tryz.prog 31 #[.agg (stC s u), .int .i64 t] w fun e w' => ∃ u' x, e = .returned (.tuple #[.agg (stC (payS s t) u'), x, .int .i64 0]) ∧ Rep (fun b => w.heap.size ≤ b) w' u' 8 64 (wsL (payS s t).W) ∧ Rep (fun b => w.heap.size ≤ b) w' x 1 8 (inC (paidW t s.W)) ∧ Below w.heap.size w w' := by
  obtain ⟨A, C, b, o, rfl, W, -, -⟩ := hu.wsAt
  refine (spay_yes s A b o C t w W hg).mono ?_
  rintro e w' ⟨A', C', A2, C2, rfl, h1, h2, hb⟩
  have h60 := ((goodS_iff _).1 hg).2.2.2.1
  have hpl : (paidW t s.W).length ≤ s.W.length := by
    unfold paidW paidL
    rw [List.length_map]
    exact List.length_filter_le _ _
  exact ⟨_, _, rfl, OwnW.rep h1 (good_len (kp_pay hg t).good), OwnN.rep h2 (by omega), hb⟩
theorem st_rel (c : Nat) (h : Int) (hc : c < 2) : Calls Tryz.prog 110 #[.agg (stC s u), .int .i64 (c : Int), .int .i64 h] w fun e w' => ∃ u', e = .returned (.agg (stC { s with W := relW c h s.W } u')) ∧ Rep (fun b => w.heap.size ≤ b) w' u' 8 64 (wsL (relW c h s.W)) ∧ Below w.heap.size w w' := by
  obtain ⟨A, C, b, o, rfl, W, -, -⟩ := hu.wsAt
  have hl : (relW c h s.W).length = s.W.length := List.length_map _
  match c, hc with
  | 0, _ =>
    refine (srelease_0 s A b o C h w W W.len).mono ?_
    rintro e w' ⟨A', C', rfl, h1, hb⟩
    have := OwnW.rep h1 (by rw [hl]; exact W.len)
    rw [hl] at this
    exact ⟨_, rfl, this, hb⟩
  | 1, _ =>
    refine (srelease_1 s A b o C h w W W.len).mono ?_
    rintro e w' ⟨A', C', rfl, h1, hb⟩
    have := OwnW.rep h1 (by rw [hl]; exact W.len)
    rw [hl] at this
    exact ⟨_, rfl, this, hb⟩
end
theorem setS_len (V : Nat → Vd) : (setS V).length ≤ 4 := by
  unfold setS
  rw [isort_length, List.length_take]
  omega
theorem st_set (s : St) (u : Value) (w : World) (hg : goodS s = true) : Calls Tryz.prog 13 #[.agg (stC s u)] w fun e w' => ∃ v, e = .returned v ∧ Rep (fun b => w.heap.size ≤ b) w' v 2 16 (pwC (setS s.V)) ∧ Below w.heap.size w w' := by
  refine (sset_any s u w fun k hk => (vOk_amounts (good_vals hg k hk).1).1).mono ?_
  rintro e w' ⟨v, rfl, h1, hb⟩
  exact ⟨v, rfl, Rep.prow h1 (by have := setS_len s.V; omega), hb⟩
theorem st_all {P : Nat → Prop} {w : World} {v : Value} {l : List (Int × Int)} (h : Rep P w v 2 16 (pwC l)) : Calls Tryz.prog 29 #[v] w fun e w' => e = .returned (.int .i64 (Df.allN l)) ∧ Below w.heap.size w w' := by
  obtain ⟨ao, c, b, off, rfl, hp⟩ := h.pin
  exact Df.all_any l ao c b off w hp
theorem st_diff {P Q : Nat → Prop} {w : World} {v v' : Value} {l l' : List (Int × Int)} (h : Rep P w v 2 16 (pwC l)) (h' : Rep Q w v' 2 16 (pwC l')) : Calls Tryz.prog 71 #[v, v'] w fun e w' => ∃ u, e = .returned u ∧ Rep (fun b => w.heap.size ≤ b) w' u 2 16 (pwC (Df.diffL l l')) ∧ Below w.heap.size w w' := by
  obtain ⟨ao, c, b, off, rfl, hp⟩ := h.pin
  obtain ⟨ao', c', b', off', rfl, hp'⟩ := h'.pin
  refine (Df.diff_any l l' ao ao' c c' b off b' off' w hp hp').mono ?_
  rintro e w' ⟨u, rfl, h1, hb⟩
  exact ⟨u, rfl, Rep.pows h1 (Nat.le_trans (Df.those_len _ _ 6) (by decide)), hb⟩
end Go.Proofs.YtjghbciepinofaaGreat.Pv

