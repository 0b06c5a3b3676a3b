/- Parts of the proof: PGC PST. -/
import Derived.Test.YtkhlihpghbhppabGreatRows
import Derived.Test.YtkhlihpghbhppabGreatProviderRemovesK1
import Derived.Test.YtkhlihpghbhppabGreatProviderRemovesK13
import Derived.Test.YtkhlihpghbhppabGreatProviderRemovesK30
import Derived.Test.YtkhlihpghbhppabGreatProviderRemovesK35
import Derived.Test.YtkhlihpghbhppabGreatProviderRemovesK43
import Derived.Test.YtkhlihpghbhppabGreatProviderRemovesK51
import Derived.Deep.MidRow
set_option maxRecDepth 100000
namespace Go.Proofs.YtkhlihpghbhppabGreat.Pv
open Go.RowKit
theorem good_len {s : St} (hg : goodS s = true) : s.W.length * 64 ≤ 140737488351232 := by
  have := ((goodS_iff _).1 hg).2.2.2.1
  omega
/-- a provider is loaded, stored; a stake is stored -/
def loadP (v : Value) : Sem Value := Instr.loadAt 47 v
theorem loadP_eq (v : Value) : Instr.loadAt 47 v = loadP v := rfl
def storeP (a v : Value) : Sem Unit := Instr.storeAt 47 a v
theorem storeP_eq (a v : Value) : Instr.storeAt 47 a v = storeP a v := rfl
def storeS (a v : Value) : Sem Unit := Instr.storeAt 32 a v
theorem storeS_eq (a v : Value) : Instr.storeAt 32 a v = storeS a v := rfl
theorem pr_loadP {w : World} {g : Nat} {cs : Array Value} (h : CAt 47 w g cs) (hs : cs.size = 97) : (loadP (.pointer (some ⟨g, 0, none⟩))).run Tryz.prog w = .ok (.agg cs) w := by
  have := run_loadAt_mid (P := Tryz.prog) w g 0 47 cs.toList _ h.range Tryz.underlying47 rfl (by rw [infoPv]; simp [hs])
  change (Instr.loadAt 47 _).run Tryz.prog w = _
  simpa using this
theorem pr_storeP {w : World} {g : Nat} {zs cs : Array Value} (h : CAt 47 w g zs) (hz : zs.size = 97) (hs : cs.size = 97) (h1 : cs.all (·.oneCell') = true) : (storeP (.pointer (some ⟨g, 0, none⟩)) (.agg cs)).run Tryz.prog w = .ok () (w.setCells g 0 cs.toList) :=
  run_storeAt_mid (P := Tryz.prog) w g 0 47 cs (h.there 0 _ (by rw [hz, hs]; omega)) (by rw [infoPv, hs]) h1
theorem pr_storeS {w : World} {g : Nat} {cs ds : Array Value} (h : CAt 47 w g cs) (hc : cs.size = 97) (hs : ds.size = 63) (h1 : ds.all (·.oneCell') = true) : (storeS (.pointer (some ⟨g, 2, none⟩)) (.agg ds)).run Tryz.prog w = .ok () (w.setCells g 2 ds.toList) :=
  run_storeAt_mid (P := Tryz.prog) w g 2 32 ds (h.there 2 _ (by rw [hc, hs]; omega)) (by rw [infoS, hs]) h1
theorem st_storeS {w : World} {g : Nat} {cs ds : Array Value} (h : CAt 32 w g cs) (hc : cs.size = 63) (hs : ds.size = 63) (h1 : ds.all (·.oneCell') = true) : (storeS (.pointer (some ⟨g, 0, none⟩)) (.agg ds)).run Tryz.prog w = .ok () (w.setCells g 0 ds.toList) :=
  run_storeAt_mid (P := Tryz.prog) w g 0 32 ds (h.there 0 _ (by rw [hc, hs]; omega)) (by rw [infoS, hs]) h1
theorem st_loadS {w : World} {g : Nat} {cs : Array Value} (h : CAt 32 w g cs) (hc : cs.size = 63) : (loadS (.pointer (some ⟨g, 0, none⟩))).run Tryz.prog w = .ok (.agg cs) w := SAt.loadS h hc
/-- a stake stored into a provider -/
theorem CAt.stake {w : World} {g : Nat} {p : Pr} {v : PrV} (h : CAt 47 w g (prC p v)) (s : St) (u : Value) : CAt 47 (w.setCells g 2 (stC s u).toList) g (prC { p with s := s } { v with ws := u }) := by
  have := CAt.sets (stC s u).toList 2 w _ h
  rwa [show spl (prC p v) 2 (stC s u).toList = prC { p with s := s } { v with ws := u } from spl_mid [.int .i64 p.h, .int .i64 p.t] (stC p.s v.ws).toList _ (stC s u).toList rfl] at this
/-- but for one block and new ones the world is as it was -/
structure Alt (g : Nat) (w w' : World) : Prop where
  os : w'.os = w.os
  tape : w'.tape = w.tape
  output : w'.output = w.output
  size : w.heap.size ≤ w'.heap.size
  block : ∀ k, k < w.heap.size → k ≠ g → w'.heap[k]? = w.heap[k]?
theorem Alt.refl (g : Nat) (w : World) : Alt g w w := ⟨rfl, rfl, rfl, Nat.le_refl _, fun _ _ _ => rfl⟩
theorem Alt.trans {g : Nat} {w w1 w2 : World} (h : Alt g w w1) (k : Alt g w1 w2) : Alt g w w2 := ⟨k.os.trans h.os, k.tape.trans h.tape, k.output.trans h.output, Nat.le_trans h.size k.size, fun i hi hn => (k.block i (Nat.lt_of_lt_of_le hi h.size) hn).trans (h.block i hi hn)⟩
theorem Alt.of {g : Nat} {w w' : World} (h : Below w.heap.size w w') : Alt g w w' := ⟨h.os, h.tape, h.output, h.size, fun k hk _ => h.block k hk⟩
theorem Alt.below {g B : Nat} {w w' : World} (h : Alt g w w') (hB : B ≤ g) (hw : B ≤ w.heap.size) : Below B w w' := ⟨h.os, h.tape, h.output, h.size, fun k hk => h.block k (by omega) (by omega)⟩
theorem Alt.set {g : Nat} {w w' : World} (h : Alt g w w') (o : Nat) (v : Value) : Alt g w (w'.setCell ⟨g, o, none⟩ v) :=
  ⟨h.os, h.tape, h.output, (by simp [World.setCell]; exact h.size), fun k hk hn => (Below.heap_setCell _ _ _ _ hn).trans (h.block k hk hn)⟩
theorem Alt.sets {g : Nat} : ∀ (vs : List Value) {w w' : World} (_ : Alt g w w') (o : Nat), Alt g w (w'.setCells g o vs)
  | [], _, _, h, _ => h
  | _ :: r, _, _, h, o => Alt.sets r (h.set o _) (o + 1)
theorem Alt.cat {g : Nat} {w w' : World} (h : Alt g w w') {b : Nat} (hb : b ≠ g) {t : TypeId} {cs : Array Value} (c : CAt t w b cs) : CAt t w' b cs := (h.block b c.lt hb).trans c
theorem Alt.pin {g : Nat} {w w' : World} (h : Alt g w w') {P : Nat → Prop} (hP : ¬ P g) {p : Pr} {v : PrV} (hp : PIn P w p v) : PIn P w' p v := hp.keep fun b hb hlt => h.block b hlt (fun e => hP (e ▸ hb))
theorem Alt.rep {g : Nat} {w w' : World} (h : Alt g w w') {P : Nat → Prop} (hP : ¬ P g) {v : Value} {sz bts : Nat} {cs : List Value} (hp : Rep P w v sz bts cs) : Rep P w' v sz bts cs := hp.keep fun b hb hlt => h.block b hlt (fun e => hP (e ▸ hb))
/-- blocks that were there, or that came later -/
def New (P : Nat → Prop) (w : World) (k b : Nat) : Prop := (P b ∧ b < w.heap.size) ∨ w.heap.size + k ≤ b
/-- what a provider's function answers -/
def AnsP (P : Nat → Prop) (w : World) (r : Pr × Int) (e : Ending) (w' : World) : Prop := ∃ v', e = .returned (.tuple #[.agg (prC r.1 v'), .int .i64 r.2]) ∧ PIn (New P w 2) w' r.1 v' ∧ Below w.heap.size w w'
theorem results_prov2 {fn : Func} {p q : Tmp} (h : fn.results = #[.cell p 47, .tmp q]) (tmps : Array Value) (w : World) (g : Nat) (cs : Array Value) (v : Value)
    (hp : tmps.getD p undef = .pointer (some ⟨g, 0, none⟩)) (hq : tmps.getD q undef = v) (hg : CAt 47 w g cs) (hsz : cs.size = 97) :
    (results fn tmps).run Tryz.prog w = .ok (.tuple #[.agg cs, v]) w := by
  have hp' : tmps[p]?.getD undef = .pointer (some ⟨g, 0, none⟩) := by simpa using hp
  have hq' : tmps[q]?.getD undef = v := by simpa using hq
  simp [results, h, hp', hq', asAddr, run_loadVar_row w g 47 47 cs (0, 0) _ hg Tryz.underlying47 rfl (by rw [infoPv, hsz])]
theorem PIn.sets {P : Nat → Prop} {w : World} {p : Pr} {v : PrV} (h : PIn P w p v) {g : Nat} (hg : ¬ P g) (o : Nat) (vs : List Value) : PIn P (w.setCells g o vs) p v := h.keep fun b hb _ => heap_sets (show b ≠ g from fun e => hg (by rw [← e]; exact hb)) vs o w
theorem PIn.ofNew {P : Nat → Prop} {w w' : World} {p : Pr} {v : PrV} (h : PIn P w p v) (hb : Below w.heap.size w w') (k : Nat) : PIn (New P w k) w' p v := (h.mono (P' := fun b => New P w k b ∧ b < w.heap.size) fun _ hl hp => ⟨.inl ⟨hp, hl⟩, hl⟩).over hb |>.mono fun _ _ h => h.1
theorem new_no {P : Nat → Prop} {w : World} {k j : Nat} (h : j < k) : ¬ New P w k (w.heap.size + j) := fun hn => by
  rcases hn with ⟨_, h1⟩ | h1 <;> omega
/-- a provider and an error are answered: stored into the result's block ahead -/
theorem prov_end2 {f : Func} {t q : Tmp} (hres : f.results = #[.cell t 47, .tmp q]) {P : Nat → Prop} {w wq : World} {zs : Array Value} (R : CAt 47 wq (w.heap.size + 1) zs) (hz : zs.size = 97) (H : Below w.heap.size w wq) (p' : Pr) (v' : PrV) (er : Int) (r : Pr × Int) (hr : r = (p', er)) (hp : PIn (New P w 2) wq p' v') (act : Act)
    (h8 : act.tmps.getD t undef = .pointer (some ⟨w.heap.size + 1, 0, none⟩)) (h9 : act.tmps.getD q undef = .int .i64 er) (hd : act.defers = []) :
    bodyPost Tryz.prog f (AnsP P w r) Exit.ret act (wq.setCells (w.heap.size + 1) 0 (prC p' v').toList) := by
  subst hr
  have R3 := R.setAll (ds := prC p' v') (by rw [hz]; rfl)
  exact bodyPost_ret (v := .tuple #[.agg (prC p' v'), .int .i64 er]) (results_prov2 hres _ _ _ _ _ h8 h9 R3 rfl) hd ⟨v', rfl, hp.sets (new_no (by omega)) _ _, below_sets (Nat.le_succ _) _ _ _ H⟩
end Go.Proofs.YtkhlihpghbhppabGreat.Pv

set_option maxRecDepth 100000
namespace Go.Proofs.YtkhlihpghbhppabGreat.Pv
open Go.RowKit
theorem Rep.prow {w : World} {B : Nat} {v : Value} {l : List (Int × Int)} (h : PRow w B v l) (hl : l.length ≤ 8796093021952) : Rep (fun b => B ≤ b) w v 2 16 (pwC l) := by
  rcases h with ⟨rfl, rfl⟩ | ⟨g, cap, rfl, hB, ⟨cur, h1, h2⟩, h3, h4⟩
  · exact Rep.nil _ _ _ _
  · refine ⟨_, l.length, cap, rfl, pwC_length l, by omega, ⟨fun h => (by cases h), h3⟩, fun _ => ⟨g, 0, rfl, hB, (Array.getElem?_eq_some_iff.1 h1).1, fun j u hu => ?_⟩⟩
    have hj : j < l.length * 2 := by have := (List.getElem?_eq_some_iff.1 hu).1; rwa [pwC_length] at this
    have hi : j / 2 < l.length := by omega
    obtain ⟨a1, a2⟩ := pwC_get l (j / 2) hi
    have ex : l[j / 2]? = some (l.getD (j / 2) (0, 0)) := by simp [List.getD, hi]
    obtain ⟨b1, b2⟩ := h2 (j / 2) _ ex
    rw [Nat.zero_add]
    simp only [World.cell?, h1]
    rcases (show j = j / 2 * 2 ∨ j = j / 2 * 2 + 1 by omega) with e | e
    · rw [← e] at a1 b1; rw [a1] at hu; cases hu; simpa using b1
    · rw [← e] at a2 b2; rw [a2] at hu; cases hu; simpa using b2
/-- a list of powers, as Diff, Apply and All want it -/
theorem Rep.pin {P : Nat → Prop} {w : World} {v : Value} {l : List (Int × Int)} (h : Rep P w v 2 16 (pwC l)) : ∃ ao c b off, v = .slice ao l.length c ∧ Df.PIn w l ao b off := by
  obtain ⟨A, C, e, hs, -, hc, -⟩ := h.open (pwC_length _) (by decide)
  rcases Nat.eq_zero_or_pos l.length with h0 | h0
  · exact ⟨A, C, 0, 0, e, by omega, fun h => by omega, fun i hi => by omega⟩
  · obtain ⟨b, off, e2, -, -, hcell⟩ := hc h0
    exact ⟨A, C, b, off, e, by omega, fun _ => e2, fun i hi => ⟨by rw [hcell _ _ (pwC_get l i hi).1], by rw [Nat.add_assoc, hcell _ _ (pwC_get l i hi).2]⟩⟩
theorem OwnW.rep {B : Nat} {w : World} {A : Option Addr} {C : Nat} {W : List Wt} (h : OwnW B w A C W) (hl : W.length * 64 ≤ 140737488351232) : Rep (fun b => B ≤ b) w (.slice A W.length C) 8 64 (wsL W) := Rep.own h hl
theorem OwnN.rep {B : Nat} {w : World} {A : Option Addr} {C : Nat} {l : List Int} (h : OwnN B w A C l) (hl : l.length * 8 ≤ 140737488351232) : Rep (fun b => B ≤ b) w (.slice A l.length C) 1 8 (inC l) := Rep.own h hl
section
variable {P : Nat → Prop} {w : World} {s : St} {u : Value} (hu : Rep P w u 8 64 (wsL s.W))
include hu
theorem st_pay (t : Int) (hg : goodS s = true) : Calls Tryz.prog 31 #[.agg (stC s u), .int .i64 t] w fun e w' => ∃ u' x, e = .returned (.tuple #[.agg (stC (payS s t) u'), x, .int .i64 0]) ∧ Rep (fun b => w.heap.size ≤ b) w' u' 8 64 (wsL (payS s t).W) ∧ Rep (fun b => w.heap.size ≤ b) w' x 1 8 (inC (paidW t s.W)) ∧ Below w.heap.size w w' := by
  obtain ⟨A, C, b, o, rfl, W, -, -⟩ := hu.wsAt
  refine (spay_yes s A b o C t w W hg).mono ?_
  rintro e w' ⟨A', C', A2, C2, rfl, h1, h2, hb⟩
  have h60 := ((goodS_iff _).1 hg).2.2.2.1
  have hpl : (paidW t s.W).length ≤ s.W.length := by
    unfold paidW paidL
    rw [List.length_map]
    exact List.length_filter_le _ _
  exact ⟨_, _, rfl, OwnW.rep h1 (good_len (kp_pay hg t).good), OwnN.rep h2 (by omega), hb⟩
theorem st_rel (c : Nat) (h : Int) (hc : c < 2) : Calls Tryz.prog 13 #[.agg (stC s u), .int .i64 (c : Int), .int .i64 h] w fun e w' => ∃ u', e = .returned (.agg (stC { s with W := relW c h s.W } u')) ∧ Rep (fun b => w.heap.size ≤ b) w' u' 8 64 (wsL (relW c h s.W)) ∧ Below w.heap.size w w' := by
  obtain ⟨A, C, b, o, rfl, W, -, -⟩ := hu.wsAt
  have hl : (relW c h s.W).length = s.W.length := List.length_map _
  match c, hc with
  | 0, _ =>
    refine (srelease_0 s A b o C h w W W.len).mono ?_
    rintro e w' ⟨A', C', rfl, h1, hb⟩
    have := OwnW.rep h1 (by rw [hl]; exact W.len)
    rw [hl] at this
    exact ⟨_, rfl, this, hb⟩
  | 1, _ =>
    refine (srelease_1 s A b o C h w W W.len).mono ?_
    rintro e w' ⟨A', C', rfl, h1, hb⟩
    have := OwnW.rep h1 (by rw [hl]; exact W.len)
    rw [hl] at this
    exact ⟨_, rfl, this, hb⟩
end
theorem setS_len (V : Nat → Vd) : (setS V).length ≤ 4 := by
  unfold setS
  rw [isort_length, List.length_take]
  omega
theorem st_set (s : St) (u : Value) (w : World) (hg : goodS s = true) : Calls Tryz.prog 32 #[.agg (stC s u)] w fun e w' => ∃ v, e = .returned v ∧ Rep (fun b => w.heap.size ≤ b) w' v 2 16 (pwC (setS s.V)) ∧ Below w.heap.size w w' := by
  refine (sset_any s u w fun k hk => (vOk_amounts (good_vals hg k hk).1).1).mono ?_
  rintro e w' ⟨v, rfl, h1, hb⟩
  exact ⟨v, rfl, Rep.prow h1 (by have := setS_len s.V; omega), hb⟩
theorem st_all {P : Nat → Prop} {w : World} {v : Value} {l : List (Int × Int)} (h : Rep P w v 2 16 (pwC l)) : Calls Tryz.prog 29 #[v] w fun e w' => e = .returned (.int .i64 (Df.allN l)) ∧ Below w.heap.size w w' := by
  obtain ⟨ao, c, b, off, rfl, hp⟩ := h.pin
  exact Df.all_any l ao c b off w hp
end Go.Proofs.YtkhlihpghbhppabGreat.Pv

