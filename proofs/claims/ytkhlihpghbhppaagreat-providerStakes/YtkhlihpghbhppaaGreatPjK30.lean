/- Parts of the proof: PGC RG2 T7. -/
import Derived.Test.YtkhlihpghbhppaaGreatRows
import Derived.Test.YtkhlihpghbhppaaGreatPjK7
import Derived.Test.YtkhlihpghbhppaaGreatPjK12
import Derived.Test.YtkhlihpghbhppaaGreatPjK13
import Derived.Test.YtkhlihpghbhppaaGreatPjK21
import Derived.Test.YtkhlihpghbhppaaGreatPjK33
import Derived.Test.YtkhlihpghbhppaaGreatPjK38
import Derived.Test.YtkhlihpghbhppaaGreatPjK41
import Derived.Test.YtkhlihpghbhppaaGreatPjK42
import Derived.Test.YtkhlihpghbhppaaGreatPjK43
import Derived.Test.YtkhlihpghbhppaaGreatPjK49
import Derived.Test.YtkhlihpghbhppaaGreatPjK51
import Derived.Test.YtkhlihpghbhppaaGreatPjK52
import Derived.Deep.MidRow
import Derived.WalkKit
set_option maxRecDepth 100000
namespace Go.Proofs.YtkhlihpghbhppaaGreat.Pv
open Go.RowKit
theorem good_len {s : St} (hg : goodS s = true) : s.W.length * 64 ≤ 140737488351232 := by
  have := ((goodS_iff _).1 hg).2.2.2.1
  omega
/-- a provider is loaded, stored; a stake is stored -/
def loadP (v : Value) : Sem Value := Instr.loadAt 47 v
theorem loadP_eq (v : Value) : Instr.loadAt 47 v = loadP v := rfl
def storeP (a v : Value) : Sem Unit := Instr.storeAt 47 a v
theorem storeP_eq (a v : Value) : Instr.storeAt 47 a v = storeP a v := rfl
def storeS (a v : Value) : Sem Unit := Instr.storeAt 32 a v
theorem storeS_eq (a v : Value) : Instr.storeAt 32 a v = storeS a v := rfl
theorem pr_loadP {w : World} {g : Nat} {cs : Array Value} (h : CAt 47 w g cs) (hs : cs.size = 97) : (loadP (.pointer (some ⟨g, 0, none⟩))).run Tryz.prog w = .ok (.agg cs) w := by
  have := run_loadAt_mid (P := Tryz.prog) w g 0 47 cs.toList _ h.range Tryz.underlying47 rfl (by rw [infoPv]; simp [hs])
  change (Instr.loadAt 47 _).run Tryz.prog w = _
  simpa using this
theorem pr_storeP {w : World} {g : Nat} {zs cs : Array Value} (h : CAt 47 w g zs) (hz : zs.size = 97) (hs : cs.size = 97) (h1 : cs.all (·.oneCell') = true) : (storeP (.pointer (some ⟨g, 0, none⟩)) (.agg cs)).run Tryz.prog w = .ok () (w.setCells g 0 cs.toList) :=
  run_storeAt_mid (P := Tryz.prog) w g 0 47 cs (h.there 0 _ (by rw [hz, hs]; omega)) (by rw [infoPv, hs]) h1
theorem pr_storeS {w : World} {g : Nat} {cs ds : Array Value} (h : CAt 47 w g cs) (hc : cs.size = 97) (hs : ds.size = 63) (h1 : ds.all (·.oneCell') = true) : (storeS (.pointer (some ⟨g, 2, none⟩)) (.agg ds)).run Tryz.prog w = .ok () (w.setCells g 2 ds.toList) :=
  run_storeAt_mid (P := Tryz.prog) w g 2 32 ds (h.there 2 _ (by rw [hc, hs]; omega)) (by rw [infoS, hs]) h1
theorem st_storeS {w : World} {g : Nat} {cs ds : Array Value} (h : CAt 32 w g cs) (hc : cs.size = 63) (hs : ds.size = 63) (h1 : ds.all (·.oneCell') = true) : (storeS (.pointer (some ⟨g, 0, none⟩)) (.agg ds)).run Tryz.prog w = .ok () (w.setCells g 0 ds.toList) :=
  run_storeAt_mid (P := Tryz.prog) w g 0 32 ds (h.there 0 _ (by rw [hc, hs]; omega)) (by rw [infoS, hs]) h1
theorem st_loadS {w : World} {g : Nat} {cs : Array Value} (h : CAt 32 w g cs) (hc : cs.size = 63) : (loadS (.pointer (some ⟨g, 0, none⟩))).run Tryz.prog w = .ok (.agg cs) w := SAt.loadS h hc
/-- a stake stored into a provider -/
theorem CAt.stake {w : World} {g : Nat} {p : Pr} {v : PrV} (h : CAt 47 w g (prC p v)) (s : St) (u : Value) : CAt 47 (w.setCells g 2 (stC s u).toList) g (prC { p with s := s } { v with ws := u }) := by
  have := CAt.sets (stC s u).toList 2 w _ h
  rwa [show spl (prC p v) 2 (stC s u).toList = prC { p with s := s } { v with ws := u } from spl_mid [.int .i64 p.h, .int .i64 p.t] (stC p.s v.ws).toList _ (stC s u).toList rfl] at this
/-- a validator's cells in a provider -/
theorem pr_val {w : World} {g : Nat} {p : Pr} {v : PrV} (h : CAt 47 w g (prC p v)) {y : Nat} (hy : y < 6) : w.cell? ⟨g, 9 + y * 5, none⟩ = some (.int .i64 (p.s.V y).tok) ∧ w.cell? ⟨g, 9 + y * 5 + 3, none⟩ = some (.bool (p.s.V y).jail) ∧ w.cell? ⟨g, 9 + y * 5 + 4, none⟩ = some (.bool (p.s.V y).dead) := by
  rcases (show y = 0 ∨ y = 1 ∨ y = 2 ∨ y = 3 ∨ y = 4 ∨ y = 5 by omega) with rfl | rfl | rfl | rfl | rfl | rfl <;> exact ⟨h.cell _, h.cell _, h.cell _⟩
/-- but for one block and new ones the world is as it was -/
structure Alt (g : Nat) (w w' : World) : Prop where
  os : w'.os = w.os
  tape : w'.tape = w.tape
  output : w'.output = w.output
  size : w.heap.size ≤ w'.heap.size
  block : ∀ k, k < w.heap.size → k ≠ g → w'.heap[k]? = w.heap[k]?
theorem Alt.refl (g : Nat) (w : World) : Alt g w w := ⟨rfl, rfl, rfl, Nat.le_refl _, fun _ _ _ => rfl⟩
theorem Alt.trans {g : Nat} {w w1 w2 : World} (h : Alt g w w1) (k : Alt g w1 w2) : Alt g w w2 := ⟨k.os.trans h.os, k.tape.trans h.tape, k.output.trans h.output, Nat.le_trans h.size k.size, fun i hi hn => (k.block i (Nat.lt_of_lt_of_le hi h.size) hn).trans (h.block i hi hn)⟩
theorem Alt.of {g : Nat} {w w' : World} (h : Below w.heap.size w w') : Alt g w w' := ⟨h.os, h.tape, h.output, h.size, fun k hk _ => h.block k hk⟩
theorem Alt.below {g B : Nat} {w w' : World} (h : Alt g w w') (hB : B ≤ g) (hw : B ≤ w.heap.size) : Below B w w' := ⟨h.os, h.tape, h.output, h.size, fun k hk => h.block k (by omega) (by omega)⟩
theorem Alt.set {g : Nat} {w w' : World} (h : Alt g w w') (o : Nat) (v : Value) : Alt g w (w'.setCell ⟨g, o, none⟩ v) :=
  ⟨h.os, h.tape, h.output, (by simp [World.setCell]; exact h.size), fun k hk hn => (Below.heap_setCell _ _ _ _ hn).trans (h.block k hk hn)⟩
theorem Alt.sets {g : Nat} : ∀ (vs : List Value) {w w' : World} (_ : Alt g w w') (o : Nat), Alt g w (w'.setCells g o vs)
  | [], _, _, h, _ => h
  | _ :: r, _, _, h, o => Alt.sets r (h.set o _) (o + 1)
theorem Alt.cat {g : Nat} {w w' : World} (h : Alt g w w') {b : Nat} (hb : b ≠ g) {t : TypeId} {cs : Array Value} (c : CAt t w b cs) : CAt t w' b cs := (h.block b c.lt hb).trans c
theorem Alt.pin {g : Nat} {w w' : World} (h : Alt g w w') {P : Nat → Prop} (hP : ¬ P g) {p : Pr} {v : PrV} (hp : PIn P w p v) : PIn P w' p v := hp.keep fun b hb hlt => h.block b hlt (fun e => hP (e ▸ hb))
theorem Alt.rep {g : Nat} {w w' : World} (h : Alt g w w') {P : Nat → Prop} (hP : ¬ P g) {v : Value} {sz bts : Nat} {cs : List Value} (hp : Rep P w v sz bts cs) : Rep P w' v sz bts cs := hp.keep fun b hb hlt => h.block b hlt (fun e => hP (e ▸ hb))
/-- blocks that were there, or that came later -/
def New (P : Nat → Prop) (w : World) (k b : Nat) : Prop := (P b ∧ b < w.heap.size) ∨ w.heap.size + k ≤ b
/-- what a provider's function answers -/
def AnsP (P : Nat → Prop) (w : World) (r : Pr × Int) (e : Ending) (w' : World) : Prop := ∃ v', e = .returned (.tuple #[.agg (prC r.1 v'), .int .i64 r.2]) ∧ PIn (New P w 2) w' r.1 v' ∧ Below w.heap.size w w'
theorem results_prov2 {fn : Func} {p q : Tmp} (h : fn.results = #[.cell p 47, .tmp q]) (tmps : Array Value) (w : World) (g : Nat) (cs : Array Value) (v : Value)
    (hp : tmps.getD p undef = .pointer (some ⟨g, 0, none⟩)) (hq : tmps.getD q undef = v) (hg : CAt 47 w g cs) (hsz : cs.size = 97) :
    (results fn tmps).run Tryz.prog w = .ok (.tuple #[.agg cs, v]) w := by
  have hp' : tmps[p]?.getD undef = .pointer (some ⟨g, 0, none⟩) := by simpa using hp
  have hq' : tmps[q]?.getD undef = v := by simpa using hq
  simp [results, h, hp', hq', asAddr, run_loadVar_row w g 47 47 cs (0, 0) _ hg Tryz.underlying47 rfl (by rw [infoPv, hsz])]
theorem PIn.sets {P : Nat → Prop} {w : World} {p : Pr} {v : PrV} (h : PIn P w p v) {g : Nat} (hg : ¬ P g) (o : Nat) (vs : List Value) : PIn P (w.setCells g o vs) p v := h.keep fun b hb _ => heap_sets (show b ≠ g from fun e => hg (by rw [← e]; exact hb)) vs o w
theorem PIn.ofNew {P : Nat → Prop} {w w' : World} {p : Pr} {v : PrV} (h : PIn P w p v) (hb : Below w.heap.size w w') (k : Nat) : PIn (New P w k) w' p v := (h.mono (P' := fun b => New P w k b ∧ b < w.heap.size) fun _ hl hp => ⟨.inl ⟨hp, hl⟩, hl⟩).over hb |>.mono fun _ _ h => h.1
theorem new_no {P : Nat → Prop} {w : World} {k j : Nat} (h : j < k) : ¬ New P w k (w.heap.size + j) := fun hn => by
  rcases hn with ⟨_, h1⟩ | h1 <;> omega
/-- a provider and an error are answered: stored into the result's block ahead -/
theorem prov_end2 {f : Func} {t q : Tmp} (hres : f.results = #[.cell t 47, .tmp q]) {P : Nat → Prop} {w wq : World} {zs : Array Value} (R : CAt 47 wq (w.heap.size + 1) zs) (hz : zs.size = 97) (H : Below w.heap.size w wq) (p' : Pr) (v' : PrV) (er : Int) (r : Pr × Int) (hr : r = (p', er)) (hp : PIn (New P w 2) wq p' v') (act : Act)
    (h8 : act.tmps.getD t undef = .pointer (some ⟨w.heap.size + 1, 0, none⟩)) (h9 : act.tmps.getD q undef = .int .i64 er) (hd : act.defers = []) :
    bodyPost Tryz.prog f (AnsP P w r) Exit.ret act (wq.setCells (w.heap.size + 1) 0 (prC p' v').toList) := by
  subst hr
  have R3 := R.setAll (ds := prC p' v') (by rw [hz]; rfl)
  exact bodyPost_ret (v := .tuple #[.agg (prC p' v'), .int .i64 er]) (results_prov2 hres _ _ _ _ _ h8 h9 R3 rfl) hd ⟨v', rfl, hp.sets (new_no (by omega)) _ _, below_sets (Nat.le_succ _) _ _ _ H⟩
/-- the waits' list of a stake that was answered -/
theorem rep_ws {P : Nat → Prop} {w : World} {A : Option Addr} {C b o : Nat} {W : List Wt} (h : WsAt w A b o W) (hC : W.length ≤ C) (h0 : 0 < W.length) (hP : P b) : Rep P w (.slice A W.length C) 8 64 (wsL W) := by
  have hA : A = some ⟨b, o, none⟩ := h.adr h0
  refine ⟨A, W.length, C, rfl, wsL_length W, h.len, ⟨fun e => (by rw [hA] at e; cases e), hC⟩, fun _ => ⟨b, o, hA, hP, h.lt h0, fun j u hu => ?_⟩⟩
  have hj : j < W.length * 8 := by have := (List.getElem?_eq_some_iff.1 hu).1; rwa [wsL_length] at this
  have hi : j / 8 < W.length := by omega
  have h8 : j % 8 < 8 := Nat.mod_lt _ (by omega)
  have ex : W[j / 8]? = some W[j / 8] := List.getElem?_eq_getElem hi
  have e := wsL_get W (j / 8) W[j / 8] (j % 8) ex h8
  rw [show j / 8 * 8 + j % 8 = j by omega] at e
  rw [e] at hu
  have c := h.cell (j / 8) W[j / 8] ex
  generalize W[j / 8] = x at *
  have ho : o + j = o + j / 8 * 8 + j % 8 := by omega
  rw [ho]
  generalize o + j / 8 * 8 = k at *
  generalize j % 8 = m at *
  obtain ⟨c0, c1, c2, c3, c4, c5, c6, c7⟩ := c
  match m, h8, hu with
  | 0, _, hu => cases hu; exact c0
  | 1, _, hu => cases hu; exact c1
  | 2, _, hu => cases hu; exact c2
  | 3, _, hu => cases hu; exact c3
  | 4, _, hu => cases hu; exact c4
  | 5, _, hu => cases hu; exact c5
  | 6, _, hu => cases hu; exact c6
  | 7, _, hu => cases hu; exact c7
end Go.Proofs.YtkhlihpghbhppaaGreat.Pv

set_option maxRecDepth 100000
namespace Go.Proofs.YtkhlihpghbhppaaGreat.Ra
open Go.RowKit

/-- The reference's MulDiv. -/
theorem refmd (a b c : Int) (a1 : a ≤ 9223372036854775807) (b1 : b ≤ 9223372036854775807) (c1 : c ≤ 9223372036854775807) (w : World) :
    Calls Tryz.prog 100 #[.int .i64 a, .int .i64 b, .int .i64 c] w fun e w' => e = .returned (.tuple #[.int .i64 (mdN a b c), .int .i64 (mdE a b c)]) ∧ Below w.heap.size w w' := by
  by_cases h : a < 0 ∨ b < 0 ∨ c < 1
  · obtain ⟨e1, e2⟩ := md_bad h
    rw [e1, e2]
    clear e1 e2
    by_cases t1 : a < 0
    · clear h
      go_enter Tryz.func100, Tryz.ntmps100
      go_wp2
      go_ret2
      exact ⟨rfl, ⟨rfl, rfl, rfl, Nat.le_refl _, fun _ _ => rfl⟩⟩
    · by_cases t2 : b < 0
      · clear h
        go_enter Tryz.func100, Tryz.ntmps100
        go_wp2
        go_ret2
        exact ⟨rfl, ⟨rfl, rfl, rfl, Nat.le_refl _, fun _ _ => rfl⟩⟩
      · have t3 : c < 1 := by omega
        clear h
        go_enter Tryz.func100, Tryz.ntmps100
        go_wp2
        go_ret2
        exact ⟨rfl, ⟨rfl, rfl, rfl, Nat.le_refl _, fun _ _ => rfl⟩⟩
  · exact refmd_right a b c (by omega) a1 (by omega) b1 (by omega) c1 w

theorem in11 (n : Int) (w : World) : Calls Tryz.prog 115 #[.int .i64 n] w fun e w' => e = .returned (.bool (inB n)) ∧ w' = w := by
  by_cases h0 : 0 ≤ n
  · by_cases h1 : n ≤ 1125899906842624
    · rw [inB_true h0 h1]
      go_enter Tryz.func115, Tryz.ntmps115
      go_wp2
      go_ret
      exact ⟨rfl, rfl⟩
    · rw [inB_high h1]
      go_enter Tryz.func115, Tryz.ntmps115
      go_wp2
      go_ret
      exact ⟨rfl, rfl⟩
  · rw [inB_low h0]
    go_enter Tryz.func115, Tryz.ntmps115
    go_wp2
    go_ret
    exact ⟨rfl, rfl⟩

theorem part14 (n f : Int) (w : World) : Calls Tryz.prog 128 #[.int .i64 n, .int .i64 f] w fun e w' => e = .returned (.tuple #[.int .i64 (ptN n f), .int .i64 (ptE n f)]) ∧ Below w.heap.size w w' := by
  have ci := in11 n
  by_cases hi : inB n = true
  · obtain ⟨n0, n1⟩ := inB_iff.1 hi
    by_cases f0 : f < 0
    · obtain ⟨e1, e2⟩ := pt_bad (n := n) (f := f) (by omega)
      rw [e1, e2]
      rw [hi] at ci
      clear e1 e2 hi
      go_enter Tryz.func128, Tryz.ntmps128
      go_wp2_with (go_at_call 115; refine (ci _).mono ?_; rintro e w' ⟨rfl, rfl⟩)
      go_ret2
      exact ⟨rfl, ⟨rfl, rfl, rfl, Nat.le_refl _, fun _ _ => rfl⟩⟩
    · by_cases f1 : 1000 < f
      · obtain ⟨e1, e2⟩ := pt_bad (n := n) (f := f) (by omega)
        rw [e1, e2]
        rw [hi] at ci
        clear e1 e2 hi
        go_enter Tryz.func128, Tryz.ntmps128
        go_wp2_with (go_at_call 115; refine (ci _).mono ?_; rintro e w' ⟨rfl, rfl⟩)
        go_ret2
        exact ⟨rfl, ⟨rfl, rfl, rfl, Nat.le_refl _, fun _ _ => rfl⟩⟩
      · obtain ⟨e1, e2⟩ := pt_good (n := n) (f := f) ⟨hi, by omega, by omega⟩
        rw [e1, e2]
        rw [hi] at ci
        clear e1 e2 hi
        go_enter Tryz.func128, Tryz.ntmps128
        go_wp2_with (go_at_call 115; refine (ci _).mono ?_; rintro e w' ⟨rfl, rfl⟩)
        rw [part_key n0 n1 f0 f1]
        go_ret2
        exact ⟨rfl, ⟨rfl, rfl, rfl, Nat.le_refl _, fun _ _ => rfl⟩⟩
  · obtain ⟨e1, e2⟩ := pt_bad (n := n) (f := f) (by simp [hi])
    rw [e1, e2]
    have hi' : inB n = false := by simpa using hi
    rw [hi'] at ci
    clear e1 e2 hi hi'
    go_enter Tryz.func128, Tryz.ntmps128
    go_wp2_with (go_at_call 115; refine (ci _).mono ?_; rintro e w' ⟨rfl, rfl⟩)
    go_ret2
    exact ⟨rfl, ⟨rfl, rfl, rfl, Nat.le_refl _, fun _ _ => rfl⟩⟩

end Go.Proofs.YtkhlihpghbhppaaGreat.Ra

set_option maxRecDepth 100000
namespace Go.Proofs.YtkhlihpghbhppaaGreat
open Go.RowKit
theorem rmv_04 (b : Bk) (n : Int) (w : World) :
    Calls Tryz.prog 156 #[.agg #[.int .i64 b.f0, .int .i64 b.f1, .int .i64 b.f2, .int .i64 b.f3, .int .i64 b.bo, .int .i64 b.wa, .int .i64 b.bu], .int .i64 0, .int .i64 4, .int .i64 n] w fun e w' => e = .returned (.tuple #[.agg #[.int .i64 (mv b 0 4 n).1.f0, .int .i64 (mv b 0 4 n).1.f1, .int .i64 (mv b 0 4 n).1.f2, .int .i64 (mv b 0 4 n).1.f3, .int .i64 (mv b 0 4 n).1.bo, .int .i64 (mv b 0 4 n).1.wa, .int .i64 (mv b 0 4 n).1.bu], .int .i64 (mv b 0 4 n).2]) ∧ Below w.heap.size w w' := by
  by_cases hg : b.good = true
  · by_cases hn : 0 ≤ n ∧ n ≤ 1125899906842624
    · have h1 : ¬ (b.good = false ∨ ¬ (0 ≤ n ∧ n ≤ 1125899906842624)) := by rw [hg]; simp [hn]
      by_cases hl : b.f0 < n
      · have e : mv b 0 4 n = (b, 7) := by rw [mv, if_neg h1, if_pos (show b.get 0 < n from hl)]
        rw [e]
        exact rmove_funds_0 b.f0 b.f1 b.f2 b.f3 b.bo b.wa b.bu _ n w hg hn.1 hn.2 hl
      · have e : mv b 0 4 n = ((b.put 0 (b.f0 - n)).put 4 (b.bo + n), 0) := by rw [mv, if_neg h1, if_neg (show ¬ b.get 0 < n from hl)]; rfl
        rw [e]
        exact rmove_ok_04 b.f0 b.f1 b.f2 b.f3 b.bo b.wa b.bu n w hg hn.1 hn.2 (by omega)
    · have e : mv b 0 4 n = (b, 2) := by rw [mv, if_pos (.inr hn)]
      rw [e]
      exact rmove_range_in b.f0 b.f1 b.f2 b.f3 b.bo b.wa b.bu _ _ n w hg hn
  · have e : mv b 0 4 n = (b, 2) := by rw [mv, if_pos (.inl (by simpa using hg))]
    rw [e]
    exact rmove_range_bad b.f0 b.f1 b.f2 b.f3 b.bo b.wa b.bu _ _ n w (by simpa [Bk.good] using hg)
theorem rmv_14 (b : Bk) (n : Int) (w : World) :
    Calls Tryz.prog 156 #[.agg #[.int .i64 b.f0, .int .i64 b.f1, .int .i64 b.f2, .int .i64 b.f3, .int .i64 b.bo, .int .i64 b.wa, .int .i64 b.bu], .int .i64 1, .int .i64 4, .int .i64 n] w fun e w' => e = .returned (.tuple #[.agg #[.int .i64 (mv b 1 4 n).1.f0, .int .i64 (mv b 1 4 n).1.f1, .int .i64 (mv b 1 4 n).1.f2, .int .i64 (mv b 1 4 n).1.f3, .int .i64 (mv b 1 4 n).1.bo, .int .i64 (mv b 1 4 n).1.wa, .int .i64 (mv b 1 4 n).1.bu], .int .i64 (mv b 1 4 n).2]) ∧ Below w.heap.size w w' := by
  by_cases hg : b.good = true
  · by_cases hn : 0 ≤ n ∧ n ≤ 1125899906842624
    · have h1 : ¬ (b.good = false ∨ ¬ (0 ≤ n ∧ n ≤ 1125899906842624)) := by rw [hg]; simp [hn]
      by_cases hl : b.f1 < n
      · have e : mv b 1 4 n = (b, 7) := by rw [mv, if_neg h1, if_pos (show b.get 1 < n from hl)]
        rw [e]
        exact rmove_funds_1 b.f0 b.f1 b.f2 b.f3 b.bo b.wa b.bu _ n w hg hn.1 hn.2 hl
      · have e : mv b 1 4 n = ((b.put 1 (b.f1 - n)).put 4 (b.bo + n), 0) := by rw [mv, if_neg h1, if_neg (show ¬ b.get 1 < n from hl)]; rfl
        rw [e]
        exact rmove_ok_14 b.f0 b.f1 b.f2 b.f3 b.bo b.wa b.bu n w hg hn.1 hn.2 (by omega)
    · have e : mv b 1 4 n = (b, 2) := by rw [mv, if_pos (.inr hn)]
      rw [e]
      exact rmove_range_in b.f0 b.f1 b.f2 b.f3 b.bo b.wa b.bu _ _ n w hg hn
  · have e : mv b 1 4 n = (b, 2) := by rw [mv, if_pos (.inl (by simpa using hg))]
    rw [e]
    exact rmove_range_bad b.f0 b.f1 b.f2 b.f3 b.bo b.wa b.bu _ _ n w (by simpa [Bk.good] using hg)
theorem rmv_24 (b : Bk) (n : Int) (w : World) :
    Calls Tryz.prog 156 #[.agg #[.int .i64 b.f0, .int .i64 b.f1, .int .i64 b.f2, .int .i64 b.f3, .int .i64 b.bo, .int .i64 b.wa, .int .i64 b.bu], .int .i64 2, .int .i64 4, .int .i64 n] w fun e w' => e = .returned (.tuple #[.agg #[.int .i64 (mv b 2 4 n).1.f0, .int .i64 (mv b 2 4 n).1.f1, .int .i64 (mv b 2 4 n).1.f2, .int .i64 (mv b 2 4 n).1.f3, .int .i64 (mv b 2 4 n).1.bo, .int .i64 (mv b 2 4 n).1.wa, .int .i64 (mv b 2 4 n).1.bu], .int .i64 (mv b 2 4 n).2]) ∧ Below w.heap.size w w' := by
  by_cases hg : b.good = true
  · by_cases hn : 0 ≤ n ∧ n ≤ 1125899906842624
    · have h1 : ¬ (b.good = false ∨ ¬ (0 ≤ n ∧ n ≤ 1125899906842624)) := by rw [hg]; simp [hn]
      by_cases hl : b.f2 < n
      · have e : mv b 2 4 n = (b, 7) := by rw [mv, if_neg h1, if_pos (show b.get 2 < n from hl)]
        rw [e]
        exact rmove_funds_2 b.f0 b.f1 b.f2 b.f3 b.bo b.wa b.bu _ n w hg hn.1 hn.2 hl
      · have e : mv b 2 4 n = ((b.put 2 (b.f2 - n)).put 4 (b.bo + n), 0) := by rw [mv, if_neg h1, if_neg (show ¬ b.get 2 < n from hl)]; rfl
        rw [e]
        exact rmove_ok_24 b.f0 b.f1 b.f2 b.f3 b.bo b.wa b.bu n w hg hn.1 hn.2 (by omega)
    · have e : mv b 2 4 n = (b, 2) := by rw [mv, if_pos (.inr hn)]
      rw [e]
      exact rmove_range_in b.f0 b.f1 b.f2 b.f3 b.bo b.wa b.bu _ _ n w hg hn
  · have e : mv b 2 4 n = (b, 2) := by rw [mv, if_pos (.inl (by simpa using hg))]
    rw [e]
    exact rmove_range_bad b.f0 b.f1 b.f2 b.f3 b.bo b.wa b.bu _ _ n w (by simpa [Bk.good] using hg)
theorem rmv_34 (b : Bk) (n : Int) (w : World) :
    Calls Tryz.prog 156 #[.agg #[.int .i64 b.f0, .int .i64 b.f1, .int .i64 b.f2, .int .i64 b.f3, .int .i64 b.bo, .int .i64 b.wa, .int .i64 b.bu], .int .i64 3, .int .i64 4, .int .i64 n] w fun e w' => e = .returned (.tuple #[.agg #[.int .i64 (mv b 3 4 n).1.f0, .int .i64 (mv b 3 4 n).1.f1, .int .i64 (mv b 3 4 n).1.f2, .int .i64 (mv b 3 4 n).1.f3, .int .i64 (mv b 3 4 n).1.bo, .int .i64 (mv b 3 4 n).1.wa, .int .i64 (mv b 3 4 n).1.bu], .int .i64 (mv b 3 4 n).2]) ∧ Below w.heap.size w w' := by
  by_cases hg : b.good = true
  · by_cases hn : 0 ≤ n ∧ n ≤ 1125899906842624
    · have h1 : ¬ (b.good = false ∨ ¬ (0 ≤ n ∧ n ≤ 1125899906842624)) := by rw [hg]; simp [hn]
      by_cases hl : b.f3 < n
      · have e : mv b 3 4 n = (b, 7) := by rw [mv, if_neg h1, if_pos (show b.get 3 < n from hl)]
        rw [e]
        exact rmove_funds_3 b.f0 b.f1 b.f2 b.f3 b.bo b.wa b.bu _ n w hg hn.1 hn.2 hl
      · have e : mv b 3 4 n = ((b.put 3 (b.f3 - n)).put 4 (b.bo + n), 0) := by rw [mv, if_neg h1, if_neg (show ¬ b.get 3 < n from hl)]; rfl
        rw [e]
        exact rmove_ok_34 b.f0 b.f1 b.f2 b.f3 b.bo b.wa b.bu n w hg hn.1 hn.2 (by omega)
    · have e : mv b 3 4 n = (b, 2) := by rw [mv, if_pos (.inr hn)]
      rw [e]
      exact rmove_range_in b.f0 b.f1 b.f2 b.f3 b.bo b.wa b.bu _ _ n w hg hn
  · have e : mv b 3 4 n = (b, 2) := by rw [mv, if_pos (.inl (by simpa using hg))]
    rw [e]
    exact rmove_range_bad b.f0 b.f1 b.f2 b.f3 b.bo b.wa b.bu _ _ n w (by simpa [Bk.good] using hg)
theorem rmv_45 (b : Bk) (n : Int) (w : World) :
    Calls Tryz.prog 156 #[.agg #[.int .i64 b.f0, .int .i64 b.f1, .int .i64 b.f2, .int .i64 b.f3, .int .i64 b.bo, .int .i64 b.wa, .int .i64 b.bu], .int .i64 4, .int .i64 5, .int .i64 n] w fun e w' => e = .returned (.tuple #[.agg #[.int .i64 (mv b 4 5 n).1.f0, .int .i64 (mv b 4 5 n).1.f1, .int .i64 (mv b 4 5 n).1.f2, .int .i64 (mv b 4 5 n).1.f3, .int .i64 (mv b 4 5 n).1.bo, .int .i64 (mv b 4 5 n).1.wa, .int .i64 (mv b 4 5 n).1.bu], .int .i64 (mv b 4 5 n).2]) ∧ Below w.heap.size w w' := by
  by_cases hg : b.good = true
  · by_cases hn : 0 ≤ n ∧ n ≤ 1125899906842624
    · have h1 : ¬ (b.good = false ∨ ¬ (0 ≤ n ∧ n ≤ 1125899906842624)) := by rw [hg]; simp [hn]
      by_cases hl : b.bo < n
      · have e : mv b 4 5 n = (b, 7) := by rw [mv, if_neg h1, if_pos (show b.get 4 < n from hl)]
        rw [e]
        exact rmove_funds_4 b.f0 b.f1 b.f2 b.f3 b.bo b.wa b.bu _ n w hg hn.1 hn.2 hl
      · have e : mv b 4 5 n = ((b.put 4 (b.bo - n)).put 5 (b.wa + n), 0) := by rw [mv, if_neg h1, if_neg (show ¬ b.get 4 < n from hl)]; rfl
        rw [e]
        exact rmove_ok_45 b.f0 b.f1 b.f2 b.f3 b.bo b.wa b.bu n w hg hn.1 hn.2 (by omega)
    · have e : mv b 4 5 n = (b, 2) := by rw [mv, if_pos (.inr hn)]
      rw [e]
      exact rmove_range_in b.f0 b.f1 b.f2 b.f3 b.bo b.wa b.bu _ _ n w hg hn
  · have e : mv b 4 5 n = (b, 2) := by rw [mv, if_pos (.inl (by simpa using hg))]
    rw [e]
    exact rmove_range_bad b.f0 b.f1 b.f2 b.f3 b.bo b.wa b.bu _ _ n w (by simpa [Bk.good] using hg)
theorem rmv_46 (b : Bk) (n : Int) (w : World) :
    Calls Tryz.prog 156 #[.agg #[.int .i64 b.f0, .int .i64 b.f1, .int .i64 b.f2, .int .i64 b.f3, .int .i64 b.bo, .int .i64 b.wa, .int .i64 b.bu], .int .i64 4, .int .i64 6, .int .i64 n] w fun e w' => e = .returned (.tuple #[.agg #[.int .i64 (mv b 4 6 n).1.f0, .int .i64 (mv b 4 6 n).1.f1, .int .i64 (mv b 4 6 n).1.f2, .int .i64 (mv b 4 6 n).1.f3, .int .i64 (mv b 4 6 n).1.bo, .int .i64 (mv b 4 6 n).1.wa, .int .i64 (mv b 4 6 n).1.bu], .int .i64 (mv b 4 6 n).2]) ∧ Below w.heap.size w w' := by
  by_cases hg : b.good = true
  · by_cases hn : 0 ≤ n ∧ n ≤ 1125899906842624
    · have h1 : ¬ (b.good = false ∨ ¬ (0 ≤ n ∧ n ≤ 1125899906842624)) := by rw [hg]; simp [hn]
      by_cases hl : b.bo < n
      · have e : mv b 4 6 n = (b, 7) := by rw [mv, if_neg h1, if_pos (show b.get 4 < n from hl)]
        rw [e]
        exact rmove_funds_4 b.f0 b.f1 b.f2 b.f3 b.bo b.wa b.bu _ n w hg hn.1 hn.2 hl
      · have e : mv b 4 6 n = ((b.put 4 (b.bo - n)).put 6 (b.bu + n), 0) := by rw [mv, if_neg h1, if_neg (show ¬ b.get 4 < n from hl)]; rfl
        rw [e]
        exact rmove_ok_46 b.f0 b.f1 b.f2 b.f3 b.bo b.wa b.bu n w hg hn.1 hn.2 (by omega)
    · have e : mv b 4 6 n = (b, 2) := by rw [mv, if_pos (.inr hn)]
      rw [e]
      exact rmove_range_in b.f0 b.f1 b.f2 b.f3 b.bo b.wa b.bu _ _ n w hg hn
  · have e : mv b 4 6 n = (b, 2) := by rw [mv, if_pos (.inl (by simpa using hg))]
    rw [e]
    exact rmove_range_bad b.f0 b.f1 b.f2 b.f3 b.bo b.wa b.bu _ _ n w (by simpa [Bk.good] using hg)
theorem rmv_56 (b : Bk) (n : Int) (w : World) :
    Calls Tryz.prog 156 #[.agg #[.int .i64 b.f0, .int .i64 b.f1, .int .i64 b.f2, .int .i64 b.f3, .int .i64 b.bo, .int .i64 b.wa, .int .i64 b.bu], .int .i64 5, .int .i64 6, .int .i64 n] w fun e w' => e = .returned (.tuple #[.agg #[.int .i64 (mv b 5 6 n).1.f0, .int .i64 (mv b 5 6 n).1.f1, .int .i64 (mv b 5 6 n).1.f2, .int .i64 (mv b 5 6 n).1.f3, .int .i64 (mv b 5 6 n).1.bo, .int .i64 (mv b 5 6 n).1.wa, .int .i64 (mv b 5 6 n).1.bu], .int .i64 (mv b 5 6 n).2]) ∧ Below w.heap.size w w' := by
  by_cases hg : b.good = true
  · by_cases hn : 0 ≤ n ∧ n ≤ 1125899906842624
    · have h1 : ¬ (b.good = false ∨ ¬ (0 ≤ n ∧ n ≤ 1125899906842624)) := by rw [hg]; simp [hn]
      by_cases hl : b.wa < n
      · have e : mv b 5 6 n = (b, 7) := by rw [mv, if_neg h1, if_pos (show b.get 5 < n from hl)]
        rw [e]
        exact rmove_funds_5 b.f0 b.f1 b.f2 b.f3 b.bo b.wa b.bu _ n w hg hn.1 hn.2 hl
      · have e : mv b 5 6 n = ((b.put 5 (b.wa - n)).put 6 (b.bu + n), 0) := by rw [mv, if_neg h1, if_neg (show ¬ b.get 5 < n from hl)]; rfl
        rw [e]
        exact rmove_ok_56 b.f0 b.f1 b.f2 b.f3 b.bo b.wa b.bu n w hg hn.1 hn.2 (by omega)
    · have e : mv b 5 6 n = (b, 2) := by rw [mv, if_pos (.inr hn)]
      rw [e]
      exact rmove_range_in b.f0 b.f1 b.f2 b.f3 b.bo b.wa b.bu _ _ n w hg hn
  · have e : mv b 5 6 n = (b, 2) := by rw [mv, if_pos (.inl (by simpa using hg))]
    rw [e]
    exact rmove_range_bad b.f0 b.f1 b.f2 b.f3 b.bo b.wa b.bu _ _ n w (by simpa [Bk.good] using hg)
theorem rbond_any (b : Bk) (d n : Int) (w : World) : Calls Tryz.prog 101 #[.agg #[.int .i64 b.f0, .int .i64 b.f1, .int .i64 b.f2, .int .i64 b.f3, .int .i64 b.bo, .int .i64 b.wa, .int .i64 b.bu], .int .i64 d, .int .i64 n] w fun e w' => e = .returned (.tuple #[.agg #[.int .i64 (bondR b d n).1.f0, .int .i64 (bondR b d n).1.f1, .int .i64 (bondR b d n).1.f2, .int .i64 (bondR b d n).1.f3, .int .i64 (bondR b d n).1.bo, .int .i64 (bondR b d n).1.wa, .int .i64 (bondR b d n).1.bu], .int .i64 (bondR b d n).2]) ∧ Below w.heap.size w w' := by
  by_cases h : 0 ≤ d ∧ d < 4
  · rw [bondR, if_pos h]
    refine rbond_walk b.f0 b.f1 b.f2 b.f3 b.bo b.wa b.bu d n (mv b d.toNat 4 n).1.f0 (mv b d.toNat 4 n).1.f1 (mv b d.toNat 4 n).1.f2 (mv b d.toNat 4 n).1.f3 (mv b d.toNat 4 n).1.bo (mv b d.toNat 4 n).1.wa (mv b d.toNat 4 n).1.bu (mv b d.toNat 4 n).2 w h.1 h.2 ?_
    intro w
    rcases (show d = 0 ∨ d = 1 ∨ d = 2 ∨ d = 3 by omega) with rfl | rfl | rfl | rfl
    · exact rmv_04 b n w
    · exact rmv_14 b n w
    · exact rmv_24 b n w
    · exact rmv_34 b n w
  · rw [bondR, if_neg h]
    exact rbond_no b.f0 b.f1 b.f2 b.f3 b.bo b.wa b.bu d n w h
theorem runbond_any (b : Bk) (n : Int) (w : World) : Calls Tryz.prog 119 #[.agg #[.int .i64 b.f0, .int .i64 b.f1, .int .i64 b.f2, .int .i64 b.f3, .int .i64 b.bo, .int .i64 b.wa, .int .i64 b.bu], .int .i64 n] w fun e w' => e = .returned (.tuple #[.agg #[.int .i64 (unbondR b n).1.f0, .int .i64 (unbondR b n).1.f1, .int .i64 (unbondR b n).1.f2, .int .i64 (unbondR b n).1.f3, .int .i64 (unbondR b n).1.bo, .int .i64 (unbondR b n).1.wa, .int .i64 (unbondR b n).1.bu], .int .i64 (unbondR b n).2]) ∧ Below w.heap.size w w' :=
  runbond_walk b.f0 b.f1 b.f2 b.f3 b.bo b.wa b.bu n (mv b 4 5 n).1.f0 (mv b 4 5 n).1.f1 (mv b 4 5 n).1.f2 (mv b 4 5 n).1.f3 (mv b 4 5 n).1.bo (mv b 4 5 n).1.wa (mv b 4 5 n).1.bu (mv b 4 5 n).2 w (rmv_45 b n)
theorem rburn_any (b : Bk) (x y : Int) (w : World) : Calls Tryz.prog 129 #[.agg #[.int .i64 b.f0, .int .i64 b.f1, .int .i64 b.f2, .int .i64 b.f3, .int .i64 b.bo, .int .i64 b.wa, .int .i64 b.bu], .int .i64 x, .int .i64 y] w fun e w' => e = .returned (.tuple #[.agg #[.int .i64 (burnR b x y).1.f0, .int .i64 (burnR b x y).1.f1, .int .i64 (burnR b x y).1.f2, .int .i64 (burnR b x y).1.f3, .int .i64 (burnR b x y).1.bo, .int .i64 (burnR b x y).1.wa, .int .i64 (burnR b x y).1.bu], .int .i64 (burnR b x y).2]) ∧ Below w.heap.size w w' := by
  refine rburn_walk b.f0 b.f1 b.f2 b.f3 b.bo b.wa b.bu x y (mv b 4 6 x).1.f0 (mv b 4 6 x).1.f1 (mv b 4 6 x).1.f2 (mv b 4 6 x).1.f3 (mv b 4 6 x).1.bo (mv b 4 6 x).1.wa (mv b 4 6 x).1.bu (mv b 4 6 x).2 (mv (mv b 4 6 x).1 5 6 y).1.f0 (mv (mv b 4 6 x).1 5 6 y).1.f1 (mv (mv b 4 6 x).1 5 6 y).1.f2 (mv (mv b 4 6 x).1 5 6 y).1.f3 (mv (mv b 4 6 x).1 5 6 y).1.bo (mv (mv b 4 6 x).1 5 6 y).1.wa (mv (mv b 4 6 x).1 5 6 y).1.bu (mv (mv b 4 6 x).1 5 6 y).2 (burnR b x y).1.f0 (burnR b x y).1.f1 (burnR b x y).1.f2 (burnR b x y).1.f3 (burnR b x y).1.bo (burnR b x y).1.wa (burnR b x y).1.bu (burnR b x y).2 w ?_ (rmv_46 b x) (rmv_56 (mv b 4 6 x).1 y)
  unfold burnR
  by_cases h1 : (mv b 4 6 x).2 = 0
  · by_cases h2 : (mv (mv b 4 6 x).1 5 6 y).2 = 0
    · rw [if_pos h1, if_pos h2]
      exact .inr (.inr ⟨h1, h2, rfl, rfl, rfl, rfl, rfl, rfl, rfl, rfl⟩)
    · rw [if_pos h1, if_neg h2]
      exact .inr (.inl ⟨h1, h2, rfl, rfl, rfl, rfl, rfl, rfl, rfl, rfl⟩)
  · rw [if_neg h1]
    exact .inl ⟨h1, rfl, rfl, rfl, rfl, rfl, rfl, rfl, rfl⟩
end Go.Proofs.YtkhlihpghbhppaaGreat

