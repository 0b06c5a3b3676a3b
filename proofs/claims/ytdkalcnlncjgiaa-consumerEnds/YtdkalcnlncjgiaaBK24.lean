/- Parts of the proof: KRY. -/
import Derived.Test.YtdkalcnlncjgiaaRows
import Derived.Test.YtdkalcnlncjgiaaBK18
import Derived.Test.YtdkalcnlncjgiaaBK19
import Derived.Test.YtdkalcnlncjgiaaBK22
import Derived.Test.YtdkalcnlncjgiaaBK23
set_option maxRecDepth 100000
namespace Go.Proofs.Ytdkalcnlncjgiaa.Kc
open Go.RowKit Pv
/-- what a consumer's function answers, with k blocks of its own -/
def AnsK (k : Nat) (P : Nat → Prop) (w : World) (r : Cs × Int) (e : Ending) (w' : World) : Prop := ∃ v', e = .returned (.tuple #[.agg (csC r.1 v'), .int .i64 r.2]) ∧ CIn (New P w k) w' r.1 v' ∧ Below w.heap.size w w'
theorem cs_endK {f : Func} {t q : Tmp} (hres : f.results = #[.cell t 33, .tmp q]) {P : Nat → Prop} {w wq : World} {zs : Array Value} {k g : Nat} (R : CAt 33 wq g zs) (hz : zs.size = 22) (H : Below w.heap.size w wq) (hg : w.heap.size ≤ g) (hn : ¬ New P w k g) (c' : Cs) (v' : CsV) (er : Int) (r : Cs × Int) (hr : r = (c', er)) (hp : CIn (New P w k) wq c' v') (act : Act)
    (h8 : act.tmps.getD t undef = .pointer (some ⟨g, 0, none⟩)) (h9 : act.tmps.getD q undef = .int .i64 er) (hd : act.defers = []) :
    bodyPost Try.prog f (AnsK k P w r) Exit.ret act (wq.setCells g 0 (csC c' v').toList) := by
  subst hr
  have R3 := R.setAll (ds := csC c' v') (by rw [hz]; rfl)
  exact bodyPost_ret (v := .tuple #[.agg (csC c' v'), .int .i64 er]) (results_cs2 hres _ _ _ _ _ h8 h9 R3 rfl) hd ⟨v', rfl, hp.sets hn _ _, below_sets hg _ _ _ H⟩
/-- a consumer and a packet that come in by value, and the answer's block -/
structure BegP (P : Nat → Prop) (w w0 : World) (c : Cs) (v : CsV) (k i x n : Int) : Prop where
  C0 : CAt 33 w0 w.heap.size (csC c v)
  K0 : CAt 46 w0 (w.heap.size + 1) #[.int .i64 k, .int .i64 i, .int .i64 x, .int .i64 n, .slice none 0 0, .slice none 0 0]
  R0 : CAt 33 w0 (w.heap.size + 2) Z22
  B0 : Below w.heap.size w w0
  I0 : CIn P w0 c v
  N0 : CIn (New P w 3) w0 c v
theorem begP {P : Nat → Prop} {w : World} {c : Cs} {v : CsV} (hp : CIn P w c v) (k i x n : Int) : BegP P w (((w.alloc (.cells (csC c v) 33)).alloc (.cells #[.int .i64 k, .int .i64 i, .int .i64 x, .int .i64 n, .slice none 0 0, .slice none 0 0] 46)).alloc (.cells Z22 33)) c v k i x n := by
  have hb : Below w.heap.size w (((w.alloc (.cells (csC c v) 33)).alloc (.cells #[.int .i64 k, .int .i64 i, .int .i64 x, .int .i64 n, .slice none 0 0, .slice none 0 0] 46)).alloc (.cells Z22 33)) := (((Below.refl _ w).alloc (Nat.le_refl _) _).alloc (by simp) _).alloc (by simp; omega) _
  refine ⟨((CAt.new _ w _).alloc _).alloc _, (CAt.new2 _ w _ _).alloc _, ?_, hb, hp.over hb, hp.ofNew hb 3⟩
  have := CAt.new 33 ((w.alloc (.cells (csC c v) 33)).alloc (.cells #[.int .i64 k, .int .i64 i, .int .i64 x, .int .i64 n, .slice none 0 0, .slice none 0 0] 46)) Z22
  rwa [show ((w.alloc (.cells (csC c v) 33)).alloc (.cells #[.int .i64 k, .int .i64 i, .int .i64 x, .int .i64 n, .slice none 0 0, .slice none 0 0] 46)).heap.size = w.heap.size + 2 by simp] at this
theorem BegP.over {P : Nat → Prop} {w w0 w1 : World} {c : Cs} {v : CsV} {k i x n : Int} (h : BegP P w w0 c v k i x n) (hb : Below w0.heap.size w0 w1) : BegP P w w1 c v k i x n :=
  ⟨h.C0.over hb, h.K0.over hb, h.R0.over hb, h.B0.trans (hb.mono h.B0.size), h.I0.over hb, h.N0.over hb⟩
theorem BegP.asItWas {f : Func} {t q : Tmp} (hres : f.results = #[.cell t 33, .tmp q]) {P : Nat → Prop} {w w0 : World} {c : Cs} {v : CsV} {k i x n : Int} (h : BegP P w w0 c v k i x n) (er : Int) (r : Cs × Int) (hr : r = (c, er)) (act : Act)
    (h8 : act.tmps.getD t undef = .pointer (some ⟨w.heap.size + 2, 0, none⟩)) (h9 : act.tmps.getD q undef = .int .i64 er) (hd : act.defers = []) :
    bodyPost Try.prog f (AnsK 3 P w r) Exit.ret act (w0.setCells (w.heap.size + 2) 0 (csC c v).toList) := cs_endK hres h.R0 Z22_size h.B0 (by omega) (new_no (by omega)) c v er r hr h.N0 act h8 h9 hd
theorem BegP.facts {P : Nat → Prop} {w w0 : World} {c : Cs} {v : CsV} {k i x n : Int} (h : BegP P w w0 c v k i x n) : (loadC (.pointer (some ⟨w.heap.size, 0, none⟩))).run Try.prog w0 = .ok (.agg (csC c v)) w0 ∧ (storeC (.pointer (some ⟨w.heap.size + 2, 0, none⟩)) (.agg (csC c v))).run Try.prog w0 = .ok () (w0.setCells (w.heap.size + 2) 0 (csC c v).toList) :=
  ⟨cs_load h.C0 (csC_size _ _), cs_store h.R0 Z22_size (csC_size c v) (cs_one h.I0)⟩
attribute [local go_sem ↓] loadC_eq storeC_eq
set_option maxHeartbeats 8000000 in
theorem rsaying_any (c : Cs) (v : CsV) (k i x n now : Int) (P : Nat → Prop) (w : World) (hp : CIn P w c v) (hn0 : 0 ≤ now) (hn1 : now ≤ 1099511627776) (h80 : c.pd.length * 80 ≤ 140737488351232) (h16 : c.rp.length * 16 ≤ 168884986026393) :
    Calls Try.prog 25 #[.agg (csC c v), .agg #[.int .i64 k, .int .i64 i, .int .i64 x, .int .i64 n, .slice none 0 0, .slice none 0 0], .int .i64 now] w (AnsK 3 P w (sayC c k i x n now)) := by
  have HD : Hid (sayC c k i x n now = if Cd.goodN k i x n [] [] = 0 then ({ c with out := Ln.sayL c.out (Cd.encS k i x n [] []) (now + 40) }, Ln.sayE c.out (now + 40)) else (c, Cd.goodN k i x n [] [])) := rfl
  have HER := hide (fun h => say_er (c := c) (k := k) (i := i) (x := x) (n := n) (now := now) h)
  generalize sayC c k i x n now = D at *
  have HEN := hide (fun (wx : World) => Cd.ep_any k i x n [] [] none none 0 0 0 0 0 0 wx ⟨by simp, by simp, by simp, by simp, fun i hi => absurd hi (by simp), fun i hi => absurd hi (by simp)⟩)
  generalize Cd.encS k i x n [] [] = s at *
  generalize Cd.goodN k i x n [] [] = E at *
  have HB := hide (begP hp k i x n)
  have HSY := hide (fun (wx : World) (h : BegP P w wx c v k i x n) => rsay_rep c.out s (now + 40) v.said v.due (New P w 3) wx h.N0.said h.N0.due)
  have HCP := hide (fun (wx : World) (h : BegP P w wx c v k i x n) => rcopyc_any c v P wx h.I0 h80 h16)
  have HCI := hide (fun (B L : Nat) (wx : World) (u : CsV) (h : CCp B L wx c u) => (show _ ∧ _ from ⟨h.cin h80 h16, h.rpRep h16⟩))
  have HP := hide hp
  clear hp h80 h16
  go_enter Try.func25, Try.ntmps25
  go_upto_region 1 with fail
  change Code.wp Try.prog _ _ _ (((w.alloc (.cells (csC c v) 33)).alloc (.cells #[.int .i64 k, .int .i64 i, .int .i64 x, .int .i64 n, .slice none 0 0, .slice none 0 0] 46)).alloc (.cells Z22 33))
  generalize ((w.alloc (.cells (csC c v) 33)).alloc (.cells #[.int .i64 k, .int .i64 i, .int .i64 x, .int .i64 n, .slice none 0 0, .slice none 0 0] 46)).alloc (.cells Z22 33) = w0 at *
  have k0 : w0.cell? ⟨w.heap.size + 1, 0, none⟩ = some (.int .i64 k) := HB.out.K0.cell 0
  have k1 : w0.cell? ⟨w.heap.size + 1, 1, none⟩ = some (.int .i64 i) := HB.out.K0.cell 1
  have k2 : w0.cell? ⟨w.heap.size + 1, 2, none⟩ = some (.int .i64 x) := HB.out.K0.cell 2
  have k3 : w0.cell? ⟨w.heap.size + 1, 3, none⟩ = some (.int .i64 n) := HB.out.K0.cell 3
  have k4 : w0.cell? ⟨w.heap.size + 1, 4, none⟩ = some (.slice none 0 0) := HB.out.K0.cell 4
  have k5 : w0.cell? ⟨w.heap.size + 1, 5, none⟩ = some (.slice none 0 0) := HB.out.K0.cell 5
  go_upto_region 2 with (go_at_call 40; refine (HEN.out _).mono ?_; rintro e w1 ⟨rfl, hb1⟩; have HB1 := hide (HB.out.over hb1); clear hb1 k0 k1 k2 k3 k4 k5)
  by_cases hE : E = 0
  rotate_left
  · have HR := hide (HD.out.trans (if_neg hE))
    have hE' : (E != 0) = true := by simpa using hE
    obtain ⟨l1, s1⟩ := HB1.out.facts
    go_wp2
    exact HB1.out.asItWas Try.results25 _ _ HR.out _ rfl rfl rfl
  subst hE
  have HR := hide (HD.out.trans (if_pos rfl))
  clear HD
  obtain ⟨-, -, ⟨a14, a15, a16, a17⟩⟩ := cs_facts HB1.out.C0
  have HEQ : Hid (Ln.sayE c.out (now + 40) ≠ 0 → D.1 = c) := fun h => HER.out (by rw [HR.out]; exact h)
  generalize (Ln.sayL c.out s (now + 40)) = L' at *
  generalize (Ln.sayE c.out (now + 40)) = E' at *
  go_upto_region 5 with (go_at_call 41; refine (HSY.out _ HB1.out).mono ?_; rintro e w2 ⟨u1, u2, rfl, r1, r2, hb2⟩; have ⟨A1, n1, D1, D1', e1, _, _⟩ := id r1; have ⟨A2, n2, D2, D2', e2, _, _⟩ := id r2; subst e1 e2; clear a14 a15 a16 a17)
  have bA : Below w2.heap.size w2 (w2.alloc (.cells #[.slice A1 n1 D1, .slice A2 n2 D2, .int .i64 L'.g, .bool L'.cl] 29)) := (Below.refl _ w2).alloc (Nat.le_refl _) _
  have K3 := CAt.new 29 w2 #[.slice A1 n1 D1, .slice A2 n2 D2, .int .i64 L'.g, .bool L'.cl]
  have HB3 := hide ((HB1.out.over hb2).over bA)
  have hz1 : w.heap.size + 3 ≤ w1.heap.size := HB1.out.R0.lt
  have hz12 := hb2.size
  have HRR := hide (show _ ∧ _ from ⟨r1.over bA, r2.over bA⟩)
  clear r1 r2 hb2 bA
  generalize w2.alloc (.cells #[.slice A1 n1 D1, .slice A2 n2 D2, .int .i64 L'.g, .bool L'.cl] 29) = w3 at *
  have hk3 := K3.lt
  by_cases hE : E' = 0
  rotate_left
  · have e1 := HEQ.out hE
    have HR2 : Hid (D = (c, E')) := by rw [← e1, HR.out]; rfl
    have hE' : (E' != 0) = true := by simpa using hE
    obtain ⟨l1, s1⟩ := HB3.out.facts
    clear HR e1 K3
    go_wp2
    exact HB3.out.asItWas Try.results25 _ _ HR2.out _ rfl rfl rfl
  subst hE
  obtain ⟨l3, -⟩ := HB3.out.facts
  have HK3 := hide K3
  clear K3 HEQ HER
  have HSV : Hid (∀ (w4 : World) (v4 : CsV), Below w3.heap.size w3 w4 → CIn (fun b => w3.heap.size + 2 ≤ b) w4 c v4 → (storeC (.pointer (some ⟨w.heap.size, 0, none⟩)) (.agg (csC c v4))).run Try.prog w4 = .ok () (w4.setCells w.heap.size 0 (csC c v4).toList)) := fun w4 v4 hb h4 => cs_store (HB3.out.C0.over hb) (csC_size _ _) (csC_size c v4) (cs_one h4)
  go_upto_region 8 with (go_at_call 5; refine (HCP.out _ HB3.out).mono ?_; rintro e w4 ⟨v4, L, rfl, N4, hb4⟩; have I4 := (HCI.out _ _ _ _ N4).1; have s4 := HSV.out w4 v4 hb4 I4; clear l3)
  have hz3 : w.heap.size + 3 ≤ w3.heap.size := HB3.out.R0.lt
  have C5 : CAt 33 (w4.setCells w.heap.size 0 (csC c v4).toList) w.heap.size (csC c v4) := (HB3.out.C0.over hb4).setAll rfl
  have R5 : CAt 33 (w4.setCells w.heap.size 0 (csC c v4).toList) (w.heap.size + 2) Z22 := (HB3.out.R0.over hb4).others (by omega) _
  have B5 : Below w.heap.size w (w4.setCells w.heap.size 0 (csC c v4).toList) := below_sets (Nat.le_refl _) _ _ _ (HB3.out.B0.trans (hb4.mono HB3.out.B0.size))
  have I5 : CIn (New P w 3) (w4.setCells w.heap.size 0 (csC c v4).toList) c v4 := (I4.keep fun b hb _ => heap_sets (by omega) _ _ _).mono fun b _ hb => .inr (by omega)
  have K5 := (HK3.out.over hb4).others (c := w.heap.size) (o := 0) (by omega) (csC c v4).toList
  have hrp5 : ∀ {u : Value} {s t : Nat} {cs' : List Value}, RepC (New (New P w 3) w1 0) w3 u s t cs' → RepC (New P w 3) (w4.setCells w.heap.size 0 (csC c v4).toList) u s t cs' := fun h => by
    have h1 : RepC (New P w 3) w3 _ _ _ _ := h.mono fun b hl hb => by
      rcases hb with ⟨hb, hl'⟩ | hb
      · exact hb
      · exact .inr (by omega)
    exact (h1.over hb4).keep fun b hb _ => heap_sets (fun e => new_no (P := P) (w := w) (k := 3) (j := 0) (by omega) (by rw [Nat.add_zero, ← e]; exact hb)) _ _ _
  have r5 := And.intro (hrp5 HRR.out.1) (hrp5 HRR.out.2)
  have hng : ¬ New P w 3 w.heap.size := by have := new_no (P := P) (w := w) (k := 3) (j := 0) (by omega); simpa using this
  have HN4 := hide N4
  clear hrp5 N4 I4 s4 HSV HK3 hb4
  generalize w4.setCells w.heap.size 0 (csC c v4).toList = w5 at *
  have k0 : w5.cell? ⟨w2.heap.size, 0, none⟩ = some (.slice A1 n1 D1) := K5.cell 0
  have k1 : w5.cell? ⟨w2.heap.size, 1, none⟩ = some (.slice A2 n2 D2) := K5.cell 1
  have k2 : w5.cell? ⟨w2.heap.size, 2, none⟩ = some (.int .i64 L'.g) := K5.cell 2
  have k3 : w5.cell? ⟨w2.heap.size, 3, none⟩ = some (.bool L'.cl) := K5.cell 3
  obtain ⟨-, -, ⟨a14, a15, a16, a17⟩⟩ := cs_facts C5
  have f14 := C5.free 14
  have f15 := C5.free 15
  have f16 := C5.free 16
  have f17 := C5.free 17
  have hgl := C5.lt
  have C6 := CAt.line C5 L' (.slice A1 n1 D1) (.slice A2 n2 D2)
  have R6 := (((R5.other (c := w.heap.size) (o := 14) (by omega) (.slice A1 n1 D1)).other (c := w.heap.size) (o := 15) (by omega) (.slice A2 n2 D2)).other (c := w.heap.size) (o := 16) (by omega) (.int .i64 L'.g)).other (c := w.heap.size) (o := 17) (by omega) (.bool L'.cl)
  have B6 := (((B5.setCell (p := ⟨w.heap.size, 14, none⟩) (Nat.le_refl _) (.slice A1 n1 D1)).setCell (p := ⟨w.heap.size, 15, none⟩) (Nat.le_refl _) (.slice A2 n2 D2)).setCell (p := ⟨w.heap.size, 16, none⟩) (Nat.le_refl _) (.int .i64 L'.g)).setCell (p := ⟨w.heap.size, 17, none⟩) (Nat.le_refl _) (.bool L'.cl)
  have I6' : CIn (New P w 3) w5 { c with out := L' } { v4 with said := .slice A1 n1 D1, due := .slice A2 n2 D2 } := ⟨I5.set, I5.pd, I5.rp, r5.1, r5.2⟩
  have I6 := (((I6'.set1 hng 14 (.slice A1 n1 D1)).set1 hng 15 (.slice A2 n2 D2)).set1 hng 16 (.int .i64 L'.g)).set1 hng 17 (.bool L'.cl)
  have l6 := cs_load C6 (csC_size _ _)
  have s6 := cs_store R6 Z22_size (csC_size { c with out := L' } { v4 with said := .slice A1 n1 D1, due := .slice A2 n2 D2 }) (cs_one I6)
  have HZ := hide (show _ ∧ _ ∧ _ from ⟨R6, B6, I6⟩)
  clear C6 R6 B6 I6 I6' r5 C5 R5 B5 I5 K5 HN4 HRR HB3 HB1 HB HSY HCP HCI HEN HP
  go_upto_region 9 with fail
  clear k0 k1 k2 k3 a14 a15 a16 a17 f14 f15 f16 f17
  generalize (((w5.setCell ⟨w.heap.size, 14, none⟩ (.slice A1 n1 D1)).setCell ⟨w.heap.size, 15, none⟩ (.slice A2 n2 D2)).setCell ⟨w.heap.size, 16, none⟩ (.int .i64 L'.g)).setCell ⟨w.heap.size, 17, none⟩ (.bool L'.cl) = w6 at *
  go_wp2
  exact cs_endK Try.results25 HZ.out.1 Z22_size HZ.out.2.1 (by omega) (new_no (by omega)) _ _ 0 D HR.out HZ.out.2.2 _ rfl rfl rfl
end Go.Proofs.Ytdkalcnlncjgiaa.Kc

