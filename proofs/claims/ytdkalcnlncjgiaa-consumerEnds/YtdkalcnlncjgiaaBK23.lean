/- Parts of the proof: KTC. -/
import Derived.Test.YtdkalcnlncjgiaaRows
import Derived.Test.YtdkalcnlncjgiaaBK17
import Derived.BigQuiet
import Derived.Deep.QuietTactic
set_option maxRecDepth 100000
namespace Go.Proofs.Ytdkalcnlncjgiaa.Kc
open Go.RowKit Pv
theorem Rep.tail {P : Nat → Prop} {w : World} {b off n C : Nat} {x : Int × Int} {l : List (Int × Int)} (h : Rep P w (.slice (some ⟨b, off, none⟩) n C) 2 8 (pwC (x :: l))) : Rep P w (.slice (if C = 1 then some ⟨b, off, none⟩ else some ⟨b, off + 2, none⟩) l.length (C - 1)) 2 8 (pwC l) := by
  obtain ⟨A, m, C', h1, h2, h3, h4, h5⟩ := h
  cases h1
  rw [pwC_length, List.length_cons] at h2
  have hm : n = l.length + 1 := by omega
  refine ⟨_, l.length, C - 1, rfl, pwC_length _, by omega, ⟨fun h => (by split at h <;> cases h), by omega⟩, fun h0 => ?_⟩
  obtain ⟨b', off', e, hP, hl, hc⟩ := h5 (by omega)
  cases e
  refine ⟨b, off + 2, if_neg (by omega), hP, hl, fun j u hu => ?_⟩
  have := hc (j + 2) u (by show ([_, _] ++ pwC l)[j + 2]? = _; simpa using hu)
  rwa [show off + (j + 2) = off + 2 + j by omega] at this
theorem say_rp (c : Cs) (k i x n now : Int) : (sayC c k i x n now).1.rp = c.rp ∧ (sayC c k i x n now).1.t = c.t := by unfold sayC; split <;> exact ⟨rfl, rfl⟩
theorem say_er {c : Cs} {k i x n now : Int} (h : (sayC c k i x n now).2 ≠ 0) : (sayC c k i x n now).1 = c := by
  unfold sayC at h ⊢
  split at h
  · rename_i hg
    rw [if_pos hg]
    dsimp only at h ⊢
    unfold Ln.sayL
    rw [if_neg h]
  · rename_i hg
    rw [if_neg hg]
/-- how long the ripes of a consumer are, as its block says -/
def rpLen (g : Nat) (w : World) : Nat := match w.cell? ⟨g, 7, none⟩ with
  | some (.slice _ n _) => n
  | _ => 0
theorem CAt.rpLen {w : World} {g : Nat} {c : Cs} {v : CsV} (h : CAt 33 w g (csC c v)) {A : Option Addr} {n C : Nat} (e : v.rp = .slice A n C) : rpLen g w = n := by
  unfold Kc.rpLen
  rw [show w.cell? ⟨g, 7, none⟩ = some (.slice A n C) by rw [← e]; exact h.cell 7]
theorem ripe_nil {c : Cs} (h : c.rp = []) : ripeC c c.rp = c := by
  rw [h]
  show { c with rp := [] } = c
  rw [← h]
theorem ripe_cons {c : Cs} {x : Int × Int} {l : List (Int × Int)} (h : c.rp = x :: l) : ripeC c c.rp = if x.2 ≤ c.t then (if (sayC c 2 x.1 0 0 c.t).2 = 0 then ripeC (sayC c 2 x.1 0 0 c.t).1 l else c) else c := by
  rw [h]
  have e : { c with rp := x :: l } = c := by rw [← h]
  show (if x.2 ≤ c.t then (if (sayC c 2 x.1 0 0 c.t).2 = 0 then ripeC (sayC c 2 x.1 0 0 c.t).1 l else { c with rp := x :: l }) else { c with rp := x :: l }) = _
  rw [e]
theorem ripe_tail (c : Cs) (l : List (Int × Int)) : ∀ m, ripeC { c with rp := m } l = ripeC c l := by
  induction l generalizing c with
  | nil => intro m; rfl
  | cons x l ih =>
    intro m
    have e : sayC { c with rp := m } 2 x.1 0 0 c.t = ({ (sayC c 2 x.1 0 0 c.t).1 with rp := m }, (sayC c 2 x.1 0 0 c.t).2) := by unfold sayC; split <;> rfl
    show (if x.2 ≤ c.t then (if (sayC { c with rp := m } 2 x.1 0 0 c.t).2 = 0 then ripeC (sayC { c with rp := m } 2 x.1 0 0 c.t).1 l else { c with rp := x :: l }) else { c with rp := x :: l }) = (if x.2 ≤ c.t then (if (sayC c 2 x.1 0 0 c.t).2 = 0 then ripeC (sayC c 2 x.1 0 0 c.t).1 l else { c with rp := x :: l }) else { c with rp := x :: l })
    rw [e]
    dsimp only
    rw [ih]
set_option maxHeartbeats 8000000 in
theorem csayRipe_any (g : Nat) (c : Cs) (v : CsV) (P : Nat → Prop) (w : World) (h : CAt 33 w g (csC c v)) (hp : CIn P w c v) (hg : ¬ P g) (ht0 : 0 ≤ c.t) (ht1 : c.t ≤ 1099511627776) :
    Calls Try.prog 22 #[.pointer (some ⟨g, 0, none⟩)] w (TurnsC w g P (ripeC c c.rp) (.tuple #[])) := by
  obtain ⟨D, hD⟩ : ∃ D, ripeC c c.rp = D := ⟨_, rfl⟩
  rw [hD]
  have hng := new_not hg h.lt
  have HS := hide (show CAt 33 w g (csC c v) ∧ CIn (New P w 0) w c v ∧ ripeC c c.rp = D from ⟨h, hp.ofNew (Below.refl _ _) 0, hD⟩)
  clear h hp hD
  go_enter Try.func22, Try.ntmps22
  go_wp2
  go_loopw [2] (fun _ wl => ∃ (d : Cs) (u : CsV), Hid (CAt 33 wl g (csC d u) ∧ CIn (New P w 0) wl d u ∧ ripeC d d.rp = D) ∧ Hid (Alt g w wl) ∧ Hid (d.t = c.t)) (fun _ wl => rpLen g wl)
  case atStart => exact ⟨c, v, HS, Alt.refl _ _, rfl⟩
  case round =>
    obtain ⟨d, u, HX, HA, HDT⟩ := hrel
    obtain ⟨Ar, Cr, er, -, hn0, hcr, -⟩ := HX.out.2.1.rp.open (pwC_length _) (by decide)
    have hroom := HX.out.2.1.rp.room er
    have a7 : wr.cell? ⟨g, 7, none⟩ = some (.slice Ar d.rp.length Cr) := by rw [← er]; exact HX.out.1.cell 7
    have a3 : wr.cell? ⟨g, 3, none⟩ = some (.int .i64 d.t) := HX.out.1.cell 3
    have alt : ∀ {wx : World}, Alt g w wx → ∀ n, Alt g w (wx.drewN n) := fun h n => ⟨h.os, h.tape, h.output, h.size, h.block⟩
    cases hrp : d.rp with
    | nil =>
      rw [hrp] at a7
      have eD : D = d := by rw [← HX.out.2.2, ripe_nil hrp]
      have HED := hide eD
      clear eD
      go_upto_region 0 with fail
      go_quiet (fail)
      go_wp2
      go_end0
      rw [HED.out]
      exact ⟨u, rfl, HX.out.1, HX.out.2.1.keep fun _ _ _ => rfl, alt HA.out _⟩
    | cons x l =>
      have eD : D = if x.2 ≤ d.t then (if (sayC d 2 x.1 0 0 d.t).2 = 0 then ripeC (sayC d 2 x.1 0 0 d.t).1 l else d) else d := by rw [← HX.out.2.2, ripe_cons hrp]
      have HED := hide eD
      clear eD
      have hlen : d.rp.length = l.length + 1 := by rw [hrp]; rfl
      have hpos : (0 : Int) < ((l.length : Int) + 1) := by omega
      obtain ⟨b, off, rfl, -, hbl, hcell⟩ := hcr (by omega)
      rw [hlen] at a7
      have c0 : wr.cell? ⟨b, off, none⟩ = some (.int .i64 x.1) := hcell 0 _ (by rw [hrp]; rfl)
      have c1 : wr.cell? ⟨b, off + 1, none⟩ = some (.int .i64 x.2) := hcell 1 _ (by rw [hrp]; rfl)
      obtain ⟨x1, x2⟩ := x
      dsimp only at c0 c1 HED
      have hrl := CAt.rpLen HX.out.1 er
      rw [hlen] at hrl
      have HRL := hide hrl
      clear hcell hcr hn0 hrl
      by_cases hdue : x2 ≤ d.t
      · replace HED := hide (HED.out.trans (if_pos hdue))
        have HSY := hide (fun (wx : World) (hb : Below wr.heap.size wr wx) => csay_any g d u 2 x1 0 0 d.t (New P w 0) wx (HX.out.1.over hb) (HX.out.2.1.over hb) hng (by rw [HDT.out]; exact ht0) (by rw [HDT.out]; exact ht1))
        have hrp' := say_rp d 2 x1 0 0 d.t
        have HER := hide (fun h => say_er (c := d) (k := 2) (i := x1) (x := 0) (n := 0) (now := d.t) h)
        generalize hSS : sayC d 2 x1 0 0 d.t = SS at *
        obtain ⟨d2, e2⟩ := SS
        dsimp only at HSY HED hrp' HER
        go_upto_region 0 with fail
        go_quiet (fail)
        go_upto_region 1 with fail
        have b1 : Below wr.heap.size wr (wr.drewN nq) := ⟨rfl, rfl, rfl, Nat.le_refl _, fun _ _ => rfl⟩
        have d7 : (wr.drewN nq).cell? ⟨g, 7, none⟩ = some (.slice (some ⟨b, off, none⟩) (l.length + 1) Cr) := a7
        have d3 : (wr.drewN nq).cell? ⟨g, 3, none⟩ = some (.int .i64 d.t) := a3
        have d0 : (wr.drewN nq).cell? ⟨b, off, none⟩ = some (.int .i64 x1) := c0
        have HX1 := hide (show _ ∧ _ ∧ _ from ⟨HX.out.1.over b1, HX.out.2.1.over b1, alt HA.out nq⟩)
        have HB1 := hide b1
        clear a7 a3 c0 c1 b1 hbl alt
        generalize wr.drewN nq = w1 at *
        apply wp_join (fun w2 => ∃ u2, CAt 33 w2 g (csC d2 u2) ∧ CIn (New P w 0) w2 d2 u2 ∧ Alt g w w2)
        · refine wp_region_noPanic ?_
          go_region_with (go_at_call 33; refine (HSY.out _ (by exact HB1.out.drew)).mono ?_; rintro e w2 ⟨u2, rfl, C2, I2, A2⟩; have HW := hide (show _ ∧ _ ∧ _ from ⟨C2, I2, A2⟩); clear C2 I2 A2)
          all_goals
            obtain ⟨C2, I2, A2⟩ := HW.out
            have A1 := HX1.out.2.2
            have A3 : Alt g w w2 := A1.trans (Alt.trans (Alt.of (Below.refl _ w1).drew) A2)
            refine NoPanic.normal ⟨rfl, rfl, u2, C2, I2.mono fun b' _ hb' => ?_, A3⟩
            rcases hb' with ⟨hb', _⟩ | hb'
            · exact hb'
            · exact .inr (Nat.le_trans A1.size hb')
        rintro w2 ⟨u2, C2, I2, A2⟩
        clear d7 d3 d0 HSY HB1 HX1
        have hrp2 : d2.rp = (x1, x2) :: l := by rw [hrp'.1, hrp]
        have hdt2 := hide (hrp'.2.trans HDT.out)
        clear hrp'
        by_cases he : e2 = 0
        · subst he
          replace HED := hide (HED.out.trans (if_pos rfl))
          obtain ⟨A3, C3, e3, -, -, hc3, -⟩ := I2.rp.open (pwC_length _) (by decide)
          have hlen2 : d2.rp.length = l.length + 1 := by rw [hrp2]; rfl
          obtain ⟨b3, off3, rfl, -, -, -⟩ := hc3 (by omega)
          rw [hlen2] at e3
          have hroom3 := (I2.rp.room e3).1
          have hrI : (1 : Int) ≤ (l.length : Int) + 1 := by omega
          have hrI2 : (l.length : Int) + 1 ≤ (C3 : Int) := by omega
          have hrI3 : (1 : Int) ≤ (C3 : Int) := by omega
          have z7 : w2.cell? ⟨g, 7, none⟩ = some (.slice (some ⟨b3, off3, none⟩) (l.length + 1) C3) := by rw [← e3]; exact C2.cell 7
          have f7 := C2.free 7
          have hgl := C2.lt
          have r4 : Rep (New P w 0) w2 (.slice (if C3 = 1 then some ⟨b3, off3, none⟩ else some ⟨b3, off3 + 2, none⟩) l.length (C3 - 1)) 2 8 (pwC l) := Rep.tail (x := (x1, x2)) (n := l.length + 1) (by have := I2.rp; rw [e3, hrp2] at this; exact this)
          have C4 := C2.set 7 (.slice (if C3 = 1 then some ⟨b3, off3, none⟩ else some ⟨b3, off3 + 2, none⟩) l.length (C3 - 1))
          rw [set_rp d2 u2 l] at C4
          have I4' : CIn (New P w 0) w2 { d2 with rp := l } { u2 with rp := .slice (if C3 = 1 then some ⟨b3, off3, none⟩ else some ⟨b3, off3 + 2, none⟩) l.length (C3 - 1) } := ⟨I2.set, I2.pd, r4, I2.said, I2.due⟩
          have I4 := I4'.set1 hng 7 (.slice (if C3 = 1 then some ⟨b3, off3, none⟩ else some ⟨b3, off3 + 2, none⟩) l.length (C3 - 1))
          have A4 := A2.set 7 (.slice (if C3 = 1 then some ⟨b3, off3, none⟩ else some ⟨b3, off3 + 2, none⟩) l.length (C3 - 1))
          have hrl4 := CAt.rpLen C4 rfl
          have HZ := hide (show _ ∧ _ ∧ _ ∧ _ from ⟨C4, I4, A4, hrl4⟩)
          have HTL := hide (ripe_tail d2 l l)
          clear C4 I4 I4' A4 r4 hrl4 C2 I2 A2 hc3
          simp only [Exit.then]
          apply_assumption
          go_wp2
          exact ⟨⟨_, _, ⟨HZ.out.1, HZ.out.2.1, by rw [HTL.out]; exact HED.out.symm⟩, HZ.out.2.2.1, hdt2.out⟩, by rw [HZ.out.2.2.2, HRL.out]; omega⟩
        · replace HED := hide (HED.out.trans (if_neg he))
          have he' : (e2 != 0) = true := by simpa using he
          have ed : d2 = d := HER.out he
          subst ed
          have HZ := hide (show _ ∧ _ ∧ _ from ⟨C2, I2, A2⟩)
          clear C2 I2 A2
          simp only [Exit.then]
          apply_assumption
          go_wp2
          go_end0
          rw [HED.out]
          exact ⟨u2, rfl, HZ.out.1, HZ.out.2.1, HZ.out.2.2⟩
      · replace HED := hide (HED.out.trans (if_neg hdue))
        go_upto_region 0 with fail
        go_quiet (fail)
        go_wp2
        go_end0
        rw [HED.out]
        exact ⟨u, rfl, HX.out.1, HX.out.2.1.keep fun _ _ _ => rfl, alt HA.out _⟩
end Go.Proofs.Ytdkalcnlncjgiaa.Kc

