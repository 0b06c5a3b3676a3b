/- Parts of the proof: PRM PRF. -/
import Derived.Test.YtjghbciepinofaaGreatRows
import Derived.Test.YtjghbciepinofaaGreatPEK2
import Derived.Test.YtjghbciepinofaaGreatPEK49
import Derived.Test.YtjghbciepinofaaGreatPEK50
import Derived.BigQuiet
import Derived.Deep.QuietTactic
import Derived.Deep.RegionHeld3
import Derived.Maps.AppendAt
set_option maxRecDepth 100000
namespace Go.Proofs.YtjghbciepinofaaGreat.Pv
open Go.RowKit
/-- does one of a consumer wait? -/
def anyC (l : List (Int × Pkt)) (c : Int) : Bool := l.any fun b => b.1 == c
def refS (z : QS) : Pr := { z.p with q := z.left }
def refStep (r : Pr) (a : Int × Pkt) : Pr := if anyC r.q a.1 = true then { r with q := r.q ++ [a] } else if (dealP r a.1.toNat a.2).2 = true then (dealP r a.1.toNat a.2).1 else { (dealP r a.1.toNat a.2).1 with q := r.q ++ [a] }
theorem deal_ref (p : Pr) (l : List (Int × Pkt)) (c : Nat) (x : Pkt) : dealP { p with q := l } c x = ({ (dealP p c x).1 with q := l }, (dealP p c x).2) := by
  unfold dealP
  repeat' split
  all_goals rfl
structure Waits (z : QS) : Prop where
  eq : ∀ c : Nat, c < 2 → z.wt c = anyC z.left (c : Int)
theorem any_app (l : List (Int × Pkt)) (a : Int × Pkt) (c : Int) : anyC (l ++ [a]) c = (anyC l c || (a.1 == c)) := by unfold anyC; simp
theorem ref_step {z : QS} (hw : Waits z) {a : Int × Pkt} (h0 : 0 ≤ a.1) (h1 : a.1 < 2) : refStep (refS z) a = refS (stepQ z a) ∧ Waits (stepQ z a) := by
  obtain ⟨c, hc⟩ : ∃ c : Nat, a.1 = (c : Int) := ⟨a.1.toNat, by omega⟩
  have e := hw.eq c (by omega)
  unfold refStep stepQ
  rw [hc, Int.toNat_natCast]
  show (if anyC z.left (c : Int) = true then _ else _) = _ ∧ _
  rw [← e]
  by_cases hz : z.wt c = true
  · rw [if_pos hz, if_pos hz]
    refine ⟨rfl, ⟨fun d hd => ?_⟩⟩
    show z.wt d = anyC (z.left ++ [a]) (d : Int)
    rw [any_app, ← hw.eq d hd, hc]
    by_cases hdc : d = c
    · subst hdc; rw [hz]; rfl
    · rw [show ((c : Int) == (d : Int)) = false by simp; omega, Bool.or_false]
  · rw [if_neg hz, if_neg hz]
    have hd := deal_ref z.p z.left c a.2
    show (if (dealP { z.p with q := z.left } c a.2).2 = true then (dealP { z.p with q := z.left } c a.2).1 else { (dealP { z.p with q := z.left } c a.2).1 with q := z.left ++ [a] }) = _ ∧ _
    rw [hd]
    by_cases ho : (dealP z.p c a.2).2 = true
    · rw [if_pos ho, if_pos ho]
      exact ⟨rfl, ⟨fun d hd => hw.eq d hd⟩⟩
    · rw [if_neg ho, if_neg ho]
      have hp : (dealP z.p c a.2).1 = z.p := deal_false (by simpa using ho)
      refine ⟨by rw [hp]; rfl, ⟨fun d hd => ?_⟩⟩
      show (if d = c then true else z.wt d) = anyC (z.left ++ [a]) (d : Int)
      rw [any_app, ← hw.eq d hd, hc]
      by_cases hdc : d = c
      · subst hdc; rw [if_pos rfl]; simp
      · rw [if_neg hdc, show ((c : Int) == (d : Int)) = false by simp; omega, Bool.or_false]
theorem ref_steps : ∀ (l : List (Int × Pkt)) (z : QS), Waits z → (∀ a ∈ l, 0 ≤ a.1 ∧ a.1 < 2) → l.foldl refStep (refS z) = refS (l.foldl stepQ z)
  | [], _, _, _ => rfl
  | a :: l, z, hw, h => by
    obtain ⟨e, hw'⟩ := ref_step hw (h a List.mem_cons_self).1 (h a List.mem_cons_self).2
    rw [List.foldl_cons, List.foldl_cons, e]
    exact ref_steps l _ hw' fun b hb => h b (List.mem_cons_of_mem _ hb)
theorem ref_queue (p : Pr) (h : ∀ a ∈ p.q, 0 ≤ a.1 ∧ a.1 < 2) : p.q.foldl refStep { p with q := [] } = queueP p := by
  rw [show ({ p with q := [] } : Pr) = refS ⟨p, fun _ => false, []⟩ from rfl, ref_steps p.q _ ⟨fun c _ => rfl⟩ h]
  rfl
/-- nothing changes just if it is the same set -/
theorem diff_nil {l m : List (Int × Int)} (hl : setB (-1) l = true) (hm : setB (-1) m = true) : (Df.diffL l m).length = 0 ↔ l = m := by
  constructor
  · intro h
    have e := set_apply hl hm
    rw [List.length_eq_zero_iff.1 h] at e
    obtain ⟨e1, n1⟩ := set_of hl
    rw [e1, Df.apply_nil n1] at e
    rw [← e]
    exact e1
  · rintro rfl
    rw [Df.diff_self]
    rfl
end Go.Proofs.YtjghbciepinofaaGreat.Pv

set_option maxRecDepth 100000
namespace Go.Proofs.YtjghbciepinofaaGreat.Pv
open Go.RowKit
set_option maxHeartbeats 4000000 in
theorem rall_any (l : List (Int × Int)) (ao : Option Addr) (c b off : Nat) (w : World) (hl : Df.PIn w l ao b off) :
    Calls Tryz.prog 47 #[.slice ao l.length c] w fun e w' => e = .returned (.int .i64 (Df.allN l)) ∧ Below w.heap.size w w' := by
  have hlen := hl.len
  have HL := hide hl
  clear hl
  go_enter Tryz.func47, Tryz.ntmps47
  go_upto_region 3 with fail
  go_loopw [3, 8] (fun s i wl => ∃ k : Nat, k ≤ l.length ∧ i = .int .i64 (k : Int) ∧ s = .int .i64 (Df.allN (l.take k)) ∧ Hid (Below w.heap.size w wl)) (fun _ i _ => l.length - (intOf i).toNat)
  case atStart => exact ⟨0, Nat.zero_le _, rfl, rfl, Below.refl _ _⟩
  case round =>
    obtain ⟨k, hk, rfl, rfl, HR⟩ := hrel
    by_cases hlt : k < l.length
    · have hkI : (k : Int) < (l.length : Int) := by omega
      obtain ⟨c0, c1⟩ := (HL.out.over HR.out).cells k hlt
      have HS := hide (Df.all_take l k hlt)
      have eao := HL.out.adr (by omega)
      subst eao
      generalize l.getD k (0, 0) = x at *
      obtain ⟨v, n⟩ := x
      dsimp only at c0 c1 HS
      generalize Df.allN (l.take k) = s0 at *
      obtain ⟨s1, hs1⟩ : ∃ s1, Df.allN (l.take (k + 1)) = s1 := ⟨_, rfl⟩
      rw [hs1] at HS
      have HS1 := hide hs1
      have hw : wrap64 (s0 + n) = s1 := by rw [HS.out]; unfold wrap64; rfl
      clear HS hs1
      go_wp2
      exact ⟨⟨k + 1, by omega, by go_num, by rw [HS1.out, hw], HR.out.alloc HR.out.size _⟩, by simp [intOf]; omega⟩
    · obtain rfl : k = l.length := by omega
      have HT : Hid (l.take l.length = l) := List.take_length
      go_wp2
      go_ret
      exact ⟨by rw [HT.out]; rfl, HR.out⟩
/-- the powers by validator, the first one counts -/
theorem rrow_rp (l : List (Int × Int)) (v : Value) (P : Nat → Prop) (w : World) (h : Rep P w v 2 16 (pwC l)) :
    Calls Tryz.prog 101 #[v] w fun e w' => e = .returned (.agg #[.int .i64 (Df.firstP l 0), .int .i64 (Df.firstP l 1), .int .i64 (Df.firstP l 2), .int .i64 (Df.firstP l 3), .int .i64 (Df.firstP l 4), .int .i64 (Df.firstP l 5)]) ∧ Below w.heap.size w w' := by
  obtain ⟨A, C, rfl, hs, -, hc, -⟩ := h.open (pwC_length _) (by decide)
  have HC := hide hc
  have hlen : l.length ≤ 8796093022202 := by omega
  have HFD := hide (fun k (hk : k < l.length) => Df.foldr_drop l k hk)
  clear hc h hs
  go_enter Tryz.func101, Tryz.ntmps101
  go_upto_region 2 with fail
  have Q0 : Df.QAt ((w.alloc (.cells #[.int .i64 0, .int .i64 0, .int .i64 0, .int .i64 0, .int .i64 0, .int .i64 0] 28)).alloc (.cells #[.int .i64 0, .int .i64 0, .int .i64 0, .int .i64 0, .int .i64 0, .int .i64 0] 28)) w.heap.size Df.zeroP := (Df.QAt.new w Df.zeroP).alloc _
  have Q1 : Df.QAt ((w.alloc (.cells #[.int .i64 0, .int .i64 0, .int .i64 0, .int .i64 0, .int .i64 0, .int .i64 0] 28)).alloc (.cells #[.int .i64 0, .int .i64 0, .int .i64 0, .int .i64 0, .int .i64 0, .int .i64 0] 28)) (w.heap.size + 1) Df.zeroP := by
    have := Df.QAt.new (w.alloc (.cells #[.int .i64 0, .int .i64 0, .int .i64 0, .int .i64 0, .int .i64 0, .int .i64 0] 28)) Df.zeroP
    rwa [show (w.alloc (.cells #[.int .i64 0, .int .i64 0, .int .i64 0, .int .i64 0, .int .i64 0, .int .i64 0] 28)).heap.size = w.heap.size + 1 by simp] at this
  have B0 : Below w.heap.size w ((w.alloc (.cells #[.int .i64 0, .int .i64 0, .int .i64 0, .int .i64 0, .int .i64 0, .int .i64 0] 28)).alloc (.cells #[.int .i64 0, .int .i64 0, .int .i64 0, .int .i64 0, .int .i64 0, .int .i64 0] 28)) := ((Below.refl _ w).alloc (Nat.le_refl _) _).alloc (by simp) _
  generalize (w.alloc (.cells #[.int .i64 0, .int .i64 0, .int .i64 0, .int .i64 0, .int .i64 0, .int .i64 0] 28)).alloc (.cells #[.int .i64 0, .int .i64 0, .int .i64 0, .int .i64 0, .int .i64 0, .int .i64 0] 28) = w0 at *
  have HQ := hide (show _ ∧ _ ∧ _ from ⟨Q0, Q1, B0⟩)
  clear Q0 Q1 B0
  go_upto_region 3 with fail
  go_loopw [4] (fun i wl => ∃ (k : Nat), k ≤ l.length ∧ i = .int .i64 ((k : Int) - 1) ∧ Hid (Df.QAt wl w.heap.size Df.zeroP) ∧ Hid (Df.QAt wl (w.heap.size + 1) (Df.firstP (l.drop k))) ∧ Hid (Below w.heap.size w wl)) (fun i _ => (intOf i + 1).toNat)
  case atStart => exact ⟨l.length, Nat.le_refl _, rfl, HQ.out.1, by rw [List.drop_length]; exact HQ.out.2.1, HQ.out.2.2⟩
  case round =>
    obtain ⟨k, hk, rfl, H0, H1, HB⟩ := hrel
    cases k with
    | zero =>
      obtain ⟨⟨c0, c1, c2, c3, c4, c5⟩, -⟩ := H1.out.facts
      obtain ⟨⟨d0, d1, d2, d3, d4, d5⟩, dz⟩ := H0.out.facts
      have z0 := dz 0
      have z1 := dz 1
      have z2 := dz 2
      have z3 := dz 3
      have z4 := dz 4
      have z5 := dz 5
      have hlt0 := H0.out.lt
      rw [List.drop_zero] at c0 c1 c2 c3 c4 c5
      have HS := hide (show _ ∧ _ from ⟨Df.set6_at H0.out (Df.firstP l), Df.set6_below (.int .i64 (Df.firstP l 0)) (.int .i64 (Df.firstP l 1)) (.int .i64 (Df.firstP l 2)) (.int .i64 (Df.firstP l 3)) (.int .i64 (Df.firstP l 4)) (.int .i64 (Df.firstP l 5)) HB.out (Nat.le_refl _)⟩)
      clear dz H0 H1 HB HQ HC HFD
      go_wp2
      obtain ⟨HQ9, HB9⟩ := HS.out
      show bodyPost Tryz.prog Tryz.f101 _ Exit.ret _ (Df.set6 wr w.heap.size (.int .i64 (Df.firstP l 0)) (.int .i64 (Df.firstP l 1)) (.int .i64 (Df.firstP l 2)) (.int .i64 (Df.firstP l 3)) (.int .i64 (Df.firstP l 4)) (.int .i64 (Df.firstP l 5)))
      clear d0 d1 d2 d3 d4 d5 c0 c1 c2 c3 c4 c5 z0 z1 z2 z3 z4 z5
      generalize Df.set6 wr w.heap.size (.int .i64 (Df.firstP l 0)) (.int .i64 (Df.firstP l 1)) (.int .i64 (Df.firstP l 2)) (.int .i64 (Df.firstP l 3)) (.int .i64 (Df.firstP l 4)) (.int .i64 (Df.firstP l 5)) = w9 at *
      obtain ⟨⟨z0, z1, z2, z3, z4, z5⟩, -⟩ := HQ9.facts
      exact bodyPost_ret (v := .agg #[.int .i64 (Df.firstP l 0), .int .i64 (Df.firstP l 1), .int .i64 (Df.firstP l 2), .int .i64 (Df.firstP l 3), .int .i64 (Df.firstP l 4), .int .i64 (Df.firstP l 5)]) (by simp [results, Tryz.results101, go_sem, z0, z1, z2, z3, z4, z5]) rfl ⟨rfl, HB9⟩
    | succ k =>
      have hlt : k < l.length := by omega
      have hkI : (k : Int) < (l.length : Int) := by omega
      have hk0 : (0 : Int) ≤ (k : Int) := by omega
      have he : ((k + 1 : Nat) : Int) - 1 = (k : Int) := by omega
      rw [he]
      obtain ⟨b, off, rfl, -, hbl, hcell⟩ := HC.out (by omega)
      obtain ⟨x, hx⟩ : ∃ x, l.getD k (0, 0) = x := ⟨_, rfl⟩
      obtain ⟨p0, p1⟩ := pwC_get l k hlt
      rw [hx] at p0 p1
      have c0 : wr.cell? ⟨b, off + k * 2, none⟩ = some (.int .i64 x.1) := (HB.out.cell (p := ⟨b, off + k * 2, none⟩) hbl).trans (hcell _ _ p0)
      have c1 : wr.cell? ⟨b, off + k * 2 + 1, none⟩ = some (.int .i64 x.2) := (HB.out.cell (p := ⟨b, off + k * 2 + 1, none⟩) hbl).trans (hcell _ _ p1)
      have hfd := HFD.out k hlt
      rw [hx] at hfd
      have HFX := hide hfd
      have hk1 : IntKind.i64.wrap ((k : Int) - 1) = (k : Int) - 1 := by simp [IntKind.wrap, IntKind.bits, IntKind.signed]; omega
      clear hcell p0 p1 hx hfd
      obtain ⟨x1, x2⟩ := x
      dsimp only at c0 c1
      by_cases hv : 0 ≤ x1 ∧ x1 < 6
      · obtain ⟨m, rfl⟩ : ∃ m : Nat, x1 = (m : Int) := ⟨x1.toNat, by omega⟩
        have hm6 : m < 6 := by omega
        have hmI : (m : Int) < 6 := by omega
        have hm0 : (0 : Int) ≤ (m : Int) := by omega
        have q1 := H1.out.one hm6
        have f1 := H1.out.facts.2 m
        have hl1 := H1.out.lt
        have hbn : b ≠ w.heap.size + 1 := by omega
        have Q2 := H1.out.put hm6 x2
        rw [← HFX.out] at Q2
        have Q3 : Df.QAt (wr.setCell ⟨w.heap.size + 1, m, none⟩ (.int .i64 x2)) w.heap.size Df.zeroP := (Below.heap_setCell _ _ _ _ (show w.heap.size ≠ w.heap.size + 1 by omega)).trans H0.out
        have B3 := HB.out.setCell (p := ⟨w.heap.size + 1, m, none⟩) (by show w.heap.size ≤ w.heap.size + 1; omega) (.int .i64 x2)
        have HZ := hide (show _ ∧ _ ∧ _ from ⟨Q2, Q3, B3⟩)
        clear Q2 Q3 B3 H0 H1 HB
        go_upto_region 6 with fail
        apply wp_join (fun w5 => w5 = (wr.setCell ⟨w.heap.size + 1, m, none⟩ (.int .i64 x2)).drew)
        · refine wp_region_noPanic ?_
          go_region_with (fail)
          all_goals exact NoPanic.normal ⟨rfl, rfl, rfl⟩
        intro w5 hw5
        have HZ5 : Hid (Df.QAt w5 (w.heap.size + 1) (Df.firstP (l.drop k)) ∧ Df.QAt w5 w.heap.size Df.zeroP ∧ Below w.heap.size w w5) := by
          rw [hw5]
          exact ⟨HZ.out.1, HZ.out.2.1, HZ.out.2.2.drew⟩
        clear hw5 HZ c0 c1 q1 f1
        go_wp2
        first | exact ⟨⟨k, by omega, rfl, HZ5.out.2.1, HZ5.out.1, HZ5.out.2.2⟩, by simp [intOf]⟩ | ((repeat apply Exists.intro); exact ⟨⟨k, by omega, rfl, HZ5.out.2.1, HZ5.out.1, HZ5.out.2.2⟩, rfl⟩)
      · have hpp : Df.putP (Df.firstP (l.drop (k + 1))) (x1, x2) = Df.firstP (l.drop (k + 1)) := by unfold Df.putP; rw [if_neg hv]
        have HZ : Hid (Df.QAt wr (w.heap.size + 1) (Df.firstP (l.drop k))) := by rw [HFX.out, hpp]; exact H1.out
        have hcs : ¬ 0 ≤ x1 ∨ (0 ≤ x1 ∧ ¬ x1 < 6) := by omega
        clear hv hpp
        rcases hcs with h1 | ⟨h1, h2⟩
        all_goals
          go_wp2
          first | exact ⟨⟨k, by omega, rfl, H0, HZ, HB⟩, by simp [intOf]⟩ | ((repeat apply Exists.intro); exact ⟨⟨k, by omega, rfl, H0, HZ, HB⟩, rfl⟩)
set_option maxHeartbeats 4000000 in
theorem rdiff_rep (a b : List (Int × Int)) (va vb : Value) (Q1 Q2 : Nat → Prop) (w : World) (ha : Rep Q1 w va 2 16 (pwC a)) (hb : Rep Q2 w vb 2 16 (pwC b)) :
    Calls Tryz.prog 51 #[va, vb] w fun e w' => ∃ v, e = .returned v ∧ Rep (fun b => w.heap.size ≤ b) w' v 2 16 (pwC (Df.diffL a b)) ∧ Below w.heap.size w w' := by
  obtain ⟨i0, hi, hz0, hz1, hz2⟩ := info_parts infoPw
  have HF1 := hide (rrow_rp a va Q1 w ha)
  have HF2 := hide (fun w' (h : Below w.heap.size w w') => rrow_rp b vb Q2 w' (hb.over h))
  have HL6 := hide (Df.those_len (fun v => decide (Df.firstP b v ≠ Df.firstP a v)) (Df.firstP b) 6)
  unfold Df.diffL
  generalize Df.firstP a = P at *
  generalize Df.firstP b = R at *
  obtain ⟨A0, n0, C0, rfl, -⟩ := id ha
  obtain ⟨A1, n1, C1, rfl, -⟩ := id hb
  clear ha hb
  go_enter Tryz.func51, Tryz.ntmps51
  go_upto_region 3 with (first
    | (go_at_call 101; have _m := m1; refine (HF2.out _ HB1.out).mono ?_; rintro e w2 ⟨rfl, hb2⟩; have HB2 := hide (HB1.out.trans (hb2.mono HB1.out.size)); clear hb2)
    | (go_at_call 101; refine HF1.out.mono ?_; rintro e w1 ⟨rfl, hb1⟩; have HB1 := hide hb1; have m1 : True := trivial; clear hb1))
  have Q6 := (Df.QAt.new w2 P).alloc (.cells #[.int .i64 (R 0), .int .i64 (R 1), .int .i64 (R 2), .int .i64 (R 3), .int .i64 (R 4), .int .i64 (R 5)] 28)
  have Q7 := Df.QAt.new (w2.alloc (.cells #[.int .i64 (P 0), .int .i64 (P 1), .int .i64 (P 2), .int .i64 (P 3), .int .i64 (P 4), .int .i64 (P 5)] 28)) R
  rw [show (w2.alloc (.cells #[.int .i64 (P 0), .int .i64 (P 1), .int .i64 (P 2), .int .i64 (P 3), .int .i64 (P 4), .int .i64 (P 5)] 28)).heap.size = w2.heap.size + 1 by simp] at Q7
  have BW := (HB2.out.alloc HB2.out.size (.cells #[.int .i64 (P 0), .int .i64 (P 1), .int .i64 (P 2), .int .i64 (P 3), .int .i64 (P 4), .int .i64 (P 5)] 28)).alloc (Nat.le_trans HB2.out.size (by simp)) (.cells #[.int .i64 (R 0), .int .i64 (R 1), .int .i64 (R 2), .int .i64 (R 3), .int .i64 (R 4), .int .i64 (R 5)] 28)
  have hwb : w.heap.size ≤ w2.heap.size := HB2.out.size
  clear HF1 HF2 HB1 HB2
  generalize w2.heap.size = b6 at *
  generalize (w2.alloc (.cells #[.int .i64 (P 0), .int .i64 (P 1), .int .i64 (P 2), .int .i64 (P 3), .int .i64 (P 4), .int .i64 (P 5)] 28)).alloc (.cells #[.int .i64 (R 0), .int .i64 (R 1), .int .i64 (R 2), .int .i64 (R 3), .int .i64 (R 4), .int .i64 (R 5)] 28) = w3 at *
  have z6 : b6 < w3.heap.size := Q6.lt
  have z7 : b6 + 1 < w3.heap.size := Q7.lt
  have HX := hide (show _ ∧ _ ∧ _ from ⟨Q6, Q7, BW⟩)
  clear Q6 Q7 BW
  go_upto_region 4 with fail
  go_loopw [7, 13] (fun v i wl => ∃ k : Nat, k ≤ 6 ∧ i = .int .i64 (k : Int) ∧ Hid (Pows wl w3.heap.size v (Df.those (fun v => decide (R v ≠ P v)) R k)) ∧ Hid (Below w3.heap.size w3 wl)) (fun _ i _ => (6 - intOf i).toNat)
  case atStart => exact ⟨0, by omega, rfl, Pows.nil _ _, Below.refl _ _⟩
  case round =>
    obtain ⟨k, hk, rfl, HOW, HB⟩ := hrel
    have hsz : w3.heap.size ≤ wr.heap.size := HB.out.size
    by_cases hk6 : k < 6
    · have hkk : (k : Int) < 6 := by omega
      have hk0 : (0 : Int) ≤ (k : Int) := by omega
      have cP := (HX.out.1.later HB.out z6).one hk6
      have cR := (HX.out.2.1.later HB.out z7).one hk6
      have HCR := hide (fun (wx : World) (h : Below w3.heap.size w3 wx) => (HX.out.2.1.later h z7).one hk6)
      have HC := hide (Df.those_succ (fun v => decide (R v ≠ P v)) R k)
      have hlen := Df.those_len (fun v => decide (R v ≠ P v)) R k
      generalize R k = rk at *
      generalize P k = pk at *
      by_cases hne : rk = pk
      · subst hne
        have hxx : (rk != rk) = false := by simp
        go_upto_region 6 with fail
        go_quiet (fail)
        simp only [Exit.then]
        apply_assumption
        go_wp2
        go_roundw
        case rel => exact ⟨k + 1, by omega, by go_num, by rw [HC.out, if_neg (by simp)]; exact HOW.out, below_drewN HB.out _⟩
        case measure => simp [intOf]; omega
      · have hne' : (pk != rk) = true := by simpa using fun h : pk = rk => hne h.symm
        go_upto_region 6 with fail
        go_quiet (fail)
        have HB2 := hide (below_drewN HB.out nq)
        have hown : Pows (wr.drewN nq) w3.heap.size u7 _ := HOW.out
        have cR' := HCR.out _ HB2.out
        clear cP cR HB HOW
        generalize wr.drewN nq = ws at *
        have hsz2 : w3.heap.size ≤ ws.heap.size := HB2.out.size
        simp only [Exit.then]
        apply_assumption
        go_wp2_with (at_builtin; refine wpList_append_own_at _ rfl _ _ 33 rfl w3.heap.size 74 i0 (.agg #[.int .i64 0, .int .i64 0]) 2 16 Tryz.underlying33 hi hz0 hz1 hz2 rfl (by decide) _ _ _ rfl (World.ownsRow.alloc hown _) ⟨ws.heap.size, 0, none⟩ 1 1 [.int .i64 (k : Int), .int .i64 rk] rfl rfl (pw_news _ _ _ _) (by intro u hu; simp at hu; rcases hu with rfl | rfl <;> rfl) (by unfold maxLen; omega) (by omega) (by simp; omega) ?_; intro v' w1 hown' hgrow _ hat)
        have hb : Below w3.heap.size w3 w1 := Pows.grow hown HB2.out hgrow (Nat.le_refl _) hsz2
        go_roundw
        case rel => exact ⟨k + 1, by omega, by go_num, by rw [HC.out, if_pos (by simpa using hne)]; exact Pows.append hown' rfl, hb⟩
        case measure => simp [intOf]; omega
    · obtain rfl : k = 6 := by omega
      go_wp2
      go_ret
      have h6 := HL6.out
      exact ⟨_, rfl, (Rep.pows HOW.out (by omega)).mono fun b _ h => by have := HX.out.2.2.size; omega, HX.out.2.2.trans (HB.out.mono HX.out.2.2.size)⟩
end Go.Proofs.YtjghbciepinofaaGreat.Pv

