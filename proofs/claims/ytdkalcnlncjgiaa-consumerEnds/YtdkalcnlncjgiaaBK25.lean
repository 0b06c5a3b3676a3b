/- Parts of the proof: KRW. -/
import Derived.Test.YtdkalcnlncjgiaaRows
import Derived.Test.YtdkalcnlncjgiaaBK7
import Derived.Test.YtdkalcnlncjgiaaBK13
import Derived.Test.YtdkalcnlncjgiaaBK15
import Derived.Deep.RegionLaw
import Derived.Deep.RegionWith
import Derived.Deep.RegionHeld3
set_option maxRecDepth 100000
namespace Go.Proofs.Ytdkalcnlncjgiaa.Kc
open Go.RowKit Pv
/-- the powers by validator, the first one counts -/
theorem rrow_rep (l : List (Int × Int)) (v : Value) (P : Nat → Prop) (w : World) (h : Rep P w v 2 16 (pwC l)) :
    Calls Try.prog 34 #[v] w fun e w' => e = .returned (.agg #[.int .i64 (Df.firstP l 0), .int .i64 (Df.firstP l 1), .int .i64 (Df.firstP l 2), .int .i64 (Df.firstP l 3), .int .i64 (Df.firstP l 4), .int .i64 (Df.firstP l 5)]) ∧ Below w.heap.size w w' := by
  obtain ⟨A, C, rfl, hs, -, hc, -⟩ := h.open (pwC_length _) (by decide)
  have HC := hide hc
  have hlen : l.length ≤ 8796093022202 := by omega
  have HFD := hide (fun k (hk : k < l.length) => Df.foldr_drop l k hk)
  clear hc h hs
  go_enter Try.func34, Try.ntmps34
  go_upto_region 2 with fail
  have Q0 : Df.QAt ((w.alloc (.cells #[.int .i64 0, .int .i64 0, .int .i64 0, .int .i64 0, .int .i64 0, .int .i64 0] 68)).alloc (.cells #[.int .i64 0, .int .i64 0, .int .i64 0, .int .i64 0, .int .i64 0, .int .i64 0] 68)) w.heap.size Df.zeroP := (Df.QAt.new w Df.zeroP).alloc _
  have Q1 : Df.QAt ((w.alloc (.cells #[.int .i64 0, .int .i64 0, .int .i64 0, .int .i64 0, .int .i64 0, .int .i64 0] 68)).alloc (.cells #[.int .i64 0, .int .i64 0, .int .i64 0, .int .i64 0, .int .i64 0, .int .i64 0] 68)) (w.heap.size + 1) Df.zeroP := by
    have := Df.QAt.new (w.alloc (.cells #[.int .i64 0, .int .i64 0, .int .i64 0, .int .i64 0, .int .i64 0, .int .i64 0] 68)) Df.zeroP
    rwa [show (w.alloc (.cells #[.int .i64 0, .int .i64 0, .int .i64 0, .int .i64 0, .int .i64 0, .int .i64 0] 68)).heap.size = w.heap.size + 1 by simp] at this
  have B0 : Below w.heap.size w ((w.alloc (.cells #[.int .i64 0, .int .i64 0, .int .i64 0, .int .i64 0, .int .i64 0, .int .i64 0] 68)).alloc (.cells #[.int .i64 0, .int .i64 0, .int .i64 0, .int .i64 0, .int .i64 0, .int .i64 0] 68)) := ((Below.refl _ w).alloc (Nat.le_refl _) _).alloc (by simp) _
  generalize (w.alloc (.cells #[.int .i64 0, .int .i64 0, .int .i64 0, .int .i64 0, .int .i64 0, .int .i64 0] 68)).alloc (.cells #[.int .i64 0, .int .i64 0, .int .i64 0, .int .i64 0, .int .i64 0, .int .i64 0] 68) = w0 at *
  have HQ := hide (show _ ∧ _ ∧ _ from ⟨Q0, Q1, B0⟩)
  clear Q0 Q1 B0
  go_upto_region 3 with fail
  go_loopw [4] (fun i wl => ∃ (k : Nat), k ≤ l.length ∧ i = .int .i64 ((k : Int) - 1) ∧ Hid (Df.QAt wl w.heap.size Df.zeroP) ∧ Hid (Df.QAt wl (w.heap.size + 1) (Df.firstP (l.drop k))) ∧ Hid (Below w.heap.size w wl)) (fun i _ => (intOf i + 1).toNat)
  case atStart => exact ⟨l.length, Nat.le_refl _, rfl, HQ.out.1, by rw [List.drop_length]; exact HQ.out.2.1, HQ.out.2.2⟩
  case round =>
    obtain ⟨k, hk, rfl, H0, H1, HB⟩ := hrel
    cases k with
    | zero =>
      obtain ⟨⟨c0, c1, c2, c3, c4, c5⟩, -⟩ := H1.out.facts
      obtain ⟨⟨d0, d1, d2, d3, d4, d5⟩, dz⟩ := H0.out.facts
      have z0 := dz 0
      have z1 := dz 1
      have z2 := dz 2
      have z3 := dz 3
      have z4 := dz 4
      have z5 := dz 5
      have hlt0 := H0.out.lt
      rw [List.drop_zero] at c0 c1 c2 c3 c4 c5
      have HS := hide (show _ ∧ _ from ⟨Df.set6_at H0.out (Df.firstP l), Df.set6_below (.int .i64 (Df.firstP l 0)) (.int .i64 (Df.firstP l 1)) (.int .i64 (Df.firstP l 2)) (.int .i64 (Df.firstP l 3)) (.int .i64 (Df.firstP l 4)) (.int .i64 (Df.firstP l 5)) HB.out (Nat.le_refl _)⟩)
      clear dz H0 H1 HB HQ HC HFD
      go_wp2
      obtain ⟨HQ9, HB9⟩ := HS.out
      show bodyPost Try.prog Try.f34 _ Exit.ret _ (Df.set6 wr w.heap.size (.int .i64 (Df.firstP l 0)) (.int .i64 (Df.firstP l 1)) (.int .i64 (Df.firstP l 2)) (.int .i64 (Df.firstP l 3)) (.int .i64 (Df.firstP l 4)) (.int .i64 (Df.firstP l 5)))
      clear d0 d1 d2 d3 d4 d5 c0 c1 c2 c3 c4 c5 z0 z1 z2 z3 z4 z5
      generalize Df.set6 wr w.heap.size (.int .i64 (Df.firstP l 0)) (.int .i64 (Df.firstP l 1)) (.int .i64 (Df.firstP l 2)) (.int .i64 (Df.firstP l 3)) (.int .i64 (Df.firstP l 4)) (.int .i64 (Df.firstP l 5)) = w9 at *
      obtain ⟨⟨z0, z1, z2, z3, z4, z5⟩, -⟩ := HQ9.facts
      exact bodyPost_ret (v := .agg #[.int .i64 (Df.firstP l 0), .int .i64 (Df.firstP l 1), .int .i64 (Df.firstP l 2), .int .i64 (Df.firstP l 3), .int .i64 (Df.firstP l 4), .int .i64 (Df.firstP l 5)]) (by simp [results, Try.results34, go_sem, z0, z1, z2, z3, z4, z5]) rfl ⟨rfl, HB9⟩
    | succ k =>
      have hlt : k < l.length := by omega
      have hkI : (k : Int) < (l.length : Int) := by omega
      have hk0 : (0 : Int) ≤ (k : Int) := by omega
      have he : ((k + 1 : Nat) : Int) - 1 = (k : Int) := by omega
      rw [he]
      obtain ⟨b, off, rfl, -, hbl, hcell⟩ := HC.out (by omega)
      obtain ⟨x, hx⟩ : ∃ x, l.getD k (0, 0) = x := ⟨_, rfl⟩
      obtain ⟨p0, p1⟩ := pwC_get l k hlt
      rw [hx] at p0 p1
      have c0 : wr.cell? ⟨b, off + k * 2, none⟩ = some (.int .i64 x.1) := (HB.out.cell (p := ⟨b, off + k * 2, none⟩) hbl).trans (hcell _ _ p0)
      have c1 : wr.cell? ⟨b, off + k * 2 + 1, none⟩ = some (.int .i64 x.2) := (HB.out.cell (p := ⟨b, off + k * 2 + 1, none⟩) hbl).trans (hcell _ _ p1)
      have hfd := HFD.out k hlt
      rw [hx] at hfd
      have HFX := hide hfd
      have hk1 : IntKind.i64.wrap ((k : Int) - 1) = (k : Int) - 1 := by simp [IntKind.wrap, IntKind.bits, IntKind.signed]; omega
      clear hcell p0 p1 hx hfd
      obtain ⟨x1, x2⟩ := x
      dsimp only at c0 c1
      by_cases hv : 0 ≤ x1 ∧ x1 < 6
      · obtain ⟨m, rfl⟩ : ∃ m : Nat, x1 = (m : Int) := ⟨x1.toNat, by omega⟩
        have hm6 : m < 6 := by omega
        have hmI : (m : Int) < 6 := by omega
        have hm0 : (0 : Int) ≤ (m : Int) := by omega
        have q1 := H1.out.one hm6
        have f1 := H1.out.facts.2 m
        have hl1 := H1.out.lt
        have hbn : b ≠ w.heap.size + 1 := by omega
        have Q2 := H1.out.put hm6 x2
        rw [← HFX.out] at Q2
        have Q3 : Df.QAt (wr.setCell ⟨w.heap.size + 1, m, none⟩ (.int .i64 x2)) w.heap.size Df.zeroP := (Below.heap_setCell _ _ _ _ (show w.heap.size ≠ w.heap.size + 1 by omega)).trans H0.out
        have B3 := HB.out.setCell (p := ⟨w.heap.size + 1, m, none⟩) (by show w.heap.size ≤ w.heap.size + 1; omega) (.int .i64 x2)
        have HZ := hide (show _ ∧ _ ∧ _ from ⟨Q2, Q3, B3⟩)
        clear Q2 Q3 B3 H0 H1 HB
        go_upto_region 6 with fail
        apply wp_join (fun w5 => w5 = (wr.setCell ⟨w.heap.size + 1, m, none⟩ (.int .i64 x2)).drew)
        · refine wp_region_noPanic ?_
          go_region_with (fail)
          all_goals exact NoPanic.normal ⟨rfl, rfl, rfl⟩
        intro w5 hw5
        have HZ5 : Hid (Df.QAt w5 (w.heap.size + 1) (Df.firstP (l.drop k)) ∧ Df.QAt w5 w.heap.size Df.zeroP ∧ Below w.heap.size w w5) := by
          rw [hw5]
          exact ⟨HZ.out.1, HZ.out.2.1, HZ.out.2.2.drew⟩
        clear hw5 HZ c0 c1 q1 f1
        go_wp2
        first | exact ⟨⟨k, by omega, rfl, HZ5.out.2.1, HZ5.out.1, HZ5.out.2.2⟩, by simp [intOf]⟩ | ((repeat apply Exists.intro); exact ⟨⟨k, by omega, rfl, HZ5.out.2.1, HZ5.out.1, HZ5.out.2.2⟩, rfl⟩)
      · have hpp : Df.putP (Df.firstP (l.drop (k + 1))) (x1, x2) = Df.firstP (l.drop (k + 1)) := by unfold Df.putP; rw [if_neg hv]
        have HZ : Hid (Df.QAt wr (w.heap.size + 1) (Df.firstP (l.drop k))) := by rw [HFX.out, hpp]; exact H1.out
        have hcs : ¬ 0 ≤ x1 ∨ (0 ≤ x1 ∧ ¬ x1 < 6) := by omega
        clear hv hpp
        rcases hcs with h1 | ⟨h1, h2⟩
        all_goals
          go_wp2
          first | exact ⟨⟨k, by omega, rfl, H0, HZ, HB⟩, by simp [intOf]⟩ | ((repeat apply Exists.intro); exact ⟨⟨k, by omega, rfl, H0, HZ, HB⟩, rfl⟩)
end Go.Proofs.Ytdkalcnlncjgiaa.Kc

