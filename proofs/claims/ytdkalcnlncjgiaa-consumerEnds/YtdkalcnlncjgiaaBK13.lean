/- Parts of the proof: DF2. -/
import Derived.Test.YtdkalcnlncjgiaaRows
import Derived.Test.YtdkalcnlncjgiaaBK12
import Derived.Maps.AppendAt
set_option maxRecDepth 100000
namespace Go.Proofs.Ytdkalcnlncjgiaa.Df
open Go.RowKit
theorem own_mono {w : World} {B B' : Nat} {v : Value} {l : List Pw} (h : Pows w B v l) (hb : B' ≤ B) : Pows w B' v l := by
  refine ⟨h.1, ?_⟩
  rcases h.2 with hn | ⟨g, cap, cur, hv, h2, h3⟩
  · exact .inl hn
  · exact .inr ⟨g, cap, cur, hv, Nat.le_trans hb h2, h3⟩
theorem ix0 (c0 c1 c2 c3 c4 c5 : Value) (w : World) : (Instr.index 68 (.agg #[c0, c1, c2, c3, c4, c5]) (.int .i64 0)).run Try.prog w = .ok c0 w := by kernel_rfl
theorem ix1 (c0 c1 c2 c3 c4 c5 : Value) (w : World) : (Instr.index 68 (.agg #[c0, c1, c2, c3, c4, c5]) (.int .i64 1)).run Try.prog w = .ok c1 w := by kernel_rfl
theorem ix2 (c0 c1 c2 c3 c4 c5 : Value) (w : World) : (Instr.index 68 (.agg #[c0, c1, c2, c3, c4, c5]) (.int .i64 2)).run Try.prog w = .ok c2 w := by kernel_rfl
theorem ix3 (c0 c1 c2 c3 c4 c5 : Value) (w : World) : (Instr.index 68 (.agg #[c0, c1, c2, c3, c4, c5]) (.int .i64 3)).run Try.prog w = .ok c3 w := by kernel_rfl
theorem ix4 (c0 c1 c2 c3 c4 c5 : Value) (w : World) : (Instr.index 68 (.agg #[c0, c1, c2, c3, c4, c5]) (.int .i64 4)).run Try.prog w = .ok c4 w := by kernel_rfl
theorem ix5 (c0 c1 c2 c3 c4 c5 : Value) (w : World) : (Instr.index 68 (.agg #[c0, c1, c2, c3, c4, c5]) (.int .i64 5)).run Try.prog w = .ok c5 w := by kernel_rfl
theorem ixAll (P : Nat → Int) {k : Nat} (hk : k < 6) (w : World) : (Instr.index 68 (.agg #[.int .i64 (P 0), .int .i64 (P 1), .int .i64 (P 2), .int .i64 (P 3), .int .i64 (P 4), .int .i64 (P 5)]) (.int .i64 (k : Int))).run Try.prog w = .ok (.int .i64 (P k)) w := by
  rcases (show k = 0 ∨ k = 1 ∨ k = 2 ∨ k = 3 ∨ k = 4 ∨ k = 5 by omega) with rfl | rfl | rfl | rfl | rfl | rfl
  · exact ix0 _ _ _ _ _ _ w
  · exact ix1 _ _ _ _ _ _ w
  · exact ix2 _ _ _ _ _ _ w
  · exact ix3 _ _ _ _ _ _ w
  · exact ix4 _ _ _ _ _ _ w
  · exact ix5 _ _ _ _ _ _ w
set_option maxHeartbeats 4000000 in
theorem apply_any (a d : List Pw) (ao bo : Option Addr) (ca cb ab aof bb bof : Nat) (w : World) (ha : PIn w a ao ab aof) (hd : PIn w d bo bb bof) :
    Calls Try.prog 36 #[.slice ao a.length ca, .slice bo d.length cb] w fun e w' => ∃ v, e = .returned v ∧ Pows w' w.heap.size v (applyL a d) ∧ Below w.heap.size w w' := by
  obtain ⟨i0, hi, hz0, hz1, hz2⟩ := info_parts infoPw
  have hla := ha.len
  have hld := hd.len
  have HA := hide ha
  have HD := hide hd
  have Q0 := QAt.new w zeroP
  dsimp only [zeroP] at Q0
  have B0 : Below w.heap.size w (w.alloc (.cells #[.int .i64 0, .int .i64 0, .int .i64 0, .int .i64 0, .int .i64 0, .int .i64 0] 68)) := (Below.refl _ w).alloc (Nat.le_refl _) _
  have hb5 : w.heap.size ≤ w.heap.size := Nat.le_refl _
  clear ha hd
  go_enter Try.func36, Try.ntmps36
  go_upto_region 2 with fail
  have HX : Hid (QAt (w.alloc (.cells #[.int .i64 0, .int .i64 0, .int .i64 0, .int .i64 0, .int .i64 0, .int .i64 0] 68)) w.heap.size zeroP ∧ _) := ⟨Q0, B0⟩
  clear Q0 B0
  obtain ⟨b5, eb5⟩ : ∃ b5, w.heap.size = b5 := ⟨_, rfl⟩
  have hb5 : w.heap.size ≤ b5 := Nat.le_of_eq eb5
  rw [show (Value.pointer (some ⟨w.heap.size, 0, none⟩)) = .pointer (some ⟨b5, 0, none⟩) by rw [eb5]] 
  generalize w.alloc (.cells #[.int .i64 0, .int .i64 0, .int .i64 0, .int .i64 0, .int .i64 0, .int .i64 0] 68) = w0 at *
  have HX2 : Hid (QAt w0 b5 zeroP ∧ Below w.heap.size w w0) := by have := HX.out; rw [eb5] at this; rw [eb5]; exact this
  clear HX eb5
  go_upto_region 3 with fail
  go_loopw [15] (fun i wl => ∃ k : Nat, k ≤ a.length ∧ i = .int .i64 (k : Int) ∧ Hid (QAt wl b5 (lastP (zeroP) (a.take k)) ∧ Below w.heap.size w wl)) (fun i _ => a.length - (intOf i).toNat)
  case atStart => exact ⟨0, Nat.zero_le _, rfl, HX2.out.1, HX2.out.2⟩
  case round =>
    obtain ⟨k, hk, rfl, HR⟩ := hrel
    by_cases hlt : k < a.length
    · have hkI : (k : Int) < (a.length : Int) := by omega
      obtain ⟨c0, c1⟩ := (HA.out.later HR.out.2 HA.out.ltB).cells k hlt
      have HS := hide (foldl_take (zeroP) a k hlt)
      have eao := HA.out.adr (by omega)
      subst eao
      generalize a.getD k (0, 0) = x at *
      obtain ⟨v, n⟩ := x
      dsimp only at c0 c1
      have Q1 := HR.out.1.alloc (.cells #[.int .i64 v, .int .i64 n] 64)
      have HQ1 := hide (And.intro Q1 (HR.out.2.alloc HR.out.2.size (.cells #[.int .i64 v, .int .i64 n] 64)))
      clear Q1
      go_wp2_with (go_at_call 50; refine (put_any b5 v n _ _ HQ1.out.1).mono ?_; rintro e w1 ⟨rfl, hq, hg⟩; have HQ := hide hq; have HG := hide hg; clear hq hg)
      refine ⟨⟨k + 1, by omega, by go_num, by rw [HS.out]; exact HQ.out, HQ1.out.2.trans (grown_below HG.out hb5 HQ1.out.2.size)⟩, by simp [intOf]; omega⟩
    · obtain rfl : k = a.length := by omega
      have hT : a.take a.length = a := List.take_length
      rw [hT] at HR
      have HR2 := hide HR.out
      clear HR hT HX2 HA
      go_upto_region 8 with fail
      go_loopw [24] (fun i wl => ∃ k : Nat, k ≤ d.length ∧ i = .int .i64 (k : Int) ∧ Hid (QAt wl b5 (lastP (lastP zeroP a) (d.take k)) ∧ Below w.heap.size w wl)) (fun i _ => d.length - (intOf i).toNat)
      case atStart => exact ⟨0, Nat.zero_le _, rfl, HR2.out.1, HR2.out.2⟩
      case round =>
        obtain ⟨k, hk, rfl, HR⟩ := hrel
        by_cases hlt : k < d.length
        · have hkI : (k : Int) < (d.length : Int) := by omega
          obtain ⟨c0, c1⟩ := (HD.out.later HR.out.2 HD.out.ltB).cells k hlt
          have HS := hide (foldl_take (lastP zeroP a) d k hlt)
          have eao := HD.out.adr (by omega)
          subst eao
          generalize d.getD k (0, 0) = x at *
          obtain ⟨v, n⟩ := x
          dsimp only at c0 c1
          have Q1 := HR.out.1.alloc (.cells #[.int .i64 v, .int .i64 n] 64)
          have HQ1 := hide (And.intro Q1 (HR.out.2.alloc HR.out.2.size (.cells #[.int .i64 v, .int .i64 n] 64)))
          clear Q1
          go_wp2_with (go_at_call 50; refine (put_any b5 v n _ _ HQ1.out.1).mono ?_; rintro e w1 ⟨rfl, hq, hg⟩; have HQ := hide hq; have HG := hide hg; clear hq hg)
          refine ⟨⟨k + 1, by omega, by go_num, by rw [HS.out]; exact HQ.out, HQ1.out.2.trans (grown_below HG.out hb5 HQ1.out.2.size)⟩, by simp [intOf]; omega⟩
        · obtain rfl : k = d.length := by omega
          have hT : d.take d.length = d := List.take_length
          rw [hT] at HR
          have HR3 := hide HR.out
          clear HR hT HR2 HD
          have e1 : applyL a d = those (fun v => decide (0 < lastP (lastP zeroP a) d v)) (lastP (lastP zeroP a) d) 6 := rfl
          obtain ⟨P, hP⟩ : ∃ P, lastP (lastP zeroP a) d = P := ⟨_, rfl⟩
          rw [hP] at e1 HR3
          have HE := hide e1
          clear e1 hP
          obtain ⟨⟨c0, c1, c2, c3, c4, c5⟩, -⟩ := HR3.out.1.facts
          obtain ⟨wz, rfl⟩ : ∃ wz, wz = wr := ⟨_, rfl⟩
          go_upto_region 14 with fail
          go_loopw [10, 32] (fun v i wl => ∃ k : Nat, k ≤ 6 ∧ i = .int .i64 (k : Int) ∧ Pows wl wz.heap.size v (those (fun v => decide (0 < P v)) P k) ∧ Hid (Below wz.heap.size wz wl)) (fun _ i _ => (6 - intOf i).toNat)
          case atStart => exact ⟨0, by omega, rfl, Pows.nil _ _, Below.refl _ _⟩
          case round =>
            obtain ⟨k, hk, rfl, hown, HB⟩ := hrel
            have hsz : wz.heap.size ≤ wr.heap.size := HB.out.size
            by_cases hk6 : k < 6
            · have hkk : (k : Int) < 6 := by omega
              have hix := fun w => ixAll P hk6 w
              have HC := hide (those_succ (fun v => decide (0 < P v)) P k)
              have hlen := those_len (fun v => decide (0 < P v)) P k
              generalize P k = pk at *
              by_cases hne : 0 < pk
              · go_wp2_with (at_builtin; refine wpList_append_own_at _ rfl _ _ 22 rfl wz.heap.size 64 i0 (.agg #[.int .i64 0, .int .i64 0]) 2 16 Try.underlying22 hi hz0 hz1 hz2 rfl (by decide) _ _ _ rfl (World.ownsRow.alloc hown _) ⟨wr.heap.size, 0, none⟩ 1 1 [.int .i64 (k : Int), .int .i64 pk] rfl rfl (pw_news _ _ _ _) (by intro u hu; simp at hu; rcases hu with rfl | rfl <;> rfl) (by unfold maxLen; omega) (by omega) (by simp; omega) ?_; intro v' w1 hown' hgrow _ hat)
                have hb : Below wz.heap.size wz w1 := Pows.grow hown HB.out hgrow (Nat.le_refl _) hsz
                refine ⟨⟨k + 1, by omega, by go_num, ?_, hb⟩, by simp [intOf]; omega⟩
                rw [HC.out, if_pos (by simpa using hne)]
                exact Pows.append hown' rfl
              · go_wp2
                exact ⟨⟨k + 1, by omega, by go_num, by rw [HC.out, if_neg (by simpa using hne)]; exact hown, HB.out⟩, by simp [intOf]; omega⟩
            · obtain rfl : k = 6 := by omega
              go_wp2
              go_ret
              exact ⟨_, rfl, by rw [HE.out]; exact own_mono hown HR3.out.2.size, HR3.out.2.trans (HB.out.mono HR3.out.2.size)⟩
end Go.Proofs.Ytdkalcnlncjgiaa.Df

