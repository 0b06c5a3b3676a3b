/- Set. New, and the law's first look: does stake answer at all? -/
import Derived.Test.YtjmhmmphbcohdaaXsc
import Derived.Test.YtjmhmmphbcohdaaXsa
import Derived.Test.YtjmhmmphbcohdaaXsb
import Derived.Test.YtjmhmmphbcohdaaXba
set_option maxRecDepth 100000
namespace Go.Proofs.Ytjmhmmphbcohdaa
open Go.RowKit
/-- a validator's power -/
def pwr (x : Vd) : Int := x.tok / 100
/-- the first validators that have a power and are not jailed -/
def cand (V : Nat → Vd) : Nat → List Pw
  | 0 => []
  | k + 1 => if (decide (0 < pwr (V k)) && !(V k).jail) = true then cand V k ++ [((k : Int), pwr (V k))] else cand V k
def setS (V : Nat → Vd) : List Pw := isort ltV ((isort ltP (cand V 6)).take 4)
theorem cand_length (V : Nat → Vd) : ∀ k, (cand V k).length ≤ k
  | 0 => by simp [cand]
  | k + 1 => by
    have := cand_length V k
    rw [cand]
    split
    · simp; omega
    · omega
theorem isort_length (lt : Pw → Pw → Bool) (l : List Pw) : (isort lt l).length = l.length := sortTo_length _ _ _
theorem RowAt.take {w : World} {g : Nat} {l : List Pw} (h : RowAt w g l) (n : Nat) : RowAt w g (l.take n) := by
  obtain ⟨cur, hc, hx⟩ := h
  exact ⟨cur, hc, fun i x hi => hx i x (by rw [List.getElem?_take] at hi; split at hi; exact hi; simp at hi)⟩
set_option maxHeartbeats 4000000 in
theorem sset_any (s : St) (sl : Value) (w : World) (hV : ∀ k, k < 6 → inA (s.V k).tok = true) :
    Calls Try.prog 10 #[.agg (stC s sl)] w fun e w' => ∃ v, e = .returned v ∧ PRow w' w.heap.size v (setS s.V) ∧ Below w.heap.size w w' := by
  obtain ⟨i0, hi, hz0, hz1, hz2⟩ := info_parts infoPw
  have S0 := SAt.new w (stC s sl)
  have HB0 : Hid (Below w.heap.size w (w.alloc (.cells (stC s sl) 34))) := (Below.refl _ w).alloc (Nat.le_refl _) _
  go_enter Try.func10, Try.ntmps10
  go_upto_region 1 with fail
  generalize w.alloc (.cells (stC s sl) 34) = w0 at *
  have hz : w.heap.size < w0.heap.size := S0.lt
  go_wp2_with fail
  go_loopw [3, 7] (fun v i wl => ∃ k : Nat, k ≤ 6 ∧ i = .int .i64 (k : Int) ∧ Pows wl w0.heap.size v (cand s.V k) ∧ Hid (Below w0.heap.size w0 wl)) (fun _ i _ => (6 - intOf i).toNat)
  case atStart => exact ⟨0, by omega, rfl, Pows.nil _ _, Below.refl _ _⟩
  case round =>
    obtain ⟨k, hk, rfl, hown, HB⟩ := hrel
    have hsz : w0.heap.size ≤ wr.heap.size := HB.out.size
    by_cases hk6 : k < 6
    · have S1 := S0.later HB.out hz
      obtain ⟨c0, c1, c2, c3, c4⟩ := S1.val k hk6
      have hkk : (k : Int) < 6 := by omega
      have hta := inA_iff.1 (hV k hk6)
      have HC : Hid (cand s.V (k + 1) = if (decide (0 < pwr (s.V k)) && !(s.V k).jail) = true then cand s.V k ++ [((k : Int), pwr (s.V k))] else cand s.V k) := rfl
      have hlen := cand_length s.V k
      have hp : pwr (s.V k) = (s.V k).tok / 100 := rfl
      rw [hp] at HC
      clear c1 c2 c4 S1 hp
      generalize (s.V k).jail = jj at *
      generalize (s.V k).tok = tt at *
      go_wp2_with (at_builtin; refine wpList_append_own_at _ rfl _ _ 45 rfl w0.heap.size 48 i0 (.agg #[.int .i64 0, .int .i64 0]) 2 16 Try.underlying45 hi hz0 hz1 hz2 rfl (by decide) _ _ _ rfl (World.ownsRow.alloc hown _) ⟨wr.heap.size, 0, none⟩ 1 1 [.int .i64 (k : Int), .int .i64 (tt / 100)] rfl rfl (pw_news _ _ _ _) (by intro u hu; simp at hu; rcases hu with rfl | rfl <;> rfl) (by unfold maxLen; omega) (by omega) (by simp; omega) ?_; intro v' w1 hown' hgrow _ hat)
      · have hb : Below w0.heap.size w0 w1 := Pows.grow hown HB.out hgrow (Nat.le_refl _) hsz
        have hc : cand s.V (k + 1) = cand s.V k ++ [((k : Int), tt / 100)] := by rw [HC.out, if_pos (by simp_all)]
        refine ⟨⟨k + 1, by omega, by go_num, ?_, hb⟩, by simp [intOf]; omega⟩
        rw [hc]
        exact Pows.append hown' rfl
      · have hc : cand s.V (k + 1) = cand s.V k := by rw [HC.out, if_neg (by simp_all)]
        exact ⟨⟨k + 1, by omega, by go_num, by rw [hc]; exact hown, HB.out⟩, by simp [intOf]; omega⟩
      · have hc : cand s.V (k + 1) = cand s.V k := by rw [HC.out, if_neg (by simp; intro h; omega)]
        exact ⟨⟨k + 1, by omega, by go_num, by rw [hc]; exact hown, HB.out⟩, by simp [intOf]; omega⟩
    · obtain rfl : k = 6 := by omega
      have HBw : Hid (Below w.heap.size w wr) := HB0.out.trans (HB.out.mono (Nat.le_of_lt hz))
      have hl6 := cand_length s.V 6
      have HX : Hid (setS s.V = isort ltV ((isort ltP (cand s.V 6)).take 4)) := rfl
      rcases hown.row with ⟨rfl, hnil⟩ | ⟨g, cap, rfl, hg, hrow, hcap, hmax⟩
      · have HX2 : Hid (setS s.V = []) := by rw [HX.out, hnil]; rfl
        clear hnil hown HX S0 hV
        go_wp2_with (go_at_call 31; refine (sortf_none _ _).mono ?_; rintro e w1 ⟨rfl, rfl⟩)
        go_ret
        exact ⟨_, rfl, .inl ⟨rfl, HX2.out⟩, HBw.out⟩
      · have hP := sortf_P g cap (cand s.V 6) wr hrow (by omega)
        rw [← isort_length ltP (cand s.V 6)] at hl6 hcap hP ⊢
        have hL0 := hP
        clear hrow hown S0 hV hL0
        generalize isort ltP (cand s.V 6) = L at *
        unfold maxLen at hmax
        have hi0 : (0 : Int) ≤ (L.length : Int) := by omega
        have hi1 : (L.length : Int) ≤ (cap : Int) := by omega
        by_cases h4 : L.length ≤ 4
        · have h4' : (L.length : Int) ≤ 4 := by omega
          have HX2 : Hid (setS s.V = isort ltV L) := by rw [HX.out, List.take_of_length_le h4]; exact rfl
          go_wp2_with (first
            | (go_at_call 31; have _m := m1; refine (sortf_V g cap L _ (by exact HR1.out.1) (by omega)).mono ?_; rintro e w2 ⟨rfl, hr2⟩; have HR2 := hide hr2; clear hr2)
            | (go_at_call 31; refine hP.mono ?_; rintro e w1 ⟨rfl, hr1⟩; have HR1 := hide hr1; clear hr1; have m1 : True := trivial))
          go_ret
          have hsz1 := HR1.out.2.size
          refine ⟨_, rfl, .inr ⟨g, cap, ?_, by omega, by rw [HX2.out]; exact HR2.out.1, by rw [HX2.out, isort_length]; exact hcap, by unfold maxLen; exact hmax⟩, ?_⟩
          · rw [HX2.out, isort_length]; rfl
          · exact (HBw.out.trans (HR1.out.2.below (B := w.heap.size) (by omega) (by omega))).trans (HR2.out.2.below (by omega) (by omega))
        · have h4' : 4 < (L.length : Int) := by omega
          have hl4 : (L.take 4).length = 4 := by rw [List.length_take]; omega
          have hS := fun w h => sortf_V g cap (L.take 4) w h (by omega)
          rw [hl4] at hS
          have hc4 : (4 : Int) ≤ (cap : Int) := by omega
          go_wp2_with (first
            | (go_at_call 31; have _m := m1; refine (hS _ (by exact HR1.out.1.take 4)).mono ?_; rintro e w2 ⟨rfl, hr2⟩; have HR2 := hide hr2; clear hr2)
            | (go_at_call 31; refine hP.mono ?_; rintro e w1 ⟨rfl, hr1⟩; have HR1 := hide hr1; clear hr1; have m1 : True := trivial))
          go_ret
          have hsz1 := HR1.out.2.size
          refine ⟨_, rfl, .inr ⟨g, cap, ?_, by omega, by rw [HX.out]; exact HR2.out.1, by rw [HX.out, isort_length, hl4]; omega, by unfold maxLen; exact hmax⟩, ?_⟩
          · rw [HX.out, isort_length, hl4]; rfl
          · exact (HBw.out.trans (HR1.out.2.below (B := w.heap.size) (by omega) (by omega))).trans (HR2.out.2.below (by omega) (by omega))
end Go.Proofs.Ytjmhmmphbcohdaa
namespace Go.Proofs.Ytjmhmmphbcohdaa
open Go.RowKit
def newS : St := ⟨⟨100000, 100000, 100000, 100000, 0, 0, 0⟩, fun _ => ⟨0, 0, 0, false, false⟩, fun _ _ => 0, [], 1⟩
theorem results_stake1 {fn : Func} {p : Tmp} (h : fn.results = #[.cell p 34]) (tmps : Array Value) (w : World) (g : Nat) (cs : Array Value)
    (hp : tmps.getD p undef = .pointer (some ⟨g, 0, none⟩)) (hg : SAt w g cs) (hsz : cs.size = 63) :
    (results fn tmps).run Try.prog w = .ok (.agg cs) w :=
  results_cell_row h _ _ g 34 cs (0, 0) _ hp hg Try.underlying34 rfl (by rw [infoS, hsz])
set_option maxHeartbeats 4000000 in
theorem snew_any (w : World) : Calls Try.prog 5 #[] w fun e w' => e = .returned (.agg (stC newS (.slice none 0 0))) ∧ Below w.heap.size w w' := by
  have R0 := SAt.new w Z63
  have HB0 : Hid (Below w.heap.size w (w.alloc (.cells Z63 34))) := (Below.refl _ w).alloc (Nat.le_refl _) _
  have hN := new_any
  go_enter Try.func5, Try.ntmps5
  go_upto_region 1 with fail
  change Code.wp Try.prog _ _ _ (w.alloc (.cells Z63 34))
  generalize w.alloc (.cells Z63 34) = w0 at *
  apply wp_region_lit
  go_step
  go_step
  refine (hN _).mono ?_
  rintro e w1 ⟨rfl, h1⟩
  have R1 := R0.later h1 R0.lt
  have HB1 := hide (HB0.out.trans (h1.mono HB0.out.size))
  clear h1 R0 HB0 hN
  dsimp only
  go_step
  go_step
  go_step
  go_step
  refine wpList_store_mid rfl 34 _ _ rfl _ 0 (stC newS (.slice none 0 0)) rfl rfl (R1.there 0 _ (by rw [Z63_size, stC_size]; omega)) (by rw [infoS]; rfl) (stC_one _ _ _ _) ?_
  go_wp2
  have R3 := R1.setAll (ds := stC newS (.slice none 0 0)) (by rw [stC_size]; rfl)
  exact bodyPost_ret (v := .agg (stC newS (.slice none 0 0))) (results_stake1 Try.results5 _ _ _ _ rfl R3 rfl) rfl ⟨rfl, below_sets (Nat.le_refl _) _ _ _ HB1.out⟩
theorem wsNil (w : World) : WsAt w none 0 0 ([] : List Wt) := ⟨fun h => absurd h (by simp), by simp, fun i x h => by simp at h⟩
/-- a stake that somebody has staked on -/
def oneS : St := (delegS newS 0 1 250).1
theorem one_err : (delegS newS 0 1 250).2 = 0 := by decide +kernel
theorem one_good : goodS oneS = true := by decide +kernel
theorem one_set : setS oneS.V = [(1, 2)] := by decide +kernel
theorem one_W : oneS.W = [] := by rfl
set_option maxHeartbeats 4000000 in
theorem stakes_any (w : World) : Calls Try.prog 4 #[] w fun e w' => e = .returned (.bool true) ∧ Below w.heap.size w w' := by
  have hD := fun w => deleg_any newS none 0 0 0 0 1 250 w (wsNil w)
  rw [one_err, show (delegS newS 0 1 250).1 = oneS from rfl, show newS.W.length = 0 from rfl] at hD
  have hS := fun w => sset_any oneS (.slice none 0 0) w (fun k hk => (vOk_amounts (good_vals one_good k hk).1).1)
  rw [one_set] at hS
  have hG := fun w => sgood_any oneS none 0 0 0 w (by rw [one_W]; exact wsNil w)
  rw [one_good, show oneS.W.length = 0 by rw [one_W]; rfl] at hG
  go_enter Try.func4, Try.ntmps4
  go_upto_region 1 with fail
  apply wp_region_lit
  go_step
  go_step
  refine (snew_any _).mono ?_
  rintro e w1 ⟨rfl, h1⟩
  dsimp only
  go_step
  go_step
  go_step
  refine (hD _).mono ?_
  rintro e w2 ⟨rfl, h2⟩
  dsimp only
  have HB2 := hide (h1.trans (h2.mono h1.size))
  have hz2 := HB2.out.size
  clear h1 h2 hD
  go_step
  go_step
  go_step
  go_step
  go_step
  go_step
  go_step
  go_step
  go_step
  go_step
  go_step
  go_step
  go_step
  have R2 := SAt.new w2 Z63
  have HB3 := hide (HB2.out.alloc hz2 (.cells Z63 34))
  refine wpList_store_mid rfl 34 _ _ rfl _ 0 (stC oneS (.slice none 0 0)) rfl rfl (R2.there 0 _ (by rw [Z63_size, stC_size]; omega)) (by rw [infoS]; rfl) (stC_one _ _ _ _) ?_
  have S3 := R2.setAll (ds := stC oneS (.slice none 0 0)) (by rw [stC_size]; rfl)
  have HB4 := hide (below_sets hz2 (stC oneS (.slice none 0 0)).toList 0 _ HB3.out)
  change wpList Try.prog _ _ _ _ ((w2.alloc (.cells Z63 34)).setCells w2.heap.size 0 (stC oneS (.slice none 0 0)).toList)
  generalize (w2.alloc (.cells Z63 34)).setCells w2.heap.size 0 (stC oneS (.slice none 0 0)).toList = w3 at *
  clear R2 HB3 HB2
  go_upto_region 2 with fail
  apply wp_region_lit
  refine wpList_load_mid rfl 34 _ rfl _ 0 rfl _ _ S3.range Try.underlying34 rfl (by rw [infoS]; rfl) ?_
  go_upto_region 3 with (go_at_call 10; refine (hS _).mono ?_; rintro e w4 ⟨v, rfl, hv, h4⟩)
  have S4 := S3.later h4 S3.lt
  have HB5 := hide (HB4.out.trans (h4.mono HB4.out.size))
  have hz3 := HB5.out.size
  have hb3 := S4.lt
  clear h4 S3 HB4 hS
  rcases hv with ⟨_, h⟩ | ⟨g, cap, rfl, hg, hrow, _⟩
  · exact absurd h (by simp)
  apply wp_region_lit
  iterate 9 go_step
  go_guarded
  refine wp_load_mid 34 _ rfl _ 0 rfl _ _ S4.range Try.underlying34 rfl (by rw [infoS]; rfl) ?_
  have hln : ([(1, 2)] : List Pw).length = 1 := rfl
  rw [hln]
  clear S4 hln
  go_wp2_with (go_at_call 7; refine (hG _).mono ?_; rintro e w5 ⟨rfl, h5⟩; obtain ⟨c0, c1⟩ := (hrow.later h5).cell (i := 0) (by simp); have HB6 := hide (HB5.out.trans (h5.mono hz3)); clear h5)
  go_ret
  exact ⟨rfl, HB6.out⟩
end Go.Proofs.Ytjmhmmphbcohdaa
