/- Parts of the proof: ST SU. -/
import Derived.Test.YtkhlihpghbhppabGreatRows
import Derived.Test.YtkhlihpghbhppabGreatProviderRemovesK29
import Derived.Test.YtkhlihpghbhppabGreatProviderRemovesK35
import Derived.Test.YtkhlihpghbhppabGreatProviderRemovesK40
import Derived.Test.YtkhlihpghbhppabGreatProviderRemovesK53
set_option maxRecDepth 100000
namespace Go.Proofs.YtkhlihpghbhppabGreat
open Go.RowKit
/-- a validator's power -/
def pwr (x : Vd) : Int := x.tok / 100
/-- the first validators that have a power and are not jailed -/
def cand (V : Nat → Vd) : Nat → List Pw
  | 0 => []
  | k + 1 => if (decide (0 < pwr (V k)) && !(V k).jail) = true then cand V k ++ [((k : Int), pwr (V k))] else cand V k
def setS (V : Nat → Vd) : List Pw := isort ltV ((isort ltP (cand V 6)).take 4)
theorem cand_length (V : Nat → Vd) : ∀ k, (cand V k).length ≤ k
  | 0 => by simp [cand]
  | k + 1 => by
    have := cand_length V k
    rw [cand]
    split
    · simp; omega
    · omega
theorem isort_length (lt : Pw → Pw → Bool) (l : List Pw) : (isort lt l).length = l.length := sortTo_length _ _ _
theorem RowAt.take {w : World} {g : Nat} {l : List Pw} (h : RowAt w g l) (n : Nat) : RowAt w g (l.take n) := by
  obtain ⟨cur, hc, hx⟩ := h
  exact ⟨cur, hc, fun i x hi => hx i x (by rw [List.getElem?_take] at hi; split at hi; exact hi; simp at hi)⟩
set_option maxHeartbeats 4000000 in
theorem sset_any (s : St) (sl : Value) (w : World) (hV : ∀ k, k < 6 → inA (s.V k).tok = true) :
    Calls Tryz.prog 32 #[.agg (stC s sl)] w fun e w' => ∃ v, e = .returned v ∧ PRow w' w.heap.size v (setS s.V) ∧ Below w.heap.size w w' := by
  obtain ⟨i0, hi, hz0, hz1, hz2⟩ := info_parts infoPw
  have S0 := SAt.new w (stC s sl)
  have HB0 : Hid (Below w.heap.size w (w.alloc (.cells (stC s sl) 32))) := (Below.refl _ w).alloc (Nat.le_refl _) _
  go_enter Tryz.func32, Tryz.ntmps32
  go_upto_region 1 with fail
  generalize w.alloc (.cells (stC s sl) 32) = w0 at *
  have hz : w.heap.size < w0.heap.size := S0.lt
  go_wp2_with fail
  go_loopw [3, 7] (fun v i wl => ∃ k : Nat, k ≤ 6 ∧ i = .int .i64 (k : Int) ∧ Pows wl w0.heap.size v (cand s.V k) ∧ Hid (Below w0.heap.size w0 wl)) (fun _ i _ => (6 - intOf i).toNat)
  case atStart => exact ⟨0, by omega, rfl, Pows.nil _ _, Below.refl _ _⟩
  case round =>
    obtain ⟨k, hk, rfl, hown, HB⟩ := hrel
    have hsz : w0.heap.size ≤ wr.heap.size := HB.out.size
    by_cases hk6 : k < 6
    · have S1 := S0.later HB.out hz
      obtain ⟨c0, c1, c2, c3, c4⟩ := S1.val k hk6
      have hkk : (k : Int) < 6 := by omega
      have hta := inA_iff.1 (hV k hk6)
      have HC : Hid (cand s.V (k + 1) = if (decide (0 < pwr (s.V k)) && !(s.V k).jail) = true then cand s.V k ++ [((k : Int), pwr (s.V k))] else cand s.V k) := rfl
      have hlen := cand_length s.V k
      have hp : pwr (s.V k) = (s.V k).tok / 100 := rfl
      rw [hp] at HC
      clear c1 c2 c4 S1 hp
      generalize (s.V k).jail = jj at *
      generalize (s.V k).tok = tt at *
      go_wp2_with (at_builtin; refine wpList_append_own_at _ rfl _ _ 33 rfl w0.heap.size 82 i0 (.agg #[.int .i64 0, .int .i64 0]) 2 16 Tryz.underlying33 hi hz0 hz1 hz2 rfl (by decide) _ _ _ rfl (World.ownsRow.alloc hown _) ⟨wr.heap.size, 0, none⟩ 1 1 [.int .i64 (k : Int), .int .i64 (tt / 100)] rfl rfl (pw_news _ _ _ _) (by intro u hu; simp at hu; rcases hu with rfl | rfl <;> rfl) (by unfold maxLen; omega) (by omega) (by simp; omega) ?_; intro v' w1 hown' hgrow _ hat)
      · have hb : Below w0.heap.size w0 w1 := Pows.grow hown HB.out hgrow (Nat.le_refl _) hsz
        have hc : cand s.V (k + 1) = cand s.V k ++ [((k : Int), tt / 100)] := by rw [HC.out, if_pos (by simp_all)]
        refine ⟨⟨k + 1, by omega, by go_num, ?_, hb⟩, by simp [intOf]; omega⟩
        rw [hc]
        exact Pows.append hown' rfl
      · have hc : cand s.V (k + 1) = cand s.V k := by rw [HC.out, if_neg (by simp_all)]
        exact ⟨⟨k + 1, by omega, by go_num, by rw [hc]; exact hown, HB.out⟩, by simp [intOf]; omega⟩
      · have hc : cand s.V (k + 1) = cand s.V k := by rw [HC.out, if_neg (by simp; intro h; omega)]
        exact ⟨⟨k + 1, by omega, by go_num, by rw [hc]; exact hown, HB.out⟩, by simp [intOf]; omega⟩
    · obtain rfl : k = 6 := by omega
      have HBw : Hid (Below w.heap.size w wr) := HB0.out.trans (HB.out.mono (Nat.le_of_lt hz))
      have hl6 := cand_length s.V 6
      have HX : Hid (setS s.V = isort ltV ((isort ltP (cand s.V 6)).take 4)) := rfl
      rcases hown.row with ⟨rfl, hnil⟩ | ⟨g, cap, rfl, hg, hrow, hcap, hmax⟩
      · have HX2 : Hid (setS s.V = []) := by rw [HX.out, hnil]; rfl
        clear hnil hown HX S0 hV
        go_wp2_with (go_at_call 56; refine (sortf_none _ _).mono ?_; rintro e w1 ⟨rfl, rfl⟩)
        go_ret
        exact ⟨_, rfl, .inl ⟨rfl, HX2.out⟩, HBw.out⟩
      · have hP := sortf_P g cap (cand s.V 6) wr hrow (by omega)
        rw [← isort_length ltP (cand s.V 6)] at hl6 hcap hP ⊢
        have hL0 := hP
        clear hrow hown S0 hV hL0
        generalize isort ltP (cand s.V 6) = L at *
        unfold maxLen at hmax
        have hi0 : (0 : Int) ≤ (L.length : Int) := by omega
        have hi1 : (L.length : Int) ≤ (cap : Int) := by omega
        by_cases h4 : L.length ≤ 4
        · have h4' : (L.length : Int) ≤ 4 := by omega
          have HX2 : Hid (setS s.V = isort ltV L) := by rw [HX.out, List.take_of_length_le h4]; exact rfl
          go_wp2_with (first
            | (go_at_call 56; have _m := m1; refine (sortf_V g cap L _ (by exact HR1.out.1) (by omega)).mono ?_; rintro e w2 ⟨rfl, hr2⟩; have HR2 := hide hr2; clear hr2)
            | (go_at_call 56; refine hP.mono ?_; rintro e w1 ⟨rfl, hr1⟩; have HR1 := hide hr1; clear hr1; have m1 : True := trivial))
          go_ret
          have hsz1 := HR1.out.2.size
          refine ⟨_, rfl, .inr ⟨g, cap, ?_, by omega, by rw [HX2.out]; exact HR2.out.1, by rw [HX2.out, isort_length]; exact hcap, by unfold maxLen; exact hmax⟩, ?_⟩
          · rw [HX2.out, isort_length]; rfl
          · exact (HBw.out.trans (HR1.out.2.below (B := w.heap.size) (by omega) (by omega))).trans (HR2.out.2.below (by omega) (by omega))
        · have h4' : 4 < (L.length : Int) := by omega
          have hl4 : (L.take 4).length = 4 := by rw [List.length_take]; omega
          have hS := fun w h => sortf_V g cap (L.take 4) w h (by omega)
          rw [hl4] at hS
          have hc4 : (4 : Int) ≤ (cap : Int) := by omega
          go_wp2_with (first
            | (go_at_call 56; have _m := m1; refine (hS _ (by exact HR1.out.1.take 4)).mono ?_; rintro e w2 ⟨rfl, hr2⟩; have HR2 := hide hr2; clear hr2)
            | (go_at_call 56; refine hP.mono ?_; rintro e w1 ⟨rfl, hr1⟩; have HR1 := hide hr1; clear hr1; have m1 : True := trivial))
          go_ret
          have hsz1 := HR1.out.2.size
          refine ⟨_, rfl, .inr ⟨g, cap, ?_, by omega, by rw [HX.out]; exact HR2.out.1, by rw [HX.out, isort_length, hl4]; omega, by unfold maxLen; exact hmax⟩, ?_⟩
          · rw [HX.out, isort_length, hl4]; rfl
          · exact (HBw.out.trans (HR1.out.2.below (B := w.heap.size) (by omega) (by omega))).trans (HR2.out.2.below (by omega) (by omega))
end Go.Proofs.YtkhlihpghbhppabGreat

set_option maxRecDepth 100000
namespace Go.Proofs.YtkhlihpghbhppabGreat
open Go.RowKit
def newS : St := ⟨⟨100000, 100000, 100000, 100000, 0, 0, 0⟩, fun _ => ⟨0, 0, 0, false, false⟩, fun _ _ => 0, [], 1⟩
theorem results_stake1 {fn : Func} {p : Tmp} (h : fn.results = #[.cell p 32]) (tmps : Array Value) (w : World) (g : Nat) (cs : Array Value)
    (hp : tmps.getD p undef = .pointer (some ⟨g, 0, none⟩)) (hg : SAt w g cs) (hsz : cs.size = 63) :
    (results fn tmps).run Tryz.prog w = .ok (.agg cs) w :=
  results_cell_row h _ _ g 32 cs (0, 0) _ hp hg Tryz.underlying32 rfl (by rw [infoS, hsz])
set_option maxHeartbeats 4000000 in
theorem snew_any (w : World) : Calls Tryz.prog 49 #[] w fun e w' => e = .returned (.agg (stC newS (.slice none 0 0))) ∧ Below w.heap.size w w' := by
  have R0 := SAt.new w Z63
  have HB0 : Hid (Below w.heap.size w (w.alloc (.cells Z63 32))) := (Below.refl _ w).alloc (Nat.le_refl _) _
  have hN := new_any
  go_enter Tryz.func49, Tryz.ntmps49
  go_upto_region 1 with fail
  change Code.wp Tryz.prog _ _ _ (w.alloc (.cells Z63 32))
  generalize w.alloc (.cells Z63 32) = w0 at *
  apply wp_region_lit
  go_step
  go_step
  refine (hN _).mono ?_
  rintro e w1 ⟨rfl, h1⟩
  have R1 := R0.later h1 R0.lt
  have HB1 := hide (HB0.out.trans (h1.mono HB0.out.size))
  clear h1 R0 HB0 hN
  dsimp only
  go_step
  go_step
  go_step
  go_step
  refine wpList_store_mid rfl 32 _ _ rfl _ 0 (stC newS (.slice none 0 0)) rfl rfl (R1.there 0 _ (by rw [Z63_size, stC_size]; omega)) (by rw [infoS]; rfl) (stC_one _ _ _ _) ?_
  go_wp2
  have R3 := R1.setAll (ds := stC newS (.slice none 0 0)) (by rw [stC_size]; rfl)
  exact bodyPost_ret (v := .agg (stC newS (.slice none 0 0))) (results_stake1 Tryz.results49 _ _ _ _ rfl R3 rfl) rfl ⟨rfl, below_sets (Nat.le_refl _) _ _ _ HB1.out⟩
/-- a stake that somebody has staked on -/
def oneS : St := (delegS newS 0 1 250).1
theorem one_good : goodS oneS = true := by decide +kernel
end Go.Proofs.YtkhlihpghbhppabGreat

