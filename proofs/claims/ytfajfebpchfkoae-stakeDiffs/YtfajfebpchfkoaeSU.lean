/- New, and the law's first look: does stake answer at all? -/
import Derived.Test.YtfajfebpchfkoaeST
import Derived.Test.YtfajfebpchfkoaeSK
import Derived.Test.YtfajfebpchfkoaeN
set_option maxRecDepth 100000
namespace Go.Proofs.Ytfajfebpchfkoae
open Go.RowKit
def newS : St := ⟨⟨100000, 100000, 100000, 100000, 0, 0, 0⟩, fun _ => ⟨0, 0, 0, false, false⟩, fun _ _ => 0, [], 1⟩
theorem results_stake1 {fn : Func} {p : Tmp} (h : fn.results = #[.cell p 43]) (tmps : Array Value) (w : World) (g : Nat) (cs : Array Value)
    (hp : tmps.getD p undef = .pointer (some ⟨g, 0, none⟩)) (hg : SAt w g cs) (hsz : cs.size = 63) :
    (results fn tmps).run Try.prog w = .ok (.agg cs) w :=
  results_cell_row h _ _ g 43 cs (0, 0) _ hp hg Try.underlying43 rfl (by rw [infoS, hsz])
set_option maxHeartbeats 4000000 in
theorem snew_any (w : World) : Calls Try.prog 15 #[] w fun e w' => e = .returned (.agg (stC newS (.slice none 0 0))) ∧ Below w.heap.size w w' := by
  have R0 := SAt.new w Z63
  have HB0 : Hid (Below w.heap.size w (w.alloc (.cells Z63 43))) := (Below.refl _ w).alloc (Nat.le_refl _) _
  have hN := new_any
  go_enter Try.func15, Try.ntmps15
  go_upto_region 1 with fail
  change Code.wp Try.prog _ _ _ (w.alloc (.cells Z63 43))
  generalize w.alloc (.cells Z63 43) = w0 at *
  apply wp_region_lit
  go_step
  go_step
  refine (hN _).mono ?_
  rintro e w1 ⟨rfl, h1⟩
  have R1 := R0.later h1 R0.lt
  have HB1 := hide (HB0.out.trans (h1.mono HB0.out.size))
  clear h1 R0 HB0 hN
  dsimp only
  go_step
  go_step
  go_step
  go_step
  refine wpList_store_mid rfl 43 _ _ rfl _ 0 (stC newS (.slice none 0 0)) rfl rfl (R1.there 0 _ (by rw [Z63_size, stC_size]; omega)) (by rw [infoS]; rfl) (stC_one _ _ _ _) ?_
  go_wp2
  have R3 := R1.setAll (ds := stC newS (.slice none 0 0)) (by rw [stC_size]; rfl)
  exact bodyPost_ret (v := .agg (stC newS (.slice none 0 0))) (results_stake1 Try.results15 _ _ _ _ rfl R3 rfl) rfl ⟨rfl, below_sets (Nat.le_refl _) _ _ _ HB1.out⟩
theorem wsNil (w : World) : WsAt w none 0 0 ([] : List Wt) := ⟨fun h => absurd h (by simp), by simp, fun i x h => by simp at h⟩
/-- a stake that somebody has staked on -/
def oneS : St := (delegS newS 0 1 250).1
theorem one_err : (delegS newS 0 1 250).2 = 0 := by decide +kernel
theorem one_good : goodS oneS = true := by decide +kernel
theorem one_set : setS oneS.V = [(1, 2)] := by decide +kernel
theorem one_W : oneS.W = [] := by rfl
set_option maxHeartbeats 4000000 in
theorem stakes_any (w : World) : Calls Try.prog 14 #[] w fun e w' => e = .returned (.bool true) ∧ Below w.heap.size w w' := by
  have hD := fun w => deleg_any newS none 0 0 0 0 1 250 w (wsNil w)
  rw [one_err, show (delegS newS 0 1 250).1 = oneS from rfl, show newS.W.length = 0 from rfl] at hD
  have hS := fun w => sset_any oneS (.slice none 0 0) w (fun k hk => (vOk_amounts (good_vals one_good k hk).1).1)
  rw [one_set] at hS
  have hG := fun w => sgood_any oneS none 0 0 0 w (by rw [one_W]; exact wsNil w)
  rw [one_good, show oneS.W.length = 0 by rw [one_W]; rfl] at hG
  go_enter Try.func14, Try.ntmps14
  go_upto_region 1 with fail
  apply wp_region_lit
  go_step
  go_step
  refine (snew_any _).mono ?_
  rintro e w1 ⟨rfl, h1⟩
  dsimp only
  go_step
  go_step
  go_step
  refine (hD _).mono ?_
  rintro e w2 ⟨rfl, h2⟩
  dsimp only
  have HB2 := hide (h1.trans (h2.mono h1.size))
  have hz2 := HB2.out.size
  clear h1 h2 hD
  go_step
  go_step
  go_step
  go_step
  go_step
  go_step
  go_step
  go_step
  go_step
  go_step
  go_step
  go_step
  go_step
  have R2 := SAt.new w2 Z63
  have HB3 := hide (HB2.out.alloc hz2 (.cells Z63 43))
  refine wpList_store_mid rfl 43 _ _ rfl _ 0 (stC oneS (.slice none 0 0)) rfl rfl (R2.there 0 _ (by rw [Z63_size, stC_size]; omega)) (by rw [infoS]; rfl) (stC_one _ _ _ _) ?_
  have S3 := R2.setAll (ds := stC oneS (.slice none 0 0)) (by rw [stC_size]; rfl)
  have HB4 := hide (below_sets hz2 (stC oneS (.slice none 0 0)).toList 0 _ HB3.out)
  change wpList Try.prog _ _ _ _ ((w2.alloc (.cells Z63 43)).setCells w2.heap.size 0 (stC oneS (.slice none 0 0)).toList)
  generalize (w2.alloc (.cells Z63 43)).setCells w2.heap.size 0 (stC oneS (.slice none 0 0)).toList = w3 at *
  clear R2 HB3 HB2
  go_upto_region 2 with fail
  apply wp_region_lit
  refine wpList_load_mid rfl 43 _ rfl _ 0 rfl _ _ S3.range Try.underlying43 rfl (by rw [infoS]; rfl) ?_
  go_upto_region 3 with (go_at_call 35; refine (hS _).mono ?_; rintro e w4 ⟨v, rfl, hv, h4⟩)
  have S4 := S3.later h4 S3.lt
  have HB5 := hide (HB4.out.trans (h4.mono HB4.out.size))
  have hz3 := HB5.out.size
  have hb3 := S4.lt
  clear h4 S3 HB4 hS
  rcases hv with ⟨_, h⟩ | ⟨g, cap, rfl, hg, hrow, _⟩
  · exact absurd h (by simp)
  apply wp_region_lit
  iterate 9 go_step
  go_guarded
  refine wp_load_mid 43 _ rfl _ 0 rfl _ _ S4.range Try.underlying43 rfl (by rw [infoS]; rfl) ?_
  have hln : ([(1, 2)] : List Pw).length = 1 := rfl
  rw [hln]
  clear S4 hln
  go_wp2_with (go_at_call 17; refine (hG _).mono ?_; rintro e w5 ⟨rfl, h5⟩; obtain ⟨c0, c1⟩ := (hrow.later h5).cell (i := 0) (by simp); have HB6 := hide (HB5.out.trans (h5.mono hz3)); clear h5)
  go_ret
  exact ⟨rfl, HB6.out⟩
end Go.Proofs.Ytfajfebpchfkoae
