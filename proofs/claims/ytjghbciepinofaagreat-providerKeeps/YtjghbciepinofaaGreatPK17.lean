/- Parts of the proof: N SU. -/
import Derived.Test.YtjghbciepinofaaGreatRows
import Derived.Test.YtjghbciepinofaaGreatPK5
import Derived.Test.YtjghbciepinofaaGreatPK16
import Derived.Test.YtjghbciepinofaaGreatPK38
import Derived.WalkKit
import Derived.LoopN
set_option maxRecDepth 100000
namespace Go.Proofs.YtjghbciepinofaaGreat
open Go.RowKit
set_option maxHeartbeats 1000000 in
theorem new_any (w : World) : Calls Tryz.prog 108 #[] w fun e w' => e = .returned (.agg #[.int .i64 100000, .int .i64 100000, .int .i64 100000, .int .i64 100000, .int .i64 0, .int .i64 0, .int .i64 0]) ∧ Below w.heap.size w w' := by
  go_enter Tryz.func108, Tryz.ntmps108
  go_wp2
  refine wp_loop_rounds 5 ?_
  iterate 5 (try (rw [rounds_succ]; go_wp2))
  exact bodyPost_ret (v := .agg #[.int .i64 100000, .int .i64 100000, .int .i64 100000, .int .i64 100000, .int .i64 0, .int .i64 0, .int .i64 0]) (by simp [results, Tryz.results108, go_sem]) rfl ⟨rfl, ((Below.refl _ w).alloc (Nat.le_refl _) _).alloc (by simp) _⟩
end Go.Proofs.YtjghbciepinofaaGreat

set_option maxRecDepth 100000
namespace Go.Proofs.YtjghbciepinofaaGreat
open Go.RowKit
def newS : St := ⟨⟨100000, 100000, 100000, 100000, 0, 0, 0⟩, fun _ => ⟨0, 0, 0, false, false⟩, fun _ _ => 0, [], 1⟩
theorem results_stake1 {fn : Func} {p : Tmp} (h : fn.results = #[.cell p 32]) (tmps : Array Value) (w : World) (g : Nat) (cs : Array Value)
    (hp : tmps.getD p undef = .pointer (some ⟨g, 0, none⟩)) (hg : SAt w g cs) (hsz : cs.size = 63) :
    (results fn tmps).run Tryz.prog w = .ok (.agg cs) w :=
  results_cell_row h _ _ g 32 cs (0, 0) _ hp hg Tryz.underlying32 rfl (by rw [infoS, hsz])
set_option maxHeartbeats 4000000 in
theorem snew_any (w : World) : Calls Tryz.prog 65 #[] w fun e w' => e = .returned (.agg (stC newS (.slice none 0 0))) ∧ Below w.heap.size w w' := by
  have R0 := SAt.new w Z63
  have HB0 : Hid (Below w.heap.size w (w.alloc (.cells Z63 32))) := (Below.refl _ w).alloc (Nat.le_refl _) _
  have hN := new_any
  go_enter Tryz.func65, Tryz.ntmps65
  go_upto_region 1 with fail
  change Code.wp Tryz.prog _ _ _ (w.alloc (.cells Z63 32))
  generalize w.alloc (.cells Z63 32) = w0 at *
  apply wp_region_lit
  go_step
  go_step
  refine (hN _).mono ?_
  rintro e w1 ⟨rfl, h1⟩
  have R1 := R0.later h1 R0.lt
  have HB1 := hide (HB0.out.trans (h1.mono HB0.out.size))
  clear h1 R0 HB0 hN
  dsimp only
  go_step
  go_step
  go_step
  go_step
  refine wpList_store_mid rfl 32 _ _ rfl _ 0 (stC newS (.slice none 0 0)) rfl rfl (R1.there 0 _ (by rw [Z63_size, stC_size]; omega)) (by rw [infoS]; rfl) (stC_one _ _ _ _) ?_
  go_wp2
  have R3 := R1.setAll (ds := stC newS (.slice none 0 0)) (by rw [stC_size]; rfl)
  exact bodyPost_ret (v := .agg (stC newS (.slice none 0 0))) (results_stake1 Tryz.results65 _ _ _ _ rfl R3 rfl) rfl ⟨rfl, below_sets (Nat.le_refl _) _ _ _ HB1.out⟩
/-- a stake that somebody has staked on -/
def oneS : St := (delegS newS 0 1 250).1
theorem one_good : goodS oneS = true := by decide +kernel
end Go.Proofs.YtjghbciepinofaaGreat

