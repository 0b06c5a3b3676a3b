/- refused, refusedOf. -/
import Derived.Test.YtfajfebpchfkoaeSF
set_option maxRecDepth 100000
namespace Go.Proofs.Ytfajfebpchfkoae
open Go.RowKit
set_option maxHeartbeats 1000000 in
theorem refused_any (s : St) (ao : Option Addr) (sb so c b : Nat) (v : Int) (w : World) (h : SAt w b (stC s (.slice ao s.W.length c))) (hW : WsAt w ao sb so s.W) :
    Calls Try.prog 67 #[.pointer (some ⟨b, 0, none⟩), .int .i64 v] w fun e w' => e = .returned (.int .i64 (refE s v)) ∧ Below w.heap.size w w' := by
  have hrg := h.range
  have hG := sgood_any s ao sb so c w hW
  have hV := isVal_any v
  unfold refE
  generalize goodS s = t1 at *
  generalize isV v = t2 at *
  clear h hW
  go_enter Try.func67, Try.ntmps67
  go_upto_region 1 with fail
  apply wp_region_lit
  iterate 6 go_step
  refine wpList_load_mid rfl 43 _ rfl b 0 rfl _ _ hrg Try.underlying43 rfl (by rw [infoS]; rfl) ?_
  clear hrg
  go_wp2_with (first
    | (go_at_call 17; refine hG.mono ?_; rintro e w1 ⟨rfl, hB⟩)
    | (go_at_call 55; refine (hV _).mono ?_; rintro e w2 ⟨rfl, rfl⟩))
  all_goals (go_ret; refine ⟨?_, hB⟩; first | (simp_all; done) | (congr 1; congr 1; simp_all))
set_option maxHeartbeats 1000000 in
theorem refusedOf_any (s : St) (ao : Option Addr) (sb so c b : Nat) (d v : Int) (w : World) (h : SAt w b (stC s (.slice ao s.W.length c))) (hW : WsAt w ao sb so s.W) :
    Calls Try.prog 56 #[.pointer (some ⟨b, 0, none⟩), .int .i64 d, .int .i64 v] w fun e w' => e = .returned (.int .i64 (refOfE s d v)) ∧ Below w.heap.size w w' := by
  have hG := refused_any s ao sb so c b v w h hW
  have hV := sisDel_any d
  unfold refOfE
  generalize refE s v = t1 at *
  generalize isD d = t2 at *
  clear h hW
  go_enter Try.func56, Try.ntmps56
  go_wp2_with (first
    | (go_at_call 67; refine hG.mono ?_; rintro e w1 ⟨rfl, hB⟩)
    | (go_at_call 75; refine (hV _).mono ?_; rintro e w2 ⟨rfl, rfl⟩))
  all_goals (go_ret; refine ⟨?_, hB⟩; first | (simp_all; done) | (congr 1; congr 1; simp_all))
end Go.Proofs.Ytfajfebpchfkoae
