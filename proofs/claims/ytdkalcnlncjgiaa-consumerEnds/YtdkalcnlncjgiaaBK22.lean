/- Parts of the proof: KRE. -/
import Derived.Test.YtdkalcnlncjgiaaRows
import Derived.Test.YtdkalcnlncjgiaaBK21
set_option maxRecDepth 100000
namespace Go.Proofs.Ytdkalcnlncjgiaa.Cd
open Go.RowKit
theorem ep_bad (k i v n : Int) (S : List (Int × Int)) (D : List Int) (sa da : Option Addr) (cs cd sb so db dO : Nat) (w : World) (L : Lies w S D sa da sb so db dO) (hg : goodN k i v n S D ≠ 0) :
    Calls Try.prog 40 #[.agg #[.int .i64 k, .int .i64 i, .int .i64 v, .int .i64 n, .slice sa S.length cs, .slice da D.length cd]] w fun e w' => e = .returned (.tuple #[.string ⟨#[]⟩, .int .i64 (goodN k i v n S D)]) ∧ Below w.heap.size w w' := by
  have hgood := gp_any k i v n S D sa da cs cd sb so db dO _ (L.later (below_new w (.cells #[.int .i64 k, .int .i64 i, .int .i64 v, .int .i64 n, .slice sa S.length cs, .slice da D.length cd] 46)))
  have HB : Hid (Below w.heap.size w (w.alloc (.cells #[.int .i64 k, .int .i64 i, .int .i64 v, .int .i64 n, .slice sa S.length cs, .slice da D.length cd] 46))) := below_new w _
  generalize goodN k i v n S D = G at *
  have hG : (G != 0) = true := by simpa using hg
  clear L hg
  go_enter Try.func40, Try.ntmps40
  go_wp2_with (go_at_call 37; refine hgood.mono ?_; rintro e w1 ⟨rfl, hb1⟩)
  go_ret2
  exact ⟨rfl, HB.out.trans (hb1.mono HB.out.size)⟩
theorem ep_any (k i v n : Int) (S : List (Int × Int)) (D : List Int) (sa da : Option Addr) (cs cd sb so db dO : Nat) (w : World) (L : Lies w S D sa da sb so db dO) :
    Calls Try.prog 40 #[.agg #[.int .i64 k, .int .i64 i, .int .i64 v, .int .i64 n, .slice sa S.length cs, .slice da D.length cd]] w fun e w' => e = .returned (.tuple #[.string (encS k i v n S D), .int .i64 (goodN k i v n S D)]) ∧ Below w.heap.size w w' := by
  by_cases h : goodN k i v n S D = 0
  · rw [encS, if_pos h, h]; exact ep_ok k i v n S D sa da cs cd sb so db dO w L h
  · rw [encS, if_neg h]; exact ep_bad k i v n S D sa da cs cd sb so db dO w L h
end Go.Proofs.Ytdkalcnlncjgiaa.Cd

