/- Parts of the proof: PVSR. -/
import Derived.Test.YtdkalcnlncjgiaaRows
import Derived.Test.YtdkalcnlncjgiaaBK32
import Derived.Test.YtdkalcnlncjgiaaBK43
import Derived.Test.YtdkalcnlncjgiaaBK47
set_option maxRecDepth 100000
namespace Go.Proofs.Ytdkalcnlncjgiaa.Pv
open Go.RowKit
section
variable {P P' : Nat → Prop} {w : World}
theorem samepw_rep (l : List (Int × Int)) (v v' : Value) (h : Rep P w v 2 16 (pwC l)) (h' : Rep P' w v' 2 16 (pwC l)) : Calls Try.prog 26 #[v, v'] w fun e w' => e = .returned (.bool true) ∧ Below w.heap.size w w' := by
  obtain ⟨A1, C1, A2, C2, sb, so, db, dO, rfl, -, L⟩ := Rep.lies (D := []) h (Rep.nil P w 1 8)
  obtain ⟨B1, D1, B2, D2, sb', so', db', dO', rfl, -, L'⟩ := Rep.lies (D := []) h' (Rep.nil P' w 1 8)
  have := Cd.pws30 l l A1 B1 C1 D1 sb so sb' so' w L.hls L.hls L.hsa L'.hsa L.PS L'.PS
  rwa [decide_eq_true rfl] at this
theorem samek_rep (k i n m : Int) (S : List (Int × Int)) (D : List Int) (v1 v2 v1' v2' : Value) (h1 : Rep P w v1 2 16 (pwC S)) (h2 : Rep P w v2 1 8 (inC D)) (h1' : Rep P' w v1' 2 16 (pwC S)) (h2' : Rep P' w v2' 1 8 (inC D)) :
    Calls Try.prog 28 #[.agg #[.int .i64 k, .int .i64 i, .int .i64 n, .int .i64 m, v1, v2], .agg #[.int .i64 k, .int .i64 i, .int .i64 n, .int .i64 m, v1', v2']] w fun e w' => e = .returned (.bool true) ∧ Below w.heap.size w w' := by
  obtain ⟨A1, C1, A2, C2, sb, so, db, dO, rfl, rfl, L⟩ := Rep.lies h1 h2
  obtain ⟨B1, D1, B2, D2, sb', so', db', dO', rfl, rfl, L'⟩ := Rep.lies h1' h2'
  have e : decide (k = k ∧ i = i ∧ n = n ∧ m = m ∧ S = S ∧ D = D) = true := decide_eq_true ⟨rfl, rfl, rfl, rfl, rfl, rfl⟩
  have := Cd.same17 k i n m k i n m S S D D A1 A2 B1 B2 C1 C2 sb so db dO D1 D2 sb' so' db' dO' w L.hls L.hld L.hsa L.hda L.PS L.PD L.hls L.hld L'.hsa L'.hda L'.PS L'.PD
  rwa [e] at this
end
end Go.Proofs.Ytdkalcnlncjgiaa.Pv

