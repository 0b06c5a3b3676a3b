/- Parts of the proof: CDPe. -/
import Derived.Test.YtnfigdecgkcgcaaRows
import Derived.Test.YtnfigdecgkcgcaaAK34
set_option maxRecDepth 100000
namespace Go.Proofs.Ytnfigdecgkcgcaa.Cd
open Go.RowKit

def refused : Ending := .returned (.tuple #[.agg #[.int .i64 0, .int .i64 0, .int .i64 0, .int .i64 0, .slice none 0 0, .slice none 0 0], .int .i64 1])

set_option maxHeartbeats 1000000 in
set_option maxRecDepth 100000 in
theorem dp_short (s : ByteArray) (w : World) (h17 : (s.size : Int) < 17) (Q : Ending → World → Prop) (hQ : ∀ w', Below w.heap.size w w' → Q refused w') :
    Calls Try.prog 38 #[.string s] w Q := by
  go_enter Try.func38, Try.ntmps38
  go_wp2
  exact bodyPost_ret (v := .tuple #[.agg #[.int .i64 0, .int .i64 0, .int .i64 0, .int .i64 0, .slice none 0 0, .slice none 0 0], .int .i64 1]) (by simp [results, Try.results38, go_sem]) rfl (hQ _ ((below_new w _).alloc (by simp) _))

set_option maxHeartbeats 1000000 in
set_option maxRecDepth 100000 in
theorem dp_mid (s : ByteArray) (w : World) (h15 : 15 < s.size) (h17 : (17 : Int) ≤ s.size) (n : Nat) (hn : s[15].toNat = n) (hn2 : (n : Int) ≤ 255) (h8 : (s.size : Int) < 17 + 8 * (n : Int)) (Q : Ending → World → Prop) (hQ : ∀ w', Below w.heap.size w w' → Q refused w') :
    Calls Try.prog 38 #[.string s] w Q := by
  go_enter Try.func38, Try.ntmps38
  go_wp2
  exact bodyPost_ret (v := .tuple #[.agg #[.int .i64 0, .int .i64 0, .int .i64 0, .int .i64 0, .slice none 0 0, .slice none 0 0], .int .i64 1]) (by simp [results, Try.results38, go_sem]) rfl (hQ _ ((below_new w _).alloc (by simp) _))

set_option maxHeartbeats 1000000 in
set_option maxRecDepth 100000 in
theorem dp_long (s : ByteArray) (w : World) (h15 : 15 < s.size) (h17 : (17 : Int) ≤ s.size) (n : Nat) (hn : s[15].toNat = n) (hn2 : (n : Int) ≤ 255) (h8 : (17 : Int) + 8 * (n : Int) ≤ (s.size : Int)) (h16 : 16 + 8 * n < s.size) (m : Nat) (hm : s[16 + 8 * n].toNat = m) (hm2 : (m : Int) ≤ 255)
    (hne : ((s.size : Int) != 17 + 8 * (n : Int) + (m : Int)) = true) (Q : Ending → World → Prop) (hQ : ∀ w', Below w.heap.size w w' → Q refused w') :
    Calls Try.prog 38 #[.string s] w Q := by
  go_enter Try.func38, Try.ntmps38
  go_wp2
  exact bodyPost_ret (v := .tuple #[.agg #[.int .i64 0, .int .i64 0, .int .i64 0, .int .i64 0, .slice none 0 0, .slice none 0 0], .int .i64 1]) (by simp [results, Try.results38, go_sem]) rfl (hQ _ ((below_new w _).alloc (by simp) _))
end Go.Proofs.Ytnfigdecgkcgcaa.Cd

