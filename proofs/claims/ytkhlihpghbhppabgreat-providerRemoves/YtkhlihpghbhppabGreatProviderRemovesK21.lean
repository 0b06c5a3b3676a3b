/- Parts of the proof: CM CN. -/
import Derived.Test.YtkhlihpghbhppabGreatRows
import Derived.Test.YtkhlihpghbhppabGreatProviderRemovesK11
import Derived.Test.YtkhlihpghbhppabGreatProviderRemovesK12
set_option maxRecDepth 100000
namespace Go.Proofs.YtkhlihpghbhppabGreat.Cd
open Go.RowKit

/-- the number of bytes, behind a number -/
def numF (acc : Int) (l : List Int) : Int := l.foldl (fun n c => n * 256 + c) acc
theorem pow_succ8 (m : Nat) : (2 : Int) ^ (8 * (m + 1)) = 2 ^ (8 * m) * 256 := by
  rw [show 8 * (m + 1) = 8 * m + 8 by omega, Int.pow_add]; rfl
theorem pow_pos8 (m : Nat) : (0 : Int) < 2 ^ (8 * m) := Int.pow_pos (by decide)
end Go.Proofs.YtkhlihpghbhppabGreat.Cd

set_option maxRecDepth 100000
namespace Go.Proofs.YtkhlihpghbhppabGreat.Cd
open Go.RowKit
/-- Encode, in one: its bytes, or none -/
def encS (k i v n : Int) (S : List (Int × Int)) (D : List Int) : ByteArray := if goodN k i v n S D = 0 then strOfNums (enc k i v n S D) else ⟨#[]⟩
end Go.Proofs.YtkhlihpghbhppabGreat.Cd

