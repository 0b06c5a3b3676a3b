/-
  No cell of these rows narrows 'for every input' (looked for: loops, veiled, ifaces, maps, wideKeys, modest, calm, conditions, laid).
  DERIVED. THE GIVEN ROWS OF THIS SEAT. 3 by the template 'for every input the law returns true; each argument reads behind the call as it read before'; 0 by the template 'total and deterministic' (their statements: YtjghbciepinofaaGreatTotals.lean).
  GIVEN WITH THE SEED: the statements are not yours to turn. If you find one false, say at which input.
  Laid BY PROGRAM, IN A SANDBOX (cutbox-rows.mjs): the forced cells as the released guide's own fill.sh prints them over the translation 375fb0a603e7b7a3… (all of the seat's roots in one cut). By AI agents, Wed Nov 11 2026. No macro, syntax, notation, axiom, sorry.
-/
import Derived.Test.YtjghbciepinofaaGreatChecked
import GoSem.Claim
import GoSem.ClaimJoined
import GoSem.ClaimMapViews
import Derived.JoinedTies
import Derived.KernelRfl
namespace Go.Proofs.YtjghbciepinofaaGreat
/- THE CELL 'sum', in the pinned program and in every row, IS THE sha256 OF THE DUMP (.gsa) THAT YtjghbciepinofaaGreatProg.lean LOADS. Nothing in Lean hashes anything: it is a label: what it is worth is what the hold of that sum in a sandbox is worth. -/
noncomputable def Tryz.pinned : Pinned := { name := "ytjghbciepinofaagreat", sum := "375fb0a603e7b7a34f944a2c4ebe952e6b3e9778f73fbed1a0fbe8c451468592", checked := Tryz.checked }
namespace Rows
def none {H : Type} : Left H := { results := [], args := [] }

/-- 'suzerainkeep.ProviderOnce': WHATEVER THE INPUT: true; the input reads as it did. -/
def providerOnceSpec : ChangeSpec := { name := "providerOnce", fn := fun _ => fun
  | [d1, d2, d3, d4] => { results := [.lit (.bool true)], args := [d1, d2, d3, d4] }
  | _ => none }
def providerOnceRow : OpenClaim := { program := "ytjghbciepinofaagreat", sum := "375fb0a603e7b7a34f944a2c4ebe952e6b3e9778f73fbed1a0fbe8c451468592", func := "suzerain/suzerainkeep.ProviderOnce", spec := "providerOnce", unfollowed := true, recurses := true, named := ["math/bits.divideError", "math/bits.overflowError"], apart := false }
def ProviderOnceSaid : Prop := providerOnceRow.holds Tryz.pinned (OpenSpec.ofChange providerOnceSpec)

/-- ITS FALSE NEIGHBOUR: 'it returns false'. Refute it at one input. -/
def providerOnceWrong : ChangeSpec := { name := "providerOnce", fn := fun _ => fun
  | [d1, d2, d3, d4] => { results := [.lit (.bool false)], args := [d1, d2, d3, d4] }
  | _ => none }
def ProviderOnceWrongFalsely : Prop := providerOnceRow.holds Tryz.pinned (OpenSpec.ofChange providerOnceWrong)

/-- 'suzerainkeep.ProviderKeeps': WHATEVER THE INPUT: true; the input reads as it did. -/
def providerKeepsSpec : ChangeSpec := { name := "providerKeeps", fn := fun _ => fun
  | [d1, d2] => { results := [.lit (.bool true)], args := [d1, d2] }
  | _ => none }
def providerKeepsRow : OpenClaim := { program := "ytjghbciepinofaagreat", sum := "375fb0a603e7b7a34f944a2c4ebe952e6b3e9778f73fbed1a0fbe8c451468592", func := "suzerain/suzerainkeep.ProviderKeeps", spec := "providerKeeps", unfollowed := true, recurses := true, named := ["math/bits.divideError", "math/bits.overflowError"], apart := false }
def ProviderKeepsSaid : Prop := providerKeepsRow.holds Tryz.pinned (OpenSpec.ofChange providerKeepsSpec)

/-- ITS FALSE NEIGHBOUR: 'it returns false'. Refute it at one input. -/
def providerKeepsWrong : ChangeSpec := { name := "providerKeeps", fn := fun _ => fun
  | [d1, d2] => { results := [.lit (.bool false)], args := [d1, d2] }
  | _ => none }
def ProviderKeepsWrongFalsely : Prop := providerKeepsRow.holds Tryz.pinned (OpenSpec.ofChange providerKeepsWrong)

/-- 'suzerainlaw.ProviderEnds': WHATEVER THE INPUT: true; the input reads as it did. -/
def providerEndsSpec : ChangeSpec := { name := "providerEnds", fn := fun _ => fun
  | [d1, d2] => { results := [.lit (.bool true)], args := [d1, d2] }
  | _ => none }
def providerEndsRow : OpenClaim := { program := "ytjghbciepinofaagreat", sum := "375fb0a603e7b7a34f944a2c4ebe952e6b3e9778f73fbed1a0fbe8c451468592", func := "suzerain/suzerainlaw.ProviderEnds", spec := "providerEnds", unfollowed := true, recurses := true, named := ["math/bits.divideError", "math/bits.overflowError"], apart := false }
def ProviderEndsSaid : Prop := providerEndsRow.holds Tryz.pinned (OpenSpec.ofChange providerEndsSpec)

/-- ITS FALSE NEIGHBOUR: 'it returns false'. Refute it at one input. -/
def providerEndsWrong : ChangeSpec := { name := "providerEnds", fn := fun _ => fun
  | [d1, d2] => { results := [.lit (.bool false)], args := [d1, d2] }
  | _ => none }
def ProviderEndsWrongFalsely : Prop := providerEndsRow.holds Tryz.pinned (OpenSpec.ofChange providerEndsWrong)

/- THE SECOND FORM. 'bulk': how many values and letters a reading holds, each counted each time it is reached (what is shared counts as often as it is met; a slice's spare places count too). A statement '..UptoSaid' is the law's where the arguments, and the package variables that the reading takes, are together of bulk at most 1048576: NARROWER than '..Said'. Prove '..Said' where nothing that the law and all that it calls make is longer than what came in: it says more and counts as full. Else prove '..UptoSaid'. A law counts once. -/
mutual
def uptoBulk {H : Type} : DataW H → Nat
  | .lit (.string bytes) => bytes.length + 1
  | .lit _ => 1
  | .nil => 1
  | .ptr d => uptoBulk d + 1
  | .slice elems spare => uptoBulkAll elems + uptoBulkAll spare + 1
  | .agg parts => uptoBulkAll parts + 1
  | .iface _ d => uptoBulk d + 1
  | .map entries => uptoBulkEntries entries + 1
  | .held _ => 1
def uptoBulkAll {H : Type} : List (DataW H) → Nat
  | [] => 0
  | d :: r => uptoBulk d + uptoBulkAll r
def uptoBulkEntries {H : Type} : List (Lit × DataW H) → Nat
  | [] => 0
  | x :: r => uptoBulkEntry x + uptoBulkEntries r
def uptoBulkEntry {H : Type} : Lit × DataW H → Nat
  | (.string bytes, d) => bytes.length + uptoBulk d + 1
  | (_, d) => uptoBulk d + 1
 end
def uptoSmall : (H : Type) → List (DataW H) → Bool := fun _ ds => decide (uptoBulkAll ds ≤ 1048576)
def OpenSpec.upto (s : _root_.Go.ChangeSpec) : _root_.Go.OpenSpec := { _root_.Go.OpenSpec.ofChange s with cond := some uptoSmall }

/-- 'suzerainkeep.ProviderOnce', WHERE WHAT IT READS IS OF BULK AT MOST 1048576: true; the input reads as it did. -/
def providerOnceUptoRow : OpenClaim := { program := "ytjghbciepinofaagreat", sum := "375fb0a603e7b7a34f944a2c4ebe952e6b3e9778f73fbed1a0fbe8c451468592", func := "suzerain/suzerainkeep.ProviderOnce", spec := "providerOnce", unfollowed := true, recurses := true, named := ["math/bits.divideError", "math/bits.overflowError"], apart := false, narrowed := true }
def ProviderOnceUptoSaid : Prop := providerOnceUptoRow.holds Tryz.pinned (OpenSpec.upto providerOnceSpec)

/-- 'suzerainkeep.ProviderKeeps', WHERE WHAT IT READS IS OF BULK AT MOST 1048576: true; the input reads as it did. -/
def providerKeepsUptoRow : OpenClaim := { program := "ytjghbciepinofaagreat", sum := "375fb0a603e7b7a34f944a2c4ebe952e6b3e9778f73fbed1a0fbe8c451468592", func := "suzerain/suzerainkeep.ProviderKeeps", spec := "providerKeeps", unfollowed := true, recurses := true, named := ["math/bits.divideError", "math/bits.overflowError"], apart := false, narrowed := true }
def ProviderKeepsUptoSaid : Prop := providerKeepsUptoRow.holds Tryz.pinned (OpenSpec.upto providerKeepsSpec)

/-- 'suzerainlaw.ProviderEnds', WHERE WHAT IT READS IS OF BULK AT MOST 1048576: true; the input reads as it did. -/
def providerEndsUptoRow : OpenClaim := { program := "ytjghbciepinofaagreat", sum := "375fb0a603e7b7a34f944a2c4ebe952e6b3e9778f73fbed1a0fbe8c451468592", func := "suzerain/suzerainlaw.ProviderEnds", spec := "providerEnds", unfollowed := true, recurses := true, named := ["math/bits.divideError", "math/bits.overflowError"], apart := false, narrowed := true }
def ProviderEndsUptoSaid : Prop := providerEndsUptoRow.holds Tryz.pinned (OpenSpec.upto providerEndsSpec)

end Rows
end Go.Proofs.YtjghbciepinofaaGreat
