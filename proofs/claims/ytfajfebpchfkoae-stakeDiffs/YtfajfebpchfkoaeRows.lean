/-
  No cell of these rows narrows 'for every input' (looked for: loops, veiled, ifaces, maps, wideKeys, modest, calm, conditions, laid).
  DERIVED. THE GIVEN ROWS OF THIS SEAT. 6 by the template 'for every input the law returns true; each argument reads behind the call as it read before'; 0 by the template 'total and deterministic' (their statements: YtfajfebpchfkoaeTotals.lean).
  GIVEN WITH THE SEED: the statements are not yours to turn. If you find one false, say at which input.
  Laid BY PROGRAM, IN A SANDBOX (cutbox-rows.mjs): the forced cells as the released guide's own fill.sh prints them over the translation 3ad5bd53c6105206… (all of the seat's roots in one cut). By AI agents, Wed Nov 11 2026. No macro, syntax, notation, axiom, sorry.
-/
import Derived.Test.YtfajfebpchfkoaeChecked
import GoSem.Claim
import GoSem.ClaimJoined
import GoSem.ClaimMapViews
import Derived.JoinedTies
import Derived.KernelRfl
namespace Go.Proofs.Ytfajfebpchfkoae
/- THE CELL 'sum', in the pinned program and in every row, IS THE sha256 OF THE DUMP (.gsa) THAT YtfajfebpchfkoaeProg.lean LOADS. Nothing in Lean hashes anything: it is a label: what it is worth is what the hold of that sum in a sandbox is worth. -/
noncomputable def Try.pinned : Pinned := { name := "ytfajfebpchfkoae", sum := "3ad5bd53c610520616d5d4797555817dfd9f7e2937d87a8106d4ad0bd3940d74", checked := Try.checked }
namespace Rows
def none {H : Type} : Left H := { results := [], args := [] }

/-- 'suzerainkeep.StakeDiffs': WHATEVER THE INPUT: true; the input reads as it did. -/
def stakeDiffsSpec : ChangeSpec := { name := "stakeDiffs", fn := fun _ => fun
  | [d1, d2, d3] => { results := [.lit (.bool true)], args := [d1, d2, d3] }
  | _ => none }
def stakeDiffsRow : OpenClaim := { program := "ytfajfebpchfkoae", sum := "3ad5bd53c610520616d5d4797555817dfd9f7e2937d87a8106d4ad0bd3940d74", func := "suzerain/suzerainkeep.StakeDiffs", spec := "stakeDiffs", unfollowed := true, recurses := true, named := ["math/bits.divideError", "math/bits.overflowError"], apart := false }
def StakeDiffsSaid : Prop := stakeDiffsRow.holds Try.pinned (OpenSpec.ofChange stakeDiffsSpec)

/-- ITS FALSE NEIGHBOUR: 'it returns false'. Refute it at one input. -/
def stakeDiffsWrong : ChangeSpec := { name := "stakeDiffs", fn := fun _ => fun
  | [d1, d2, d3] => { results := [.lit (.bool false)], args := [d1, d2, d3] }
  | _ => none }
def StakeDiffsWrongFalsely : Prop := stakeDiffsRow.holds Try.pinned (OpenSpec.ofChange stakeDiffsWrong)

/-- 'suzerainkeep.StakeGood': WHATEVER THE INPUT: true; the input reads as it did. -/
def stakeGoodSpec : ChangeSpec := { name := "stakeGood", fn := fun _ => fun
  | [d] => { results := [.lit (.bool true)], args := [d] }
  | _ => none }
def stakeGoodRow : OpenClaim := { program := "ytfajfebpchfkoae", sum := "3ad5bd53c610520616d5d4797555817dfd9f7e2937d87a8106d4ad0bd3940d74", func := "suzerain/suzerainkeep.StakeGood", spec := "stakeGood", unfollowed := true, recurses := true, named := ["math/bits.divideError", "math/bits.overflowError"], apart := false }
def StakeGoodSaid : Prop := stakeGoodRow.holds Try.pinned (OpenSpec.ofChange stakeGoodSpec)

/-- ITS FALSE NEIGHBOUR: 'it returns false'. Refute it at one input. -/
def stakeGoodWrong : ChangeSpec := { name := "stakeGood", fn := fun _ => fun
  | [d] => { results := [.lit (.bool false)], args := [d] }
  | _ => none }
def StakeGoodWrongFalsely : Prop := stakeGoodRow.holds Try.pinned (OpenSpec.ofChange stakeGoodWrong)

/-- 'suzerainlaw.LineSays': WHATEVER THE INPUT: true; the input reads as it did. -/
def lineSaysSpec : ChangeSpec := { name := "lineSays", fn := fun _ => fun
  | [d1, d2, d3] => { results := [.lit (.bool true)], args := [d1, d2, d3] }
  | _ => none }
def lineSaysRow : OpenClaim := { program := "ytfajfebpchfkoae", sum := "3ad5bd53c610520616d5d4797555817dfd9f7e2937d87a8106d4ad0bd3940d74", func := "suzerain/suzerainlaw.LineSays", spec := "lineSays", apart := false }
def LineSaysSaid : Prop := lineSaysRow.holds Try.pinned (OpenSpec.ofChange lineSaysSpec)

/-- ITS FALSE NEIGHBOUR: 'it returns false'. Refute it at one input. -/
def lineSaysWrong : ChangeSpec := { name := "lineSays", fn := fun _ => fun
  | [d1, d2, d3] => { results := [.lit (.bool false)], args := [d1, d2, d3] }
  | _ => none }
def LineSaysWrongFalsely : Prop := lineSaysRow.holds Try.pinned (OpenSpec.ofChange lineSaysWrong)

/-- 'suzerainlaw.LineDelivers': WHATEVER THE INPUT: true; the input reads as it did. -/
def lineDeliversSpec : ChangeSpec := { name := "lineDelivers", fn := fun _ => fun
  | [d1, d2, d3, d4, d5] => { results := [.lit (.bool true)], args := [d1, d2, d3, d4, d5] }
  | _ => none }
def lineDeliversRow : OpenClaim := { program := "ytfajfebpchfkoae", sum := "3ad5bd53c610520616d5d4797555817dfd9f7e2937d87a8106d4ad0bd3940d74", func := "suzerain/suzerainlaw.LineDelivers", spec := "lineDelivers", apart := false }
def LineDeliversSaid : Prop := lineDeliversRow.holds Try.pinned (OpenSpec.ofChange lineDeliversSpec)

/-- ITS FALSE NEIGHBOUR: 'it returns false'. Refute it at one input. -/
def lineDeliversWrong : ChangeSpec := { name := "lineDelivers", fn := fun _ => fun
  | [d1, d2, d3, d4, d5] => { results := [.lit (.bool false)], args := [d1, d2, d3, d4, d5] }
  | _ => none }
def LineDeliversWrongFalsely : Prop := lineDeliversRow.holds Try.pinned (OpenSpec.ofChange lineDeliversWrong)

/-- 'suzerainlaw.LineExpires': WHATEVER THE INPUT: true; the input reads as it did. -/
def lineExpiresSpec : ChangeSpec := { name := "lineExpires", fn := fun _ => fun
  | [d1, d2, d3, d4] => { results := [.lit (.bool true)], args := [d1, d2, d3, d4] }
  | _ => none }
def lineExpiresRow : OpenClaim := { program := "ytfajfebpchfkoae", sum := "3ad5bd53c610520616d5d4797555817dfd9f7e2937d87a8106d4ad0bd3940d74", func := "suzerain/suzerainlaw.LineExpires", spec := "lineExpires", apart := false }
def LineExpiresSaid : Prop := lineExpiresRow.holds Try.pinned (OpenSpec.ofChange lineExpiresSpec)

/-- ITS FALSE NEIGHBOUR: 'it returns false'. Refute it at one input. -/
def lineExpiresWrong : ChangeSpec := { name := "lineExpires", fn := fun _ => fun
  | [d1, d2, d3, d4] => { results := [.lit (.bool false)], args := [d1, d2, d3, d4] }
  | _ => none }
def LineExpiresWrongFalsely : Prop := lineExpiresRow.holds Try.pinned (OpenSpec.ofChange lineExpiresWrong)

/-- 'suzerainkeep.LineEither': WHATEVER THE INPUT: true; the input reads as it did. -/
def lineEitherSpec : ChangeSpec := { name := "lineEither", fn := fun _ => fun
  | [d1, d2, d3, d4, d5, d6] => { results := [.lit (.bool true)], args := [d1, d2, d3, d4, d5, d6] }
  | _ => none }
def lineEitherRow : OpenClaim := { program := "ytfajfebpchfkoae", sum := "3ad5bd53c610520616d5d4797555817dfd9f7e2937d87a8106d4ad0bd3940d74", func := "suzerain/suzerainkeep.LineEither", spec := "lineEither", apart := false }
def LineEitherSaid : Prop := lineEitherRow.holds Try.pinned (OpenSpec.ofChange lineEitherSpec)

/-- ITS FALSE NEIGHBOUR: 'it returns false'. Refute it at one input. -/
def lineEitherWrong : ChangeSpec := { name := "lineEither", fn := fun _ => fun
  | [d1, d2, d3, d4, d5, d6] => { results := [.lit (.bool false)], args := [d1, d2, d3, d4, d5, d6] }
  | _ => none }
def LineEitherWrongFalsely : Prop := lineEitherRow.holds Try.pinned (OpenSpec.ofChange lineEitherWrong)

/- THE SECOND FORM. 'bulk': how many values and letters a reading holds, each counted each time it is reached (what is shared counts as often as it is met; a slice's spare places count too). A statement '..UptoSaid' is the law's where the arguments, and the package variables that the reading takes, are together of bulk at most 1048576: NARROWER than '..Said'. Prove '..Said' where nothing that the law and all that it calls make is longer than what came in: it says more and counts as full. Else prove '..UptoSaid'. A law counts once. -/
mutual
def uptoBulk {H : Type} : DataW H → Nat
  | .lit (.string bytes) => bytes.length + 1
  | .lit _ => 1
  | .nil => 1
  | .ptr d => uptoBulk d + 1
  | .slice elems spare => uptoBulkAll elems + uptoBulkAll spare + 1
  | .agg parts => uptoBulkAll parts + 1
  | .iface _ d => uptoBulk d + 1
  | .map entries => uptoBulkEntries entries + 1
  | .held _ => 1
def uptoBulkAll {H : Type} : List (DataW H) → Nat
  | [] => 0
  | d :: r => uptoBulk d + uptoBulkAll r
def uptoBulkEntries {H : Type} : List (Lit × DataW H) → Nat
  | [] => 0
  | x :: r => uptoBulkEntry x + uptoBulkEntries r
def uptoBulkEntry {H : Type} : Lit × DataW H → Nat
  | (.string bytes, d) => bytes.length + uptoBulk d + 1
  | (_, d) => uptoBulk d + 1
 end
def uptoSmall : (H : Type) → List (DataW H) → Bool := fun _ ds => decide (uptoBulkAll ds ≤ 1048576)
def OpenSpec.upto (s : _root_.Go.ChangeSpec) : _root_.Go.OpenSpec := { _root_.Go.OpenSpec.ofChange s with cond := some uptoSmall }

/-- 'suzerainkeep.StakeDiffs', WHERE WHAT IT READS IS OF BULK AT MOST 1048576: true; the input reads as it did. -/
def stakeDiffsUptoRow : OpenClaim := { program := "ytfajfebpchfkoae", sum := "3ad5bd53c610520616d5d4797555817dfd9f7e2937d87a8106d4ad0bd3940d74", func := "suzerain/suzerainkeep.StakeDiffs", spec := "stakeDiffs", unfollowed := true, recurses := true, named := ["math/bits.divideError", "math/bits.overflowError"], apart := false, narrowed := true }
def StakeDiffsUptoSaid : Prop := stakeDiffsUptoRow.holds Try.pinned (OpenSpec.upto stakeDiffsSpec)

/-- 'suzerainkeep.StakeGood', WHERE WHAT IT READS IS OF BULK AT MOST 1048576: true; the input reads as it did. -/
def stakeGoodUptoRow : OpenClaim := { program := "ytfajfebpchfkoae", sum := "3ad5bd53c610520616d5d4797555817dfd9f7e2937d87a8106d4ad0bd3940d74", func := "suzerain/suzerainkeep.StakeGood", spec := "stakeGood", unfollowed := true, recurses := true, named := ["math/bits.divideError", "math/bits.overflowError"], apart := false, narrowed := true }
def StakeGoodUptoSaid : Prop := stakeGoodUptoRow.holds Try.pinned (OpenSpec.upto stakeGoodSpec)

/-- 'suzerainlaw.LineSays', WHERE WHAT IT READS IS OF BULK AT MOST 1048576: true; the input reads as it did. -/
def lineSaysUptoRow : OpenClaim := { program := "ytfajfebpchfkoae", sum := "3ad5bd53c610520616d5d4797555817dfd9f7e2937d87a8106d4ad0bd3940d74", func := "suzerain/suzerainlaw.LineSays", spec := "lineSays", apart := false, narrowed := true }
def LineSaysUptoSaid : Prop := lineSaysUptoRow.holds Try.pinned (OpenSpec.upto lineSaysSpec)

/-- 'suzerainlaw.LineDelivers', WHERE WHAT IT READS IS OF BULK AT MOST 1048576: true; the input reads as it did. -/
def lineDeliversUptoRow : OpenClaim := { program := "ytfajfebpchfkoae", sum := "3ad5bd53c610520616d5d4797555817dfd9f7e2937d87a8106d4ad0bd3940d74", func := "suzerain/suzerainlaw.LineDelivers", spec := "lineDelivers", apart := false, narrowed := true }
def LineDeliversUptoSaid : Prop := lineDeliversUptoRow.holds Try.pinned (OpenSpec.upto lineDeliversSpec)

/-- 'suzerainlaw.LineExpires', WHERE WHAT IT READS IS OF BULK AT MOST 1048576: true; the input reads as it did. -/
def lineExpiresUptoRow : OpenClaim := { program := "ytfajfebpchfkoae", sum := "3ad5bd53c610520616d5d4797555817dfd9f7e2937d87a8106d4ad0bd3940d74", func := "suzerain/suzerainlaw.LineExpires", spec := "lineExpires", apart := false, narrowed := true }
def LineExpiresUptoSaid : Prop := lineExpiresUptoRow.holds Try.pinned (OpenSpec.upto lineExpiresSpec)

/-- 'suzerainkeep.LineEither', WHERE WHAT IT READS IS OF BULK AT MOST 1048576: true; the input reads as it did. -/
def lineEitherUptoRow : OpenClaim := { program := "ytfajfebpchfkoae", sum := "3ad5bd53c610520616d5d4797555817dfd9f7e2937d87a8106d4ad0bd3940d74", func := "suzerain/suzerainkeep.LineEither", spec := "lineEither", apart := false, narrowed := true }
def LineEitherUptoSaid : Prop := lineEitherUptoRow.holds Try.pinned (OpenSpec.upto lineEitherSpec)

end Rows
end Go.Proofs.Ytfajfebpchfkoae
