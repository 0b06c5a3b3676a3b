/-
  No cell of these rows narrows 'for every input' (looked for: loops, veiled, ifaces, maps, wideKeys, modest, calm, conditions, laid).
  DERIVED. THE GIVEN ROWS OF THIS SEAT. 6 by the template 'for every input the law returns true; each argument reads behind the call as it read before'; 0 by the template 'total and deterministic' (their statements: YtookecjeknpheacTotals.lean).
  GIVEN WITH THE SEED: the statements are not yours to turn. If you find one false, say at which input.
  Laid BY PROGRAM, IN A SANDBOX (cutbox-rows.mjs): the forced cells as the released guide's own fill.sh prints them over the translation 7477b89a17b71782… (all of the seat's roots in one cut). By AI agents, Wed Nov 11 2026. No macro, syntax, notation, axiom, sorry.
-/
import Derived.Test.YtookecjeknpheacChecked
import GoSem.Claim
import GoSem.ClaimJoined
import GoSem.ClaimMapViews
import Derived.JoinedTies
import Derived.KernelRfl
namespace Go.Proofs.Ytookecjeknpheac
/- THE CELL 'sum', in the pinned program and in every row, IS THE sha256 OF THE DUMP (.gsa) THAT YtookecjeknpheacProg.lean LOADS. Nothing in Lean hashes anything: it is a label: what it is worth is what the hold of that sum in a sandbox is worth. -/
noncomputable def Try.pinned : Pinned := { name := "ytookecjeknpheac", sum := "7477b89a17b7178202a86aec1b3b22ca93db86d8efed57079c23e71fcc395a75", checked := Try.checked }
namespace Rows
def none {H : Type} : Left H := { results := [], args := [] }

/-- 'suzerainkeep.BankKeeps': WHATEVER THE INPUT: true; the input reads as it did. -/
def bankKeepsSpec : ChangeSpec := { name := "bankKeeps", fn := fun _ => fun
  | [d1, d2, d3, d4] => { results := [.lit (.bool true)], args := [d1, d2, d3, d4] }
  | _ => none }
def bankKeepsRow : OpenClaim := { program := "ytookecjeknpheac", sum := "7477b89a17b7178202a86aec1b3b22ca93db86d8efed57079c23e71fcc395a75", func := "suzerain/suzerainkeep.BankKeeps", spec := "bankKeeps", unfollowed := true, recurses := true, apart := false }
def BankKeepsSaid : Prop := bankKeepsRow.holds Try.pinned (OpenSpec.ofChange bankKeepsSpec)

/-- ITS FALSE NEIGHBOUR: 'it returns false'. Refute it at one input. -/
def bankKeepsWrong : ChangeSpec := { name := "bankKeeps", fn := fun _ => fun
  | [d1, d2, d3, d4] => { results := [.lit (.bool false)], args := [d1, d2, d3, d4] }
  | _ => none }
def BankKeepsWrongFalsely : Prop := bankKeepsRow.holds Try.pinned (OpenSpec.ofChange bankKeepsWrong)

/-- 'suzerainkeep.BankRound': WHATEVER THE INPUT: true; the input reads as it did. -/
def bankRoundSpec : ChangeSpec := { name := "bankRound", fn := fun _ => fun
  | [d1, d2, d3] => { results := [.lit (.bool true)], args := [d1, d2, d3] }
  | _ => none }
def bankRoundRow : OpenClaim := { program := "ytookecjeknpheac", sum := "7477b89a17b7178202a86aec1b3b22ca93db86d8efed57079c23e71fcc395a75", func := "suzerain/suzerainkeep.BankRound", spec := "bankRound", unfollowed := true, recurses := true, apart := false }
def BankRoundSaid : Prop := bankRoundRow.holds Try.pinned (OpenSpec.ofChange bankRoundSpec)

/-- ITS FALSE NEIGHBOUR: 'it returns false'. Refute it at one input. -/
def bankRoundWrong : ChangeSpec := { name := "bankRound", fn := fun _ => fun
  | [d1, d2, d3] => { results := [.lit (.bool false)], args := [d1, d2, d3] }
  | _ => none }
def BankRoundWrongFalsely : Prop := bankRoundRow.holds Try.pinned (OpenSpec.ofChange bankRoundWrong)

/-- 'suzerainlaw.StakeDelegates': WHATEVER THE INPUT: true; the input reads as it did. -/
def stakeDelegatesSpec : ChangeSpec := { name := "stakeDelegates", fn := fun _ => fun
  | [d1, d2, d3, d4] => { results := [.lit (.bool true)], args := [d1, d2, d3, d4] }
  | _ => none }
def stakeDelegatesRow : OpenClaim := { program := "ytookecjeknpheac", sum := "7477b89a17b7178202a86aec1b3b22ca93db86d8efed57079c23e71fcc395a75", func := "suzerain/suzerainlaw.StakeDelegates", spec := "stakeDelegates", unfollowed := true, recurses := true, named := ["math/bits.divideError", "math/bits.overflowError"], apart := false }
def StakeDelegatesSaid : Prop := stakeDelegatesRow.holds Try.pinned (OpenSpec.ofChange stakeDelegatesSpec)

/-- ITS FALSE NEIGHBOUR: 'it returns false'. Refute it at one input. -/
def stakeDelegatesWrong : ChangeSpec := { name := "stakeDelegates", fn := fun _ => fun
  | [d1, d2, d3, d4] => { results := [.lit (.bool false)], args := [d1, d2, d3, d4] }
  | _ => none }
def StakeDelegatesWrongFalsely : Prop := stakeDelegatesRow.holds Try.pinned (OpenSpec.ofChange stakeDelegatesWrong)

/-- 'suzerainlaw.StakeUndelegates': WHATEVER THE INPUT: true; the input reads as it did. -/
def stakeUndelegatesSpec : ChangeSpec := { name := "stakeUndelegates", fn := fun _ => fun
  | [d1, d2, d3, d4, d5] => { results := [.lit (.bool true)], args := [d1, d2, d3, d4, d5] }
  | _ => none }
def stakeUndelegatesRow : OpenClaim := { program := "ytookecjeknpheac", sum := "7477b89a17b7178202a86aec1b3b22ca93db86d8efed57079c23e71fcc395a75", func := "suzerain/suzerainlaw.StakeUndelegates", spec := "stakeUndelegates", unfollowed := true, recurses := true, named := ["math/bits.divideError", "math/bits.overflowError"], apart := false }
def StakeUndelegatesSaid : Prop := stakeUndelegatesRow.holds Try.pinned (OpenSpec.ofChange stakeUndelegatesSpec)

/-- ITS FALSE NEIGHBOUR: 'it returns false'. Refute it at one input. -/
def stakeUndelegatesWrong : ChangeSpec := { name := "stakeUndelegates", fn := fun _ => fun
  | [d1, d2, d3, d4, d5] => { results := [.lit (.bool false)], args := [d1, d2, d3, d4, d5] }
  | _ => none }
def StakeUndelegatesWrongFalsely : Prop := stakeUndelegatesRow.holds Try.pinned (OpenSpec.ofChange stakeUndelegatesWrong)

/-- 'suzerainlaw.StakePays': WHATEVER THE INPUT: true; the input reads as it did. -/
def stakePaysSpec : ChangeSpec := { name := "stakePays", fn := fun _ => fun
  | [d1, d2, d3, d4] => { results := [.lit (.bool true)], args := [d1, d2, d3, d4] }
  | _ => none }
def stakePaysRow : OpenClaim := { program := "ytookecjeknpheac", sum := "7477b89a17b7178202a86aec1b3b22ca93db86d8efed57079c23e71fcc395a75", func := "suzerain/suzerainlaw.StakePays", spec := "stakePays", unfollowed := true, recurses := true, named := ["math/bits.divideError", "math/bits.overflowError"], apart := false }
def StakePaysSaid : Prop := stakePaysRow.holds Try.pinned (OpenSpec.ofChange stakePaysSpec)

/-- ITS FALSE NEIGHBOUR: 'it returns false'. Refute it at one input. -/
def stakePaysWrong : ChangeSpec := { name := "stakePays", fn := fun _ => fun
  | [d1, d2, d3, d4] => { results := [.lit (.bool false)], args := [d1, d2, d3, d4] }
  | _ => none }
def StakePaysWrongFalsely : Prop := stakePaysRow.holds Try.pinned (OpenSpec.ofChange stakePaysWrong)

/-- 'suzerainlaw.StakeSlashes': WHATEVER THE INPUT: true; the input reads as it did. -/
def stakeSlashesSpec : ChangeSpec := { name := "stakeSlashes", fn := fun _ => fun
  | [d1, d2, d3, d4] => { results := [.lit (.bool true)], args := [d1, d2, d3, d4] }
  | _ => none }
def stakeSlashesRow : OpenClaim := { program := "ytookecjeknpheac", sum := "7477b89a17b7178202a86aec1b3b22ca93db86d8efed57079c23e71fcc395a75", func := "suzerain/suzerainlaw.StakeSlashes", spec := "stakeSlashes", unfollowed := true, recurses := true, named := ["math/bits.divideError", "math/bits.overflowError"], apart := false }
def StakeSlashesSaid : Prop := stakeSlashesRow.holds Try.pinned (OpenSpec.ofChange stakeSlashesSpec)

/-- ITS FALSE NEIGHBOUR: 'it returns false'. Refute it at one input. -/
def stakeSlashesWrong : ChangeSpec := { name := "stakeSlashes", fn := fun _ => fun
  | [d1, d2, d3, d4] => { results := [.lit (.bool false)], args := [d1, d2, d3, d4] }
  | _ => none }
def StakeSlashesWrongFalsely : Prop := stakeSlashesRow.holds Try.pinned (OpenSpec.ofChange stakeSlashesWrong)

/- THE SECOND FORM. 'bulk': how many values and letters a reading holds, each counted each time it is reached (what is shared counts as often as it is met; a slice's spare places count too). A statement '..UptoSaid' is the law's where the arguments, and the package variables that the reading takes, are together of bulk at most 1048576: NARROWER than '..Said'. Prove '..Said' where nothing that the law and all that it calls make is longer than what came in: it says more and counts as full. Else prove '..UptoSaid'. A law counts once. -/
mutual
def uptoBulk {H : Type} : DataW H → Nat
  | .lit (.string bytes) => bytes.length + 1
  | .lit _ => 1
  | .nil => 1
  | .ptr d => uptoBulk d + 1
  | .slice elems spare => uptoBulkAll elems + uptoBulkAll spare + 1
  | .agg parts => uptoBulkAll parts + 1
  | .iface _ d => uptoBulk d + 1
  | .map entries => uptoBulkEntries entries + 1
  | .held _ => 1
def uptoBulkAll {H : Type} : List (DataW H) → Nat
  | [] => 0
  | d :: r => uptoBulk d + uptoBulkAll r
def uptoBulkEntries {H : Type} : List (Lit × DataW H) → Nat
  | [] => 0
  | x :: r => uptoBulkEntry x + uptoBulkEntries r
def uptoBulkEntry {H : Type} : Lit × DataW H → Nat
  | (.string bytes, d) => bytes.length + uptoBulk d + 1
  | (_, d) => uptoBulk d + 1
 end
def uptoSmall : (H : Type) → List (DataW H) → Bool := fun _ ds => decide (uptoBulkAll ds ≤ 1048576)
def OpenSpec.upto (s : _root_.Go.ChangeSpec) : _root_.Go.OpenSpec := { _root_.Go.OpenSpec.ofChange s with cond := some uptoSmall }

/-- 'suzerainkeep.BankKeeps', WHERE WHAT IT READS IS OF BULK AT MOST 1048576: true; the input reads as it did. -/
def bankKeepsUptoRow : OpenClaim := { program := "ytookecjeknpheac", sum := "7477b89a17b7178202a86aec1b3b22ca93db86d8efed57079c23e71fcc395a75", func := "suzerain/suzerainkeep.BankKeeps", spec := "bankKeeps", unfollowed := true, recurses := true, apart := false, narrowed := true }
def BankKeepsUptoSaid : Prop := bankKeepsUptoRow.holds Try.pinned (OpenSpec.upto bankKeepsSpec)

/-- 'suzerainkeep.BankRound', WHERE WHAT IT READS IS OF BULK AT MOST 1048576: true; the input reads as it did. -/
def bankRoundUptoRow : OpenClaim := { program := "ytookecjeknpheac", sum := "7477b89a17b7178202a86aec1b3b22ca93db86d8efed57079c23e71fcc395a75", func := "suzerain/suzerainkeep.BankRound", spec := "bankRound", unfollowed := true, recurses := true, apart := false, narrowed := true }
def BankRoundUptoSaid : Prop := bankRoundUptoRow.holds Try.pinned (OpenSpec.upto bankRoundSpec)

/-- 'suzerainlaw.StakeDelegates', WHERE WHAT IT READS IS OF BULK AT MOST 1048576: true; the input reads as it did. -/
def stakeDelegatesUptoRow : OpenClaim := { program := "ytookecjeknpheac", sum := "7477b89a17b7178202a86aec1b3b22ca93db86d8efed57079c23e71fcc395a75", func := "suzerain/suzerainlaw.StakeDelegates", spec := "stakeDelegates", unfollowed := true, recurses := true, named := ["math/bits.divideError", "math/bits.overflowError"], apart := false, narrowed := true }
def StakeDelegatesUptoSaid : Prop := stakeDelegatesUptoRow.holds Try.pinned (OpenSpec.upto stakeDelegatesSpec)

/-- 'suzerainlaw.StakeUndelegates', WHERE WHAT IT READS IS OF BULK AT MOST 1048576: true; the input reads as it did. -/
def stakeUndelegatesUptoRow : OpenClaim := { program := "ytookecjeknpheac", sum := "7477b89a17b7178202a86aec1b3b22ca93db86d8efed57079c23e71fcc395a75", func := "suzerain/suzerainlaw.StakeUndelegates", spec := "stakeUndelegates", unfollowed := true, recurses := true, named := ["math/bits.divideError", "math/bits.overflowError"], apart := false, narrowed := true }
def StakeUndelegatesUptoSaid : Prop := stakeUndelegatesUptoRow.holds Try.pinned (OpenSpec.upto stakeUndelegatesSpec)

/-- 'suzerainlaw.StakePays', WHERE WHAT IT READS IS OF BULK AT MOST 1048576: true; the input reads as it did. -/
def stakePaysUptoRow : OpenClaim := { program := "ytookecjeknpheac", sum := "7477b89a17b7178202a86aec1b3b22ca93db86d8efed57079c23e71fcc395a75", func := "suzerain/suzerainlaw.StakePays", spec := "stakePays", unfollowed := true, recurses := true, named := ["math/bits.divideError", "math/bits.overflowError"], apart := false, narrowed := true }
def StakePaysUptoSaid : Prop := stakePaysUptoRow.holds Try.pinned (OpenSpec.upto stakePaysSpec)

/-- 'suzerainlaw.StakeSlashes', WHERE WHAT IT READS IS OF BULK AT MOST 1048576: true; the input reads as it did. -/
def stakeSlashesUptoRow : OpenClaim := { program := "ytookecjeknpheac", sum := "7477b89a17b7178202a86aec1b3b22ca93db86d8efed57079c23e71fcc395a75", func := "suzerain/suzerainlaw.StakeSlashes", spec := "stakeSlashes", unfollowed := true, recurses := true, named := ["math/bits.divideError", "math/bits.overflowError"], apart := false, narrowed := true }
def StakeSlashesUptoSaid : Prop := stakeSlashesUptoRow.holds Try.pinned (OpenSpec.upto stakeSlashesSpec)

end Rows
end Go.Proofs.Ytookecjeknpheac
