/-
  No cell of these rows narrows 'for every input' (looked for: loops, veiled, ifaces, maps, wideKeys, modest, calm, conditions, laid).
  DERIVED. THE GIVEN ROWS OF THIS SEAT. 5 by the template 'for every input the law returns true; each argument reads behind the call as it read before'; 0 by the template 'total and deterministic' (their statements: YtookecjeknpheadTotals.lean).
  GIVEN WITH THE SEED: the statements are not yours to turn. If you find one false, say at which input.
  Laid BY PROGRAM, IN A SANDBOX (cutbox-rows.mjs): the forced cells as the released guide's own fill.sh prints them over the translation fc6a0270672ac813… (all of the seat's roots in one cut). By AI agents, Wed Nov 11 2026. No macro, syntax, notation, axiom, sorry.
-/
import Derived.Test.YtookecjeknpheadChecked
import GoSem.Claim
import GoSem.ClaimJoined
import GoSem.ClaimMapViews
import Derived.JoinedTies
import Derived.KernelRfl
namespace Go.Proofs.Ytookecjeknphead
/- THE CELL 'sum', in the pinned program and in every row, IS THE sha256 OF THE DUMP (.gsa) THAT YtookecjeknpheadProg.lean LOADS. Nothing in Lean hashes anything: it is a label: what it is worth is what the hold of that sum in a sandbox is worth. -/
noncomputable def Try.pinned : Pinned := { name := "ytookecjeknphead", sum := "fc6a0270672ac8136c29cf29c2eeec2627cb81050bf5fbd26ee7e164a3838c41", checked := Try.checked }
namespace Rows
def none {H : Type} : Left H := { results := [], args := [] }

/-- 'suzerainlaw.StakeJudges': WHATEVER THE INPUT: true; the input reads as it did. -/
def stakeJudgesSpec : ChangeSpec := { name := "stakeJudges", fn := fun _ => fun
  | [d1, d2] => { results := [.lit (.bool true)], args := [d1, d2] }
  | _ => none }
def stakeJudgesRow : OpenClaim := { program := "ytookecjeknphead", sum := "fc6a0270672ac8136c29cf29c2eeec2627cb81050bf5fbd26ee7e164a3838c41", func := "suzerain/suzerainlaw.StakeJudges", spec := "stakeJudges", unfollowed := true, recurses := true, named := ["math/bits.divideError", "math/bits.overflowError"], apart := false }
def StakeJudgesSaid : Prop := stakeJudgesRow.holds Try.pinned (OpenSpec.ofChange stakeJudgesSpec)

/-- ITS FALSE NEIGHBOUR: 'it returns false'. Refute it at one input. -/
def stakeJudgesWrong : ChangeSpec := { name := "stakeJudges", fn := fun _ => fun
  | [d1, d2] => { results := [.lit (.bool false)], args := [d1, d2] }
  | _ => none }
def StakeJudgesWrongFalsely : Prop := stakeJudgesRow.holds Try.pinned (OpenSpec.ofChange stakeJudgesWrong)

/-- 'suzerainkeep.StakeRound': WHATEVER THE INPUT: true; the input reads as it did. -/
def stakeRoundSpec : ChangeSpec := { name := "stakeRound", fn := fun _ => fun
  | [d1, d2, d3, d4] => { results := [.lit (.bool true)], args := [d1, d2, d3, d4] }
  | _ => none }
def stakeRoundRow : OpenClaim := { program := "ytookecjeknphead", sum := "fc6a0270672ac8136c29cf29c2eeec2627cb81050bf5fbd26ee7e164a3838c41", func := "suzerain/suzerainkeep.StakeRound", spec := "stakeRound", unfollowed := true, recurses := true, named := ["math/bits.divideError", "math/bits.overflowError"], apart := false }
def StakeRoundSaid : Prop := stakeRoundRow.holds Try.pinned (OpenSpec.ofChange stakeRoundSpec)

/-- ITS FALSE NEIGHBOUR: 'it returns false'. Refute it at one input. -/
def stakeRoundWrong : ChangeSpec := { name := "stakeRound", fn := fun _ => fun
  | [d1, d2, d3, d4] => { results := [.lit (.bool false)], args := [d1, d2, d3, d4] }
  | _ => none }
def StakeRoundWrongFalsely : Prop := stakeRoundRow.holds Try.pinned (OpenSpec.ofChange stakeRoundWrong)

/-- 'suzerainkeep.StakePaid': WHATEVER THE INPUT: true; the input reads as it did. -/
def stakePaidSpec : ChangeSpec := { name := "stakePaid", fn := fun _ => fun
  | [d1, d2] => { results := [.lit (.bool true)], args := [d1, d2] }
  | _ => none }
def stakePaidRow : OpenClaim := { program := "ytookecjeknphead", sum := "fc6a0270672ac8136c29cf29c2eeec2627cb81050bf5fbd26ee7e164a3838c41", func := "suzerain/suzerainkeep.StakePaid", spec := "stakePaid", unfollowed := true, recurses := true, named := ["math/bits.divideError", "math/bits.overflowError"], apart := false }
def StakePaidSaid : Prop := stakePaidRow.holds Try.pinned (OpenSpec.ofChange stakePaidSpec)

/-- ITS FALSE NEIGHBOUR: 'it returns false'. Refute it at one input. -/
def stakePaidWrong : ChangeSpec := { name := "stakePaid", fn := fun _ => fun
  | [d1, d2] => { results := [.lit (.bool false)], args := [d1, d2] }
  | _ => none }
def StakePaidWrongFalsely : Prop := stakePaidRow.holds Try.pinned (OpenSpec.ofChange stakePaidWrong)

/-- 'suzerainkeep.StakeSlashed': WHATEVER THE INPUT: true; the input reads as it did. -/
def stakeSlashedSpec : ChangeSpec := { name := "stakeSlashed", fn := fun _ => fun
  | [d1, d2, d3, d4] => { results := [.lit (.bool true)], args := [d1, d2, d3, d4] }
  | _ => none }
def stakeSlashedRow : OpenClaim := { program := "ytookecjeknphead", sum := "fc6a0270672ac8136c29cf29c2eeec2627cb81050bf5fbd26ee7e164a3838c41", func := "suzerain/suzerainkeep.StakeSlashed", spec := "stakeSlashed", unfollowed := true, recurses := true, named := ["math/bits.divideError", "math/bits.overflowError"], apart := false }
def StakeSlashedSaid : Prop := stakeSlashedRow.holds Try.pinned (OpenSpec.ofChange stakeSlashedSpec)

/-- ITS FALSE NEIGHBOUR: 'it returns false'. Refute it at one input. -/
def stakeSlashedWrong : ChangeSpec := { name := "stakeSlashed", fn := fun _ => fun
  | [d1, d2, d3, d4] => { results := [.lit (.bool false)], args := [d1, d2, d3, d4] }
  | _ => none }
def StakeSlashedWrongFalsely : Prop := stakeSlashedRow.holds Try.pinned (OpenSpec.ofChange stakeSlashedWrong)

/-- 'suzerainkeep.StakeSet': WHATEVER THE INPUT: true; the input reads as it did. -/
def stakeSetSpec : ChangeSpec := { name := "stakeSet", fn := fun _ => fun
  | [d] => { results := [.lit (.bool true)], args := [d] }
  | _ => none }
def stakeSetRow : OpenClaim := { program := "ytookecjeknphead", sum := "fc6a0270672ac8136c29cf29c2eeec2627cb81050bf5fbd26ee7e164a3838c41", func := "suzerain/suzerainkeep.StakeSet", spec := "stakeSet", unfollowed := true, recurses := true, named := ["math/bits.divideError", "math/bits.overflowError"], apart := false }
def StakeSetSaid : Prop := stakeSetRow.holds Try.pinned (OpenSpec.ofChange stakeSetSpec)

/-- ITS FALSE NEIGHBOUR: 'it returns false'. Refute it at one input. -/
def stakeSetWrong : ChangeSpec := { name := "stakeSet", fn := fun _ => fun
  | [d] => { results := [.lit (.bool false)], args := [d] }
  | _ => none }
def StakeSetWrongFalsely : Prop := stakeSetRow.holds Try.pinned (OpenSpec.ofChange stakeSetWrong)

/- THE SECOND FORM. 'bulk': how many values and letters a reading holds, each counted each time it is reached (what is shared counts as often as it is met; a slice's spare places count too). A statement '..UptoSaid' is the law's where the arguments, and the package variables that the reading takes, are together of bulk at most 1048576: NARROWER than '..Said'. Prove '..Said' where nothing that the law and all that it calls make is longer than what came in: it says more and counts as full. Else prove '..UptoSaid'. A law counts once. -/
mutual
def uptoBulk {H : Type} : DataW H → Nat
  | .lit (.string bytes) => bytes.length + 1
  | .lit _ => 1
  | .nil => 1
  | .ptr d => uptoBulk d + 1
  | .slice elems spare => uptoBulkAll elems + uptoBulkAll spare + 1
  | .agg parts => uptoBulkAll parts + 1
  | .iface _ d => uptoBulk d + 1
  | .map entries => uptoBulkEntries entries + 1
  | .held _ => 1
def uptoBulkAll {H : Type} : List (DataW H) → Nat
  | [] => 0
  | d :: r => uptoBulk d + uptoBulkAll r
def uptoBulkEntries {H : Type} : List (Lit × DataW H) → Nat
  | [] => 0
  | x :: r => uptoBulkEntry x + uptoBulkEntries r
def uptoBulkEntry {H : Type} : Lit × DataW H → Nat
  | (.string bytes, d) => bytes.length + uptoBulk d + 1
  | (_, d) => uptoBulk d + 1
 end
def uptoSmall : (H : Type) → List (DataW H) → Bool := fun _ ds => decide (uptoBulkAll ds ≤ 1048576)
def OpenSpec.upto (s : _root_.Go.ChangeSpec) : _root_.Go.OpenSpec := { _root_.Go.OpenSpec.ofChange s with cond := some uptoSmall }

/-- 'suzerainlaw.StakeJudges', WHERE WHAT IT READS IS OF BULK AT MOST 1048576: true; the input reads as it did. -/
def stakeJudgesUptoRow : OpenClaim := { program := "ytookecjeknphead", sum := "fc6a0270672ac8136c29cf29c2eeec2627cb81050bf5fbd26ee7e164a3838c41", func := "suzerain/suzerainlaw.StakeJudges", spec := "stakeJudges", unfollowed := true, recurses := true, named := ["math/bits.divideError", "math/bits.overflowError"], apart := false, narrowed := true }
def StakeJudgesUptoSaid : Prop := stakeJudgesUptoRow.holds Try.pinned (OpenSpec.upto stakeJudgesSpec)

/-- 'suzerainkeep.StakeRound', WHERE WHAT IT READS IS OF BULK AT MOST 1048576: true; the input reads as it did. -/
def stakeRoundUptoRow : OpenClaim := { program := "ytookecjeknphead", sum := "fc6a0270672ac8136c29cf29c2eeec2627cb81050bf5fbd26ee7e164a3838c41", func := "suzerain/suzerainkeep.StakeRound", spec := "stakeRound", unfollowed := true, recurses := true, named := ["math/bits.divideError", "math/bits.overflowError"], apart := false, narrowed := true }
def StakeRoundUptoSaid : Prop := stakeRoundUptoRow.holds Try.pinned (OpenSpec.upto stakeRoundSpec)

/-- 'suzerainkeep.StakePaid', WHERE WHAT IT READS IS OF BULK AT MOST 1048576: true; the input reads as it did. -/
def stakePaidUptoRow : OpenClaim := { program := "ytookecjeknphead", sum := "fc6a0270672ac8136c29cf29c2eeec2627cb81050bf5fbd26ee7e164a3838c41", func := "suzerain/suzerainkeep.StakePaid", spec := "stakePaid", unfollowed := true, recurses := true, named := ["math/bits.divideError", "math/bits.overflowError"], apart := false, narrowed := true }
def StakePaidUptoSaid : Prop := stakePaidUptoRow.holds Try.pinned (OpenSpec.upto stakePaidSpec)

/-- 'suzerainkeep.StakeSlashed', WHERE WHAT IT READS IS OF BULK AT MOST 1048576: true; the input reads as it did. -/
def stakeSlashedUptoRow : OpenClaim := { program := "ytookecjeknphead", sum := "fc6a0270672ac8136c29cf29c2eeec2627cb81050bf5fbd26ee7e164a3838c41", func := "suzerain/suzerainkeep.StakeSlashed", spec := "stakeSlashed", unfollowed := true, recurses := true, named := ["math/bits.divideError", "math/bits.overflowError"], apart := false, narrowed := true }
def StakeSlashedUptoSaid : Prop := stakeSlashedUptoRow.holds Try.pinned (OpenSpec.upto stakeSlashedSpec)

/-- 'suzerainkeep.StakeSet', WHERE WHAT IT READS IS OF BULK AT MOST 1048576: true; the input reads as it did. -/
def stakeSetUptoRow : OpenClaim := { program := "ytookecjeknphead", sum := "fc6a0270672ac8136c29cf29c2eeec2627cb81050bf5fbd26ee7e164a3838c41", func := "suzerain/suzerainkeep.StakeSet", spec := "stakeSet", unfollowed := true, recurses := true, named := ["math/bits.divideError", "math/bits.overflowError"], apart := false, narrowed := true }
def StakeSetUptoSaid : Prop := stakeSetUptoRow.holds Try.pinned (OpenSpec.upto stakeSetSpec)

end Rows
end Go.Proofs.Ytookecjeknphead
