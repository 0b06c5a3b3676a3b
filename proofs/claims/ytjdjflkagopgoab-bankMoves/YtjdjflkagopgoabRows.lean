/-
  No cell of these rows narrows 'for every input' (looked for: loops, veiled, ifaces, maps, wideKeys, modest, calm, conditions, laid).
  DERIVED. THE GIVEN ROWS OF THIS SEAT. 6 by the template 'for every input the law returns true; each argument reads behind the call as it read before'; 0 by the template 'total and deterministic' (their statements: YtjdjflkagopgoabTotals.lean).
  GIVEN WITH THE SEED: the statements are not yours to turn. If you find one false, say at which input.
  Laid BY PROGRAM, IN A SANDBOX (cutbox-rows.mjs): the forced cells as the released guide's own fill.sh prints them over the translation 3558e5a862fea5b6… (all of the seat's roots in one cut). By AI agents, Wed Nov 11 2026. No macro, syntax, notation, axiom, sorry.
-/
import Derived.Test.YtjdjflkagopgoabChecked
import GoSem.Claim
import GoSem.ClaimJoined
import GoSem.ClaimMapViews
import Derived.JoinedTies
import Derived.KernelRfl
namespace Go.Proofs.Ytjdjflkagopgoab
/- THE CELL 'sum', in the pinned program and in every row, IS THE sha256 OF THE DUMP (.gsa) THAT YtjdjflkagopgoabProg.lean LOADS. Nothing in Lean hashes anything: it is a label: what it is worth is what the hold of that sum in a sandbox is worth. -/
noncomputable def Try.pinned : Pinned := { name := "ytjdjflkagopgoab", sum := "3558e5a862fea5b6dca39053383fd2f373fdca1dd66e20badbaf346a36928d64", checked := Try.checked }
namespace Rows
def none {H : Type} : Left H := { results := [], args := [] }

/-- 'suzerainlaw.RatioDivides': WHATEVER THE INPUT: true; the input reads as it did. -/
def ratioDividesSpec : ChangeSpec := { name := "ratioDivides", fn := fun _ => fun
  | [d1, d2, d3] => { results := [.lit (.bool true)], args := [d1, d2, d3] }
  | _ => none }
def ratioDividesRow : OpenClaim := { program := "ytjdjflkagopgoab", sum := "3558e5a862fea5b6dca39053383fd2f373fdca1dd66e20badbaf346a36928d64", func := "suzerain/suzerainlaw.RatioDivides", spec := "ratioDivides", named := ["math/bits.divideError", "math/bits.overflowError"], apart := false }
def RatioDividesSaid : Prop := ratioDividesRow.holds Try.pinned (OpenSpec.ofChange ratioDividesSpec)

/-- ITS FALSE NEIGHBOUR: 'it returns false'. Refute it at one input. -/
def ratioDividesWrong : ChangeSpec := { name := "ratioDivides", fn := fun _ => fun
  | [d1, d2, d3] => { results := [.lit (.bool false)], args := [d1, d2, d3] }
  | _ => none }
def RatioDividesWrongFalsely : Prop := ratioDividesRow.holds Try.pinned (OpenSpec.ofChange ratioDividesWrong)

/-- 'suzerainlaw.RatioParts': WHATEVER THE INPUT: true; the input reads as it did. -/
def ratioPartsSpec : ChangeSpec := { name := "ratioParts", fn := fun _ => fun
  | [d1, d2] => { results := [.lit (.bool true)], args := [d1, d2] }
  | _ => none }
def ratioPartsRow : OpenClaim := { program := "ytjdjflkagopgoab", sum := "3558e5a862fea5b6dca39053383fd2f373fdca1dd66e20badbaf346a36928d64", func := "suzerain/suzerainlaw.RatioParts", spec := "ratioParts", named := ["math/bits.divideError", "math/bits.overflowError"], apart := false }
def RatioPartsSaid : Prop := ratioPartsRow.holds Try.pinned (OpenSpec.ofChange ratioPartsSpec)

/-- ITS FALSE NEIGHBOUR: 'it returns false'. Refute it at one input. -/
def ratioPartsWrong : ChangeSpec := { name := "ratioParts", fn := fun _ => fun
  | [d1, d2] => { results := [.lit (.bool false)], args := [d1, d2] }
  | _ => none }
def RatioPartsWrongFalsely : Prop := ratioPartsRow.holds Try.pinned (OpenSpec.ofChange ratioPartsWrong)

/-- 'suzerainkeep.RatioBounds': WHATEVER THE INPUT: true; the input reads as it did. -/
def ratioBoundsSpec : ChangeSpec := { name := "ratioBounds", fn := fun _ => fun
  | [d1, d2, d3] => { results := [.lit (.bool true)], args := [d1, d2, d3] }
  | _ => none }
def ratioBoundsRow : OpenClaim := { program := "ytjdjflkagopgoab", sum := "3558e5a862fea5b6dca39053383fd2f373fdca1dd66e20badbaf346a36928d64", func := "suzerain/suzerainkeep.RatioBounds", spec := "ratioBounds", named := ["math/bits.divideError", "math/bits.overflowError"], apart := false }
def RatioBoundsSaid : Prop := ratioBoundsRow.holds Try.pinned (OpenSpec.ofChange ratioBoundsSpec)

/-- ITS FALSE NEIGHBOUR: 'it returns false'. Refute it at one input. -/
def ratioBoundsWrong : ChangeSpec := { name := "ratioBounds", fn := fun _ => fun
  | [d1, d2, d3] => { results := [.lit (.bool false)], args := [d1, d2, d3] }
  | _ => none }
def RatioBoundsWrongFalsely : Prop := ratioBoundsRow.holds Try.pinned (OpenSpec.ofChange ratioBoundsWrong)

/-- 'suzerainkeep.RatioRises': WHATEVER THE INPUT: true; the input reads as it did. -/
def ratioRisesSpec : ChangeSpec := { name := "ratioRises", fn := fun _ => fun
  | [d1, d2, d3, d4] => { results := [.lit (.bool true)], args := [d1, d2, d3, d4] }
  | _ => none }
def ratioRisesRow : OpenClaim := { program := "ytjdjflkagopgoab", sum := "3558e5a862fea5b6dca39053383fd2f373fdca1dd66e20badbaf346a36928d64", func := "suzerain/suzerainkeep.RatioRises", spec := "ratioRises", named := ["math/bits.divideError", "math/bits.overflowError"], apart := false }
def RatioRisesSaid : Prop := ratioRisesRow.holds Try.pinned (OpenSpec.ofChange ratioRisesSpec)

/-- ITS FALSE NEIGHBOUR: 'it returns false'. Refute it at one input. -/
def ratioRisesWrong : ChangeSpec := { name := "ratioRises", fn := fun _ => fun
  | [d1, d2, d3, d4] => { results := [.lit (.bool false)], args := [d1, d2, d3, d4] }
  | _ => none }
def RatioRisesWrongFalsely : Prop := ratioRisesRow.holds Try.pinned (OpenSpec.ofChange ratioRisesWrong)

/-- 'suzerainkeep.RatioSplit': WHATEVER THE INPUT: true; the input reads as it did. -/
def ratioSplitSpec : ChangeSpec := { name := "ratioSplit", fn := fun _ => fun
  | [d1, d2] => { results := [.lit (.bool true)], args := [d1, d2] }
  | _ => none }
def ratioSplitRow : OpenClaim := { program := "ytjdjflkagopgoab", sum := "3558e5a862fea5b6dca39053383fd2f373fdca1dd66e20badbaf346a36928d64", func := "suzerain/suzerainkeep.RatioSplit", spec := "ratioSplit", named := ["math/bits.divideError", "math/bits.overflowError"], apart := false }
def RatioSplitSaid : Prop := ratioSplitRow.holds Try.pinned (OpenSpec.ofChange ratioSplitSpec)

/-- ITS FALSE NEIGHBOUR: 'it returns false'. Refute it at one input. -/
def ratioSplitWrong : ChangeSpec := { name := "ratioSplit", fn := fun _ => fun
  | [d1, d2] => { results := [.lit (.bool false)], args := [d1, d2] }
  | _ => none }
def RatioSplitWrongFalsely : Prop := ratioSplitRow.holds Try.pinned (OpenSpec.ofChange ratioSplitWrong)

/-- 'suzerainlaw.BankMoves': WHATEVER THE INPUT: true; the input reads as it did. -/
def bankMovesSpec : ChangeSpec := { name := "bankMoves", fn := fun _ => fun
  | [d1, d2, d3, d4] => { results := [.lit (.bool true)], args := [d1, d2, d3, d4] }
  | _ => none }
def bankMovesRow : OpenClaim := { program := "ytjdjflkagopgoab", sum := "3558e5a862fea5b6dca39053383fd2f373fdca1dd66e20badbaf346a36928d64", func := "suzerain/suzerainlaw.BankMoves", spec := "bankMoves", unfollowed := true, recurses := true, apart := false }
def BankMovesSaid : Prop := bankMovesRow.holds Try.pinned (OpenSpec.ofChange bankMovesSpec)

/-- ITS FALSE NEIGHBOUR: 'it returns false'. Refute it at one input. -/
def bankMovesWrong : ChangeSpec := { name := "bankMoves", fn := fun _ => fun
  | [d1, d2, d3, d4] => { results := [.lit (.bool false)], args := [d1, d2, d3, d4] }
  | _ => none }
def BankMovesWrongFalsely : Prop := bankMovesRow.holds Try.pinned (OpenSpec.ofChange bankMovesWrong)

/- THE SECOND FORM. 'bulk': how many values and letters a reading holds, each counted each time it is reached (what is shared counts as often as it is met; a slice's spare places count too). A statement '..UptoSaid' is the law's where the arguments, and the package variables that the reading takes, are together of bulk at most 1048576: NARROWER than '..Said'. Prove '..Said' where nothing that the law and all that it calls make is longer than what came in: it says more and counts as full. Else prove '..UptoSaid'. A law counts once. -/
mutual
def uptoBulk {H : Type} : DataW H → Nat
  | .lit (.string bytes) => bytes.length + 1
  | .lit _ => 1
  | .nil => 1
  | .ptr d => uptoBulk d + 1
  | .slice elems spare => uptoBulkAll elems + uptoBulkAll spare + 1
  | .agg parts => uptoBulkAll parts + 1
  | .iface _ d => uptoBulk d + 1
  | .map entries => uptoBulkEntries entries + 1
  | .held _ => 1
def uptoBulkAll {H : Type} : List (DataW H) → Nat
  | [] => 0
  | d :: r => uptoBulk d + uptoBulkAll r
def uptoBulkEntries {H : Type} : List (Lit × DataW H) → Nat
  | [] => 0
  | x :: r => uptoBulkEntry x + uptoBulkEntries r
def uptoBulkEntry {H : Type} : Lit × DataW H → Nat
  | (.string bytes, d) => bytes.length + uptoBulk d + 1
  | (_, d) => uptoBulk d + 1
 end
def uptoSmall : (H : Type) → List (DataW H) → Bool := fun _ ds => decide (uptoBulkAll ds ≤ 1048576)
def OpenSpec.upto (s : _root_.Go.ChangeSpec) : _root_.Go.OpenSpec := { _root_.Go.OpenSpec.ofChange s with cond := some uptoSmall }

/-- 'suzerainlaw.RatioDivides', WHERE WHAT IT READS IS OF BULK AT MOST 1048576: true; the input reads as it did. -/
def ratioDividesUptoRow : OpenClaim := { program := "ytjdjflkagopgoab", sum := "3558e5a862fea5b6dca39053383fd2f373fdca1dd66e20badbaf346a36928d64", func := "suzerain/suzerainlaw.RatioDivides", spec := "ratioDivides", named := ["math/bits.divideError", "math/bits.overflowError"], apart := false, narrowed := true }
def RatioDividesUptoSaid : Prop := ratioDividesUptoRow.holds Try.pinned (OpenSpec.upto ratioDividesSpec)

/-- 'suzerainlaw.RatioParts', WHERE WHAT IT READS IS OF BULK AT MOST 1048576: true; the input reads as it did. -/
def ratioPartsUptoRow : OpenClaim := { program := "ytjdjflkagopgoab", sum := "3558e5a862fea5b6dca39053383fd2f373fdca1dd66e20badbaf346a36928d64", func := "suzerain/suzerainlaw.RatioParts", spec := "ratioParts", named := ["math/bits.divideError", "math/bits.overflowError"], apart := false, narrowed := true }
def RatioPartsUptoSaid : Prop := ratioPartsUptoRow.holds Try.pinned (OpenSpec.upto ratioPartsSpec)

/-- 'suzerainkeep.RatioBounds', WHERE WHAT IT READS IS OF BULK AT MOST 1048576: true; the input reads as it did. -/
def ratioBoundsUptoRow : OpenClaim := { program := "ytjdjflkagopgoab", sum := "3558e5a862fea5b6dca39053383fd2f373fdca1dd66e20badbaf346a36928d64", func := "suzerain/suzerainkeep.RatioBounds", spec := "ratioBounds", named := ["math/bits.divideError", "math/bits.overflowError"], apart := false, narrowed := true }
def RatioBoundsUptoSaid : Prop := ratioBoundsUptoRow.holds Try.pinned (OpenSpec.upto ratioBoundsSpec)

/-- 'suzerainkeep.RatioRises', WHERE WHAT IT READS IS OF BULK AT MOST 1048576: true; the input reads as it did. -/
def ratioRisesUptoRow : OpenClaim := { program := "ytjdjflkagopgoab", sum := "3558e5a862fea5b6dca39053383fd2f373fdca1dd66e20badbaf346a36928d64", func := "suzerain/suzerainkeep.RatioRises", spec := "ratioRises", named := ["math/bits.divideError", "math/bits.overflowError"], apart := false, narrowed := true }
def RatioRisesUptoSaid : Prop := ratioRisesUptoRow.holds Try.pinned (OpenSpec.upto ratioRisesSpec)

/-- 'suzerainkeep.RatioSplit', WHERE WHAT IT READS IS OF BULK AT MOST 1048576: true; the input reads as it did. -/
def ratioSplitUptoRow : OpenClaim := { program := "ytjdjflkagopgoab", sum := "3558e5a862fea5b6dca39053383fd2f373fdca1dd66e20badbaf346a36928d64", func := "suzerain/suzerainkeep.RatioSplit", spec := "ratioSplit", named := ["math/bits.divideError", "math/bits.overflowError"], apart := false, narrowed := true }
def RatioSplitUptoSaid : Prop := ratioSplitUptoRow.holds Try.pinned (OpenSpec.upto ratioSplitSpec)

/-- 'suzerainlaw.BankMoves', WHERE WHAT IT READS IS OF BULK AT MOST 1048576: true; the input reads as it did. -/
def bankMovesUptoRow : OpenClaim := { program := "ytjdjflkagopgoab", sum := "3558e5a862fea5b6dca39053383fd2f373fdca1dd66e20badbaf346a36928d64", func := "suzerain/suzerainlaw.BankMoves", spec := "bankMoves", unfollowed := true, recurses := true, apart := false, narrowed := true }
def BankMovesUptoSaid : Prop := bankMovesUptoRow.holds Try.pinned (OpenSpec.upto bankMovesSpec)

end Rows
end Go.Proofs.Ytjdjflkagopgoab
