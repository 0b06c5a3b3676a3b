/- A stake copied: the copy's list has room for itself. -/
import Derived.Test.YtjmhmmphbcohdaaXtd
set_option maxRecDepth 100000
namespace Go.Proofs.Ytjmhmmphbcohdaa
open Go.RowKit
theorem cpC_ge (w : World) (n e : Nat) : n ≤ cpC w n e := by
  unfold cpC
  split
  · omega
  · exact grownCap_ge _ _ _ _
theorem wpList_copyW2 {ops : Array Oper} {rest : List Oper} {o : Oper} {a : Act} {w : World} {Q : Exit → Act → World → Prop} (hg : o.guard = none) (hty : o.type = 32) (s x : Operand)
    (hop : o.op = Op.call { callee := Callee.builtin Builtin.append, args := #[s, x], argTypes := #[32, 32] }) (ao : Option Addr) (n c : Nat) (hs : a.eval s = .slice none 0 0) (hx : a.eval x = .slice ao n c) (h : Src w ao n 8 64)
    (hK : ∀ A C w', n ≤ C → Copied w ao n 8 A w' → wpList Try.prog ops Q rest (a.put o.dst (.slice A n C)) w') : wpList Try.prog ops Q (o :: rest) a w := by
  refine wpList_plain hg fun _ hK' => ?_
  unfold Oper.wp
  have hr := apW w ao n c h
  simp [execOp, hop, resolve, invoke, builtin, hs, hx, hty, hr, Result.andThen]
  exact hK' _ _ (hK _ _ _ (cpC_ge _ _ _) (copied_of w ao n 8 64 54 _ h))
end Go.Proofs.Ytjmhmmphbcohdaa
