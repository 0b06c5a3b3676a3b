/- How a function that answers a stake and an error ends. -/
import Derived.Test.YtfajfebpchfkoaeSI
import Derived.Test.YtfajfebpchfkoaeSM2
set_option maxRecDepth 100000
namespace Go.Proofs.Ytfajfebpchfkoae
open Go.RowKit
theorem results_stake2 {fn : Func} {p q : Tmp} (h : fn.results = #[.cell p 43, .tmp q]) (tmps : Array Value) (w : World) (g : Nat) (cs : Array Value) (v : Value)
    (hp : tmps.getD p undef = .pointer (some ⟨g, 0, none⟩)) (hq : tmps.getD q undef = v) (hg : SAt w g cs) (hsz : cs.size = 63) :
    (results fn tmps).run Try.prog w = .ok (.tuple #[.agg cs, v]) w := by
  have hp' : tmps[p]?.getD undef = .pointer (some ⟨g, 0, none⟩) := by simpa using hp
  have hq' : tmps[q]?.getD undef = v := by simpa using hq
  simp [results, h, hp', hq', asAddr, run_loadVar_row w g 43 43 cs (0, 0) _ hg Try.underlying43 rfl (by rw [infoS, hsz])]
theorem stake_end2 {f : Func} {p q : Tmp} (hres : f.results = #[.cell p 43, .tmp q]) {B g : Nat} {w wq : World} {zs : Array Value} (R : SAt wq g zs) (hz : zs.size = 63) (H : Below B w wq) (hB : B ≤ g) (s' : St) (sl : Value) (er : Int) (r : St × Int) (hr : r = (s', er)) (act : Act)
    (h8 : act.tmps.getD p undef = .pointer (some ⟨g, 0, none⟩)) (h9 : act.tmps.getD q undef = .int .i64 er) (hd : act.defers = []) :
    bodyPost Try.prog f (fun e w' => e = .returned (.tuple #[.agg (stC r.1 sl), .int .i64 r.2]) ∧ Below B w w') Exit.ret act (wq.setCells g 0 (stC s' sl).toList) := by
  subst hr
  have R3 := R.setAll (ds := stC s' sl) (by rw [hz]; rfl)
  exact bodyPost_ret (v := .tuple #[.agg (stC s' sl), .int .i64 er]) (results_stake2 hres _ _ g _ _ h8 h9 R3 rfl) hd ⟨rfl, below_sets hB _ _ _ H⟩
theorem wpList_mv {ops : Array Oper} {rest : List Oper} {o : Oper} {a : Act} {w : World} {Q : Exit → Act → World → Prop} (hg : o.guard = none) (x : Operand) (hop : o.op = Op.move x) (hK : wpList Try.prog ops Q rest (a.put o.dst (a.eval x)) w) :
    wpList Try.prog ops Q (o :: rest) a w := by
  refine wpList_plain hg fun _ hK' => ?_
  unfold Oper.wp
  simp [execOp, hop]
  exact hK' _ _ hK
theorem Z63_size : Z63.size = 63 := rfl
end Go.Proofs.Ytfajfebpchfkoae
