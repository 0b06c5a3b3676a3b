/- Parts of the proof: SJ SJ2. -/
import Derived.Test.YtkhlihpghbhppabGreatRows
import Derived.Test.YtkhlihpghbhppabGreatProviderRemovesK18
import Derived.Test.YtkhlihpghbhppabGreatProviderRemovesK19
set_option maxRecDepth 100000
namespace Go.Proofs.YtkhlihpghbhppabGreat
open Go.RowKit
theorem results_stake2 {fn : Func} {p q : Tmp} (h : fn.results = #[.cell p 32, .tmp q]) (tmps : Array Value) (w : World) (g : Nat) (cs : Array Value) (v : Value)
    (hp : tmps.getD p undef = .pointer (some ⟨g, 0, none⟩)) (hq : tmps.getD q undef = v) (hg : SAt w g cs) (hsz : cs.size = 63) :
    (results fn tmps).run Tryz.prog w = .ok (.tuple #[.agg cs, v]) w := by
  have hp' : tmps[p]?.getD undef = .pointer (some ⟨g, 0, none⟩) := by simpa using hp
  have hq' : tmps[q]?.getD undef = v := by simpa using hq
  simp [results, h, hp', hq', asAddr, run_loadVar_row w g 32 32 cs (0, 0) _ hg Tryz.underlying32 rfl (by rw [infoS, hsz])]
theorem stake_end2 {f : Func} {p q : Tmp} (hres : f.results = #[.cell p 32, .tmp q]) {B g : Nat} {w wq : World} {zs : Array Value} (R : SAt wq g zs) (hz : zs.size = 63) (H : Below B w wq) (hB : B ≤ g) (s' : St) (sl : Value) (er : Int) (r : St × Int) (hr : r = (s', er)) (act : Act)
    (h8 : act.tmps.getD p undef = .pointer (some ⟨g, 0, none⟩)) (h9 : act.tmps.getD q undef = .int .i64 er) (hd : act.defers = []) :
    bodyPost Tryz.prog f (fun e w' => e = .returned (.tuple #[.agg (stC r.1 sl), .int .i64 r.2]) ∧ Below B w w') Exit.ret act (wq.setCells g 0 (stC s' sl).toList) := by
  subst hr
  have R3 := R.setAll (ds := stC s' sl) (by rw [hz]; rfl)
  exact bodyPost_ret (v := .tuple #[.agg (stC s' sl), .int .i64 er]) (results_stake2 hres _ _ g _ _ h8 h9 R3 rfl) hd ⟨rfl, below_sets hB _ _ _ H⟩
theorem wpList_mv {ops : Array Oper} {rest : List Oper} {o : Oper} {a : Act} {w : World} {Q : Exit → Act → World → Prop} (hg : o.guard = none) (x : Operand) (hop : o.op = Op.move x) (hK : wpList Tryz.prog ops Q rest (a.put o.dst (a.eval x)) w) :
    wpList Tryz.prog ops Q (o :: rest) a w := by
  refine wpList_plain hg fun _ hK' => ?_
  unfold Oper.wp
  simp [execOp, hop]
  exact hK' _ _ hK
theorem Z63_size : Z63.size = 63 := rfl
end Go.Proofs.YtkhlihpghbhppabGreat

set_option maxRecDepth 100000
namespace Go.Proofs.YtkhlihpghbhppabGreat
open Go.RowKit
theorem cell_sets {b k o : Nat} (hk : k ≠ b) (vs : List Value) (p : Nat) (w : World) : (w.setCells b p vs).cell? ⟨k, o, none⟩ = w.cell? ⟨k, o, none⟩ := World.cell?_of_block (w := w) (heap_sets hk vs p w)
theorem WsAt.sets {w : World} {ao : Option Addr} {b o g : Nat} {W : List Wt} (h : WsAt w ao b o W) (hg : 0 < W.length → b ≠ g) (vs : List Value) (p : Nat) : WsAt (w.setCells g p vs) ao b o W := by
  refine ⟨h.adr, h.len, fun i x hx => ?_⟩
  have hne : b ≠ g := hg (by have := (List.getElem?_eq_some_iff.1 hx).1; omega)
  obtain ⟨h0, h1, h2, h3, h4, h5, h6, h7⟩ := h.cell i x hx
  exact ⟨(cell_sets hne _ _ _).trans h0, (cell_sets hne _ _ _).trans h1, (cell_sets hne _ _ _).trans h2, (cell_sets hne _ _ _).trans h3, (cell_sets hne _ _ _).trans h4, (cell_sets hne _ _ _).trans h5, (cell_sets hne _ _ _).trans h6, (cell_sets hne _ _ _).trans h7⟩
theorem WsAt.set {w : World} {ao : Option Addr} {b o g p : Nat} {W : List Wt} {v : Value} (h : WsAt w ao b o W) (hg : 0 < W.length → b ≠ g) : WsAt (w.setCell ⟨g, p, none⟩ v) ao b o W := h.sets hg [v] p
theorem WsAt.alloc {w : World} {ao : Option Addr} {b o : Nat} {W : List Wt} (h : WsAt w ao b o W) (x : Obj) : WsAt (w.alloc x) ao b o W := h.over ((Below.refl _ w).alloc (Nat.le_refl _) x)
theorem WsAt.but {w w' : World} {ao : Option Addr} {b o g : Nat} {W : List Wt} (h : WsAt w ao b o W) (hb : But g w w') (hg : 0 < W.length → b ≠ g) : WsAt w' ao b o W := by
  refine ⟨h.adr, h.len, fun i x hx => ?_⟩
  have hne : b ≠ g := hg (by have := (List.getElem?_eq_some_iff.1 hx).1; omega)
  have k : ∀ o, w'.cell? ⟨b, o, none⟩ = w.cell? ⟨b, o, none⟩ := fun o => World.cell?_of_block (w := w) (hb.block b hne)
  obtain ⟨h0, h1, h2, h3, h4, h5, h6, h7⟩ := h.cell i x hx
  exact ⟨(k _).trans h0, (k _).trans h1, (k _).trans h2, (k _).trans h3, (k _).trans h4, (k _).trans h5, (k _).trans h6, (k _).trans h7⟩
end Go.Proofs.YtkhlihpghbhppabGreat

