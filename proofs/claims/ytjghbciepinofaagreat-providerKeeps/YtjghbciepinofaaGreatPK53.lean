/- Parts of the proof: SJ SJ2 J P. -/
import Derived.Test.YtjghbciepinofaaGreatRows
import Derived.Test.YtjghbciepinofaaGreatPK1
import Derived.Test.YtjghbciepinofaaGreatPK2
import Derived.Test.YtjghbciepinofaaGreatPK3
import Derived.Test.YtjghbciepinofaaGreatPK4
import Derived.Test.YtjghbciepinofaaGreatPK44
import Derived.Test.YtjghbciepinofaaGreatPK51
import Derived.Test.YtjghbciepinofaaGreatPK52
import Derived.WalkKit
import Derived.Deep.RegionWith
set_option maxRecDepth 100000
namespace Go.Proofs.YtjghbciepinofaaGreat
open Go.RowKit
theorem results_stake2 {fn : Func} {p q : Tmp} (h : fn.results = #[.cell p 32, .tmp q]) (tmps : Array Value) (w : World) (g : Nat) (cs : Array Value) (v : Value)
    (hp : tmps.getD p undef = .pointer (some ⟨g, 0, none⟩)) (hq : tmps.getD q undef = v) (hg : SAt w g cs) (hsz : cs.size = 63) :
    (results fn tmps).run Tryz.prog w = .ok (.tuple #[.agg cs, v]) w := by
  have hp' : tmps[p]?.getD undef = .pointer (some ⟨g, 0, none⟩) := by simpa using hp
  have hq' : tmps[q]?.getD undef = v := by simpa using hq
  simp [results, h, hp', hq', asAddr, run_loadVar_row w g 32 32 cs (0, 0) _ hg Tryz.underlying32 rfl (by rw [infoS, hsz])]
theorem stake_end2 {f : Func} {p q : Tmp} (hres : f.results = #[.cell p 32, .tmp q]) {B g : Nat} {w wq : World} {zs : Array Value} (R : SAt wq g zs) (hz : zs.size = 63) (H : Below B w wq) (hB : B ≤ g) (s' : St) (sl : Value) (er : Int) (r : St × Int) (hr : r = (s', er)) (act : Act)
    (h8 : act.tmps.getD p undef = .pointer (some ⟨g, 0, none⟩)) (h9 : act.tmps.getD q undef = .int .i64 er) (hd : act.defers = []) :
    bodyPost Tryz.prog f (fun e w' => e = .returned (.tuple #[.agg (stC r.1 sl), .int .i64 r.2]) ∧ Below B w w') Exit.ret act (wq.setCells g 0 (stC s' sl).toList) := by
  subst hr
  have R3 := R.setAll (ds := stC s' sl) (by rw [hz]; rfl)
  exact bodyPost_ret (v := .tuple #[.agg (stC s' sl), .int .i64 er]) (results_stake2 hres _ _ g _ _ h8 h9 R3 rfl) hd ⟨rfl, below_sets hB _ _ _ H⟩
theorem wpList_mv {ops : Array Oper} {rest : List Oper} {o : Oper} {a : Act} {w : World} {Q : Exit → Act → World → Prop} (hg : o.guard = none) (x : Operand) (hop : o.op = Op.move x) (hK : wpList Tryz.prog ops Q rest (a.put o.dst (a.eval x)) w) :
    wpList Tryz.prog ops Q (o :: rest) a w := by
  refine wpList_plain hg fun _ hK' => ?_
  unfold Oper.wp
  simp [execOp, hop]
  exact hK' _ _ hK
theorem Z63_size : Z63.size = 63 := rfl
end Go.Proofs.YtjghbciepinofaaGreat

set_option maxRecDepth 100000
namespace Go.Proofs.YtjghbciepinofaaGreat
open Go.RowKit
theorem cell_sets {b k o : Nat} (hk : k ≠ b) (vs : List Value) (p : Nat) (w : World) : (w.setCells b p vs).cell? ⟨k, o, none⟩ = w.cell? ⟨k, o, none⟩ := World.cell?_of_block (w := w) (heap_sets hk vs p w)
theorem WsAt.sets {w : World} {ao : Option Addr} {b o g : Nat} {W : List Wt} (h : WsAt w ao b o W) (hg : 0 < W.length → b ≠ g) (vs : List Value) (p : Nat) : WsAt (w.setCells g p vs) ao b o W := by
  refine ⟨h.adr, h.len, fun i x hx => ?_⟩
  have hne : b ≠ g := hg (by have := (List.getElem?_eq_some_iff.1 hx).1; omega)
  obtain ⟨h0, h1, h2, h3, h4, h5, h6, h7⟩ := h.cell i x hx
  exact ⟨(cell_sets hne _ _ _).trans h0, (cell_sets hne _ _ _).trans h1, (cell_sets hne _ _ _).trans h2, (cell_sets hne _ _ _).trans h3, (cell_sets hne _ _ _).trans h4, (cell_sets hne _ _ _).trans h5, (cell_sets hne _ _ _).trans h6, (cell_sets hne _ _ _).trans h7⟩
theorem WsAt.set {w : World} {ao : Option Addr} {b o g p : Nat} {W : List Wt} {v : Value} (h : WsAt w ao b o W) (hg : 0 < W.length → b ≠ g) : WsAt (w.setCell ⟨g, p, none⟩ v) ao b o W := h.sets hg [v] p
theorem WsAt.alloc {w : World} {ao : Option Addr} {b o : Nat} {W : List Wt} (h : WsAt w ao b o W) (x : Obj) : WsAt (w.alloc x) ao b o W := h.over ((Below.refl _ w).alloc (Nat.le_refl _) x)
theorem WsAt.but {w w' : World} {ao : Option Addr} {b o g : Nat} {W : List Wt} (h : WsAt w ao b o W) (hb : But g w w') (hg : 0 < W.length → b ≠ g) : WsAt w' ao b o W := by
  refine ⟨h.adr, h.len, fun i x hx => ?_⟩
  have hne : b ≠ g := hg (by have := (List.getElem?_eq_some_iff.1 hx).1; omega)
  have k : ∀ o, w'.cell? ⟨b, o, none⟩ = w.cell? ⟨b, o, none⟩ := fun o => World.cell?_of_block (w := w) (hb.block b hne)
  obtain ⟨h0, h1, h2, h3, h4, h5, h6, h7⟩ := h.cell i x hx
  exact ⟨(k _).trans h0, (k _).trans h1, (k _).trans h2, (k _).trans h3, (k _).trans h4, (k _).trans h5, (k _).trans h6, (k _).trans h7⟩
end Go.Proofs.YtjghbciepinofaaGreat

set_option maxRecDepth 100000
namespace Go.Proofs.YtjghbciepinofaaGreat
open Go.RowKit
theorem mv_04 (b : Bk) (n : Int) (c : Nat) (w : World) (hc : w.cell? ⟨c, 0, none⟩ = some (.int .i64 0)) (hcl : c < w.heap.size) :
    Calls Tryz.prog 114 #[.agg #[.int .i64 b.f0, .int .i64 b.f1, .int .i64 b.f2, .int .i64 b.f3, .int .i64 b.bo, .int .i64 b.wa, .int .i64 b.bu], (.func (.func 125) #[] #[.pointer (some ⟨c, 0, none⟩)]), (.func (.func 122) #[] #[]), .int .i64 n] w fun e w' => e = .returned (.tuple #[.agg #[.int .i64 (mv b 0 4 n).1.f0, .int .i64 (mv b 0 4 n).1.f1, .int .i64 (mv b 0 4 n).1.f2, .int .i64 (mv b 0 4 n).1.f3, .int .i64 (mv b 0 4 n).1.bo, .int .i64 (mv b 0 4 n).1.wa, .int .i64 (mv b 0 4 n).1.bu], .int .i64 (mv b 0 4 n).2]) ∧ Below w.heap.size w w' := by
  by_cases hg : b.good = true
  · by_cases hn : 0 ≤ n ∧ n ≤ 1125899906842624
    · have h1 : ¬ (b.good = false ∨ ¬ (0 ≤ n ∧ n ≤ 1125899906842624)) := by rw [hg]; simp [hn]
      by_cases hl : b.f0 < n
      · have e : mv b 0 4 n = (b, 7) := by rw [mv, if_neg h1, if_pos (show b.get 0 < n from hl)]
        rw [e]
        exact move_funds_0 b.f0 b.f1 b.f2 b.f3 b.bo b.wa b.bu n c _ w hc hcl hg hn.1 hn.2 hl
      · have e : mv b 0 4 n = ((b.put 0 (b.f0 - n)).put 4 (b.bo + n), 0) := by rw [mv, if_neg h1, if_neg (show ¬ b.get 0 < n from hl)]; rfl
        rw [e]
        exact move_ok_04 b.f0 b.f1 b.f2 b.f3 b.bo b.wa b.bu n c w hc hcl hg hn.1 hn.2 (by omega)
    · have e : mv b 0 4 n = (b, 2) := by rw [mv, if_pos (.inr hn)]
      rw [e]
      exact move_range_in b.f0 b.f1 b.f2 b.f3 b.bo b.wa b.bu n _ _ w hg hn
  · have e : mv b 0 4 n = (b, 2) := by rw [mv, if_pos (.inl (by simpa using hg))]
    rw [e]
    exact move_range_bad b.f0 b.f1 b.f2 b.f3 b.bo b.wa b.bu n _ _ w (by simpa [Bk.good] using hg)
theorem mv_14 (b : Bk) (n : Int) (c : Nat) (w : World) (hc : w.cell? ⟨c, 0, none⟩ = some (.int .i64 1)) (hcl : c < w.heap.size) :
    Calls Tryz.prog 114 #[.agg #[.int .i64 b.f0, .int .i64 b.f1, .int .i64 b.f2, .int .i64 b.f3, .int .i64 b.bo, .int .i64 b.wa, .int .i64 b.bu], (.func (.func 125) #[] #[.pointer (some ⟨c, 0, none⟩)]), (.func (.func 122) #[] #[]), .int .i64 n] w fun e w' => e = .returned (.tuple #[.agg #[.int .i64 (mv b 1 4 n).1.f0, .int .i64 (mv b 1 4 n).1.f1, .int .i64 (mv b 1 4 n).1.f2, .int .i64 (mv b 1 4 n).1.f3, .int .i64 (mv b 1 4 n).1.bo, .int .i64 (mv b 1 4 n).1.wa, .int .i64 (mv b 1 4 n).1.bu], .int .i64 (mv b 1 4 n).2]) ∧ Below w.heap.size w w' := by
  by_cases hg : b.good = true
  · by_cases hn : 0 ≤ n ∧ n ≤ 1125899906842624
    · have h1 : ¬ (b.good = false ∨ ¬ (0 ≤ n ∧ n ≤ 1125899906842624)) := by rw [hg]; simp [hn]
      by_cases hl : b.f1 < n
      · have e : mv b 1 4 n = (b, 7) := by rw [mv, if_neg h1, if_pos (show b.get 1 < n from hl)]
        rw [e]
        exact move_funds_1 b.f0 b.f1 b.f2 b.f3 b.bo b.wa b.bu n c _ w hc hcl hg hn.1 hn.2 hl
      · have e : mv b 1 4 n = ((b.put 1 (b.f1 - n)).put 4 (b.bo + n), 0) := by rw [mv, if_neg h1, if_neg (show ¬ b.get 1 < n from hl)]; rfl
        rw [e]
        exact move_ok_14 b.f0 b.f1 b.f2 b.f3 b.bo b.wa b.bu n c w hc hcl hg hn.1 hn.2 (by omega)
    · have e : mv b 1 4 n = (b, 2) := by rw [mv, if_pos (.inr hn)]
      rw [e]
      exact move_range_in b.f0 b.f1 b.f2 b.f3 b.bo b.wa b.bu n _ _ w hg hn
  · have e : mv b 1 4 n = (b, 2) := by rw [mv, if_pos (.inl (by simpa using hg))]
    rw [e]
    exact move_range_bad b.f0 b.f1 b.f2 b.f3 b.bo b.wa b.bu n _ _ w (by simpa [Bk.good] using hg)
theorem mv_24 (b : Bk) (n : Int) (c : Nat) (w : World) (hc : w.cell? ⟨c, 0, none⟩ = some (.int .i64 2)) (hcl : c < w.heap.size) :
    Calls Tryz.prog 114 #[.agg #[.int .i64 b.f0, .int .i64 b.f1, .int .i64 b.f2, .int .i64 b.f3, .int .i64 b.bo, .int .i64 b.wa, .int .i64 b.bu], (.func (.func 125) #[] #[.pointer (some ⟨c, 0, none⟩)]), (.func (.func 122) #[] #[]), .int .i64 n] w fun e w' => e = .returned (.tuple #[.agg #[.int .i64 (mv b 2 4 n).1.f0, .int .i64 (mv b 2 4 n).1.f1, .int .i64 (mv b 2 4 n).1.f2, .int .i64 (mv b 2 4 n).1.f3, .int .i64 (mv b 2 4 n).1.bo, .int .i64 (mv b 2 4 n).1.wa, .int .i64 (mv b 2 4 n).1.bu], .int .i64 (mv b 2 4 n).2]) ∧ Below w.heap.size w w' := by
  by_cases hg : b.good = true
  · by_cases hn : 0 ≤ n ∧ n ≤ 1125899906842624
    · have h1 : ¬ (b.good = false ∨ ¬ (0 ≤ n ∧ n ≤ 1125899906842624)) := by rw [hg]; simp [hn]
      by_cases hl : b.f2 < n
      · have e : mv b 2 4 n = (b, 7) := by rw [mv, if_neg h1, if_pos (show b.get 2 < n from hl)]
        rw [e]
        exact move_funds_2 b.f0 b.f1 b.f2 b.f3 b.bo b.wa b.bu n c _ w hc hcl hg hn.1 hn.2 hl
      · have e : mv b 2 4 n = ((b.put 2 (b.f2 - n)).put 4 (b.bo + n), 0) := by rw [mv, if_neg h1, if_neg (show ¬ b.get 2 < n from hl)]; rfl
        rw [e]
        exact move_ok_24 b.f0 b.f1 b.f2 b.f3 b.bo b.wa b.bu n c w hc hcl hg hn.1 hn.2 (by omega)
    · have e : mv b 2 4 n = (b, 2) := by rw [mv, if_pos (.inr hn)]
      rw [e]
      exact move_range_in b.f0 b.f1 b.f2 b.f3 b.bo b.wa b.bu n _ _ w hg hn
  · have e : mv b 2 4 n = (b, 2) := by rw [mv, if_pos (.inl (by simpa using hg))]
    rw [e]
    exact move_range_bad b.f0 b.f1 b.f2 b.f3 b.bo b.wa b.bu n _ _ w (by simpa [Bk.good] using hg)
theorem mv_34 (b : Bk) (n : Int) (c : Nat) (w : World) (hc : w.cell? ⟨c, 0, none⟩ = some (.int .i64 3)) (hcl : c < w.heap.size) :
    Calls Tryz.prog 114 #[.agg #[.int .i64 b.f0, .int .i64 b.f1, .int .i64 b.f2, .int .i64 b.f3, .int .i64 b.bo, .int .i64 b.wa, .int .i64 b.bu], (.func (.func 125) #[] #[.pointer (some ⟨c, 0, none⟩)]), (.func (.func 122) #[] #[]), .int .i64 n] w fun e w' => e = .returned (.tuple #[.agg #[.int .i64 (mv b 3 4 n).1.f0, .int .i64 (mv b 3 4 n).1.f1, .int .i64 (mv b 3 4 n).1.f2, .int .i64 (mv b 3 4 n).1.f3, .int .i64 (mv b 3 4 n).1.bo, .int .i64 (mv b 3 4 n).1.wa, .int .i64 (mv b 3 4 n).1.bu], .int .i64 (mv b 3 4 n).2]) ∧ Below w.heap.size w w' := by
  by_cases hg : b.good = true
  · by_cases hn : 0 ≤ n ∧ n ≤ 1125899906842624
    · have h1 : ¬ (b.good = false ∨ ¬ (0 ≤ n ∧ n ≤ 1125899906842624)) := by rw [hg]; simp [hn]
      by_cases hl : b.f3 < n
      · have e : mv b 3 4 n = (b, 7) := by rw [mv, if_neg h1, if_pos (show b.get 3 < n from hl)]
        rw [e]
        exact move_funds_3 b.f0 b.f1 b.f2 b.f3 b.bo b.wa b.bu n c _ w hc hcl hg hn.1 hn.2 hl
      · have e : mv b 3 4 n = ((b.put 3 (b.f3 - n)).put 4 (b.bo + n), 0) := by rw [mv, if_neg h1, if_neg (show ¬ b.get 3 < n from hl)]; rfl
        rw [e]
        exact move_ok_34 b.f0 b.f1 b.f2 b.f3 b.bo b.wa b.bu n c w hc hcl hg hn.1 hn.2 (by omega)
    · have e : mv b 3 4 n = (b, 2) := by rw [mv, if_pos (.inr hn)]
      rw [e]
      exact move_range_in b.f0 b.f1 b.f2 b.f3 b.bo b.wa b.bu n _ _ w hg hn
  · have e : mv b 3 4 n = (b, 2) := by rw [mv, if_pos (.inl (by simpa using hg))]
    rw [e]
    exact move_range_bad b.f0 b.f1 b.f2 b.f3 b.bo b.wa b.bu n _ _ w (by simpa [Bk.good] using hg)
theorem mv_50 (b : Bk) (n : Int) (c : Nat) (w : World) (hc : w.cell? ⟨c, 0, none⟩ = some (.int .i64 0)) (hcl : c < w.heap.size) :
    Calls Tryz.prog 114 #[.agg #[.int .i64 b.f0, .int .i64 b.f1, .int .i64 b.f2, .int .i64 b.f3, .int .i64 b.bo, .int .i64 b.wa, .int .i64 b.bu], (.func (.func 123) #[] #[]), (.func (.func 125) #[] #[.pointer (some ⟨c, 0, none⟩)]), .int .i64 n] w fun e w' => e = .returned (.tuple #[.agg #[.int .i64 (mv b 5 0 n).1.f0, .int .i64 (mv b 5 0 n).1.f1, .int .i64 (mv b 5 0 n).1.f2, .int .i64 (mv b 5 0 n).1.f3, .int .i64 (mv b 5 0 n).1.bo, .int .i64 (mv b 5 0 n).1.wa, .int .i64 (mv b 5 0 n).1.bu], .int .i64 (mv b 5 0 n).2]) ∧ Below w.heap.size w w' := by
  by_cases hg : b.good = true
  · by_cases hn : 0 ≤ n ∧ n ≤ 1125899906842624
    · have h1 : ¬ (b.good = false ∨ ¬ (0 ≤ n ∧ n ≤ 1125899906842624)) := by rw [hg]; simp [hn]
      by_cases hl : b.wa < n
      · have e : mv b 5 0 n = (b, 7) := by rw [mv, if_neg h1, if_pos (show b.get 5 < n from hl)]
        rw [e]
        exact move_funds_5 b.f0 b.f1 b.f2 b.f3 b.bo b.wa b.bu n _ w hg hn.1 hn.2 hl
      · have e : mv b 5 0 n = ((b.put 5 (b.wa - n)).put 0 (b.f0 + n), 0) := by rw [mv, if_neg h1, if_neg (show ¬ b.get 5 < n from hl)]; rfl
        rw [e]
        exact move_ok_50 b.f0 b.f1 b.f2 b.f3 b.bo b.wa b.bu n c w hc hcl hg hn.1 hn.2 (by omega)
    · have e : mv b 5 0 n = (b, 2) := by rw [mv, if_pos (.inr hn)]
      rw [e]
      exact move_range_in b.f0 b.f1 b.f2 b.f3 b.bo b.wa b.bu n _ _ w hg hn
  · have e : mv b 5 0 n = (b, 2) := by rw [mv, if_pos (.inl (by simpa using hg))]
    rw [e]
    exact move_range_bad b.f0 b.f1 b.f2 b.f3 b.bo b.wa b.bu n _ _ w (by simpa [Bk.good] using hg)
theorem mv_51 (b : Bk) (n : Int) (c : Nat) (w : World) (hc : w.cell? ⟨c, 0, none⟩ = some (.int .i64 1)) (hcl : c < w.heap.size) :
    Calls Tryz.prog 114 #[.agg #[.int .i64 b.f0, .int .i64 b.f1, .int .i64 b.f2, .int .i64 b.f3, .int .i64 b.bo, .int .i64 b.wa, .int .i64 b.bu], (.func (.func 123) #[] #[]), (.func (.func 125) #[] #[.pointer (some ⟨c, 0, none⟩)]), .int .i64 n] w fun e w' => e = .returned (.tuple #[.agg #[.int .i64 (mv b 5 1 n).1.f0, .int .i64 (mv b 5 1 n).1.f1, .int .i64 (mv b 5 1 n).1.f2, .int .i64 (mv b 5 1 n).1.f3, .int .i64 (mv b 5 1 n).1.bo, .int .i64 (mv b 5 1 n).1.wa, .int .i64 (mv b 5 1 n).1.bu], .int .i64 (mv b 5 1 n).2]) ∧ Below w.heap.size w w' := by
  by_cases hg : b.good = true
  · by_cases hn : 0 ≤ n ∧ n ≤ 1125899906842624
    · have h1 : ¬ (b.good = false ∨ ¬ (0 ≤ n ∧ n ≤ 1125899906842624)) := by rw [hg]; simp [hn]
      by_cases hl : b.wa < n
      · have e : mv b 5 1 n = (b, 7) := by rw [mv, if_neg h1, if_pos (show b.get 5 < n from hl)]
        rw [e]
        exact move_funds_5 b.f0 b.f1 b.f2 b.f3 b.bo b.wa b.bu n _ w hg hn.1 hn.2 hl
      · have e : mv b 5 1 n = ((b.put 5 (b.wa - n)).put 1 (b.f1 + n), 0) := by rw [mv, if_neg h1, if_neg (show ¬ b.get 5 < n from hl)]; rfl
        rw [e]
        exact move_ok_51 b.f0 b.f1 b.f2 b.f3 b.bo b.wa b.bu n c w hc hcl hg hn.1 hn.2 (by omega)
    · have e : mv b 5 1 n = (b, 2) := by rw [mv, if_pos (.inr hn)]
      rw [e]
      exact move_range_in b.f0 b.f1 b.f2 b.f3 b.bo b.wa b.bu n _ _ w hg hn
  · have e : mv b 5 1 n = (b, 2) := by rw [mv, if_pos (.inl (by simpa using hg))]
    rw [e]
    exact move_range_bad b.f0 b.f1 b.f2 b.f3 b.bo b.wa b.bu n _ _ w (by simpa [Bk.good] using hg)
theorem mv_52 (b : Bk) (n : Int) (c : Nat) (w : World) (hc : w.cell? ⟨c, 0, none⟩ = some (.int .i64 2)) (hcl : c < w.heap.size) :
    Calls Tryz.prog 114 #[.agg #[.int .i64 b.f0, .int .i64 b.f1, .int .i64 b.f2, .int .i64 b.f3, .int .i64 b.bo, .int .i64 b.wa, .int .i64 b.bu], (.func (.func 123) #[] #[]), (.func (.func 125) #[] #[.pointer (some ⟨c, 0, none⟩)]), .int .i64 n] w fun e w' => e = .returned (.tuple #[.agg #[.int .i64 (mv b 5 2 n).1.f0, .int .i64 (mv b 5 2 n).1.f1, .int .i64 (mv b 5 2 n).1.f2, .int .i64 (mv b 5 2 n).1.f3, .int .i64 (mv b 5 2 n).1.bo, .int .i64 (mv b 5 2 n).1.wa, .int .i64 (mv b 5 2 n).1.bu], .int .i64 (mv b 5 2 n).2]) ∧ Below w.heap.size w w' := by
  by_cases hg : b.good = true
  · by_cases hn : 0 ≤ n ∧ n ≤ 1125899906842624
    · have h1 : ¬ (b.good = false ∨ ¬ (0 ≤ n ∧ n ≤ 1125899906842624)) := by rw [hg]; simp [hn]
      by_cases hl : b.wa < n
      · have e : mv b 5 2 n = (b, 7) := by rw [mv, if_neg h1, if_pos (show b.get 5 < n from hl)]
        rw [e]
        exact move_funds_5 b.f0 b.f1 b.f2 b.f3 b.bo b.wa b.bu n _ w hg hn.1 hn.2 hl
      · have e : mv b 5 2 n = ((b.put 5 (b.wa - n)).put 2 (b.f2 + n), 0) := by rw [mv, if_neg h1, if_neg (show ¬ b.get 5 < n from hl)]; rfl
        rw [e]
        exact move_ok_52 b.f0 b.f1 b.f2 b.f3 b.bo b.wa b.bu n c w hc hcl hg hn.1 hn.2 (by omega)
    · have e : mv b 5 2 n = (b, 2) := by rw [mv, if_pos (.inr hn)]
      rw [e]
      exact move_range_in b.f0 b.f1 b.f2 b.f3 b.bo b.wa b.bu n _ _ w hg hn
  · have e : mv b 5 2 n = (b, 2) := by rw [mv, if_pos (.inl (by simpa using hg))]
    rw [e]
    exact move_range_bad b.f0 b.f1 b.f2 b.f3 b.bo b.wa b.bu n _ _ w (by simpa [Bk.good] using hg)
theorem mv_53 (b : Bk) (n : Int) (c : Nat) (w : World) (hc : w.cell? ⟨c, 0, none⟩ = some (.int .i64 3)) (hcl : c < w.heap.size) :
    Calls Tryz.prog 114 #[.agg #[.int .i64 b.f0, .int .i64 b.f1, .int .i64 b.f2, .int .i64 b.f3, .int .i64 b.bo, .int .i64 b.wa, .int .i64 b.bu], (.func (.func 123) #[] #[]), (.func (.func 125) #[] #[.pointer (some ⟨c, 0, none⟩)]), .int .i64 n] w fun e w' => e = .returned (.tuple #[.agg #[.int .i64 (mv b 5 3 n).1.f0, .int .i64 (mv b 5 3 n).1.f1, .int .i64 (mv b 5 3 n).1.f2, .int .i64 (mv b 5 3 n).1.f3, .int .i64 (mv b 5 3 n).1.bo, .int .i64 (mv b 5 3 n).1.wa, .int .i64 (mv b 5 3 n).1.bu], .int .i64 (mv b 5 3 n).2]) ∧ Below w.heap.size w w' := by
  by_cases hg : b.good = true
  · by_cases hn : 0 ≤ n ∧ n ≤ 1125899906842624
    · have h1 : ¬ (b.good = false ∨ ¬ (0 ≤ n ∧ n ≤ 1125899906842624)) := by rw [hg]; simp [hn]
      by_cases hl : b.wa < n
      · have e : mv b 5 3 n = (b, 7) := by rw [mv, if_neg h1, if_pos (show b.get 5 < n from hl)]
        rw [e]
        exact move_funds_5 b.f0 b.f1 b.f2 b.f3 b.bo b.wa b.bu n _ w hg hn.1 hn.2 hl
      · have e : mv b 5 3 n = ((b.put 5 (b.wa - n)).put 3 (b.f3 + n), 0) := by rw [mv, if_neg h1, if_neg (show ¬ b.get 5 < n from hl)]; rfl
        rw [e]
        exact move_ok_53 b.f0 b.f1 b.f2 b.f3 b.bo b.wa b.bu n c w hc hcl hg hn.1 hn.2 (by omega)
    · have e : mv b 5 3 n = (b, 2) := by rw [mv, if_pos (.inr hn)]
      rw [e]
      exact move_range_in b.f0 b.f1 b.f2 b.f3 b.bo b.wa b.bu n _ _ w hg hn
  · have e : mv b 5 3 n = (b, 2) := by rw [mv, if_pos (.inl (by simpa using hg))]
    rw [e]
    exact move_range_bad b.f0 b.f1 b.f2 b.f3 b.bo b.wa b.bu n _ _ w (by simpa [Bk.good] using hg)
theorem mv_46 (b : Bk) (n : Int) (w : World) :
    Calls Tryz.prog 114 #[.agg #[.int .i64 b.f0, .int .i64 b.f1, .int .i64 b.f2, .int .i64 b.f3, .int .i64 b.bo, .int .i64 b.wa, .int .i64 b.bu], (.func (.func 122) #[] #[]), (.func (.func 124) #[] #[]), .int .i64 n] w fun e w' => e = .returned (.tuple #[.agg #[.int .i64 (mv b 4 6 n).1.f0, .int .i64 (mv b 4 6 n).1.f1, .int .i64 (mv b 4 6 n).1.f2, .int .i64 (mv b 4 6 n).1.f3, .int .i64 (mv b 4 6 n).1.bo, .int .i64 (mv b 4 6 n).1.wa, .int .i64 (mv b 4 6 n).1.bu], .int .i64 (mv b 4 6 n).2]) ∧ Below w.heap.size w w' := by
  by_cases hg : b.good = true
  · by_cases hn : 0 ≤ n ∧ n ≤ 1125899906842624
    · have h1 : ¬ (b.good = false ∨ ¬ (0 ≤ n ∧ n ≤ 1125899906842624)) := by rw [hg]; simp [hn]
      by_cases hl : b.bo < n
      · have e : mv b 4 6 n = (b, 7) := by rw [mv, if_neg h1, if_pos (show b.get 4 < n from hl)]
        rw [e]
        exact move_funds_4 b.f0 b.f1 b.f2 b.f3 b.bo b.wa b.bu n _ w hg hn.1 hn.2 hl
      · have e : mv b 4 6 n = ((b.put 4 (b.bo - n)).put 6 (b.bu + n), 0) := by rw [mv, if_neg h1, if_neg (show ¬ b.get 4 < n from hl)]; rfl
        rw [e]
        exact move_ok_46 b.f0 b.f1 b.f2 b.f3 b.bo b.wa b.bu n w hg hn.1 hn.2 (by omega)
    · have e : mv b 4 6 n = (b, 2) := by rw [mv, if_pos (.inr hn)]
      rw [e]
      exact move_range_in b.f0 b.f1 b.f2 b.f3 b.bo b.wa b.bu n _ _ w hg hn
  · have e : mv b 4 6 n = (b, 2) := by rw [mv, if_pos (.inl (by simpa using hg))]
    rw [e]
    exact move_range_bad b.f0 b.f1 b.f2 b.f3 b.bo b.wa b.bu n _ _ w (by simpa [Bk.good] using hg)
theorem mv_56 (b : Bk) (n : Int) (w : World) :
    Calls Tryz.prog 114 #[.agg #[.int .i64 b.f0, .int .i64 b.f1, .int .i64 b.f2, .int .i64 b.f3, .int .i64 b.bo, .int .i64 b.wa, .int .i64 b.bu], (.func (.func 123) #[] #[]), (.func (.func 124) #[] #[]), .int .i64 n] w fun e w' => e = .returned (.tuple #[.agg #[.int .i64 (mv b 5 6 n).1.f0, .int .i64 (mv b 5 6 n).1.f1, .int .i64 (mv b 5 6 n).1.f2, .int .i64 (mv b 5 6 n).1.f3, .int .i64 (mv b 5 6 n).1.bo, .int .i64 (mv b 5 6 n).1.wa, .int .i64 (mv b 5 6 n).1.bu], .int .i64 (mv b 5 6 n).2]) ∧ Below w.heap.size w w' := by
  by_cases hg : b.good = true
  · by_cases hn : 0 ≤ n ∧ n ≤ 1125899906842624
    · have h1 : ¬ (b.good = false ∨ ¬ (0 ≤ n ∧ n ≤ 1125899906842624)) := by rw [hg]; simp [hn]
      by_cases hl : b.wa < n
      · have e : mv b 5 6 n = (b, 7) := by rw [mv, if_neg h1, if_pos (show b.get 5 < n from hl)]
        rw [e]
        exact move_funds_5 b.f0 b.f1 b.f2 b.f3 b.bo b.wa b.bu n _ w hg hn.1 hn.2 hl
      · have e : mv b 5 6 n = ((b.put 5 (b.wa - n)).put 6 (b.bu + n), 0) := by rw [mv, if_neg h1, if_neg (show ¬ b.get 5 < n from hl)]; rfl
        rw [e]
        exact move_ok_56 b.f0 b.f1 b.f2 b.f3 b.bo b.wa b.bu n w hg hn.1 hn.2 (by omega)
    · have e : mv b 5 6 n = (b, 2) := by rw [mv, if_pos (.inr hn)]
      rw [e]
      exact move_range_in b.f0 b.f1 b.f2 b.f3 b.bo b.wa b.bu n _ _ w hg hn
  · have e : mv b 5 6 n = (b, 2) := by rw [mv, if_pos (.inl (by simpa using hg))]
    rw [e]
    exact move_range_bad b.f0 b.f1 b.f2 b.f3 b.bo b.wa b.bu n _ _ w (by simpa [Bk.good] using hg)
theorem bond_any (b : Bk) (d n : Int) (w : World) : Calls Tryz.prog 106 #[.agg #[.int .i64 b.f0, .int .i64 b.f1, .int .i64 b.f2, .int .i64 b.f3, .int .i64 b.bo, .int .i64 b.wa, .int .i64 b.bu], .int .i64 d, .int .i64 n] w fun e w' => e = .returned (.tuple #[.agg #[.int .i64 (bondR b d n).1.f0, .int .i64 (bondR b d n).1.f1, .int .i64 (bondR b d n).1.f2, .int .i64 (bondR b d n).1.f3, .int .i64 (bondR b d n).1.bo, .int .i64 (bondR b d n).1.wa, .int .i64 (bondR b d n).1.bu], .int .i64 (bondR b d n).2]) ∧ Below w.heap.size w w' := by
  by_cases h : 0 ≤ d ∧ d < 4
  · rw [bondR, if_pos h]
    refine bond_walk b.f0 b.f1 b.f2 b.f3 b.bo b.wa b.bu d n (mv b d.toNat 4 n).1.f0 (mv b d.toNat 4 n).1.f1 (mv b d.toNat 4 n).1.f2 (mv b d.toNat 4 n).1.f3 (mv b d.toNat 4 n).1.bo (mv b d.toNat 4 n).1.wa (mv b d.toNat 4 n).1.bu (mv b d.toNat 4 n).2 w h.1 h.2 ?_
    intro c w hc hcl
    rcases (show d = 0 ∨ d = 1 ∨ d = 2 ∨ d = 3 by omega) with rfl | rfl | rfl | rfl
    · exact mv_04 b n c w hc hcl
    · exact mv_14 b n c w hc hcl
    · exact mv_24 b n c w hc hcl
    · exact mv_34 b n c w hc hcl
  · rw [bondR, if_neg h]
    exact bond_no b.f0 b.f1 b.f2 b.f3 b.bo b.wa b.bu d n w h
theorem pay_any (b : Bk) (d n : Int) (w : World) : Calls Tryz.prog 69 #[.agg #[.int .i64 b.f0, .int .i64 b.f1, .int .i64 b.f2, .int .i64 b.f3, .int .i64 b.bo, .int .i64 b.wa, .int .i64 b.bu], .int .i64 d, .int .i64 n] w fun e w' => e = .returned (.tuple #[.agg #[.int .i64 (payR b d n).1.f0, .int .i64 (payR b d n).1.f1, .int .i64 (payR b d n).1.f2, .int .i64 (payR b d n).1.f3, .int .i64 (payR b d n).1.bo, .int .i64 (payR b d n).1.wa, .int .i64 (payR b d n).1.bu], .int .i64 (payR b d n).2]) ∧ Below w.heap.size w w' := by
  by_cases h : 0 ≤ d ∧ d < 4
  · rw [payR, if_pos h]
    refine pay_walk b.f0 b.f1 b.f2 b.f3 b.bo b.wa b.bu d n (mv b 5 d.toNat n).1.f0 (mv b 5 d.toNat n).1.f1 (mv b 5 d.toNat n).1.f2 (mv b 5 d.toNat n).1.f3 (mv b 5 d.toNat n).1.bo (mv b 5 d.toNat n).1.wa (mv b 5 d.toNat n).1.bu (mv b 5 d.toNat n).2 w h.1 h.2 ?_
    intro c w hc hcl
    rcases (show d = 0 ∨ d = 1 ∨ d = 2 ∨ d = 3 by omega) with rfl | rfl | rfl | rfl
    · exact mv_50 b n c w hc hcl
    · exact mv_51 b n c w hc hcl
    · exact mv_52 b n c w hc hcl
    · exact mv_53 b n c w hc hcl
  · rw [payR, if_neg h]
    exact pay_no b.f0 b.f1 b.f2 b.f3 b.bo b.wa b.bu d n w h
theorem burn_any (b : Bk) (x y : Int) (w : World) : Calls Tryz.prog 166 #[.agg #[.int .i64 b.f0, .int .i64 b.f1, .int .i64 b.f2, .int .i64 b.f3, .int .i64 b.bo, .int .i64 b.wa, .int .i64 b.bu], .int .i64 x, .int .i64 y] w fun e w' => e = .returned (.tuple #[.agg #[.int .i64 (burnR b x y).1.f0, .int .i64 (burnR b x y).1.f1, .int .i64 (burnR b x y).1.f2, .int .i64 (burnR b x y).1.f3, .int .i64 (burnR b x y).1.bo, .int .i64 (burnR b x y).1.wa, .int .i64 (burnR b x y).1.bu], .int .i64 (burnR b x y).2]) ∧ Below w.heap.size w w' := by
  refine burn_walk b.f0 b.f1 b.f2 b.f3 b.bo b.wa b.bu x y (mv b 4 6 x).1.f0 (mv b 4 6 x).1.f1 (mv b 4 6 x).1.f2 (mv b 4 6 x).1.f3 (mv b 4 6 x).1.bo (mv b 4 6 x).1.wa (mv b 4 6 x).1.bu (mv b 4 6 x).2 (mv (mv b 4 6 x).1 5 6 y).1.f0 (mv (mv b 4 6 x).1 5 6 y).1.f1 (mv (mv b 4 6 x).1 5 6 y).1.f2 (mv (mv b 4 6 x).1 5 6 y).1.f3 (mv (mv b 4 6 x).1 5 6 y).1.bo (mv (mv b 4 6 x).1 5 6 y).1.wa (mv (mv b 4 6 x).1 5 6 y).1.bu (mv (mv b 4 6 x).1 5 6 y).2 (burnR b x y).1.f0 (burnR b x y).1.f1 (burnR b x y).1.f2 (burnR b x y).1.f3 (burnR b x y).1.bo (burnR b x y).1.wa (burnR b x y).1.bu (burnR b x y).2 w ?_ (mv_46 b x) (mv_56 (mv b 4 6 x).1 y)
  unfold burnR
  by_cases h1 : (mv b 4 6 x).2 = 0
  · by_cases h2 : (mv (mv b 4 6 x).1 5 6 y).2 = 0
    · rw [if_pos h1, if_pos h2]
      exact .inr (.inr ⟨h1, h2, rfl, rfl, rfl, rfl, rfl, rfl, rfl, rfl⟩)
    · rw [if_pos h1, if_neg h2]
      exact .inr (.inl ⟨h1, h2, rfl, rfl, rfl, rfl, rfl, rfl, rfl, rfl⟩)
  · rw [if_neg h1]
    exact .inl ⟨h1, rfl, rfl, rfl, rfl, rfl, rfl, rfl, rfl⟩
end Go.Proofs.YtjghbciepinofaaGreat

set_option maxRecDepth 100000
namespace Go.Proofs.YtjghbciepinofaaGreat
theorem mv_fail {b : Bk} {f t : Nat} {n : Int} (h : (mv b f t n).2 ≠ 0) : (mv b f t n).1 = b := by
  unfold mv at *
  split
  · rfl
  · rename_i h1
    rw [if_neg h1] at h
    split
    · rfl
    · rename_i h2
      rw [if_neg h2] at h
      exact absurd rfl h
theorem mv_make {b : Bk} {f t : Nat} {n : Int} (hg : b.good = true) (h0 : 0 ≤ n) (h1 : n ≤ 1125899906842624) (h2 : n ≤ b.get f) : mv b f t n = ((b.put f (b.get f - n)).put t (b.get t + n), 0) := by
  unfold mv
  rw [if_neg (by rw [hg]; simp [h0, h1]), if_neg (by omega)]
theorem mv_zero {b : Bk} {f t : Nat} {n : Int} (h : (mv b f t n).2 = 0) : b.good = true ∧ 0 ≤ n ∧ n ≤ 1125899906842624 ∧ n ≤ b.get f ∧ mv b f t n = ((b.put f (b.get f - n)).put t (b.get t + n), 0) := by
  by_cases h1 : b.good = false ∨ ¬ (0 ≤ n ∧ n ≤ 1125899906842624)
  · unfold mv at h
    rw [if_pos h1] at h
    exact absurd h (by simp)
  · by_cases h2 : b.get f < n
    · unfold mv at h
      rw [if_neg h1, if_pos h2] at h
      exact absurd h (by simp)
    · have hg : b.good = true := by
        cases hb : b.good with
        | true => rfl
        | false => exact absurd (.inl hb) h1
      have hn : 0 ≤ n ∧ n ≤ 1125899906842624 := Decidable.byContradiction fun hn => h1 (.inr hn)
      exact ⟨hg, hn.1, hn.2, by omega, mv_make hg hn.1 hn.2 (by omega)⟩
/-- the moves that there are -/
def Goes (f t : Nat) : Prop := (f < 4 ∧ t = 4) ∨ (f = 5 ∧ t < 4) ∨ (f = 4 ∧ t = 5) ∨ (f = 4 ∧ t = 6) ∨ (f = 5 ∧ t = 6)
theorem good_iff (b : Bk) : b.good = true ↔ (0 ≤ b.f0 ∧ b.f0 ≤ 400000) ∧ (0 ≤ b.f1 ∧ b.f1 ≤ 400000) ∧ (0 ≤ b.f2 ∧ b.f2 ≤ 400000) ∧ (0 ≤ b.f3 ∧ b.f3 ≤ 400000) ∧ (0 ≤ b.bo ∧ b.bo ≤ 400000) ∧ (0 ≤ b.wa ∧ b.wa ≤ 400000) ∧ (0 ≤ b.bu ∧ b.bu ≤ 400000) ∧ b.f0 + b.f1 + b.f2 + b.f3 + b.bo + b.wa + b.bu = 400000 := by
  unfold Bk.good goodB
  exact decide_eq_true_iff
theorem good_mv {b : Bk} {f t : Nat} {n : Int} (hft : Goes f t) (hg : b.good = true) (h0 : 0 ≤ n) (h2 : n ≤ b.get f) :
    ((b.put f (b.get f - n)).put t (b.get t + n)).good = true ∧ b.bu ≤ ((b.put f (b.get f - n)).put t (b.get t + n)).bu := by
  rw [good_iff] at *
  rcases hft with ⟨hf, rfl⟩ | ⟨rfl, ht⟩ | ⟨rfl, rfl⟩ | ⟨rfl, rfl⟩ | ⟨rfl, rfl⟩
  · rcases (show f = 0 ∨ f = 1 ∨ f = 2 ∨ f = 3 by omega) with rfl | rfl | rfl | rfl <;> simp only [Bk.get, Bk.put] at * <;> omega
  · rcases (show t = 0 ∨ t = 1 ∨ t = 2 ∨ t = 3 by omega) with rfl | rfl | rfl | rfl <;> simp only [Bk.get, Bk.put] at * <;> omega
  all_goals simp only [Bk.get, Bk.put] at * <;> omega
/-- what is asked of whatever moves -/
structure Kept (b : Bk) (r : Bk × Int) : Prop where
  no : r.2 ≠ 0 → r.1 = b
  yes : r.2 = 0 → b.good = true ∧ r.1.good = true ∧ b.bu ≤ r.1.bu
theorem kept_mv (b : Bk) {f t : Nat} (n : Int) (hft : Goes f t) : Kept b (mv b f t n) := by
  refine ⟨mv_fail, fun h => ?_⟩
  obtain ⟨h1, h2, h3, h4, h5⟩ := mv_zero h
  rw [h5]
  exact ⟨h1, good_mv hft h1 h2 h4⟩
theorem kept_pay (b : Bk) (d n : Int) : Kept b (payR b d n) := by
  unfold payR
  split
  · exact kept_mv b n (.inr (.inl ⟨rfl, by omega⟩))
  · exact ⟨fun _ => rfl, fun h => absurd h (by simp)⟩
end Go.Proofs.YtjghbciepinofaaGreat

