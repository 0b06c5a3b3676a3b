/- Parts of the proof: LH. -/
import Derived.Test.YtnfigdecgkcgcaaRows
import Derived.Test.YtnfigdecgkcgcaaCK53
import Derived.Test.YtnfigdecgkcgcaaCK54
set_option maxRecDepth 100000
namespace Go.Proofs.Ytnfigdecgkcgcaa.Ln
open Go.RowKit
/-- a row's block is none that holds cells of another type -/
theorem own_ne {w : World} {b e e' z n k : Nat} {v : Value} {xs : List Value} {cs : Array Value} {f : Nat × Nat} (h : w.ownsRow b e z v n xs) (hf : w.heap[k]? = some (.cells cs e' f)) (he : e ≠ e') : some k ≠ v.ownBlock := by
  rcases h.2 with ⟨rfl, _⟩ | ⟨g, cap, cur, rfl, hb, hg, rest⟩
  · simp [Value.ownBlock]
  · intro h2
    have e2 : k = g := by simpa [Value.ownBlock] using h2
    subst e2
    rw [hg] at hf
    cases hf
    exact he rfl
theorem own_apart {w : World} {b e e' z n b' z' n' : Nat} {v v' : Value} {xs xs' : List Value} (h : w.ownsRow b e z v n xs) (h' : w.ownsRow b' e' z' v' n' xs') (he : e ≠ e') : ∀ k, v'.ownBlock = some k → some k ≠ v.ownBlock := by
  intro k hk
  rcases h'.2 with ⟨rfl, _⟩ | ⟨g, cap, cur, rfl, hb, hg, rest⟩
  · simp [Value.ownBlock] at hk
  · obtain rfl : g = k := by simpa [Value.ownBlock] using hk
    exact own_ne h hg he
/-- the copy lies in a block, and its two lists are rows of their own -/
structure Mid (w wq : World) (b8 : Nat) (v0 v1 : Value) (g : Int) (cl : Bool) (S : List ByteArray) (A1 : Option Addr) (C1 : Nat) (D : List Int) (A2 : Option Addr) (C2 : Nat) : Prop where
  F8 : FAt wq b8 v0 v1 (.int .i64 g) (.bool cl)
  F2 : FAt wq (w.heap.size + 1) (.slice none 0 0) (.slice none 0 0) (.int .i64 0) (.bool false)
  oS : OwnS (w.heap.size + 2) wq A1 C1 S
  oD : OwnI (w.heap.size + 2) wq A2 C2 D
  below : Below w.heap.size w wq
  hb8 : w.heap.size + 2 ≤ b8
section
variable {w wq : World} {b8 : Nat} {v0 v1 : Value} {g : Int} {cl : Bool} {S : List ByteArray} {A1 : Option Addr} {C1 : Nat} {D : List Int} {A2 : Option Addr} {C2 : Nat}
theorem Mid.alloc (h : Mid w wq b8 v0 v1 g cl S A1 C1 D A2 C2) (o : Obj) : Mid w (wq.alloc o) b8 v0 v1 g cl S A1 C1 D A2 C2 :=
  ⟨h.F8.alloc o, h.F2.alloc o, World.ownsRow.alloc h.oS o, World.ownsRow.alloc h.oD o, h.below.alloc h.below.size o, h.hb8⟩
theorem Mid.drew (h : Mid w wq b8 v0 v1 g cl S A1 C1 D A2 C2) : Mid w wq.drew b8 v0 v1 g cl S A1 C1 D A2 C2 := ⟨h.F8, h.F2, h.oS, h.oD, h.below.drew, h.hb8⟩
theorem Mid.set {v0' v1' : Value} {g' : Int} {cl' : Bool} (h : Mid w wq b8 v0 v1 g cl S A1 C1 D A2 C2) {w' : World} (hF : FAt w' b8 v0' v1' (.int .i64 g') (.bool cl')) (hk : ∀ k, k ≠ b8 → w'.heap[k]? = wq.heap[k]?) (hb : Below w.heap.size w w') : Mid w w' b8 v0' v1' g' cl' S A1 C1 D A2 C2 :=
  ⟨hF, (hk _ (by have := h.hb8; omega)).trans h.F2, own_of h.oS fun k e => hk k (fun e2 => own_ne h.oS h.F8 (by decide) (e2 ▸ e).symm), own_of h.oD fun k e => hk k (fun e2 => own_ne h.oD h.F8 (by decide) (e2 ▸ e).symm), hb, h.hb8⟩
/-- how it ends -/
theorem Mid.fin {sb0 db0 : Nat} {x0 : Line} {f : Func} {p q : Tmp} (hres : f.results = #[.cell p 29, .tmp q]) (h : Mid w wq b8 v0 v1 g cl S A1 C1 D A2 C2) (hlS : S.length * 16 ≤ 140737488351232) (hlD : D.length * 8 ≤ 140737488351232) (nS nD : Nat) (eS : nS = S.length) (eD : nD = D.length) (er : Int) (r : Line × Int) (hr : r = (⟨S, D, g, cl⟩, er)) (act : Act)
    (h8 : act.tmps.getD p undef = .pointer (some ⟨w.heap.size + 1, 0, none⟩)) (h9 : act.tmps.getD q undef = .int .i64 er) (hd : act.defers = []) :
    bodyPost Try.prog f (fun e w' => Ans sb0 db0 x0 w r e w') Exit.ret act (set4 wq (w.heap.size + 1) (.slice A1 nS C1) (.slice A2 nD C2) (.int .i64 g) (.bool cl)) := by
  obtain ⟨g1, g2, L, l1, l2⟩ := OwnL.at (x := ⟨S, D, g, cl⟩) ⟨h.oS, h.oD, fun k h1 h2 => own_apart h.oD h.oS (by decide) k h1 h2.symm⟩ hlS hlD
  exact line_end hres h.F2 h.below (Nat.le_succ _) ⟨S, D, g, cl⟩ A1 A2 C1 C2 g1 0 g2 0 L (fun h0 => by have := (l1 h0).1; omega) (fun h0 => by have := (l2 h0).1; omega) (fun h0 => .inr (by have := (l1 h0).1; omega)) (fun h0 => .inr (by have := (l2 h0).1; omega)) nS nD eS eD er r hr act h8 h9 hd
end
section
variable {w wq : World} {b8 : Nat} {v0 v1 : Value} {g : Int} {cl : Bool} {S : List ByteArray} {A1 : Option Addr} {C1 : Nat} {D : List Int} {A2 : Option Addr} {C2 : Nat}
end
end Go.Proofs.Ytnfigdecgkcgcaa.Ln

