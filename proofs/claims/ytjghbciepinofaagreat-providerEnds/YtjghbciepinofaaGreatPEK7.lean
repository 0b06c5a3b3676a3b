/- Parts of the proof: PVQ RU1. -/
import Derived.Test.YtjghbciepinofaaGreatRows
import Derived.Test.YtjghbciepinofaaGreatPEK0
import Derived.Test.YtjghbciepinofaaGreatPEK1
import Derived.Test.YtjghbciepinofaaGreatPEK5
import Derived.Test.YtjghbciepinofaaGreatPEK24
import Derived.Test.YtjghbciepinofaaGreatPEK27
import Derived.Test.YtjghbciepinofaaGreatPEK32
import Derived.Test.YtjghbciepinofaaGreatPEK36
import Derived.Test.YtjghbciepinofaaGreatPEK45
import Derived.Test.YtjghbciepinofaaGreatPEK48
set_option maxRecDepth 100000
namespace Go.Proofs.YtjghbciepinofaaGreat.Pv
open Go.RowKit
structure PInQ (P : Nat → Prop) (w : World) (p : Pr) (v : PrV) : Prop where
  ws : Rep P w v.ws 8 64 (wsL p.s.W)
  set : Rep P w v.set 2 16 (pwC p.set)
  lk : ∀ c, c < 2 → LkIn P w (p.L c) (v.l c)
  q : ∃ A n C, v.q = .slice A n C
section
variable {P P' : Nat → Prop} {w w' : World} {p : Pr} {v : PrV}
theorem PInQ.mono (h : PInQ P w p v) (hp : ∀ b, b < w.heap.size → P b → P' b) : PInQ P' w p v := ⟨h.ws.mono hp, h.set.mono hp, fun c hc => (h.lk c hc).mono hp, h.q⟩
theorem PInQ.keep (h : PInQ P w p v) (hk : ∀ b, P b → b < w.heap.size → w'.heap[b]? = w.heap[b]?) : PInQ P w' p v := ⟨h.ws.keep hk, h.set.keep hk, fun c hc => (h.lk c hc).keep hk, h.q⟩
theorem PInQ.over (h : PInQ P w p v) (hb : Below w.heap.size w w') : PInQ P w' p v := h.keep fun b _ hlt => hb.block b hlt
theorem PInQ.sets (h : PInQ P w p v) {g : Nat} (hg : ¬ P g) (o : Nat) (vs : List Value) : PInQ P (w.setCells g o vs) p v := h.keep fun b hb _ => heap_sets (show b ≠ g from fun e => hg (by rw [← e]; exact hb)) vs o w
theorem PInQ.put (h : PInQ P w p v) {g : Nat} (hg : ¬ P g) (o : Nat) (x : Value) : PInQ P (w.setCell ⟨g, o, none⟩ x) p v := h.keep fun b hb _ => Below.heap_setCell _ _ _ _ (show b ≠ g from fun e => hg (by rw [← e]; exact hb))
theorem PInQ.ofNew (h : PInQ P w p v) (hb : Below w.heap.size w w') (k : Nat) : PInQ (New P w k) w' p v := (h.mono (P' := New P w k) fun _ hl hp => .inl ⟨hp, hl⟩).over hb
theorem PInQ.one (h : PInQ P w p v) : (prC p v).all (·.oneCell') = true := by
  obtain ⟨A, n, C, e, _⟩ := h.ws
  have hs : (stC p.s v.ws).all (·.oneCell') = true := by rw [e]; exact stC_one _ _ _ _
  rw [Array.all_eq_true_iff_forall_mem] at *
  obtain ⟨Aq, nq, Cq, eq⟩ := h.q
  intro u hu
  simp only [prC, List.mem_toArray, List.mem_append, List.mem_cons, List.not_mem_nil, or_false] at hu
  rcases hu with (rfl | rfl) | hu | rfl | hu | hu | rfl | rfl | rfl
  · rfl
  · rfl
  · exact hs u (by simpa using hu)
  · exact h.set.one
  · exact lk_one (h.lk 0 (by omega)) u hu
  · exact lk_one (h.lk 1 (by omega)) u hu
  · rfl
  · rfl
  · rw [eq]; rfl
theorem done_pinQ (h : PInQ P w p v) (k : Nat) (l : List Int) (U : Value) (h1 : Rep P w U 1 8 (inC l)) :
    PInQ P w { p with L := updL p.L k { p.L k with done := l } } (v.upd k ⟨(v.l k).told, U, (v.l k).said, (v.l k).due⟩) := by
  refine ⟨h.ws, h.set, fun c hc => ?_, h.q⟩
  show LkIn P w (if c = k then _ else p.L c) (if c = k then _ else v.l c)
  by_cases e : c = k
  · subst e
    rw [if_pos rfl, if_pos rfl]
    have := h.lk c hc
    exact ⟨this.told, h1, this.said, this.due⟩
  · rw [if_neg e, if_neg e]
    exact h.lk c hc
end
end Go.Proofs.YtjghbciepinofaaGreat.Pv

set_option maxRecDepth 100000
namespace Go.Proofs.YtjghbciepinofaaGreat
open Go.RowKit
theorem OwnW.wsg {B : Nat} {w : World} {g C : Nat} {W : List Wt} (h : OwnW B w (some ⟨g, 0, none⟩) C W) (hl : W.length * 64 ≤ 140737488351232) : WsAt w (some ⟨g, 0, none⟩) g 0 W :=
  ws_of_cells hl fun j v hj => by
    have := World.ownsRow.cells h (g := g) rfl j v hj
    rwa [Addr.add_lit, Nat.zero_add] at this
end Go.Proofs.YtjghbciepinofaaGreat

