/- Parts of the proof: KSB. -/
import Derived.Test.YtdkalcnlncjgiaaRows
import Derived.Test.YtdkalcnlncjgiaaBK6
set_option maxRecDepth 100000
namespace Go.Proofs.Ytdkalcnlncjgiaa.Kc
open Go.RowKit Pv
theorem ref_good {c : Cs} (h : refC c = 0) : goodC c = true ∧ c.on = true := by
  unfold refC at h
  by_cases hg : goodC c = true
  · rw [if_pos hg] at h
    by_cases ho : c.on = true
    · exact ⟨hg, ho⟩
    · rw [if_neg ho] at h; exact absurd h (by decide)
  · rw [if_neg hg] at h; exact absurd h (by decide)
/-- what a good consumer has -/
theorem good_parts {c : Cs} (h : goodC c = true) : ((c.on && c.gone) = false ∧ 0 ≤ c.h ∧ c.h < 1099511627776) ∧ (0 ≤ c.t ∧ c.t ≤ 1099511627776) ∧ (0 ≤ c.id ∧ c.id ≤ 1099511627776) ∧ setB (-1) c.set = true ∧ c.pd.all goodK = true ∧ c.rp.all goodR = true ∧ Ln.goodL c.out = true := by
  unfold goodC isT at h
  simp only [Bool.and_eq_true, decide_eq_true_eq, Bool.not_eq_true'] at h
  obtain ⟨⟨⟨⟨⟨h1, h2⟩, h3⟩, h4⟩, h5⟩, ⟨⟨⟨h6, h7⟩, h8⟩, h9⟩⟩ := h
  exact ⟨⟨h1, h2, h3⟩, h4, h5, h6, h7, h8, h9⟩
theorem isT_of {n : Int} (h : isT n = true) : 0 ≤ n ∧ n ≤ 1099511627776 := by
  unfold isT at h
  simpa using h
/-- a consumer that comes in by value, and the answer's block -/
structure BegC (P : Nat → Prop) (w w0 : World) (c : Cs) (v : CsV) : Prop where
  C0 : CAt 33 w0 w.heap.size (csC c v)
  R0 : CAt 33 w0 (w.heap.size + 1) Z22
  B0 : Below w.heap.size w w0
  I0 : CIn P w0 c v
  N0 : CIn (New P w 2) w0 c v
  no : ¬ P w.heap.size ∨ True
theorem begC {P : Nat → Prop} {w : World} {c : Cs} {v : CsV} (hp : CIn P w c v) : BegC P w ((w.alloc (.cells (csC c v) 33)).alloc (.cells Z22 33)) c v := by
  have hb : Below w.heap.size w ((w.alloc (.cells (csC c v) 33)).alloc (.cells Z22 33)) := ((Below.refl _ w).alloc (Nat.le_refl _) _).alloc (by simp) _
  exact ⟨(CAt.new _ w _).alloc _, CAt.new2 _ w _ _, hb, hp.over hb, hp.ofNew hb 2, .inr trivial⟩
theorem BegC.over {P : Nat → Prop} {w w0 w1 : World} {c : Cs} {v : CsV} (h : BegC P w w0 c v) (hb : Below w0.heap.size w0 w1) : BegC P w w1 c v :=
  ⟨h.C0.over hb, h.R0.over hb, h.B0.trans (hb.mono h.B0.size), h.I0.over hb, h.N0.over hb, .inr trivial⟩
/-- as it was, with an error -/
theorem BegC.asItWas {f : Func} {t q : Tmp} (hres : f.results = #[.cell t 33, .tmp q]) {P : Nat → Prop} {w w0 : World} {c : Cs} {v : CsV} (h : BegC P w w0 c v) (er : Int) (r : Cs × Int) (hr : r = (c, er)) (act : Act)
    (h8 : act.tmps.getD t undef = .pointer (some ⟨w.heap.size + 1, 0, none⟩)) (h9 : act.tmps.getD q undef = .int .i64 er) (hd : act.defers = []) :
    bodyPost Try.prog f (AnsC P w r) Exit.ret act (w0.setCells (w.heap.size + 1) 0 (csC c v).toList) := cs_end2 hres h.R0 Z22_size h.B0 c v er r hr h.N0 act h8 h9 hd
theorem BegC.facts {P : Nat → Prop} {w w0 : World} {c : Cs} {v : CsV} (h : BegC P w w0 c v) : (loadC (.pointer (some ⟨w.heap.size, 0, none⟩))).run Try.prog w0 = .ok (.agg (csC c v)) w0 ∧ (storeC (.pointer (some ⟨w.heap.size + 1, 0, none⟩)) (.agg (csC c v))).run Try.prog w0 = .ok () (w0.setCells (w.heap.size + 1) 0 (csC c v).toList) :=
  ⟨cs_load h.C0 (csC_size _ _), cs_store h.R0 Z22_size (csC_size c v) (cs_one h.I0)⟩
theorem lt2_no (P : Nat → Prop) (w : World) : ¬ New P w 2 w.heap.size := by
  have := new_no (P := P) (w := w) (k := 2) (j := 0) (by omega)
  simpa using this
theorem new_new {P : Nat → Prop} {w w0 : World} (hz : w.heap.size + 2 ≤ w0.heap.size) {b : Nat} (h : New (New P w 2) w0 0 b) : New P w 2 b := by
  rcases h with ⟨h, _⟩ | h
  · exact h
  · exact .inr (by omega)
attribute [local go_sem ↓] loadC_eq storeC_eq
end Go.Proofs.Ytdkalcnlncjgiaa.Kc

