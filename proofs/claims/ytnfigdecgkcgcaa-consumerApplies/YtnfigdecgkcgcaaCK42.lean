/- Parts of the proof: KI2. -/
import Derived.Test.YtnfigdecgkcgcaaRows
import Derived.Test.YtnfigdecgkcgcaaCK41
set_option maxRecDepth 100000
namespace Go.Proofs.Ytnfigdecgkcgcaa.Kc
open Go.RowKit Pv
/-- a consumer in a block of its own, in a world behind another -/
structure CO (w0 : World) (g : Nat) (wl : World) (c : Cs) (v : CsV) : Prop where
  cat : CAt 33 wl g (csC c v)
  cin : ∃ P, CIn P wl c v ∧ ¬ P g
  bel : Below w0.heap.size w0 wl
  le : w0.heap.size ≤ g
theorem CO.over {w0 wl wx : World} {g : Nat} {c : Cs} {v : CsV} (h : CO w0 g wl c v) (hb : Below wl.heap.size wl wx) : CO w0 g wx c v := by
  obtain ⟨P, hP, hn⟩ := h.cin
  exact ⟨h.cat.over hb, ⟨P, hP.over hb, hn⟩, h.bel.trans (hb.mono h.bel.size), h.le⟩
theorem CO.put {w0 wl w' : World} {g : Nat} {c d : Cs} {v v' : CsV} (h : CO w0 g wl c v) (q : ∃ Q, CIn Q w' d v' ∧ ¬ Q g) (hb : Below wl.heap.size wl w') : CO w0 g (w'.setCells g 0 (csC d v').toList) d v' := by
  obtain ⟨Q, hQ, hn⟩ := q
  exact ⟨(h.cat.over hb).setAll rfl, ⟨Q, hQ.sets hn _ _, hn⟩, below_sets h.le _ _ _ (h.bel.trans (hb.mono h.bel.size)), h.le⟩
theorem CO.new {w0 wl : World} {c : Cs} {v : CsV} {P : Nat → Prop} (I : CIn P wl c v) (hb : Below w0.heap.size w0 wl) : CO w0 wl.heap.size (laidW wl c v) c v :=
  ⟨laid_cat wl c v, ⟨fun b => b < wl.heap.size, (I.mono (P' := fun b => b < wl.heap.size) fun _ h _ => h).over (laid_below wl c v), Nat.lt_irrefl _⟩, hb.trans ((laid_below wl c v).mono hb.size), hb.size⟩
theorem CO.lens {w0 wl : World} {g : Nat} {c : Cs} {v : CsV} (h : CO w0 g wl c v) : ∃ A1 C1 A2 C2 A3 C3 sb so db dO, wl.cell? ⟨g, 14, none⟩ = some (.slice A1 c.out.S.length C1) ∧ wl.cell? ⟨g, 15, none⟩ = some (.slice A2 c.out.D.length C2) ∧ wl.cell? ⟨g, 7, none⟩ = some (.slice A3 c.rp.length C3) ∧ Ln.LAt wl c.out A1 A2 C1 C2 sb so db dO := by
  obtain ⟨P, hP, -⟩ := h.cin
  obtain ⟨A1, C1, A2, C2, sb, so, db, dO, e1, e2, LA, -, -⟩ := RepC.line hP.said hP.due
  obtain ⟨A3, C3, e3, -⟩ := hP.rp.open (pwC_length _) (by decide)
  refine ⟨A1, C1, A2, C2, A3, C3, sb, so, db, dO, ?_, ?_, ?_, LA⟩
  · rw [← e1]; exact h.cat.cell 14
  · rw [← e2]; exact h.cat.cell 15
  · rw [← e3]; exact h.cat.cell 7
def AnsO (g : Nat) (w : World) (d : Cs) (e : Ending) (w' : World) : Prop := ∃ v', e = .returned (.tuple #[.agg (csC d v'), .int .i64 0]) ∧ (∃ Q, CIn Q w' d v' ∧ ¬ Q g) ∧ Below w.heap.size w w'
theorem AnsC.o {P : Nat → Prop} {g : Nat} {w : World} {d : Cs} {e : Ending} {w' : World} (h : AnsC P w (d, 0) e w') (hP : ¬ P g) (hg : g < w.heap.size) : AnsO g w d e w' := by
  obtain ⟨v', h1, h2, h3⟩ := h
  refine ⟨v', h1, ⟨_, h2, fun hn => ?_⟩, h3⟩
  rcases hn with ⟨h, _⟩ | h
  · exact hP h
  · omega
def AnsQ (w : World) (r : Cs × Int) (e : Ending) (w' : World) : Prop := ∃ v', e = .returned (.tuple #[.agg (csC r.1 v'), .int .i64 r.2]) ∧ (∃ Q, CIn Q w' r.1 v') ∧ Below w.heap.size w w'
theorem AnsC.q {P : Nat → Prop} {w : World} {r : Cs × Int} {e : Ending} {w' : World} (h : AnsC P w r e w') : AnsQ w r e w' := by
  obtain ⟨v', h1, h2, h3⟩ := h
  exact ⟨v', h1, ⟨_, h2⟩, h3⟩
end Go.Proofs.Ytnfigdecgkcgcaa.Kc

