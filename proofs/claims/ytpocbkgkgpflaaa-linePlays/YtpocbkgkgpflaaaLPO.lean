/- A list of carries that came in, opened; what each carry does to a line: plain facts. -/
import Derived.Test.YtpocbkgkgpflaaaLX
import Derived.Test.YtpocbkgkgpflaaaLO
import Derived.Test.YtpocbkgkgpflaaaLK
set_option maxRecDepth 100000
namespace Go.Proofs.Ytpocbkgkgpflaaa.Ln
open Go.ChangeShapes Go.WideShapes Go.ChangeAt Go.RowKit Go.Deep
structure Cy where
  kind : Int
  k : Int
  said : Int
  time : Int
  s : ByteArray
def cyL (x : Cy) : List Value := [.int .i64 x.kind, .int .i64 x.k, .int .i64 x.said, .int .i64 x.time, .string x.s]
/-- carries lie in memory, five cells each -/
structure CysAt (w : World) (ao : Option Addr) (b off : Nat) (l : List Cy) : Prop where
  adr : 0 < l.length → ao = some ⟨b, off, none⟩
  len : l.length ≤ maxLen
  cells : ∀ i x, l[i]? = some x → w.cell? ⟨b, off + i * 5, none⟩ = some (.int .i64 x.kind) ∧ w.cell? ⟨b, off + i * 5 + 1, none⟩ = some (.int .i64 x.k) ∧ w.cell? ⟨b, off + i * 5 + 2, none⟩ = some (.int .i64 x.said) ∧ w.cell? ⟨b, off + i * 5 + 3, none⟩ = some (.int .i64 x.time) ∧ w.cell? ⟨b, off + i * 5 + 4, none⟩ = some (.string x.s)
theorem CysAt.later {w w' : World} {ao : Option Addr} {b off : Nat} {l : List Cy} (h : CysAt w ao b off l) (hb : Below w.heap.size w w') : CysAt w' ao b off l := ⟨h.adr, h.len, fun i x hx => by
  obtain ⟨h0, h1, h2, h3, h4⟩ := h.cells i x hx
  have hlt : b < w.heap.size := World.block_lt_of_cell? w _ h0
  exact ⟨(hb.cell (p := ⟨b, off + i * 5, none⟩) hlt).trans h0, (hb.cell (p := ⟨b, off + i * 5 + 1, none⟩) hlt).trans h1, (hb.cell (p := ⟨b, off + i * 5 + 2, none⟩) hlt).trans h2, (hb.cell (p := ⟨b, off + i * 5 + 3, none⟩) hlt).trans h3, (hb.cell (p := ⟨b, off + i * 5 + 4, none⟩) hlt).trans h4⟩⟩
theorem pick_all {β : Type} {p : Nat → β → Prop} (d : β) {n : Nat} (h : ∀ i, i < n → ∃ y, p i y) : ∃ f : Nat → β, ∀ i, i < n → p i (f i) := by
  refine ⟨fun i => if hi : i < n then Classical.choose (h i hi) else d, fun i hi => ?_⟩
  simp only [dif_pos hi]
  exact Classical.choose_spec (h i hi)
theorem cCy : Try.prog.cellsOf 41 = 5 := by kernel_rfl
section
variable {H : Type} {enc : TypeId × Value → H} {W : World}
theorem open_cy {m : Nat} {l : List Value} {y : DataW H × List MemPlace} (h : DataW.trod enc Try.prog W 0 (fun _ => true) true m 41 l = some y) : ∃ x : Cy, l = cyL x := by
  obtain ⟨xs, n, _, _, hl, hxl, hx⟩ := DataW.trod_struct Try.underlying41 h
  rw [cCy] at hl
  match l, hl with
  | [a0, a1, a2, a3, a4], _ =>
    match xs, hxl with
    | [y0, y1, y2, y3, y4], _ =>
      have t0 := hx 0 _ rfl
      have t1 := hx 1 _ rfl
      have t2 := hx 2 _ rfl
      have t3 := hx 3 _ rfl
      have t4 := hx 4 _ rfl
      simp [cI, cStr] at t0 t1 t2 t3 t4
      obtain ⟨q0, e0, _⟩ := DataW.trod_int Try.underlying3 t0
      obtain ⟨q1, e1, _⟩ := DataW.trod_int Try.underlying3 t1
      obtain ⟨q2, e2, _⟩ := DataW.trod_int Try.underlying3 t2
      obtain ⟨q3, e3, _⟩ := DataW.trod_int Try.underlying3 t3
      obtain ⟨q4, e4, _⟩ := DataW.trod_string Try.underlying9 t4
      simp at e0 e1 e2 e3 e4
      subst e0 e1 e2 e3 e4
      exact ⟨⟨q0, q1, q2, q3, q4⟩, rfl⟩
theorem open_carries {r : Reach} {b0 : Nat} {v : Value} {d : DataW H} {p : List MemPlace} (hv : Value.okWide Try.prog W r b0 39 v) (h : DataW.Trod enc Try.prog W 0 (fun _ => true) true 39 v d p) (_hw : ∀ x ∈ DataW.weights Try.prog 39 d, x ≤ reachBytes) :
    ∃ (l : List Cy) (ao : Option Addr) (c b off : Nat), v = .slice ao l.length c ∧ CysAt W ao b off l := by
  obtain ⟨a, len, cap, rfl⟩ := okWide_slice Try.underlying39 hv
  obtain ⟨fuel, hf⟩ := h
  rcases open_slice Try.underlying39 hf with ⟨h0, _⟩ | ⟨a, len', cap', k, n, D, Pl, hcs, _, hlc, hmx, hk, hy, hx⟩
  · simp [Value.cells] at h0
    obtain ⟨rfl, rfl, rfl⟩ := h0
    exact ⟨[], none, 0, 0, 0, rfl, fun h => absurd h (by simp), by simp, fun i x h => by simp at h⟩
  simp [Value.cells] at hcs
  obtain ⟨rfl, rfl, rfl⟩ := hcs
  simp only [if_true] at hk
  subst hk
  rw [cCy] at hx
  obtain ⟨g, hg⟩ := pick_all (n := k) (p := fun i (x : Cy) => W.cells? 0 (a.add (i * 5)) 5 = some (cyL x)) ⟨0, 0, 0, 0, ByteArray.empty⟩ (fun i hi => by
    obtain ⟨cs', h1, h2⟩ := hx i hi
    obtain ⟨x, rfl⟩ := open_cy h2
    exact ⟨x, h1⟩)
  have hlen : ((List.range len).map g).length = len := by simp
  by_cases h0 : len = 0
  · subst h0
    exact ⟨[], some a, k, 0, 0, rfl, fun h => absurd h (by simp), by simp, fun i x h => by simp at h⟩
  have hcell : ∀ i, i < k → ∀ j v, (cyL (g i))[j]? = some v → W.cell? ((a.add (i * 5)).add j) = some v := fun i hi j v hv => by
    obtain ⟨_, hlen', hc⟩ := World.cells?_some (hg i hi)
    have hj : j < 5 := by have := (List.getElem?_eq_some_iff.1 hv).1; simpa [cyL] using this
    rw [hc j hj]
    exact hv
  obtain ⟨b, off, spot⟩ := a
  have hspot : spot = none := by
    have := hcell 0 (by omega) 0 _ rfl
    simpa [Addr.add] using World.cell?_spot this
  subst hspot
  refine ⟨(List.range len).map g, some ⟨b, off, none⟩, k, b, off, by rw [hlen], fun _ => rfl, by rw [hlen]; omega, fun i x hi => ?_⟩
  have hil : i < len := by have := (List.getElem?_eq_some_iff.1 hi).1; simpa using this
  obtain rfl : g i = x := by simpa [hil] using hi
  have hc := hcell i (by omega)
  simp only [Addr.add_lit] at hc
  exact ⟨hc 0 _ rfl, hc 1 _ rfl, hc 2 _ rfl, hc 3 _ rfl, hc 4 _ rfl⟩
end
/-- what is asked of a line behind a carry -/
structure Nx (x x' : Line) (e : Int) : Prop where
  good : goodL x' = true
  shut : x.cl = true → x'.cl = true ∧ e ≠ 0
  got : x.g ≤ x'.g
theorem nonneg_snoc {l : List Int} {d : Int} (h : nonneg l = true) (hd : 0 ≤ d) : nonneg (l ++ [d]) = true := by
  unfold nonneg at *
  rw [List.all_append, h]
  simp [hd]
theorem nx_say {x : Line} (hg : goodL x = true) (s : ByteArray) {due : Int} (hd : 0 ≤ due) : Nx x (sayL x s due) (sayE x due) ∧ (sayL x s due).g = x.g ∧ (sayL x s due).S.take x.g.toNat = x.S.take x.g.toNat := by
  have hl := goodL_len hg
  rcases say_cases x s due with ⟨h1, hr⟩ | ⟨h1, h2, hr⟩ | ⟨h1, h2, h3, hr⟩ | ⟨h1, h2, h3, hr⟩
  · omega
  · obtain ⟨e1, e2⟩ := Prod.mk.inj hr
    rw [e1, e2]
    exact ⟨⟨hg, fun h => ⟨h, h2⟩, Int.le_refl _⟩, rfl, rfl⟩
  · obtain ⟨e1, e2⟩ := Prod.mk.inj hr
    rw [e1, e2]
    exact ⟨⟨hg, fun h => ⟨h, by decide⟩, Int.le_refl _⟩, rfl, rfl⟩
  · obtain ⟨e1, e2⟩ := Prod.mk.inj hr
    rw [e1, e2]
    refine ⟨⟨?_, fun h => ?_, Int.le_refl _⟩, rfl, ?_⟩
    · simp only [goodL, Bool.and_eq_true, decide_eq_true_eq] at hg ⊢
      refine ⟨⟨⟨⟨?_, ?_⟩, nonneg_snoc hg.1.1.2 hd⟩, hg.1.2⟩, ?_⟩
      · simp; omega
      · simp; omega
      · simp; omega
    · have := (refN_good h2).2
      rw [h] at this
      cases this
    · show (x.S ++ [s]).take x.g.toNat = _
      rw [List.take_append_of_le_length (by omega)]
theorem nx_del {x : Line} (hg : goodL x = true) (k : Int) (s : ByteArray) (said now : Int) : Nx x (delL x k s said now) (delE x k s said now) ∧ (delE x k s said now = 0 → (delL x k s said now).S.take (delL x k s said now).g.toNat = x.S.take x.g.toNat ++ [s] ∧ (delL x k s said now).g = x.g + 1) ∧ (delE x k s said now ≠ 0 → delL x k s said now = x) := by
  have hl := goodL_len hg
  by_cases h : delE x k s said now = 0
  · obtain ⟨a1, a2, a3, a4, a5⟩ := del_zero h
    have hcl := (refN_good a1).2
    refine ⟨⟨?_, fun hc => (by rw [hcl] at hc; cases hc), ?_⟩, fun _ => ⟨?_, ?_⟩, fun h' => absurd h h'⟩
    · rw [a5]; exact goodL_g hg (by omega) a3 _
    · rw [a5]; show x.g ≤ k; omega
    · rw [a5]
      show x.S.take k.toNat = _
      have e : k.toNat = x.g.toNat + 1 := by omega
      have e2 : (k - 1).toNat = x.g.toNat := by omega
      have hlt : x.g.toNat < x.S.length := by omega
      rw [e2] at a4
      rw [e, List.take_succ_eq_append_getElem hlt]
      simp [List.getD, hlt] at a4
      rw [a4]
    · rw [a5]; exact a2
  · have e : delL x k s said now = x := by unfold delL; rw [if_neg h]
    rw [e]
    exact ⟨⟨hg, fun hc => ⟨hc, h⟩, Int.le_refl _⟩, fun h' => absurd h' h, fun _ => rfl⟩
theorem nx_exp {x : Line} (hg : goodL x = true) (k time got : Int) : Nx x (expL x k time got) (expE x k time got) ∧ (expL x k time got).g = x.g ∧ (expL x k time got).S = x.S ∧ (expE x k time got = 0 → got < k ∧ 1 ≤ k ∧ k ≤ x.S.length ∧ x.D.getD (k - 1).toNat 0 ≤ time) := by
  have hl := goodL_len hg
  by_cases h : expE x k time got = 0
  · obtain ⟨a1, a2, a3, a4, a5, a6⟩ := exp_zero h
    have hcl := (refN_good a1).2
    rw [a6, h]
    exact ⟨⟨goodL_g hg hl.2.2.1 hl.2.2.2 _, fun hc => (by rw [hcl] at hc; cases hc), Int.le_refl _⟩, rfl, rfl, fun _ => ⟨a4, a2, a3, a5⟩⟩
  · have e : expL x k time got = x := by unfold expL; rw [if_neg h]
    rw [e]
    exact ⟨⟨hg, fun hc => ⟨hc, h⟩, Int.le_refl _⟩, rfl, rfl, fun h' => absurd h' h⟩
end Go.Proofs.Ytpocbkgkgpflaaa.Ln
