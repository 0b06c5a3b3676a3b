/- Parts of the proof: KI4. -/
import Derived.Test.YtnfigdecgkcgcaaRows
import Derived.Test.YtnfigdecgkcgcaaCK28
import Derived.Test.YtnfigdecgkcgcaaCK34
import Derived.Test.YtnfigdecgkcgcaaCK42
import Derived.Test.YtnfigdecgkcgcaaCK44
set_option maxRecDepth 100000
namespace Go.Proofs.Ytnfigdecgkcgcaa.Kc
open Go.RowKit Pv
structure CD (w0 : World) (gc gd : Nat) (wl : World) (c d : Cs) (vc vd : CsV) (la : Value) (ls : List (Int × Int)) : Prop where
  kc : CAt 33 wl gc (csC c vc)
  kd : CAt 33 wl gd (csC d vd)
  jc : ∃ P, CIn P wl c vc ∧ ¬ P gc ∧ ¬ P gd
  jd : ∃ P, CIn P wl d vd ∧ ¬ P gc ∧ ¬ P gd
  jl : ∃ P, Rep P wl la 2 16 (pwC ls) ∧ ¬ P gc ∧ ¬ P gd
  bel : Below w0.heap.size w0 wl
  lec : w0.heap.size ≤ gc
  led : w0.heap.size ≤ gd
  ne : gc ≠ gd
section
variable {w0 wl w' : World} {gc gd : Nat} {c d c' d' : Cs} {vc vd v' : CsV} {la la' : Value} {ls ls' : List (Int × Int)}
theorem CD.over (h : CD w0 gc gd wl c d vc vd la ls) (hb : Below wl.heap.size wl w') : CD w0 gc gd w' c d vc vd la ls := by
  obtain ⟨P1, a1, a2, a3⟩ := h.jc
  obtain ⟨P2, b1, b2, b3⟩ := h.jd
  obtain ⟨P3, c1, c2, c3⟩ := h.jl
  exact ⟨h.kc.over hb, h.kd.over hb, ⟨P1, a1.over hb, a2, a3⟩, ⟨P2, b1.over hb, b2, b3⟩, ⟨P3, c1.over hb, c2, c3⟩, h.bel.trans (hb.mono h.bel.size), h.lec, h.led, h.ne⟩
theorem CD.putC (h : CD w0 gc gd wl c d vc vd la ls) (q : ∃ Q, CIn Q w' c' v' ∧ ¬ Q gc ∧ ¬ Q gd) (hb : Below wl.heap.size wl w') : CD w0 gc gd (w'.setCells gc 0 (csC c' v').toList) c' d v' vd la ls := by
  have h' := h.over hb
  obtain ⟨P1, a1, a2, a3⟩ := q
  obtain ⟨P2, b1, b2, b3⟩ := h'.jd
  obtain ⟨P3, c1, c2, c3⟩ := h'.jl
  exact ⟨h'.kc.setAll rfl, h'.kd.others (Ne.symm h.ne) _, ⟨P1, a1.sets a2 _ _, a2, a3⟩, ⟨P2, b1.sets b2 _ _, b2, b3⟩, ⟨P3, c1.keep fun b hb _ => heap_sets (show b ≠ gc from fun e => c2 (e ▸ hb)) _ _ _, c2, c3⟩, below_sets h.lec _ _ _ h'.bel, h.lec, h.led, h.ne⟩
theorem CD.putD (h : CD w0 gc gd wl c d vc vd la ls) (q : ∃ Q, CIn Q w' d' v' ∧ ¬ Q gc ∧ ¬ Q gd) (hb : Below wl.heap.size wl w') : CD w0 gc gd (w'.setCells gd 0 (csC d' v').toList) c d' vc v' la ls := by
  have h' := h.over hb
  obtain ⟨P1, a1, a2, a3⟩ := h'.jc
  obtain ⟨P2, b1, b2, b3⟩ := q
  obtain ⟨P3, c1, c2, c3⟩ := h'.jl
  exact ⟨h'.kc.others h.ne _, h'.kd.setAll rfl, ⟨P1, a1.sets a3 _ _, a2, a3⟩, ⟨P2, b1.sets b3 _ _, b2, b3⟩, ⟨P3, c1.keep fun b hb _ => heap_sets (show b ≠ gd from fun e => c3 (e ▸ hb)) _ _ _, c2, c3⟩, below_sets h.led _ _ _ h'.bel, h.lec, h.led, h.ne⟩
/-- another set beside them -/
theorem CD.putL (h : CD w0 gc gd wl c d vc vd la ls) (hb : Below wl.heap.size wl w') (r : Rep (fun b => wl.heap.size ≤ b) w' la' 2 16 (pwC ls')) : CD w0 gc gd w' c d vc vd la' ls' := by
  have h' := h.over hb
  have := h.kc.lt
  have := h.kd.lt
  exact ⟨h'.kc, h'.kd, h'.jc, h'.jd, ⟨_, r, by show ¬ _ ≤ _; omega, by show ¬ _ ≤ _; omega⟩, h'.bel, h.lec, h.led, h.ne⟩
theorem CD.loadC (h : CD w0 gc gd wl c d vc vd la ls) : (loadC (.pointer (some ⟨gc, 0, none⟩))).run Try.prog wl = .ok (.agg (csC c vc)) wl := cs_load h.kc (csC_size _ _)
theorem CD.loadD (h : CD w0 gc gd wl c d vc vd la ls) : (Kc.loadC (.pointer (some ⟨gd, 0, none⟩))).run Try.prog wl = .ok (.agg (csC d vd)) wl := cs_load h.kd (csC_size _ _)
theorem CD.storeC (h : CD w0 gc gd wl c d vc vd la ls) (q : ∃ Q, CIn Q w' c' v' ∧ ¬ Q gc ∧ ¬ Q gd) (hb : Below wl.heap.size wl w') : (storeC (.pointer (some ⟨gc, 0, none⟩)) (.agg (csC c' v'))).run Try.prog w' = .ok () (w'.setCells gc 0 (csC c' v').toList) := by
  obtain ⟨Q, hQ, -⟩ := q
  exact cs_store (h.kc.over hb) (csC_size _ _) (csC_size _ _) (cs_one hQ)
theorem CD.storeD (h : CD w0 gc gd wl c d vc vd la ls) (q : ∃ Q, CIn Q w' c' v' ∧ ¬ Q gc ∧ ¬ Q gd) (hb : Below wl.heap.size wl w') : (Kc.storeC (.pointer (some ⟨gd, 0, none⟩)) (.agg (csC c' v'))).run Try.prog w' = .ok () (w'.setCells gd 0 (csC c' v').toList) := by
  obtain ⟨Q, hQ, -⟩ := q
  exact cs_store (h.kd.over hb) (csC_size _ _) (csC_size _ _) (cs_one hQ)
end
/-- both begin -/
theorem CD.new {w0 wl w6 w' : World} {c : Cs} {v : CsV} {P : Nat → Prop} {la : Value} {ls : List (Int × Int)} (I : CIn P wl c v) (hb : Below w0.heap.size w0 wl) (e6 : laidW (laidW wl c v) c v = w6) (hb' : Below w6.heap.size w6 w') (r : Rep (fun b => w6.heap.size ≤ b) w' la 2 16 (pwC ls)) :
    CD w0 wl.heap.size (laidW wl c v).heap.size w' c c v v la ls := by
  subst e6
  have b1 := laid_below wl c v
  have b2 := laid_below (laidW wl c v) c v
  have k1 : CAt 33 (laidW (laidW wl c v) c v) wl.heap.size (csC c v) := (laid_cat wl c v).over b2
  have k2 := laid_cat (laidW wl c v) c v
  have l1 := (laid_cat wl c v).lt
  have l2 := k2.lt
  have J : CIn (fun b => b < wl.heap.size) (laidW (laidW wl c v) c v) c v := ((I.mono (P' := fun b => b < wl.heap.size) fun _ h _ => h).over b1).over b2
  have hJ : ∃ P, CIn P w' c v ∧ ¬ P wl.heap.size ∧ ¬ P (laidW wl c v).heap.size := ⟨_, J.over hb', Nat.lt_irrefl _, by show ¬ _ < _; omega⟩
  have b3 := (b1.trans (b2.mono b1.size))
  exact ⟨k1.over hb', k2.over hb', hJ, hJ, ⟨_, r, by show ¬ _ ≤ _; omega, by show ¬ _ ≤ _; omega⟩, hb.trans ((b3.trans (hb'.mono b3.size)).mono hb.size), hb.size, by have := hb.size; omega, by omega⟩
def AnsT (gc gd : Nat) (w : World) (d : Cs) (e : Ending) (w' : World) : Prop := ∃ v', e = .returned (.tuple #[.agg (csC d v'), .int .i64 0]) ∧ (∃ Q, CIn Q w' d v' ∧ ¬ Q gc ∧ ¬ Q gd) ∧ Below w.heap.size w w'
theorem AnsC.t {P : Nat → Prop} {gc gd : Nat} {w : World} {d : Cs} {e : Ending} {w' : World} (h : AnsC P w (d, 0) e w') (h1 : ¬ P gc) (h2 : ¬ P gd) (h3 : gc < w.heap.size) (h4 : gd < w.heap.size) : AnsT gc gd w d e w' := by
  obtain ⟨v', a1, a2, a3⟩ := h
  refine ⟨v', a1, ⟨_, a2, fun hn => ?_, fun hn => ?_⟩, a3⟩
  · rcases hn with ⟨h, _⟩ | h
    · exact h1 h
    · omega
  · rcases hn with ⟨h, _⟩ | h
    · exact h2 h
    · omega
/-- the other one: it ends a block behind the change cut -/
def dC (F : Nat → Nat → Int) (cut k : Nat) (now : Int) : Cs := if k ≤ cut then gC F 0 k 0 0 [] else gC F (cut + 1) k 1 now (rips now 0 (cut + 1))
/-- it has heard one change more -/
def dH (F : Nat → Nat → Int) (cut k : Nat) (now : Int) : Cs := if k ≤ cut then gC F 0 (k + 1) 0 0 [] else gC F (cut + 1) (k + 1) 1 now (rips now 0 (cut + 1))
theorem d_hear {F : Nat → Nat → Int} (hF : ∀ i j, 0 ≤ F i j ∧ F i j ≤ 3) {cut k : Nat} {now : Int} (n0 : 0 ≤ now) (n1 : now < 1000) (hc : cut < 9) (hk : k < 8) : hearC (dC F cut k now) (Cd.bs (Cd.encS 1 (2 + (k : Int)) 0 0 (Df.diffL (Df.setOf (F k)) (Df.setOf (F (k + 1)))) [])) = (dH F cut k now, 0) := by
  unfold dC dH
  by_cases h : k ≤ cut
  · rw [if_pos h, if_pos h]
    exact g_hear hF 0 k 0 0 [] hk (by omega) (by omega) (by omega) (by omega) (by omega) rfl
  · rw [if_neg h, if_neg h]
    exact g_hear hF (cut + 1) k 1 now _ hk (by omega) (by omega) (by omega) n0 (by omega) (rips_good now n0 0 _ (by omega)).1
theorem d_next {F : Nat → Nat → Int} {cut k : Nat} {now : Int} (h : k ≠ cut) : dH F cut k now = dC F cut (k + 1) now := by
  unfold dC dH
  by_cases h1 : k ≤ cut
  · rw [if_pos h1, if_pos (by omega)]
  · rw [if_neg h1, if_neg (by omega)]
theorem d_cut {F : Nat → Nat → Int} (hF : ∀ i j, 0 ≤ F i j ∧ F i j ≤ 3) {cut k : Nat} {now : Int} (n0 : 0 ≤ now) (n1 : now < 1000) (hk : k < 8) (h : k = cut) : endC (dH F cut k now) now = (dC F cut (k + 1) now, 0) ∧ (dC F cut (k + 1) now).set = Df.setOf (F (k + 1)) ∧ (dC F cut (k + 1) now).id = 2 + (k : Int) := by
  subst h
  unfold dH dC
  rw [if_pos (Nat.le_refl _), if_neg (by omega)]
  refine ⟨?_, rfl, by show 1 + ((k + 1 : Nat) : Int) = _; omega⟩
  have := g_end hF 0 (k + 1) 0 0 now [] (by omega) (by omega) (by omega) (by omega) (by omega) n0 n1 rfl (by simp)
  simpa using this
theorem c_end {F : Nat → Nat → Int} (hF : ∀ i j, 0 ≤ F i j ∧ F i j ≤ 3) {k : Nat} {now : Int} (n0 : 0 ≤ now) (n1 : now < 1000) (hk : k ≤ 8) : endC (gC F 0 k 0 0 []) now = (gC F k k 1 now (rips now 0 k), 0) := by
  have := g_end hF 0 k 0 0 now [] hk (by omega) (by omega) (by omega) (by omega) n0 n1 rfl (by simp)
  simpa using this
theorem d_end {F : Nat → Nat → Int} (hF : ∀ i j, 0 ≤ F i j ∧ F i j ≤ 3) {cut k : Nat} {now : Int} (n0 : 0 ≤ now) (n1 : now < 1000) (hc : cut < 9) (hk : k ≤ 8) : ∃ h rp, endC (dC F cut k now) now = (gC F k k h now rp, 0) ∧ rp.length = k := by
  unfold dC
  by_cases h : k ≤ cut
  · rw [if_pos h]
    exact ⟨_, _, c_end hF n0 n1 hk, rips_length _ _ _⟩
  · rw [if_neg h]
    have hr := rips_good now n0 0 (cut + 1) (by omega)
    refine ⟨_, _, g_end hF (cut + 1) k 1 now now _ hk (by omega) (by omega) (by omega) n0 (by omega) n1 hr.1 hr.2, ?_⟩
    rw [List.length_append, rips_length, rips_length]
    omega
theorem d_len {F : Nat → Nat → Int} {cut k : Nat} {now : Int} (hk : k ≤ 8) : (dC F cut k now).pd.length ≤ 8 ∧ (dC F cut k now).rp.length ≤ 100000 + cut ∧ (dH F cut k now).pd.length ≤ 9 ∧ (dH F cut k now).rp.length ≤ 100000 + cut := by
  unfold dC dH
  by_cases h : k ≤ cut
  · rw [if_pos h, if_pos h]
    simp [gC]
    omega
  · rw [if_neg h, if_neg h]
    simp [gC, rips]
    omega
end Go.Proofs.Ytnfigdecgkcgcaa.Kc

