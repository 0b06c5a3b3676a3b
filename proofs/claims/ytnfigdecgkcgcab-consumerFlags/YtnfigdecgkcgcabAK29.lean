/- Parts of the proof: KI1. -/
import Derived.Test.YtnfigdecgkcgcabRows
import Derived.Test.YtnfigdecgkcgcabAK28
set_option maxRecDepth 100000
namespace Go.Proofs.Ytnfigdecgkcgcab.Kc
open Go.RowKit Pv
/-- told to be down -/
def flC (c : Cs) (x now : Int) : Cs := { c with out := ⟨c.out.S ++ [Cd.encS 3 c.id x (powN x c.set) [] []], c.out.D ++ [now + 40], c.out.g, c.out.cl⟩, fl := updF c.fl x.toNat true }
def dnP (x : Int) : Pkt := ⟨1, 1, 0, 0, [], [x]⟩
def fhC (c : Cs) (x now : Int) : Cs := { flC c x now with pd := c.pd ++ [dnP x] }
theorem say_zero {c : Cs} {k i v n now : Int} (h : (sayC c k i v n now).2 = 0) : Cd.goodN k i v n [] [] = 0 ∧ Ln.sayE c.out (now + 40) = 0 ∧ (sayC c k i v n now).1 = { c with out := ⟨c.out.S ++ [Cd.encS k i v n [] []], c.out.D ++ [now + 40], c.out.g, c.out.cl⟩ } := by
  by_cases hg : Cd.goodN k i v n [] [] = 0
  · have e : sayC c k i v n now = ({ c with out := Ln.sayL c.out (Cd.encS k i v n [] []) (now + 40) }, Ln.sayE c.out (now + 40)) := by unfold sayC; rw [if_pos hg]
    rw [e] at h
    dsimp only at h
    refine ⟨hg, h, ?_⟩
    rw [e]
    dsimp only
    unfold Ln.sayL
    rw [if_pos h]
  · have e : sayC c k i v n now = (c, Cd.goodN k i v n [] []) := by unfold sayC; rw [if_neg hg]
    rw [e] at h
    exact absurd h hg
theorem sayE_zero {x : Ln.Line} {due : Int} (h : Ln.sayE x due = 0) : 0 ≤ due ∧ Ln.goodL x = true ∧ x.S.length < 400 := by
  unfold Ln.sayE at h
  by_cases h1 : due < 0
  · rw [if_pos h1] at h; omega
  · rw [if_neg h1] at h
    by_cases h2 : Ln.refN x ≠ 0
    · rw [if_pos h2] at h; exact absurd h h2
    · rw [if_neg h2] at h
      by_cases h3 : 400 ≤ x.S.length
      · rw [if_pos h3] at h; omega
      · refine ⟨by omega, ?_, by omega⟩
        unfold Ln.refN at h2
        by_cases h4 : Ln.goodL x = false
        · rw [if_pos h4] at h2; omega
        · simpa using h4
theorem goodL_more {x : Ln.Line} {due : Int} {s : ByteArray} (h0 : 0 ≤ due) (h : Ln.goodL x = true) (hl : x.S.length < 400) : Ln.goodL ⟨x.S ++ [s], x.D ++ [due], x.g, x.cl⟩ = true := by
  obtain ⟨e1, e2, e3, e4⟩ := Ln.goodL_len h
  have hn : Ln.nonneg x.D = true := by
    unfold Ln.goodL at h
    simp only [Bool.and_eq_true] at h
    exact h.1.1.2
  have hn' : Ln.nonneg (x.D ++ [due]) = true := by
    unfold Ln.nonneg at hn ⊢
    rw [List.all_append, hn]
    simp [h0]
  simp only [Ln.goodL, hn']
  simp
  omega
theorem ref_zero {c : Cs} (h : refC c = 0) : goodC c = true ∧ c.on = true := by
  unfold refC at h
  by_cases h1 : goodC c = true
  · rw [if_pos h1] at h
    by_cases h2 : c.on = true
    · exact ⟨h1, h2⟩
    · rw [if_neg h2] at h; omega
  · rw [if_neg h1] at h; omega
theorem good_out {c : Cs} {o : Ln.Line} {f : Nat → Bool} (h : goodC c = true) (ho : Ln.goodL o = true) : goodC { c with out := o, fl := f } = true := by
  unfold goodC at h ⊢
  simp only [Bool.and_eq_true] at h ⊢
  exact ⟨h.1, h.2.1, ho⟩
theorem good_pd {c : Cs} {p : Pkt} (h : goodC c = true) (hp : goodK p = true) : goodC { c with pd := c.pd ++ [p] } = true := by
  unfold goodC at h ⊢
  simp only [Bool.and_eq_true, List.all_append, List.all_cons, List.all_nil, Bool.and_true] at h ⊢
  exact ⟨h.1, ⟨⟨⟨h.2.1.1.1, h.2.1.1.2, hp⟩, h.2.1.2⟩, h.2.2⟩⟩
theorem good_t {c : Cs} (h : goodC c = true) : isT c.t = true := by
  unfold goodC at h
  simp only [Bool.and_eq_true] at h
  exact h.1.1.2
theorem good_acc {k i v n : Int} (hk : k = 3) (h : Cd.goodN k i v n [] [] = 0) : 0 ≤ v ∧ v < 6 := by
  subst hk
  unfold Cd.goodN at h
  rw [if_neg (by omega)] at h
  split at h
  · omega
  · rw [show Cd.accB 3 = true by decide] at h
    split at h
    · omega
    · rename_i h2
      have : ¬ Cd.isV v = false := fun e => h2 ⟨rfl, .inl e⟩
      simp [Cd.isV] at this
      omega
theorem good_done {x : Int} (h0 : 0 ≤ x) (h1 : x < 6) : Cd.goodN 1 1 0 0 [] [x] = 0 := by
  rcases (show x = 0 ∨ x = 1 ∨ x = 2 ∨ x = 3 ∨ x = 4 ∨ x = 5 by omega) with rfl | rfl | rfl | rfl | rfl | rfl <;> decide
theorem ripe_fl : ∀ (l : List (Int × Int)) (c : Cs), (ripeC c l).fl = c.fl
  | [], c => rfl
  | x :: l, c => by
    show (if x.2 ≤ c.t then (if (sayC c 2 x.1 0 0 c.t).2 = 0 then ripeC (sayC c 2 x.1 0 0 c.t).1 l else { c with rp := x :: l }) else { c with rp := x :: l }).fl = c.fl
    split
    · split
      · rw [ripe_fl l]
        unfold sayC
        split <;> rfl
      · rfl
    · rfl
/-- all that the law needs of a tell that went well -/
theorem flag_facts {c : Cs} {x now : Int} (h : (downC c x now).2 = 0) :
    (downC c x now = (flC c x now, 0) ∧ downC (flC c x now) x now = (flC c x now, 5)) ∧ (Cd.goodN 3 c.id x (powN x c.set) [] [] = 0 ∧ 0 ≤ x ∧ x < 6) ∧ (hearC (flC c x now) (Cd.bs (Cd.encS 1 1 0 0 [] [x])) = (fhC c x now, 0)) ∧ (∀ m, c.t ≤ m → isT m = true → ∃ d, endC (fhC c x now) m = (d, 0) ∧ d.fl x.toNat = false) ∧ isT now = true ∧ isT c.t = true ∧ c.out.S.length < 400 := by
  by_cases h1 : isT now = true
  · by_cases h2 : refC c = 0
    · by_cases h3 : powN x c.set = 0
      · rw [show downC c x now = (c, 4) by unfold downC; rw [if_pos h1, if_pos h2, if_pos h3]] at h
        dsimp only at h
        omega
      · by_cases h4 : c.fl x.toNat = true
        · rw [show downC c x now = (c, 5) by unfold downC; rw [if_pos h1, if_pos h2, if_neg h3, if_pos h4]] at h
          dsimp only at h
          omega
        · by_cases h5 : (sayC c 3 c.id x (powN x c.set) now).2 = 0
          · obtain ⟨g1, g2, g3⟩ := say_zero h5
            obtain ⟨l0, l1, l2⟩ := sayE_zero g2
            obtain ⟨r1, r2⟩ := ref_zero h2
            have e : downC c x now = (flC c x now, 0) := by
              unfold downC
              rw [if_pos h1, if_pos h2, if_neg h3, if_neg h4, if_pos h5, g3]
              rfl
            have r3 : goodC (flC c x now) = true := good_out r1 (goodL_more l0 l1 l2)
            have r4 : refC (flC c x now) = 0 := ref_of r3 r2
            obtain ⟨x0, x1⟩ := good_acc rfl g1
            have hd := good_done x0 x1
            have r5 : goodC (fhC c x now) = true := good_pd (c := flC c x now) r3 (by show (decide ((1 : Int) = 1) && decide (Cd.goodN 1 1 0 0 [] [x] = 0)) = true; rw [hd]; rfl)
            have r6 : refC (fhC c x now) = 0 := ref_of r5 r2
            refine ⟨⟨e, ?_⟩, ⟨g1, x0, x1⟩, ?_, fun m hm ht => ⟨_, by unfold endC; rw [if_pos r6, if_pos ⟨ht, hm⟩], ?_⟩, h1, good_t r1, l2⟩
            · unfold downC
              rw [if_pos h1, if_pos r4, if_neg (show ¬ powN x (flC c x now).set = 0 from h3), if_pos (by show updF c.fl x.toNat true x.toNat = true; simp [updF])]
            · unfold hearC
              rw [if_pos r4, if_pos (dec_encS hd).1, pktOf_encS hd, if_pos rfl]
              rfl
            · unfold doneC
              rw [ripe_fl]
              show (takesC _).fl x.toNat = false
              unfold takesC
              rw [show ({ fhC c x now with h := (fhC c x now).h + 1, t := m } : Cs).pd = c.pd ++ [dnP x] from rfl, List.foldl_append]
              show flagsOff _ [x] x.toNat = false
              simp [flagsOff, updF]
          · rw [show downC c x now = (c, (sayC c 3 c.id x (powN x c.set) now).2) by unfold downC; rw [if_pos h1, if_pos h2, if_neg h3, if_neg h4, if_neg h5]] at h
            exact absurd h h5
    · rw [show downC c x now = (c, refC c) by unfold downC; rw [if_pos h1, if_neg h2]] at h
      exact absurd h h2
  · rw [show downC c x now = (c, 2) by unfold downC; rw [if_neg h1]] at h
    dsimp only at h
    omega
end Go.Proofs.Ytnfigdecgkcgcab.Kc

