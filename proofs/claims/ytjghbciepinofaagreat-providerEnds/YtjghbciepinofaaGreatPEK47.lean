/- Parts of the proof: SS ST N SU. -/
import Derived.Test.YtjghbciepinofaaGreatRows
import Derived.Test.YtjghbciepinofaaGreatPEK22
import Derived.Test.YtjghbciepinofaaGreatPEK29
import Derived.Test.YtjghbciepinofaaGreatPEK36
import Derived.Test.YtjghbciepinofaaGreatPEK37
import Derived.Test.YtjghbciepinofaaGreatPEK43
import Derived.Maps.AppendAt
import Derived.WalkKit
import Derived.LoopN
set_option maxRecDepth 100000
namespace Go.Proofs.YtjghbciepinofaaGreat
open Go.RowKit
def pwL : List Pw → List Value
  | [] => []
  | x :: r => .int .i64 x.1 :: .int .i64 x.2 :: pwL r
theorem pwL_append : ∀ (a b : List Pw), pwL (a ++ b) = pwL a ++ pwL b
  | [], _ => rfl
  | x :: r, b => by simp only [List.cons_append, pwL, pwL_append r b]
theorem pwL_get : ∀ (l : List Pw) (i : Nat) (x : Pw), l[i]? = some x → (pwL l)[i * 2]? = some (.int .i64 x.1) ∧ (pwL l)[i * 2 + 1]? = some (.int .i64 x.2)
  | [], i, x, h => by simp at h
  | y :: r, 0, x, h => by simp at h; subst h; exact ⟨rfl, rfl⟩
  | y :: r, i + 1, x, h => by
    have := pwL_get r i x (by simpa using h)
    rw [show (i + 1) * 2 = i * 2 + 1 + 1 by omega]
    simpa [pwL] using this
theorem infoPw : (Tryz.prog.info? 74).map (fun i => (i.zero, i.size, i.bytes)) = some (some (.agg #[.int .i64 0, .int .i64 0]), 2, 16) := by kernel_rfl
/-- a row of powers of the call's own -/
def Pows (w : World) (B : Nat) (v : Value) (l : List Pw) : Prop := w.ownsRow B 74 2 v l.length (pwL l)
theorem Pows.nil (w : World) (B : Nat) : Pows w B (.slice none 0 0) [] := ⟨rfl, .inl ⟨rfl, rfl⟩⟩
theorem Pows.row {w : World} {B : Nat} {v : Value} {l : List Pw} (h : Pows w B v l) : (v = .slice none 0 0 ∧ l = []) ∨ ∃ g cap, v = .slice (some ⟨g, 0, none⟩) l.length cap ∧ B ≤ g ∧ RowAt w g l ∧ l.length ≤ cap ∧ cap ≤ maxLen := by
  obtain ⟨_, h⟩ := h
  rcases h with ⟨h1, h2⟩ | ⟨g, cap, cur, h1, h2, h3, h4, h5, h6, h7⟩
  · exact .inl ⟨h1, List.length_eq_zero_iff.1 h2⟩
  · refine .inr ⟨g, cap, h1, h2, ⟨cur, h3, fun i x hx => ?_⟩, h4, h5⟩
    obtain ⟨g1, g2⟩ := pwL_get l i x hx
    have hi := (List.getElem?_eq_some_iff.1 hx).1
    rw [← h7, List.getElem?_take_of_lt (by omega)] at g1 g2
    exact ⟨by simpa using g1, by simpa using g2⟩
/-- a row of powers that a call answers -/
def PRow (w : World) (B : Nat) (v : Value) (l : List Pw) : Prop := (v = .slice none 0 0 ∧ l = []) ∨ ∃ g cap, v = .slice (some ⟨g, 0, none⟩) l.length cap ∧ B ≤ g ∧ RowAt w g l ∧ l.length ≤ cap ∧ cap ≤ maxLen
theorem PRow.later {w w' : World} {B : Nat} {v : Value} {l : List Pw} (h : PRow w B v l) (hb : Below w.heap.size w w') : PRow w' B v l := by
  rcases h with h | ⟨g, cap, h1, h2, h3, h4⟩
  · exact .inl h
  · exact .inr ⟨g, cap, h1, h2, h3.later hb, h4⟩
theorem PRow.mono {w : World} {B B' : Nat} {v : Value} {l : List Pw} (h : PRow w B v l) (hb : B' ≤ B) : PRow w B' v l := by
  rcases h with h | ⟨g, cap, h1, h2, h3⟩
  · exact .inl h
  · exact .inr ⟨g, cap, h1, Nat.le_trans hb h2, h3⟩
theorem pw_news (w : World) (a b : Int) (t : TypeId) : ∀ j u, ([.int .i64 a, .int .i64 b] : List Value)[j]? = some u → (w.alloc (.cells #[.int .i64 a, .int .i64 b] t)).cell? ((⟨w.heap.size, 0, none⟩ : Addr).add j) = some u := by
  intro j u hj
  rcases j with _ | _ | j
  · simp at hj; subst hj; simp [Addr.add]
  · simp at hj; subst hj; simp [Addr.add]
  · simp at hj
theorem Pows.append {w : World} {B : Nat} {v : Value} {l : List Pw} {x : Pw} {n : Nat} (h : w.ownsRow B 74 2 v n (pwL l ++ [.int .i64 x.1, .int .i64 x.2])) (hn : n = l.length + 1) : Pows w B v (l ++ [x]) := by
  unfold Pows
  rw [List.length_append, pwL_append]
  subst hn
  exact h
theorem Pows.own {w : World} {B : Nat} {v : Value} {l : List Pw} (h : Pows w B v l) : ∀ k, v.ownBlock = some k → B ≤ k := by
  intro k hk
  rcases h.row with ⟨rfl, _⟩ | ⟨g, cap, rfl, hg, _⟩
  · simp [Value.ownBlock] at hk
  · simp [Value.ownBlock] at hk; omega
theorem Pows.grow {w w1 : World} {B C : Nat} {v : Value} {l : List Pw} {a : World} {o : Obj} (h : Pows w B v l) (hb : Below C a w) (hg : (w.alloc o).grownBy w1 v.ownBlock) (hB : C ≤ B) (hs : B ≤ w.heap.size) : Below C a w1 :=
  (hb.alloc (Nat.le_trans hB hs) o).grown hg (by simp; omega) (fun k hk => Nat.le_trans hB (h.own k hk))
theorem insort_none (fv : Value) (w : World) : Calls Tryz.prog 126 #[.slice none 0 0, .int .i64 0, .int .i64 0, fv] w fun e w' => e = .returned (.tuple #[]) ∧ w = w' := by
  go_enter Tryz.func126, Tryz.ntmps126
  go_wp2
  go_loop [8] (fun i => i = .int .i64 1) (fun _ => 0)
  case atStart => rfl
  case round =>
    subst hrel
    go_wp2
    go_end0
    exact ⟨rfl, rfl⟩
set_option maxHeartbeats 1000000 in
theorem sortf_none (fv : Value) (w : World) : Calls Tryz.prog 37 #[.slice none 0 0, fv] w fun e w' => e = .returned (.tuple #[]) ∧ w = w' := by
  have hL := bitslen_P 0 (by omega) w
  have hP : ∀ k, Calls Tryz.prog 86 #[.slice none 0 0, .int .i64 0, .int .i64 0, .int .i64 k, fv] w fun e w' => e = .returned (.tuple #[]) ∧ w = w' := by
    intro k
    have hI := insort_none fv w
    go_enter Tryz.func86, Tryz.ntmps86
    go_wp2_with fail
    go_loopw [1, 2] (fun a b wl => a = .int .i64 0 ∧ b = .int .i64 0 ∧ Hid (wl = w)) (fun _ _ _ => 0)
    case atStart => exact ⟨rfl, rfl, rfl⟩
    case round =>
      obtain ⟨rfl, rfl, HW⟩ := hrel
      have e := HW.out
      subst e
      clear HW
      go_wp2_with (go_at_call 126; refine hI.mono ?_; rintro e w1 ⟨rfl, h1⟩; have H1 := hide h1; clear h1)
      exact bodyPost_ret (v := .tuple #[]) (by simp [results, Tryz.results86]) rfl ⟨rfl, H1.out⟩
  go_enter Tryz.func37, Tryz.ntmps37
  go_wp2_with (first
    | (go_at_call 87; refine hL.mono ?_; rintro e w1 ⟨⟨k, rfl⟩, rfl⟩)
    | (go_at_call 86; refine (hP _).mono ?_; rintro e w2 ⟨rfl, h1⟩; have H1 := hide h1; clear h1))
  go_end0
  exact ⟨rfl, H1.out⟩
end Go.Proofs.YtjghbciepinofaaGreat

set_option maxRecDepth 100000
namespace Go.Proofs.YtjghbciepinofaaGreat
open Go.RowKit
/-- a validator's power -/
def pwr (x : Vd) : Int := x.tok / 100
/-- the first validators that have a power and are not jailed -/
def cand (V : Nat → Vd) : Nat → List Pw
  | 0 => []
  | k + 1 => if (decide (0 < pwr (V k)) && !(V k).jail) = true then cand V k ++ [((k : Int), pwr (V k))] else cand V k
def setS (V : Nat → Vd) : List Pw := isort ltV ((isort ltP (cand V 6)).take 4)
theorem cand_length (V : Nat → Vd) : ∀ k, (cand V k).length ≤ k
  | 0 => by simp [cand]
  | k + 1 => by
    have := cand_length V k
    rw [cand]
    split
    · simp; omega
    · omega
theorem isort_length (lt : Pw → Pw → Bool) (l : List Pw) : (isort lt l).length = l.length := sortTo_length _ _ _
theorem RowAt.take {w : World} {g : Nat} {l : List Pw} (h : RowAt w g l) (n : Nat) : RowAt w g (l.take n) := by
  obtain ⟨cur, hc, hx⟩ := h
  exact ⟨cur, hc, fun i x hi => hx i x (by rw [List.getElem?_take] at hi; split at hi; exact hi; simp at hi)⟩
set_option maxHeartbeats 4000000 in
theorem sset_any (s : St) (sl : Value) (w : World) (hV : ∀ k, k < 6 → inA (s.V k).tok = true) :
    Calls Tryz.prog 13 #[.agg (stC s sl)] w fun e w' => ∃ v, e = .returned v ∧ PRow w' w.heap.size v (setS s.V) ∧ Below w.heap.size w w' := by
  obtain ⟨i0, hi, hz0, hz1, hz2⟩ := info_parts infoPw
  have S0 := SAt.new w (stC s sl)
  have HB0 : Hid (Below w.heap.size w (w.alloc (.cells (stC s sl) 32))) := (Below.refl _ w).alloc (Nat.le_refl _) _
  go_enter Tryz.func13, Tryz.ntmps13
  go_upto_region 1 with fail
  generalize w.alloc (.cells (stC s sl) 32) = w0 at *
  have hz : w.heap.size < w0.heap.size := S0.lt
  go_wp2_with fail
  go_loopw [3, 7] (fun v i wl => ∃ k : Nat, k ≤ 6 ∧ i = .int .i64 (k : Int) ∧ Pows wl w0.heap.size v (cand s.V k) ∧ Hid (Below w0.heap.size w0 wl)) (fun _ i _ => (6 - intOf i).toNat)
  case atStart => exact ⟨0, by omega, rfl, Pows.nil _ _, Below.refl _ _⟩
  case round =>
    obtain ⟨k, hk, rfl, hown, HB⟩ := hrel
    have hsz : w0.heap.size ≤ wr.heap.size := HB.out.size
    by_cases hk6 : k < 6
    · have S1 := S0.later HB.out hz
      obtain ⟨c0, c1, c2, c3, c4⟩ := S1.val k hk6
      have hkk : (k : Int) < 6 := by omega
      have hta := inA_iff.1 (hV k hk6)
      have HC : Hid (cand s.V (k + 1) = if (decide (0 < pwr (s.V k)) && !(s.V k).jail) = true then cand s.V k ++ [((k : Int), pwr (s.V k))] else cand s.V k) := rfl
      have hlen := cand_length s.V k
      have hp : pwr (s.V k) = (s.V k).tok / 100 := rfl
      rw [hp] at HC
      clear c1 c2 c4 S1 hp
      generalize (s.V k).jail = jj at *
      generalize (s.V k).tok = tt at *
      go_wp2_with (at_builtin; refine wpList_append_own_at _ rfl _ _ 33 rfl w0.heap.size 74 i0 (.agg #[.int .i64 0, .int .i64 0]) 2 16 Tryz.underlying33 hi hz0 hz1 hz2 rfl (by decide) _ _ _ rfl (World.ownsRow.alloc hown _) ⟨wr.heap.size, 0, none⟩ 1 1 [.int .i64 (k : Int), .int .i64 (tt / 100)] rfl rfl (pw_news _ _ _ _) (by intro u hu; simp at hu; rcases hu with rfl | rfl <;> rfl) (by unfold maxLen; omega) (by omega) (by simp; omega) ?_; intro v' w1 hown' hgrow _ hat)
      · have hb : Below w0.heap.size w0 w1 := Pows.grow hown HB.out hgrow (Nat.le_refl _) hsz
        have hc : cand s.V (k + 1) = cand s.V k ++ [((k : Int), tt / 100)] := by rw [HC.out, if_pos (by simp_all)]
        refine ⟨⟨k + 1, by omega, by go_num, ?_, hb⟩, by simp [intOf]; omega⟩
        rw [hc]
        exact Pows.append hown' rfl
      · have hc : cand s.V (k + 1) = cand s.V k := by rw [HC.out, if_neg (by simp_all)]
        exact ⟨⟨k + 1, by omega, by go_num, by rw [hc]; exact hown, HB.out⟩, by simp [intOf]; omega⟩
      · have hc : cand s.V (k + 1) = cand s.V k := by rw [HC.out, if_neg (by simp; intro h; omega)]
        exact ⟨⟨k + 1, by omega, by go_num, by rw [hc]; exact hown, HB.out⟩, by simp [intOf]; omega⟩
    · obtain rfl : k = 6 := by omega
      have HBw : Hid (Below w.heap.size w wr) := HB0.out.trans (HB.out.mono (Nat.le_of_lt hz))
      have hl6 := cand_length s.V 6
      have HX : Hid (setS s.V = isort ltV ((isort ltP (cand s.V 6)).take 4)) := rfl
      rcases hown.row with ⟨rfl, hnil⟩ | ⟨g, cap, rfl, hg, hrow, hcap, hmax⟩
      · have HX2 : Hid (setS s.V = []) := by rw [HX.out, hnil]; rfl
        clear hnil hown HX S0 hV
        go_wp2_with (go_at_call 37; refine (sortf_none _ _).mono ?_; rintro e w1 ⟨rfl, rfl⟩)
        go_ret
        exact ⟨_, rfl, .inl ⟨rfl, HX2.out⟩, HBw.out⟩
      · have hP := sortf_P g cap (cand s.V 6) wr hrow (by omega)
        rw [← isort_length ltP (cand s.V 6)] at hl6 hcap hP ⊢
        have hL0 := hP
        clear hrow hown S0 hV hL0
        generalize isort ltP (cand s.V 6) = L at *
        unfold maxLen at hmax
        have hi0 : (0 : Int) ≤ (L.length : Int) := by omega
        have hi1 : (L.length : Int) ≤ (cap : Int) := by omega
        by_cases h4 : L.length ≤ 4
        · have h4' : (L.length : Int) ≤ 4 := by omega
          have HX2 : Hid (setS s.V = isort ltV L) := by rw [HX.out, List.take_of_length_le h4]; exact rfl
          go_wp2_with (first
            | (go_at_call 37; have _m := m1; refine (sortf_V g cap L _ (by exact HR1.out.1) (by omega)).mono ?_; rintro e w2 ⟨rfl, hr2⟩; have HR2 := hide hr2; clear hr2)
            | (go_at_call 37; refine hP.mono ?_; rintro e w1 ⟨rfl, hr1⟩; have HR1 := hide hr1; clear hr1; have m1 : True := trivial))
          go_ret
          have hsz1 := HR1.out.2.size
          refine ⟨_, rfl, .inr ⟨g, cap, ?_, by omega, by rw [HX2.out]; exact HR2.out.1, by rw [HX2.out, isort_length]; exact hcap, by unfold maxLen; exact hmax⟩, ?_⟩
          · rw [HX2.out, isort_length]; rfl
          · exact (HBw.out.trans (HR1.out.2.below (B := w.heap.size) (by omega) (by omega))).trans (HR2.out.2.below (by omega) (by omega))
        · have h4' : 4 < (L.length : Int) := by omega
          have hl4 : (L.take 4).length = 4 := by rw [List.length_take]; omega
          have hS := fun w h => sortf_V g cap (L.take 4) w h (by omega)
          rw [hl4] at hS
          have hc4 : (4 : Int) ≤ (cap : Int) := by omega
          go_wp2_with (first
            | (go_at_call 37; have _m := m1; refine (hS _ (by exact HR1.out.1.take 4)).mono ?_; rintro e w2 ⟨rfl, hr2⟩; have HR2 := hide hr2; clear hr2)
            | (go_at_call 37; refine hP.mono ?_; rintro e w1 ⟨rfl, hr1⟩; have HR1 := hide hr1; clear hr1; have m1 : True := trivial))
          go_ret
          have hsz1 := HR1.out.2.size
          refine ⟨_, rfl, .inr ⟨g, cap, ?_, by omega, by rw [HX.out]; exact HR2.out.1, by rw [HX.out, isort_length, hl4]; omega, by unfold maxLen; exact hmax⟩, ?_⟩
          · rw [HX.out, isort_length, hl4]; rfl
          · exact (HBw.out.trans (HR1.out.2.below (B := w.heap.size) (by omega) (by omega))).trans (HR2.out.2.below (by omega) (by omega))
end Go.Proofs.YtjghbciepinofaaGreat

set_option maxRecDepth 100000
namespace Go.Proofs.YtjghbciepinofaaGreat
open Go.RowKit
set_option maxHeartbeats 1000000 in
theorem new_any (w : World) : Calls Tryz.prog 108 #[] w fun e w' => e = .returned (.agg #[.int .i64 100000, .int .i64 100000, .int .i64 100000, .int .i64 100000, .int .i64 0, .int .i64 0, .int .i64 0]) ∧ Below w.heap.size w w' := by
  go_enter Tryz.func108, Tryz.ntmps108
  go_wp2
  refine wp_loop_rounds 5 ?_
  iterate 5 (try (rw [rounds_succ]; go_wp2))
  exact bodyPost_ret (v := .agg #[.int .i64 100000, .int .i64 100000, .int .i64 100000, .int .i64 100000, .int .i64 0, .int .i64 0, .int .i64 0]) (by simp [results, Tryz.results108, go_sem]) rfl ⟨rfl, ((Below.refl _ w).alloc (Nat.le_refl _) _).alloc (by simp) _⟩
end Go.Proofs.YtjghbciepinofaaGreat

set_option maxRecDepth 100000
namespace Go.Proofs.YtjghbciepinofaaGreat
open Go.RowKit
def newS : St := ⟨⟨100000, 100000, 100000, 100000, 0, 0, 0⟩, fun _ => ⟨0, 0, 0, false, false⟩, fun _ _ => 0, [], 1⟩
theorem results_stake1 {fn : Func} {p : Tmp} (h : fn.results = #[.cell p 32]) (tmps : Array Value) (w : World) (g : Nat) (cs : Array Value)
    (hp : tmps.getD p undef = .pointer (some ⟨g, 0, none⟩)) (hg : SAt w g cs) (hsz : cs.size = 63) :
    (results fn tmps).run Tryz.prog w = .ok (.agg cs) w :=
  results_cell_row h _ _ g 32 cs (0, 0) _ hp hg Tryz.underlying32 rfl (by rw [infoS, hsz])
set_option maxHeartbeats 4000000 in
theorem snew_any (w : World) : Calls Tryz.prog 65 #[] w fun e w' => e = .returned (.agg (stC newS (.slice none 0 0))) ∧ Below w.heap.size w w' := by
  have R0 := SAt.new w Z63
  have HB0 : Hid (Below w.heap.size w (w.alloc (.cells Z63 32))) := (Below.refl _ w).alloc (Nat.le_refl _) _
  have hN := new_any
  go_enter Tryz.func65, Tryz.ntmps65
  go_upto_region 1 with fail
  change Code.wp Tryz.prog _ _ _ (w.alloc (.cells Z63 32))
  generalize w.alloc (.cells Z63 32) = w0 at *
  apply wp_region_lit
  go_step
  go_step
  refine (hN _).mono ?_
  rintro e w1 ⟨rfl, h1⟩
  have R1 := R0.later h1 R0.lt
  have HB1 := hide (HB0.out.trans (h1.mono HB0.out.size))
  clear h1 R0 HB0 hN
  dsimp only
  go_step
  go_step
  go_step
  go_step
  refine wpList_store_mid rfl 32 _ _ rfl _ 0 (stC newS (.slice none 0 0)) rfl rfl (R1.there 0 _ (by rw [Z63_size, stC_size]; omega)) (by rw [infoS]; rfl) (stC_one _ _ _ _) ?_
  go_wp2
  have R3 := R1.setAll (ds := stC newS (.slice none 0 0)) (by rw [stC_size]; rfl)
  exact bodyPost_ret (v := .agg (stC newS (.slice none 0 0))) (results_stake1 Tryz.results65 _ _ _ _ rfl R3 rfl) rfl ⟨rfl, below_sets (Nat.le_refl _) _ _ _ HB1.out⟩
/-- a stake that somebody has staked on -/
def oneS : St := (delegS newS 0 1 250).1
theorem one_good : goodS oneS = true := by decide +kernel
end Go.Proofs.YtjghbciepinofaaGreat

