/- Parts of the proof: SV SCL DF0 SO. -/
import Derived.Test.YtkhlihpghbhppaaGreatRows
import Derived.Test.YtkhlihpghbhppaaGreatPjK20
import Derived.Test.YtkhlihpghbhppaaGreatPjK25
import Derived.Test.YtkhlihpghbhppaaGreatPjK36
import Derived.Laws.Cover3
import Derived.ChangeKeysEq
import Derived.WalkKit
import Derived.WalkSmall
import Derived.Below
set_option maxRecDepth 100000
namespace Go.Proofs.YtkhlihpghbhppaaGreat
open Go.RowKit
/-- a validator is jailed or not, dead or not -/
def setJ (s : St) (v : Nat) (j d : Bool) : St := { s with V := setV s.V v { s.V v with jail := j, dead := d } }
theorem set_J (s : St) (sl : Value) (v : Nat) (hv : v < 6) (x : Bool) : (stC s sl).setIfInBounds (7 + v * 5 + 3) (.bool x) = stC (setJ s v x (s.V v).dead) sl := set_jail s sl v hv x
theorem set_D (s : St) (sl : Value) (v : Nat) (hv : v < 6) (j d x : Bool) : (stC (setJ s v j d) sl).setIfInBounds (7 + v * 5 + 4) (.bool x) = stC (setJ s v j x) sl := by
  rw [set_dead _ sl v hv x]
  unfold setJ
  simp only [setV_setV, setV_at]
def buryS (s : St) (v : Int) : St × Int :=
  if refE s v = 0 then if (s.V v.toNat).dead = true then (s, 15) else (setJ s v.toNat true true, 0) else (s, refE s v)
theorem refE_zero {s : St} {v : Int} (h : refE s v = 0) : goodS s = true ∧ (0 ≤ v ∧ v < 6) := by
  unfold refE at h
  repeat' split at h
  all_goals first | (simp_all [isV_iff]; done) | omega
theorem refE_good {s : St} {v : Nat} (hg : goodS s = true) (hv : v < 6) : refE s v = 0 := by
  unfold refE
  rw [hg, isV_iff.2 (show (0 : Int) ≤ v ∧ (v : Int) < 6 by omega)]
  rfl
set_option maxHeartbeats 4000000 in
theorem sbury_no (s : St) (ao : Option Addr) (sb so c : Nat) (v : Int) (w : World) (hW : WsAt w ao sb so s.W) (r : St × Int) (h0 : refE s v ≠ 0) (hr : r = (s, refE s v)) :
    Calls Tryz.prog 127 #[.agg (stC s (.slice ao s.W.length c)), .int .i64 v] w fun e w' => e = .returned (.tuple #[.agg (stC r.1 (.slice ao s.W.length c)), .int .i64 r.2]) ∧ Below w.heap.size w w' := by
  have SS := (SAt.new w (stC s (.slice ao s.W.length c))).alloc (.cells Z63 32)
  have RR := SAt.new2 w (.cells (stC s (.slice ao s.W.length c)) 32) Z63
  have HB : Hid (Below w.heap.size w ((w.alloc (.cells (stC s (.slice ao s.W.length c)) 32)).alloc (.cells Z63 32))) := ((Below.refl _ w).alloc (Nat.le_refl _) _).alloc (by simp) _
  have HW := hide hW
  have HR := hide hr
  clear hW hr
  go_enter Tryz.func127, Tryz.ntmps127
  go_upto_region 1 with fail
  change Code.wp Tryz.prog _ _ _ ((w.alloc (.cells (stC s (.slice ao s.W.length c)) 32)).alloc (.cells Z63 32))
  generalize (w.alloc (.cells (stC s (.slice ao s.W.length c)) 32)).alloc (.cells Z63 32) = w0 at *
  go_upto_region 2 with (go_at_call 150; refine (refused_any s ao sb so c w.heap.size v _ SS (by exact HW.out.over HB.out)).mono ?_; rintro e w1 ⟨rfl, h1⟩)
  have HB1 := hide (HB.out.trans (h1.mono HB.out.size))
  have S1 := SS.later h1 SS.lt
  have R1 := RR.later h1 RR.lt
  clear SS RR h1 HB
  go_upto_region 3 with fail
  apply wp_region_lit
  refine wpList_load_mid rfl 32 _ rfl _ 0 rfl _ _ S1.range Tryz.underlying32 rfl (by rw [infoS]; rfl) ?_
  refine wpList_mv rfl _ rfl ?_
  refine wpList_store_mid rfl 32 _ _ rfl _ 0 (stC s (.slice ao s.W.length c)) rfl rfl (R1.there 0 _ (by rw [Z63_size, stC_size]; omega)) (by rw [infoS]; rfl) (stC_one _ _ _ _) ?_
  go_wp2
  exact stake_end2 Tryz.results127 R1 rfl HB1.out (by omega) s _ _ r HR.out _ rfl rfl rfl
set_option maxHeartbeats 4000000 in
theorem sbury_yes (s : St) (ao : Option Addr) (sb so c v : Nat) (w : World) (hW : WsAt w ao sb so s.W) (r : St × Int) (hg : goodS s = true) (hv : v < 6) (h1 : (s.V v).dead = true → r = (s, 15)) (h2 : (s.V v).dead = false → r = ((setJ s v true true), 0)) :
    Calls Tryz.prog 127 #[.agg (stC s (.slice ao s.W.length c)), .int .i64 (v : Int)] w fun e w' => e = .returned (.tuple #[.agg (stC r.1 (.slice ao s.W.length c)), .int .i64 r.2]) ∧ Below w.heap.size w w' := by
  have SS := (SAt.new w (stC s (.slice ao s.W.length c))).alloc (.cells Z63 32)
  have RR := SAt.new2 w (.cells (stC s (.slice ao s.W.length c)) 32) Z63
  have HB : Hid (Below w.heap.size w ((w.alloc (.cells (stC s (.slice ao s.W.length c)) 32)).alloc (.cells Z63 32))) := ((Below.refl _ w).alloc (Nat.le_refl _) _).alloc (by simp) _
  have HW := hide hW
  have Hh1 := hide h1
  have Hh2 := hide h2
  have hRf := refE_good hg hv
  have hv' : (v : Int) < 6 := by omega
  have hv0 : (0 : Int) ≤ (v : Int) := by omega
  clear hW h1 h2
  go_enter Tryz.func127, Tryz.ntmps127
  go_upto_region 1 with fail
  change Code.wp Tryz.prog _ _ _ ((w.alloc (.cells (stC s (.slice ao s.W.length c)) 32)).alloc (.cells Z63 32))
  generalize (w.alloc (.cells (stC s (.slice ao s.W.length c)) 32)).alloc (.cells Z63 32) = w0 at *
  go_upto_region 2 with (go_at_call 150; refine (refused_any s ao sb so c w.heap.size v _ SS (by exact HW.out.over HB.out)).mono ?_; rintro e w1 ⟨rfl, h1⟩)
  have HB1 := hide (HB.out.trans (h1.mono HB.out.size))
  have S1 := SS.later h1 SS.lt
  have R1 := RR.later h1 RR.lt
  clear SS RR h1 HB
  obtain ⟨c0, c1, c2, c3, c4⟩ := S1.val v hv
  have hz1 : w.heap.size + 1 < w1.heap.size := R1.lt
  clear c0 c1 c2
  go_upto_region 7 with (first | ((fail_if_success (go_not_at_region 6)); apply wp_region_lit; refine wpList_load_mid rfl 32 _ rfl _ 0 rfl _ _ S1.range Tryz.underlying32 rfl (by rw [infoS]; rfl) ?_; refine wpList_store_mid rfl 32 _ _ rfl _ 0 (stC s (.slice ao s.W.length c)) rfl rfl (R1.there 0 _ (by rw [Z63_size, stC_size]; omega)) (by rw [infoS]; rfl) (stC_one _ _ _ _) ?_))
  · exact stake_end2 Tryz.results127 R1 rfl HB1.out (by omega) s _ _ r (Hh1.out ‹(s.V v).dead = true›) _ rfl rfl rfl
  · have HR := hide (Hh2.out ‹(s.V v).dead = false›)
    have f0 := S1.free (7 + v * 5 + 3)
    have f1 := S1.free (7 + v * 5 + 4)
    have S2 := S1.set (7 + v * 5 + 3) (.bool true)
    rw [set_J _ _ v hv] at S2
    have S3 := S2.set (7 + v * 5 + 4) (.bool true)
    rw [set_D _ _ v hv] at S3
    have RZ : SAt ((w1.setCell ⟨w.heap.size, 7 + v * 5 + 3, none⟩ (.bool true)).setCell ⟨w.heap.size, 7 + v * 5 + 4, none⟩ (.bool true)) (w.heap.size + 1) Z63 := ((R1.other (by omega) (.bool true) : SAt _ _ _).other (by omega) (.bool true) : SAt _ _ _)
    have HZ := hide ((HB1.out.setCell (p := ⟨w.heap.size, 7 + v * 5 + 3, none⟩) (Nat.le_refl _) (.bool true)).setCell (p := ⟨w.heap.size, 7 + v * 5 + 4, none⟩) (Nat.le_refl _) (.bool true))
    clear S1 R1 HB1
    go_upto_region 8 with fail
    generalize ((w1.setCell ⟨w.heap.size, 7 + v * 5 + 3, none⟩ (.bool true)).setCell ⟨w.heap.size, 7 + v * 5 + 4, none⟩ (.bool true)) = w9 at *
    apply wp_region_lit
    refine wpList_load_mid rfl 32 _ rfl _ 0 rfl _ _ S3.range Tryz.underlying32 rfl (by rw [infoS]; rfl) ?_
    refine wpList_store_mid rfl 32 _ _ rfl _ 0 (stC (setJ s v true true) (.slice ao s.W.length c)) rfl rfl (RZ.there 0 _ (by rw [Z63_size, stC_size]; omega)) (by rw [infoS]; rfl) (stC_one _ _ _ _) ?_
    go_wp2
    exact stake_end2 Tryz.results127 RZ rfl HZ.out (by omega) (setJ s v true true) (.slice ao s.W.length c) 0 r HR.out _ rfl rfl rfl
theorem sbury_any (s : St) (ao : Option Addr) (sb so c : Nat) (v : Int) (w : World) (hW : WsAt w ao sb so s.W) :
    Calls Tryz.prog 127 #[.agg (stC s (.slice ao s.W.length c)), .int .i64 v] w fun e w' => e = .returned (.tuple #[.agg (stC (buryS s v).1 (.slice ao s.W.length c)), .int .i64 (buryS s v).2]) ∧ Below w.heap.size w w' := by
  by_cases h : refE s v = 0
  · obtain ⟨hg, v0, v1⟩ := refE_zero h
    obtain ⟨v, rfl⟩ := Int.eq_ofNat_of_zero_le v0
    exact sbury_yes s ao sb so c v w hW _ hg (by omega) (fun h1 => by rw [buryS, if_pos h]; exact if_pos h1) (fun h1 => by rw [buryS, if_pos h]; exact if_neg (by simp [h1]))
  · exact sbury_no s ao sb so c v w hW _ h (by unfold buryS; exact if_neg h)
end Go.Proofs.YtkhlihpghbhppaaGreat

set_option maxRecDepth 100000
namespace Go.Proofs.YtkhlihpghbhppaaGreat
open Go.RowKit
theorem eqNil (w : World) (a : Option Addr) (n c : Nat) : (binOp .eql 30 (.slice a n c) (.slice none 0 0)).run Tryz.prog w = .ok (.bool a.isNone) w := by
  simp [binOp, run_equal_slice_nil w 30 98 a n c Tryz.underlying30]
theorem clone_nil (c : Nat) (w : World) : Calls Tryz.prog 124 #[.slice none 0 c] w fun e w' => e = .returned (.slice none 0 0) ∧ w = w' := by
  have hq := fun w => eqNil w none 0 c
  go_enter Tryz.func124, Tryz.ntmps124
  go_wp2
  go_ret
  exact ⟨rfl, rfl⟩
theorem wtL_one (W : List Wt) : ∀ u ∈ wsL W, u.oneCell' = true := by
  intro u hu
  obtain ⟨x, _, hx⟩ := List.mem_flatMap.1 hu
  simp [wtL] at hx
  rcases hx with rfl | rfl | rfl | rfl | rfl | rfl | rfl | rfl <;> rfl
theorem own_nil (w : World) : (w.alloc (.cells #[] 98)).ownsRow w.heap.size 98 8 (.slice (some ⟨w.heap.size, 0, none⟩) 0 0) 0 [] := ⟨rfl, .inr ⟨w.heap.size, 0, #[], rfl, Nat.le_refl _, heap_alloc_new _ _, Nat.le_refl _, Nat.zero_le _, rfl, rfl⟩⟩
theorem ap_clone (w : World) (a : Addr) (c sb so : Nat) (W : List Wt) (hW : WsAt w (some a) sb so W) :
    ∃ A C w', (Builtin.append_ #[30, 30] 30 #[.slice (some ⟨w.heap.size, 0, none⟩) 0 0, .slice (some a) W.length c]).run Tryz.prog (w.alloc (.cells #[] 98)) = .ok (.slice A W.length C) w' ∧ OwnW w.heap.size w' A C W ∧ Below w.heap.size w w' := by
  obtain ⟨i0, hi, hz0, hz1, hz2⟩ := info_parts info44
  have hl := hW.len
  obtain ⟨v', w', hr, ho, hg, -, hat⟩ := run_append_own_at (P := Tryz.prog) (w.alloc (.cells #[] 98)) w.heap.size 30 30 98 i0 _ 8 64 Tryz.underlying30 hi hz0 hz1 hz2 rfl (by omega) _ 0 [] (own_nil w) a W.length c (wsL W) (wsL_length W)
    (fun j u hj => by
      have h0 : 0 < W.length := by
        have := (List.getElem?_eq_some_iff.1 hj).1
        rw [wsL_length] at this
        omega
      have ha := hW.adr h0
      cases ha
      rw [Addr.add_lit]
      exact ws_cells (hW.over ((Below.refl _ w).alloc (Nat.le_refl _) _)) j u hj) (wtL_one W) (by simp only [maxLen]; omega) (by omega) (by simp)
  rw [Nat.zero_add, List.nil_append] at ho
  have hv : ∃ A C, v' = .slice A W.length C := by
    rcases ho.2 with ⟨rfl, h0⟩ | ⟨g, cap, cur, rfl, _⟩
    · rw [h0]; exact ⟨none, 0, rfl⟩
    · exact ⟨_, _, rfl⟩
  obtain ⟨A, C, rfl⟩ := hv
  refine ⟨A, C, w', hr, ho, ?_⟩
  have hb := (Below.refl w.heap.size w).alloc (Nat.le_refl _) (.cells #[] 98)
  exact ⟨hg.os.trans hb.os, hg.tape.trans hb.tape, hg.output.trans hb.output, Nat.le_trans hb.size hg.size, fun k hk => (hg.block k (by simp; omega) (by simp [Value.ownBlock]; omega)).trans (hb.block k hk)⟩
theorem wpList_cl {ops : Array Oper} {rest : List Oper} {o : Oper} {a : Act} {w : World} {Q : Exit → Act → World → Prop} (hg : o.guard = none) (hty : o.type = 30) (p q : Operand)
    (hop : o.op = Op.call { callee := Callee.builtin Builtin.append, args := #[p, q], argTypes := #[30, 30] }) (ad : Addr) (c sb so : Nat) (W : List Wt) (hs : a.eval p = .slice (some ⟨w.heap.size, 0, none⟩) 0 0) (hx : a.eval q = .slice (some ad) W.length c) (hW : WsAt w (some ad) sb so W)
    (hK : ∀ A C w', OwnW w.heap.size w' A C W ∧ Below w.heap.size w w' → wpList Tryz.prog ops Q rest (a.put o.dst (.slice A W.length C)) w') : wpList Tryz.prog ops Q (o :: rest) a (w.alloc (.cells #[] 98)) := by
  refine wpList_plain hg fun _ hK' => ?_
  unfold Oper.wp
  obtain ⟨A, C, w', hr, h1⟩ := ap_clone w ad c sb so W hW
  simp [execOp, hop, resolve, invoke, builtin, hs, hx, hty, hr, Result.andThen]
  exact hK' _ _ (hK _ _ _ h1)
theorem clone_some (a : Addr) (W : List Wt) (c sb so : Nat) (w : World) (hW : WsAt w (some a) sb so W) : Calls Tryz.prog 124 #[.slice (some a) W.length c] w fun e w' => ∃ A C, e = .returned (.slice A W.length C) ∧ OwnW w.heap.size w' A C W ∧ Below w.heap.size w w' := by
  have hq := fun w => eqNil w (some a) W.length c
  go_enter Tryz.func124, Tryz.ntmps124
  go_upto_region 3 with fail
  apply wp_region_lit
  iterate 6 go_step
  refine wpList_cl rfl rfl _ _ rfl a c sb so W rfl rfl hW ?_
  rintro A C w' ⟨h1, h2⟩
  have H1 := hide h1
  have H2 := hide h2
  clear h1 h2
  go_wp2
  go_ret
  exact ⟨A, C, rfl, H1.out, H2.out⟩
/-- a list of waits cloned -/
theorem clone_any (ao : Option Addr) (W : List Wt) (c sb so : Nat) (w : World) (hW : WsAt w ao sb so W) : Calls Tryz.prog 124 #[.slice ao W.length c] w fun e w' => ∃ A C, e = .returned (.slice A W.length C) ∧ OwnW w.heap.size w' A C W ∧ Below w.heap.size w w' := by
  cases ao with
  | some a => exact clone_some a W c sb so w hW
  | none =>
    have h0 : W.length = 0 := by
      rcases Nat.eq_zero_or_pos W.length with h0 | h0
      · exact h0
      · have := hW.adr h0; cases this
    obtain rfl : W = [] := List.length_eq_zero_iff.1 h0
    refine (clone_nil c w).mono ?_
    rintro e w' ⟨rfl, rfl⟩
    exact ⟨none, 0, rfl, ⟨rfl, .inl ⟨rfl, rfl⟩⟩, Below.refl _ _⟩
end Go.Proofs.YtkhlihpghbhppaaGreat

set_option maxRecDepth 100000
namespace Go.Proofs.YtkhlihpghbhppaaGreat.Df
abbrev Pw := Int × Int
/-- a power is put in its validator's place -/
def putP (P : Nat → Int) (x : Pw) : Nat → Int := if 0 ≤ x.1 ∧ x.1 < 6 then (fun i => if i = x.1.toNat then x.2 else P i) else P
def zeroP : Nat → Int := fun _ => 0
/-- the first one counts -/
def firstP (l : List Pw) : Nat → Int := l.foldr (fun x P => putP P x) zeroP
/-- those of the first n that are wanted, with their powers -/
def those (c : Nat → Bool) (f : Nat → Int) (n : Nat) : List Pw := (List.range n).filterMap fun v => if c v = true then some ((v : Int), f v) else none
def diffL (a b : List Pw) : List Pw := those (fun v => decide (firstP b v ≠ firstP a v)) (firstP b) 6
theorem put_at {P : Nat → Int} {n : Nat} {x : Int} (hn : n < 6) (i : Nat) : putP P ((n : Int), x) i = if i = n then x else P i := by
  unfold putP
  rw [if_pos (by simp; omega)]
  simp
/-- all together, going round -/
def allN (l : List Pw) : Int := l.foldl (fun s x => (s + x.2 + 9223372036854775808) % 18446744073709551616 - 9223372036854775808) 0
theorem all_take (l : List Pw) (k : Nat) (hk : k < l.length) : allN (l.take (k + 1)) = (allN (l.take k) + (l.getD k (0, 0)).2 + 9223372036854775808) % 18446744073709551616 - 9223372036854775808 := by
  unfold allN
  rw [List.take_succ_eq_append_getElem hk, List.foldl_append]
  simp [List.getD, hk]
end Go.Proofs.YtkhlihpghbhppaaGreat.Df

set_option maxRecDepth 100000
namespace Go.Proofs.YtkhlihpghbhppaaGreat
open Go.RowKit
def cmpI (x y : Int) : Int := if x < y then -1 else if y < x then 1 else 0
theorem cmpI_eq (x y : Int) : cmpI x y = if x < y then -1 else if y < x then 1 else 0 := rfl
def cmpV (a b : Int × Int) : Int := cmpI a.1 b.1
def cmpP (a b : Int × Int) : Int := if a.2 = b.2 then cmpV a b else cmpI b.2 a.2
theorem isnan_any (x : Int) (w : World) : Calls Tryz.prog 183 #[.int .i64 x] w fun e w' => e = .returned (.bool false) ∧ w = w' := by
  go_enter Tryz.func183, Tryz.ntmps183
  go_wp2
  go_ret
  exact ⟨by simp, rfl⟩
theorem cmpi_any (x y : Int) (w : World) : Calls Tryz.prog 147 #[.int .i64 x, .int .i64 y] w fun e w' => e = .returned (.int .i64 (cmpI x y)) ∧ w = w' := by
  have HC := hide (cmpI_eq x y)
  generalize cmpI x y = r at *
  go_enter Tryz.func147, Tryz.ntmps147
  go_wp2_with (go_at_call 183; refine (isnan_any _ _).mono ?_; rintro e w1 ⟨rfl, rfl⟩)
  all_goals (go_ret; refine ⟨?_, rfl⟩; have h := HC.out; first | (simp_all; done) | (simp_all; omega) | (rw [h, if_neg (by omega), if_neg (by omega)]; rfl) | (rw [h, if_neg (by omega), if_pos (by omega)]; rfl) | (rw [h, if_pos (by omega)]; rfl))
theorem byNumber_any (a b : Int × Int) (w : World) : Calls Tryz.prog 91 #[.agg #[.int .i64 a.1, .int .i64 a.2], .agg #[.int .i64 b.1, .int .i64 b.2]] w fun e w' => e = .returned (.int .i64 (cmpV a b)) ∧ Below w.heap.size w w' := by
  have hc := cmpi_any a.1 b.1
  unfold cmpV
  generalize cmpI a.1 b.1 = r at *
  go_enter Tryz.func91, Tryz.ntmps91
  go_wp2_with (go_at_call 147; refine (hc _).mono ?_; rintro e w1 ⟨rfl, rfl⟩)
  go_ret
  exact ⟨rfl, ((Below.refl _ _).alloc (Nat.le_refl _) _).alloc (by simp) _⟩
theorem byPower_any (a b : Int × Int) (w : World) : Calls Tryz.prog 90 #[.agg #[.int .i64 a.1, .int .i64 a.2], .agg #[.int .i64 b.1, .int .i64 b.2]] w fun e w' => e = .returned (.int .i64 (cmpP a b)) ∧ Below w.heap.size w w' := by
  have hc := cmpi_any b.2 a.2
  have hn := fun w => byNumber_any a b w
  by_cases h : a.2 = b.2
  · have e : cmpP a b = cmpV a b := if_pos h
    rw [e]
    generalize cmpV a b = r at *
    have hb : (a.2 != b.2) = false := by simpa using h
    clear hc
    obtain ⟨a1, a2⟩ := a
    obtain ⟨b1, b2⟩ := b
    simp only at *
    subst h
    go_enter Tryz.func90, Tryz.ntmps90
    go_wp2_with (go_at_call 91; refine (hn _).mono ?_; rintro e w1 ⟨rfl, h1⟩)
    go_ret
    exact ⟨rfl, (((Below.refl _ _).alloc (Nat.le_refl _) _).alloc (by simp) _).trans (h1.mono (by simp; omega))⟩
  · have e : cmpP a b = cmpI b.2 a.2 := if_neg h
    rw [e]
    generalize cmpI b.2 a.2 = r at *
    have hb : (a.2 != b.2) = true := by simpa using h
    go_enter Tryz.func90, Tryz.ntmps90
    go_wp2_with (go_at_call 147; refine (hc _).mono ?_; rintro e w1 ⟨rfl, rfl⟩)
    go_ret
    exact ⟨rfl, ((Below.refl _ _).alloc (Nat.le_refl _) _).alloc (by simp) _⟩
end Go.Proofs.YtkhlihpghbhppaaGreat

