/- Parts of the proof: DF2 PST RJ2. -/
import Derived.Test.YtkhlihpghbhppaaGreatRows
import Derived.Test.YtkhlihpghbhppaaGreatPjK11
import Derived.Test.YtkhlihpghbhppaaGreatPjK20
import Derived.Test.YtkhlihpghbhppaaGreatPjK26
import Derived.Test.YtkhlihpghbhppaaGreatPjK30
import Derived.Test.YtkhlihpghbhppaaGreatPjK47
import Derived.Test.YtkhlihpghbhppaaGreatPjK51
import Derived.Maps.AppendAt
set_option maxRecDepth 100000
namespace Go.Proofs.YtkhlihpghbhppaaGreat.Df
open Go.RowKit
set_option maxHeartbeats 2000000 in
theorem all_any (l : List Pw) (ao : Option Addr) (c b off : Nat) (w : World) (hl : PIn w l ao b off) :
    Calls Tryz.prog 76 #[.slice ao l.length c] w fun e w' => e = .returned (.int .i64 (allN l)) ∧ Below w.heap.size w w' := by
  have hlen := hl.len
  have HL := hide hl
  clear hl
  go_enter Tryz.func76, Tryz.ntmps76
  go_upto_region 3 with fail
  go_loopw [3, 8] (fun s i wl => ∃ k : Nat, k ≤ l.length ∧ i = .int .i64 (k : Int) ∧ s = .int .i64 (allN (l.take k)) ∧ Hid (Below w.heap.size w wl)) (fun _ i _ => l.length - (intOf i).toNat)
  case atStart => exact ⟨0, Nat.zero_le _, rfl, rfl, Below.refl _ _⟩
  case round =>
    obtain ⟨k, hk, rfl, rfl, HR⟩ := hrel
    by_cases hlt : k < l.length
    · have hkI : (k : Int) < (l.length : Int) := by omega
      obtain ⟨c0, c1⟩ := (HL.out.over HR.out).cells k hlt
      have HS := hide (all_take l k hlt)
      have eao := HL.out.adr (by omega)
      subst eao
      generalize l.getD k (0, 0) = x at *
      obtain ⟨v, n⟩ := x
      dsimp only at c0 c1 HS
      generalize allN (l.take k) = s0 at *
      obtain ⟨s1, hs1⟩ : ∃ s1, allN (l.take (k + 1)) = s1 := ⟨_, rfl⟩
      rw [hs1] at HS
      have HS1 := hide hs1
      have hw : wrap64 (s0 + n) = s1 := by rw [HS.out]; unfold wrap64; rfl
      clear HS hs1
      go_wp2
      exact ⟨⟨k + 1, by omega, by go_num, by rw [HS1.out, hw], HR.out.alloc HR.out.size _⟩, by simp [intOf]; omega⟩
    · obtain rfl : k = l.length := by omega
      have HT : Hid (l.take l.length = l) := List.take_length
      go_wp2
      go_ret
      exact ⟨by rw [HT.out]; rfl, HR.out⟩
end Go.Proofs.YtkhlihpghbhppaaGreat.Df

set_option maxRecDepth 100000
namespace Go.Proofs.YtkhlihpghbhppaaGreat.Pv
open Go.RowKit
theorem Rep.prow {w : World} {B : Nat} {v : Value} {l : List (Int × Int)} (h : PRow w B v l) (hl : l.length ≤ 8796093021952) : Rep (fun b => B ≤ b) w v 2 16 (pwC l) := by
  rcases h with ⟨rfl, rfl⟩ | ⟨g, cap, rfl, hB, ⟨cur, h1, h2⟩, h3, h4⟩
  · exact Rep.nil _ _ _ _
  · refine ⟨_, l.length, cap, rfl, pwC_length l, by omega, ⟨fun h => (by cases h), h3⟩, fun _ => ⟨g, 0, rfl, hB, (Array.getElem?_eq_some_iff.1 h1).1, fun j u hu => ?_⟩⟩
    have hj : j < l.length * 2 := by have := (List.getElem?_eq_some_iff.1 hu).1; rwa [pwC_length] at this
    have hi : j / 2 < l.length := by omega
    obtain ⟨a1, a2⟩ := pwC_get l (j / 2) hi
    have ex : l[j / 2]? = some (l.getD (j / 2) (0, 0)) := by simp [List.getD, hi]
    obtain ⟨b1, b2⟩ := h2 (j / 2) _ ex
    rw [Nat.zero_add]
    simp only [World.cell?, h1]
    rcases (show j = j / 2 * 2 ∨ j = j / 2 * 2 + 1 by omega) with e | e
    · rw [← e] at a1 b1; rw [a1] at hu; cases hu; simpa using b1
    · rw [← e] at a2 b2; rw [a2] at hu; cases hu; simpa using b2
/-- a list of powers, as Diff, Apply and All want it -/
theorem Rep.pin {P : Nat → Prop} {w : World} {v : Value} {l : List (Int × Int)} (h : Rep P w v 2 16 (pwC l)) : ∃ ao c b off, v = .slice ao l.length c ∧ Df.PIn w l ao b off := by
  obtain ⟨A, C, e, hs, -, hc, -⟩ := h.open (pwC_length _) (by decide)
  rcases Nat.eq_zero_or_pos l.length with h0 | h0
  · exact ⟨A, C, 0, 0, e, by omega, fun h => by omega, fun i hi => by omega⟩
  · obtain ⟨b, off, e2, -, -, hcell⟩ := hc h0
    exact ⟨A, C, b, off, e, by omega, fun _ => e2, fun i hi => ⟨by rw [hcell _ _ (pwC_get l i hi).1], by rw [Nat.add_assoc, hcell _ _ (pwC_get l i hi).2]⟩⟩
theorem OwnW.rep {B : Nat} {w : World} {A : Option Addr} {C : Nat} {W : List Wt} (h : OwnW B w A C W) (hl : W.length * 64 ≤ 140737488351232) : Rep (fun b => B ≤ b) w (.slice A W.length C) 8 64 (wsL W) := Rep.own h hl
theorem OwnN.rep {B : Nat} {w : World} {A : Option Addr} {C : Nat} {l : List Int} (h : OwnN B w A C l) (hl : l.length * 8 ≤ 140737488351232) : Rep (fun b => B ≤ b) w (.slice A l.length C) 1 8 (inC l) := Rep.own h hl
theorem undel_len {s : St} {d v n : Int} {y : Wt} (h : (undelS s d v n y).2 = 0) : 0 < (undelS s d v n y).1.W.length := by
  by_cases a : refOfE s d v = 0
  case neg => rw [undel_ref a] at h; exact absurd h a
  by_cases h1 : (decide (0 < n) && inA n) = true ∧ 0 ≤ y.hei ∧ 0 ≤ y.due
  case neg => rw [undel_1 a h1] at h; exact absurd h (by simp)
  by_cases h2 : n ≤ s.S d.toNat v.toNat
  case neg => rw [undel_2 a h1 h2] at h; exact absurd h (by simp)
  by_cases h3 : s.W.length < 60 ∧ s.next < 1125899906842624
  case neg => rw [undel_3 a h1 h2 h3] at h; exact absurd h (by simp)
  by_cases h4 : woE (s.V v.toNat) n = 0
  case neg => rw [undel_4 a h1 h2 h3 h4] at h; exact absurd h h4
  by_cases h5 : (unbondR s.b (woN (s.V v.toNat) n)).2 = 0
  case neg => rw [undel_5 a h1 h2 h3 h4 h5] at h; exact absurd h h5
  rw [undel_6 a h1 h2 h3 h4 h5]
  show 0 < (s.W ++ [_]).length
  simp
section
variable {P : Nat → Prop} {w : World} {s : St} {u : Value} (hu : Rep P w u 8 64 (wsL s.W))
include hu
theorem st_bury (v : Int) : Calls Tryz.prog 127 #[.agg (stC s u), .int .i64 v] w fun e w' => e = .returned (.tuple #[.agg (stC (buryS s v).1 u), .int .i64 (buryS s v).2]) ∧ Below w.heap.size w w' := by
  obtain ⟨A, C, b, o, rfl, W, -, -⟩ := hu.wsAt
  exact sbury_any s A b o C v w W
theorem st_undel (d v n : Int) (y : Wt) : Calls Tryz.prog 57 #[.agg (stC s u), .int .i64 d, .int .i64 v, .int .i64 n, .agg #[.int .i64 y.num, .int .i64 y.d, .int .i64 y.v, .int .i64 y.amt, .int .i64 y.hei, .int .i64 y.due, .int .i64 y.h0, .int .i64 y.h1]] w fun e w' => ∃ A m C, e = .returned (.tuple #[.agg (stC (undelS s d v n y).1 (.slice A m C)), .int .i64 (undelS s d v n y).2]) ∧ ((undelS s d v n y).2 = 0 → Rep (New P w 0) w' (.slice A m C) 8 64 (wsL (undelS s d v n y).1.W)) ∧ Below w.heap.size w w' := by
  obtain ⟨A, C, b, o, e1, W, -, hP⟩ := hu.wsAt
  have hroom := (hu.room e1).1
  subst e1
  obtain ⟨b', o', W', hB'⟩ : ∃ b' o', WsAt w A b' o' s.W ∧ (New P w 0 b') := by
    by_cases hs : 0 < s.W.length
    · exact ⟨b, o, W, .inl ⟨hP hs, W.lt hs⟩⟩
    · exact ⟨w.heap.size, 0, ⟨fun h => absurd h hs, W.len, fun i x hx => absurd (List.getElem?_eq_some_iff.1 hx).1 (by omega)⟩, .inr (by omega)⟩
  refine (undel_any s A b' o' C d v n y w hroom W').mono ?_
  rintro e w' ⟨A', ab, ao', C', rfl, h1, h2, h3, hb⟩
  refine ⟨A', _, C', rfl, fun h0 => ?_, hb⟩
  have hlen := undel_len h0
  refine rep_ws h2 h1 hlen ?_
  rcases (h3 hlen).2 with e | e
  · exact e ▸ hB'
  · exact .inr (by omega)
theorem st_slash (v : Nat) (h : Int) (hg : goodS s = true) (hv : v < 6) : Calls Tryz.prog 126 #[.agg (stC s u), .int .i64 (v : Int), .int .i64 h, .int .i64 50] w fun e w' => ∃ u' x, e = .returned (.tuple #[.agg (stC (slashS s v h 50) u'), x, .int .i64 0]) ∧ Rep (fun b => w.heap.size ≤ b) w' u' 8 64 (wsL (slashS s v h 50).W) ∧ Below w.heap.size w w' := by
  obtain ⟨A, C, b, o, rfl, W, -, -⟩ := hu.wsAt
  refine (sslash_yes s A b o C v h 50 w W hg hv (by decide)).mono ?_
  rintro e w' ⟨A', C', rfl, h1, hb⟩
  exact ⟨_, _, rfl, OwnW.rep h1 (good_len (kp_slash hg (v := v) hv h (f := 50) (by decide)).good), hb⟩
theorem st_pay (t : Int) (hg : goodS s = true) : Calls Tryz.prog 78 #[.agg (stC s u), .int .i64 t] w fun e w' => ∃ u' x, e = .returned (.tuple #[.agg (stC (payS s t) u'), x, .int .i64 0]) ∧ Rep (fun b => w.heap.size ≤ b) w' u' 8 64 (wsL (payS s t).W) ∧ Rep (fun b => w.heap.size ≤ b) w' x 1 8 (inC (paidW t s.W)) ∧ Below w.heap.size w w' := by
  obtain ⟨A, C, b, o, rfl, W, -, -⟩ := hu.wsAt
  refine (spay_yes s A b o C t w W hg).mono ?_
  rintro e w' ⟨A', C', A2, C2, rfl, h1, h2, hb⟩
  have h60 := ((goodS_iff _).1 hg).2.2.2.1
  have hpl : (paidW t s.W).length ≤ s.W.length := by
    unfold paidW paidL
    rw [List.length_map]
    exact List.length_filter_le _ _
  exact ⟨_, _, rfl, OwnW.rep h1 (good_len (kp_pay hg t).good), OwnN.rep h2 (by omega), hb⟩
end
theorem setS_len (V : Nat → Vd) : (setS V).length ≤ 4 := by
  unfold setS
  rw [isort_length, List.length_take]
  omega
theorem st_set (s : St) (u : Value) (w : World) (hg : goodS s = true) : Calls Tryz.prog 34 #[.agg (stC s u)] w fun e w' => ∃ v, e = .returned v ∧ Rep (fun b => w.heap.size ≤ b) w' v 2 16 (pwC (setS s.V)) ∧ Below w.heap.size w w' := by
  refine (sset_any s u w fun k hk => (vOk_amounts (good_vals hg k hk).1).1).mono ?_
  rintro e w' ⟨v, rfl, h1, hb⟩
  exact ⟨v, rfl, Rep.prow h1 (by have := setS_len s.V; omega), hb⟩
theorem st_all {P : Nat → Prop} {w : World} {v : Value} {l : List (Int × Int)} (h : Rep P w v 2 16 (pwC l)) : Calls Tryz.prog 76 #[v] w fun e w' => e = .returned (.int .i64 (Df.allN l)) ∧ Below w.heap.size w w' := by
  obtain ⟨ao, c, b, off, rfl, hp⟩ := h.pin
  exact Df.all_any l ao c b off w hp
end Go.Proofs.YtkhlihpghbhppaaGreat.Pv

set_option maxRecDepth 100000
namespace Go.Proofs.YtkhlihpghbhppaaGreat
open Go.RowKit
set_option maxHeartbeats 4000000 in
theorem rjudge_own2 (s : St) (ao : Option Addr) (sb so c v : Nat) (w : World) (hW : WsAt w ao sb so s.W) (hg : goodS s = true) (hv : v < 6) (hd : (s.V v).dead = false) :
    Calls Tryz.prog 74 #[.agg (stC s (.slice ao s.W.length c)), .int .i64 (v : Int), .int .i64 2] w fun e w' => ∃ A C, e = .returned (.tuple #[.agg (stC (setJ s v true true) (.slice A s.W.length C)), .int .i64 0]) ∧ OwnW w.heap.size w' A C s.W ∧ Below w.heap.size w w' := by
  have SS := (SAt.new w (stC s (.slice ao s.W.length c))).alloc (.cells Z63 32)
  have RR := SAt.new2 w (.cells (stC s (.slice ao s.W.length c)) 32) Z63
  have HB : Hid (Below w.heap.size w ((w.alloc (.cells (stC s (.slice ao s.W.length c)) 32)).alloc (.cells Z63 32))) := ((Below.refl _ w).alloc (Nat.le_refl _) _).alloc (by simp) _
  have HW := hide hW
  have HDD := hide hd
  clear hd
  have hRf := refE_good hg hv
  have hv' : (v : Int) < 6 := by omega
  have hv0 : (0 : Int) ≤ (v : Int) := by omega
  have hsm := fun w h => some_any s ao sb so c 0 v w h
  rw [refOf_zero] at hsm
  clear hW
  go_enter Tryz.func74, Tryz.ntmps74
  go_upto_region 1 with fail
  change Code.wp Tryz.prog _ _ _ ((w.alloc (.cells (stC s (.slice ao s.W.length c)) 32)).alloc (.cells Z63 32))
  generalize (w.alloc (.cells (stC s (.slice ao s.W.length c)) 32)).alloc (.cells Z63 32) = w0 at *
  apply wp_region_lit
  refine wpList_load_mid rfl 32 _ rfl _ 0 rfl _ _ SS.range Tryz.underlying32 rfl (by rw [infoS]; rfl) ?_
  go_upto_region 4 with (go_at_call 99; refine (hsm _ (by exact HW.out.over HB.out)).mono ?_; rintro e w1 ⟨rfl, h1⟩)
  have HB1 := hide (HB.out.trans (h1.mono HB.out.size))
  have S1 := SS.later h1 SS.lt
  have R1 := RR.later h1 RR.lt
  have hz1 : w.heap.size + 1 < w1.heap.size := R1.lt
  obtain ⟨c0, c1, c2, c3, c4⟩ := S1.val v hv
  clear SS RR h1 HB hsm hRf
  go_upto_region 5 with fail
  have V2 : VAt (w1.alloc (.cells #[.int .i64 (s.V v).tok, .int .i64 (s.V v).sh, .int .i64 (s.V v).lost, .bool (s.V v).jail, .bool (s.V v).dead] 26)) w1.heap.size (s.V v) := heap_alloc_new _ _
  have S2 := S1.alloc (.cells #[.int .i64 (s.V v).tok, .int .i64 (s.V v).sh, .int .i64 (s.V v).lost, .bool (s.V v).jail, .bool (s.V v).dead] 26)
  have R2 := R1.alloc (.cells #[.int .i64 (s.V v).tok, .int .i64 (s.V v).sh, .int .i64 (s.V v).lost, .bool (s.V v).jail, .bool (s.V v).dead] 26)
  have HB2 := hide (HB1.out.alloc (by omega) (.cells #[.int .i64 (s.V v).tok, .int .i64 (s.V v).sh, .int .i64 (s.V v).lost, .bool (s.V v).jail, .bool (s.V v).dead] 26))
  generalize w1.alloc (.cells #[.int .i64 (s.V v).tok, .int .i64 (s.V v).sh, .int .i64 (s.V v).lost, .bool (s.V v).jail, .bool (s.V v).dead] 26) = w2 at *
  clear S1 R1 HB1 c0 c1 c2 c3 c4
  have hz2 : w.heap.size + 1 < w2.heap.size := R2.lt
  have hy2 : w1.heap.size < w2.heap.size := V2.lt
  apply wp_region_lit
  refine wpList_load_mid rfl 32 _ rfl _ 0 rfl _ _ S2.range Tryz.underlying32 rfl (by rw [infoS]; rfl) ?_
  go_step
  go_step
  refine (copy_st3 s ao sb so c _ (by exact HW.out.over HB2.out)).mono ?_
  rintro e w6 ⟨A, C, rfl, hOw, h6⟩
  dsimp only
  have R6 := R2.later h6 R2.lt
  have V6 := V2.later h6 V2.lt
  have S6 := S2.later h6 S2.lt
  have HB6 := hide (HB2.out.trans (h6.mono HB2.out.size))
  have hz6 : w.heap.size + 1 < w6.heap.size := R6.lt
  have hq6 : w1.heap.size < w6.heap.size := V6.lt
  have hW6 := fun k hk => World.ownsRow.lt hOw k hk
  iterate 4 go_step
  refine wpList_store_mid rfl 32 _ _ rfl _ 0 (stC s (.slice A s.W.length C)) rfl rfl ((SAt.new w6 Z63).there 0 _ (by rw [Z63_size, stC_size]; omega)) (by rw [infoS]; rfl) (stC_one _ _ _ _) ?_
  change wpList Tryz.prog _ _ _ _ ((w6.alloc (.cells Z63 32)).setCells w6.heap.size 0 (stC s (.slice A s.W.length C)).toList)
  have S7 := (SAt.new w6 Z63).setAll (ds := stC s (.slice A s.W.length C)) rfl
  have R7 : SAt ((w6.alloc (.cells Z63 32)).setCells w6.heap.size 0 (stC s (.slice A s.W.length C)).toList) (w.heap.size + 1) Z63 := (heap_sets (by omega) _ _ _).trans (R6.alloc _)
  have S7o : SAt ((w6.alloc (.cells Z63 32)).setCells w6.heap.size 0 (stC s (.slice A s.W.length C)).toList) w.heap.size (stC s (.slice ao s.W.length c)) := (heap_sets (by omega) _ _ _).trans (S6.alloc _)
  have V7 : VAt ((w6.alloc (.cells Z63 32)).setCells w6.heap.size 0 (stC s (.slice A s.W.length C)).toList) w1.heap.size (s.V v) := (heap_sets (by omega) _ _ _).trans (V6.later ((Below.refl _ w6).alloc (Nat.le_refl _) _) V6.lt)
  have HB7 := hide (below_sets (b := w6.heap.size) (by omega) (stC s (.slice A s.W.length C)).toList 0 _ (HB6.out.alloc (by omega) (.cells Z63 32)))
  have W7 : OwnW (w2.heap.size + 2) ((w6.alloc (.cells Z63 32)).setCells w6.heap.size 0 (stC s (.slice A s.W.length C)).toList) A C s.W := own_of hOw fun k hk => (heap_sets (by have := (hW6 k hk).2; omega) _ _ _).trans (Below.heap_alloc _ _ _ (hW6 k hk).2)
  generalize (w6.alloc (.cells Z63 32)).setCells w6.heap.size 0 (stC s (.slice A s.W.length C)).toList = w7 at *
  clear S2 R2 V2 R6 V6 S6 HB2 HB6 h6
  obtain ⟨_, _, _, e3, e4⟩ := V7.cells
  obtain ⟨_, _, _, c3, c4⟩ := S7.val v hv
  have f0 := S7.free (7 + v * 5 + 3)
  have f1 := S7.free (7 + v * 5 + 4)
  have hz7 : w6.heap.size < w7.heap.size := S7.lt
  rw [HDD.out] at e4
  go_upto_region 12 with fail
  have S8 := S7.set (7 + v * 5 + 3) (.bool true)
  rw [set_J _ _ v hv] at S8
  have S9 := S8.set (7 + v * 5 + 4) (.bool true)
  rw [set_D _ _ v hv] at S9
  have HS9 := hide S9
  have hBut := ((But.refl w6.heap.size w7).set (7 + v * 5 + 3) (.bool true)).set (7 + v * 5 + 4) (.bool true)
  have HR9 := hide (hBut.stake (by omega) R7)
  have HW9 := hide (own_of W7 (fun k hk => hBut.block k (by have := (hW6 k hk).2; omega)))
  have HB9 := hide (HB7.out.trans (hBut.below (by omega)))
  clear S7 S8 S9 S7o V7 e3 e4 hBut W7
  go_upto_region 14 with fail
  generalize ((w7.setCell ⟨w6.heap.size, 7 + v * 5 + 3, none⟩ (.bool true)).setCell ⟨w6.heap.size, 7 + v * 5 + 4, none⟩ (.bool true)) = w9 at *
  apply wp_region_lit
  refine wpList_load_mid rfl 32 _ rfl _ 0 rfl _ _ HS9.out.range Tryz.underlying32 rfl (by rw [infoS]; rfl) ?_
  refine wpList_store_mid rfl 32 _ _ rfl _ 0 (stC (setJ s v true true) (.slice A s.W.length C)) rfl rfl (HR9.out.there 0 _ (by rw [Z63_size, stC_size]; omega)) (by rw [infoS]; rfl) (stC_one _ _ _ _) ?_
  go_wp2
  have R3 := HR9.out.setAll (ds := stC (setJ s v true true) (.slice A s.W.length C)) rfl
  exact bodyPost_ret (v := .tuple #[.agg (stC (setJ s v true true) (.slice A s.W.length C)), .int .i64 0]) (results_stake2 Tryz.results74 _ _ _ _ _ rfl rfl R3 rfl) rfl ⟨A, C, rfl, Ln.own_base (own_of HW9.out fun k hk => heap_sets (by have := (hW6 k hk).1; omega) _ _ _) (by omega), below_sets (Nat.le_succ _) _ _ _ HB9.out⟩
end Go.Proofs.YtkhlihpghbhppaaGreat

