/- Parts of the proof: LC. -/
import Derived.Test.YtnfigdecgkcgcabRows
import Derived.Test.YtnfigdecgkcgcabAK1
import Derived.OwnWalk
import Derived.Deep.OwnRows
set_option maxRecDepth 100000
namespace Go.Proofs.Ytnfigdecgkcgcab.Ln
open Go.RowKit
theorem infoStr : (Try.prog.info? 9).map (fun i => (i.zero, i.size, i.bytes)) = some (some (.string ⟨#[]⟩), 1, 16) := by kernel_rfl
theorem infoI : (Try.prog.info? 3).map (fun i => (i.zero, i.size, i.bytes)) = some (some (.int .i64 0), 1, 8) := by kernel_rfl
/-- what an own row holds lies there -/
theorem own_strs {B : Nat} {w : World} {g n c e : Nat} {l : List ByteArray} (h : w.ownsRow B e 1 (.slice (some ⟨g, 0, none⟩) n c) n (l.map .string)) : B ≤ g ∧ g < w.heap.size ∧ StrsAt w g 0 l := by
  rcases h.2 with ⟨h1, _⟩ | ⟨g', cap, cur, hv, hb, hg, hn, hm, hs, ht⟩
  · cases h1
  · cases hv
    refine ⟨hb, (Array.getElem?_eq_some_iff.1 hg).1, fun i hi => ?_⟩
    have hl : l.length = n := by have := h.1; simpa using this
    have : (cur.toList.take (n * 1))[i]? = some (.string (l.getD i ByteArray.empty)) := by rw [ht]; simp [List.getD, hi]
    rw [List.getElem?_take_of_lt (by omega)] at this
    simp only [World.cell?, hg, Nat.zero_add]
    simpa using this
theorem own_ints {B : Nat} {w : World} {g n c e : Nat} {l : List Int} (h : w.ownsRow B e 1 (.slice (some ⟨g, 0, none⟩) n c) n (l.map (.int .i64))) : B ≤ g ∧ g < w.heap.size ∧ IntsAt w g 0 l := by
  rcases h.2 with ⟨h1, _⟩ | ⟨g', cap, cur, hv, hb, hg, hn, hm, hs, ht⟩
  · cases h1
  · cases hv
    refine ⟨hb, (Array.getElem?_eq_some_iff.1 hg).1, fun i hi => ?_⟩
    have hl : l.length = n := by have := h.1; simpa using this
    have : (cur.toList.take (n * 1))[i]? = some (.int .i64 (l.getD i 0)) := by rw [ht]; simp [List.getD, hi]
    rw [List.getElem?_take_of_lt (by omega)] at this
    simp only [World.cell?, hg, Nat.zero_add]
    simpa using this
theorem withs_src {w : World} {b off : Nat} {l : List ByteArray} {a : Option Addr} (ha : 0 < l.length → a = some ⟨b, off, none⟩) (hc : StrsAt w b off l) : ∀ ad, a = some ad → ∀ j u, (l.map Value.string)[j]? = some u → w.cell? (ad.add j) = some u := by
  intro ad e j u hu
  have hj : j < l.length := by have := (List.getElem?_eq_some_iff.1 hu).1; simpa using this
  rw [ha (by omega)] at e
  cases e
  rw [Addr.add_lit, hc j hj]
  simp [hj] at hu
  simp [List.getD, hj, hu]
set_option maxHeartbeats 1000000 in
theorem withs_any (l : List ByteArray) (a : Option Addr) (c b off : Nat) (s : ByteArray) (w : World) (hl : l.length ≤ 400) (ha : 0 < l.length → a = some ⟨b, off, none⟩) (hn : a = none → c = 0) (hc : StrsAt w b off l) :
    Calls Try.prog 38 #[.slice a l.length c, Value.string s] w fun e w' => ∃ g C, e = .returned (.slice (some ⟨g, 0, none⟩) (l ++ [s]).length C) ∧ w.heap.size ≤ g ∧ g < w'.heap.size ∧ StrsAt w' g 0 (l ++ [s]) ∧ Below w.heap.size w w' := by
  obtain ⟨i0, hi, hz0, hz1, hz2⟩ := info_parts infoStr
  have hb1 : i0.bytes * (l.length + 1) ≤ 281474976710656 := by rw [hz2]; omega
  have hb2 : l.length + 1 ≤ maxLen := by unfold maxLen; omega
  have hnn : a = none → l.length = 0 ∧ c = 0 := fun e => by
    refine ⟨?_, hn e⟩
    rcases Nat.eq_zero_or_pos l.length with h | h
    · exact h
    · rw [ha h] at e; cases e
  have HC : Hid (0 < l.length → a = some ⟨b, off, none⟩) := ha
  have HD : Hid (StrsAt w b off l) := hc
  have h1c : ∀ u ∈ l.map Value.string, u.oneCell' = true := fun u hu => by
    simp at hu
    obtain ⟨t, _, rfl⟩ := hu
    rfl
  clear ha hc hn
  go_enter Try.func38, Try.ntmps38
  go_wp2_with (first
    | (refine wpList_make_own _ rfl _ _ 26 rfl w.heap.size 9 i0 _ 1 Try.underlying26 hi hz0 hz1 .i64 .i64 _ (l.length + 1) rfl rfl ?_ hb1 hb2 (Nat.le_refl _) ?_
       · first | omega | simp
       intro w1 ho1 hg1
       have B1 := (Below.refl w.heap.size w).grown hg1 (Nat.le_refl _) (fun k hk => by cases hk)
       have HB1 := hide B1
       have sc := withs_src HC.out (HD.out.later B1)
       clear B1 hg1)
    | (have _m := sc
       at_builtin
       refine wpList_append_fits_any _ rfl _ _ 26 rfl w.heap.size 9 i0 1 Try.underlying26 hi hz1 w.heap.size 0 (l.length + 1) [] rfl ho1 a l.length c (l.map Value.string) rfl (by simp) hnn sc h1c (by omega) ?_
       intro w2 ho2 hg2
       have HB2 := hide (HB1.out.grown hg2 HB1.out.size (fun k hk => by cases hk; exact Nat.le_refl _))
       rw [List.nil_append, Nat.zero_add] at ho2
       clear hg2 sc ho1)
    | (at_builtin
       refine wpList_append_fits _ rfl _ _ 26 rfl w.heap.size 9 i0 1 Try.underlying26 hi hz1 w.heap.size l.length (l.length + 1) (l.map Value.string) ?_ (World.ownsRow.alloc ho2 _) ⟨w2.heap.size, 0, none⟩ 1 1 [Value.string s] rfl rfl (cell_one_new _ _ _) (by simp [Value.oneCell']) (by omega) ?_
       · first | rfl | simp
       intro w3 ho3 hg3
       have HB3 := hide ((HB2.out.alloc HB2.out.size _).grown hg3 (Nat.le_trans HB2.out.size (by simp)) (fun k hk => by cases hk; exact Nat.le_refl _))))
  go_ret
  rw [show l.map Value.string ++ [Value.string s] = (l ++ [s]).map Value.string by simp] at ho3
  obtain ⟨o1, o2, o3⟩ := own_strs ho3
  exact ⟨w.heap.size, l.length + 1, by simp, Nat.le_refl _, o2, o3, HB3.out⟩
theorem withi_src {w : World} {b off : Nat} {l : List Int} {a : Option Addr} (ha : 0 < l.length → a = some ⟨b, off, none⟩) (hc : IntsAt w b off l) : ∀ ad, a = some ad → ∀ j u, (l.map (Value.int .i64))[j]? = some u → w.cell? (ad.add j) = some u := by
  intro ad e j u hu
  have hj : j < l.length := by have := (List.getElem?_eq_some_iff.1 hu).1; simpa using this
  rw [ha (by omega)] at e
  cases e
  rw [Addr.add_lit, hc j hj]
  simp [hj] at hu
  simp [List.getD, hj, hu]
set_option maxHeartbeats 1000000 in
theorem withi_any (l : List Int) (a : Option Addr) (c b off : Nat) (s : Int) (w : World) (hl : l.length ≤ 400) (ha : 0 < l.length → a = some ⟨b, off, none⟩) (hn : a = none → c = 0) (hc : IntsAt w b off l) :
    Calls Try.prog 39 #[.slice a l.length c, (Value.int .i64) s] w fun e w' => ∃ g C, e = .returned (.slice (some ⟨g, 0, none⟩) (l ++ [s]).length C) ∧ w.heap.size ≤ g ∧ g < w'.heap.size ∧ IntsAt w' g 0 (l ++ [s]) ∧ Below w.heap.size w w' := by
  obtain ⟨i0, hi, hz0, hz1, hz2⟩ := info_parts infoI
  have hb1 : i0.bytes * (l.length + 1) ≤ 281474976710656 := by rw [hz2]; omega
  have hb2 : l.length + 1 ≤ maxLen := by unfold maxLen; omega
  have hnn : a = none → l.length = 0 ∧ c = 0 := fun e => by
    refine ⟨?_, hn e⟩
    rcases Nat.eq_zero_or_pos l.length with h | h
    · exact h
    · rw [ha h] at e; cases e
  have HC : Hid (0 < l.length → a = some ⟨b, off, none⟩) := ha
  have HD : Hid (IntsAt w b off l) := hc
  have h1c : ∀ u ∈ l.map (Value.int .i64), u.oneCell' = true := fun u hu => by
    simp at hu
    obtain ⟨t, _, rfl⟩ := hu
    rfl
  clear ha hc hn
  go_enter Try.func39, Try.ntmps39
  go_wp2_with (first
    | (refine wpList_make_own _ rfl _ _ 27 rfl w.heap.size 3 i0 _ 1 Try.underlying27 hi hz0 hz1 .i64 .i64 _ (l.length + 1) rfl rfl ?_ hb1 hb2 (Nat.le_refl _) ?_
       · first | omega | simp
       intro w1 ho1 hg1
       have B1 := (Below.refl w.heap.size w).grown hg1 (Nat.le_refl _) (fun k hk => by cases hk)
       have HB1 := hide B1
       have sc := withi_src HC.out (HD.out.later B1)
       clear B1 hg1)
    | (have _m := sc
       at_builtin
       refine wpList_append_fits_any _ rfl _ _ 27 rfl w.heap.size 3 i0 1 Try.underlying27 hi hz1 w.heap.size 0 (l.length + 1) [] rfl ho1 a l.length c (l.map (Value.int .i64)) rfl (by simp) hnn sc h1c (by omega) ?_
       intro w2 ho2 hg2
       have HB2 := hide (HB1.out.grown hg2 HB1.out.size (fun k hk => by cases hk; exact Nat.le_refl _))
       rw [List.nil_append, Nat.zero_add] at ho2
       clear hg2 sc ho1)
    | (at_builtin
       refine wpList_append_fits _ rfl _ _ 27 rfl w.heap.size 3 i0 1 Try.underlying27 hi hz1 w.heap.size l.length (l.length + 1) (l.map (Value.int .i64)) ?_ (World.ownsRow.alloc ho2 _) ⟨w2.heap.size, 0, none⟩ 1 1 [(Value.int .i64) s] rfl rfl (cell_one_new _ _ _) (by simp [Value.oneCell']) (by omega) ?_
       · first | rfl | simp
       intro w3 ho3 hg3
       have HB3 := hide ((HB2.out.alloc HB2.out.size _).grown hg3 (Nat.le_trans HB2.out.size (by simp)) (fun k hk => by cases hk; exact Nat.le_refl _))))
  go_ret
  rw [show l.map (Value.int .i64) ++ [(Value.int .i64) s] = (l ++ [s]).map (Value.int .i64) by simp] at ho3
  obtain ⟨o1, o2, o3⟩ := own_ints ho3
  exact ⟨w.heap.size, l.length + 1, by simp, Nat.le_refl _, o2, o3, HB3.out⟩
end Go.Proofs.Ytnfigdecgkcgcab.Ln

