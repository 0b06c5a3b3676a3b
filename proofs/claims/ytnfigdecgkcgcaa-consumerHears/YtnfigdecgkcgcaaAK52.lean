/- Parts of the proof: PDR PVGR. -/
import Derived.Test.YtnfigdecgkcgcaaRows
import Derived.Test.YtnfigdecgkcgcaaAK47
import Derived.Test.YtnfigdecgkcgcaaAK51
import Derived.Test.YtnfigdecgkcgcaaAK53
set_option maxRecDepth 100000
namespace Go.Proofs.Ytnfigdecgkcgcaa.Pv
open Go.RowKit
def isT (n : Int) : Bool := decide (0 ≤ n) && decide (n ≤ 1099511627776)
/-- P7.5 -/
def pktOf (l : List Int) : Pkt := ⟨(Cd.decP l).1, (Cd.decP l).2.1, (Cd.decP l).2.2.1, (Cd.decP l).2.2.2.1, (Cd.decP l).2.2.2.2.1, (Cd.decP l).2.2.2.2.2⟩
/-- one element is put behind a list that has no room: a new block -/
theorem apR {P : Nat → Prop} (t e : TypeId) (i0 : TypeInfo) (z : Value) (hu : Try.prog.underlying t = some (.slice e)) (hi : Try.prog.info? e = some i0) (hz0 : i0.zero = some z) (w : World) (A : Option Addr) (n y bt : Nat) (cs news : List Value) (hr : Rep P w (.slice A n n) i0.size bt cs) (hb : n * i0.bytes ≤ 140737488351232) (hb1 : 0 < i0.bytes) (hb2 : i0.bytes ≤ 1000) (hl : news.length = i0.size) (hy : ∀ j v, news[j]? = some v → w.cell? ⟨y, j, none⟩ = some v) :
    ∃ C w', (Builtin.append_ #[t, t] t #[.slice A n n, .slice (some ⟨y, 0, none⟩) 1 1]).run Try.prog w = .ok (.slice (some ⟨w.heap.size, 0, none⟩) (n + 1) C) w' ∧ n + 1 ≤ C ∧ (∀ j u, (cs ++ news)[j]? = some u → w'.cell? ⟨w.heap.size, j, none⟩ = some u) ∧ Below w.heap.size w w' ∧ w.heap.size < w'.heap.size := by
  have hnews : ∀ j v, news[j]? = some v → w.cell? ((⟨y, 0, none⟩ : Addr).add j) = some v := fun j v hv => by rw [Addr.add_lit, Nat.zero_add]; exact hy j v hv
  have hn63 : n ≤ 140737488351232 := by
    have := Nat.le_mul_of_pos_right n hb1
    omega
  obtain ⟨A', n', C', h1, h2, h3, h4, h5⟩ := hr
  cases h1
  have new : ∀ (arr tail : Array Value), arr.toList = cs ++ news → ∀ j u, (cs ++ news)[j]? = some u → (w.drew.alloc (.cells (arr ++ tail) e)).cell? ⟨w.heap.size, j, none⟩ = some u := fun arr tail ha j u hj => by
    have hj' : arr[j]? = some u := by rw [← ha] at hj; simpa using hj
    have hlt := (Array.getElem?_eq_some_iff.1 hj').1
    have h : (w.drew.alloc (.cells (arr ++ tail) e)).heap[w.heap.size]? = some (.cells (arr ++ tail) e) := heap_alloc_new w.drew _
    simp only [World.cell?, h]
    rw [Array.getElem?_append_left hlt]
    simp [hj']
  cases A with
  | none =>
    have h0 : n = 0 := by
      rcases Nat.eq_zero_or_pos n with h | h
      · exact h
      · obtain ⟨b, off, e, _⟩ := h5 h; cases e
    subst h0
    have hc0 : cs = [] := List.length_eq_zero_iff.1 (by rw [h2, Nat.zero_mul])
    subst hc0
    refine ⟨_, _, run_append_nil (P := Try.prog) w t t e i0 z hu hi hz0 ⟨y, 0, none⟩ 1 1 news (by rw [hl, Nat.one_mul]) hnews (by omega) (by omega) (by omega), grownCap_ge _ _ _ _, ?_, (Below.refl _ w).drew.alloc (Nat.le_refl _) _, by simp⟩
    exact new _ _ (by simp)
  | some a =>
    have hold : ∀ j v, cs[j]? = some v → w.cell? (a.add j) = some v := fun j v hv => by
      have h0 : 0 < n := by
        rcases Nat.eq_zero_or_pos n with h | h
        · subst h
          have := (List.getElem?_eq_some_iff.1 hv).1
          rw [h2, Nat.zero_mul] at this
          omega
        · exact h
      obtain ⟨b, off, e, _, _, hc⟩ := h5 h0
      cases e
      rw [Addr.add_lit]
      exact hc j v hv
    have hcap : Builtin.nextslicecap (n + 1) n * i0.bytes ≤ 281474976710656 := by
      rcases Nat.eq_zero_or_pos n with rfl | hp
      · rw [nextslicecap_zero (by omega)]; omega
      · have := Nat.mul_le_mul_right i0.bytes (nextslicecap_succ hp)
        rw [Nat.mul_assoc] at this
        omega
    refine ⟨_, _, run_append_grow (P := Try.prog) w t t e i0 z hu hi hz0 a n n cs h2 hold ⟨y, 0, none⟩ 1 1 news (by rw [hl, Nat.one_mul]) hnews (by omega) (by omega) hcap, grownCap_ge _ _ _ _, ?_, (Below.refl _ w).drew.alloc (Nat.le_refl _) _, by simp⟩
    exact new _ _ (by simp)
theorem Rep.clip {P : Nat → Prop} {w : World} {A : Option Addr} {n C sz bts : Nat} {cs : List Value} (h : Rep P w (.slice A n C) sz bts cs) : Rep P w (.slice A n n) sz bts cs := by
  obtain ⟨A', n', C', h1, h2, h3, h4, h5⟩ := h
  cases h1
  refine ⟨A, n, n, rfl, h2, h3, ⟨fun e => ?_, Nat.le_refl _⟩, h5⟩
  have := h4.1 e
  omega
end Go.Proofs.Ytnfigdecgkcgcaa.Pv

set_option maxRecDepth 100000
namespace Go.Proofs.Ytnfigdecgkcgcaa.Pv
open Go.RowKit
def setB1 (last : Int) (x : Int × Int) : Bool := decide (last < x.1) && decide (x.1 ≤ 5) && decide (1 ≤ x.2) && decide (x.2 ≤ 1125899906842624)
/-- a set: validators that rise, with powers -/
def setB (last : Int) : List (Int × Int) → Bool
  | [] => true
  | x :: l => setB1 last x && setB x.1 l
theorem drop_at' {α : Type} {l : List α} {k : Nat} (h : k < l.length) : ∃ x, l[k]? = some x ∧ l.drop k = x :: l.drop (k + 1) := ⟨l[k], List.getElem?_eq_getElem h, List.drop_eq_getElem_cons h⟩
set_option maxHeartbeats 2000000 in
theorem isset_rep (l : List (Int × Int)) (v : Value) (P : Nat → Prop) (w : World) (h : Rep P w v 2 16 (pwC l)) : Calls Try.prog 49 #[v] w fun e w' => e = .returned (.bool (setB (-1) l)) ∧ Below w.heap.size w w' := by
  obtain ⟨A, C, rfl, hs, -, hc, -⟩ := h.open (pwC_length _) (by decide)
  have HC := hide hc
  have hlen : l.length ≤ 8796093022202 := by omega
  obtain ⟨G, hG⟩ : ∃ G, setB (-1) l = G := ⟨_, rfl⟩
  have HG := hide hG
  rw [hG]
  clear hc h hs hG
  go_enter Try.func49, Try.ntmps49
  go_upto_region 3 with fail
  go_loopw [3, 8] (fun s3 i wl => ∃ (k : Nat) (last : Int), k ≤ l.length ∧ i = .int .i64 (k : Int) ∧ s3 = .int .i64 last ∧ Hid (G = setB last (l.drop k) ∧ Below w.heap.size w wl)) (fun _ i _ => l.length - (intOf i).toNat)
  case atStart => exact ⟨0, -1, Nat.zero_le _, rfl, rfl, HG.out.symm, Below.refl _ _⟩
  case round =>
    obtain ⟨k, last, hk, rfl, rfl, HR⟩ := hrel
    by_cases hlt : k < l.length
    · have hkI : (k : Int) < (l.length : Int) := by omega
      obtain ⟨x, hx, hd⟩ := drop_at' hlt
      obtain ⟨b, off, rfl, -, hbl, hcell⟩ := HC.out (by omega)
      have gx : l.getD k (0, 0) = x := by simp [List.getD, hx]
      obtain ⟨p0, p1⟩ := pwC_get l k hlt
      rw [gx] at p0 p1
      have c0 : wr.cell? ⟨b, off + k * 2, none⟩ = some (.int .i64 x.1) := (HR.out.2.cell (p := ⟨b, off + k * 2, none⟩) hbl).trans (hcell _ _ p0)
      have c1 : wr.cell? ⟨b, off + k * 2 + 1, none⟩ = some (.int .i64 x.2) := (HR.out.2.cell (p := ⟨b, off + k * 2 + 1, none⟩) hbl).trans (hcell _ _ p1)
      have HE : Hid (G = (setB1 last x && setB x.1 (l.drop (k + 1)))) := by have := HR.out.1; rw [hd] at this; exact this
      have HB := hide (HR.out.2.alloc HR.out.2.size (.cells #[.int .i64 x.1, .int .i64 x.2] 61))
      have HO : Hid (∀ last, setB1 last x = (decide (last < x.1) && decide (x.1 ≤ 5) && decide (1 ≤ x.2) && decide (x.2 ≤ 1125899906842624))) := fun _ => rfl
      clear HR hd hx gx p0 p1 hcell
      obtain ⟨x1, x2⟩ := x
      dsimp only at c0 c1
      by_cases h1 : last < x1 ∧ x1 ≤ 5 ∧ 1 ≤ x2 ∧ x2 ≤ 1125899906842624
      · obtain ⟨h1, h2, h3, h4⟩ := h1
        have e : G = setB x1 (l.drop (k + 1)) := by rw [HE.out, HO.out]; simp [h1, h2, h3, h4]
        have HE2 := hide e
        clear e HE
        go_wp2
        first | exact ⟨⟨k + 1, x1, by omega, by go_num, rfl, HE2.out, HB.out⟩, by simp [intOf]; omega⟩ | ((repeat apply Exists.intro); exact ⟨⟨k + 1, x1, by omega, by go_num, rfl, HE2.out, HB.out⟩, rfl⟩)
      · have e : G = false := by
          rw [HE.out, HO.out]
          simp only [Bool.and_eq_false_iff, decide_eq_false_iff_not]
          by_cases q1 : last < x1
          · by_cases q2 : x1 ≤ 5
            · by_cases q3 : 1 ≤ x2
              · exact .inl (.inr fun q4 => h1 ⟨q1, q2, q3, q4⟩)
              · exact .inl (.inl (.inr q3))
            · exact .inl (.inl (.inl (.inr q2)))
          · exact .inl (.inl (.inl (.inl q1)))
        subst e
        clear HE HG
        have hcs : ¬ last < x1 ∨ (last < x1 ∧ ¬ x1 ≤ 5) ∨ (last < x1 ∧ x1 ≤ 5 ∧ ¬ 1 ≤ x2) ∨ (last < x1 ∧ x1 ≤ 5 ∧ 1 ≤ x2 ∧ ¬ x2 ≤ 1125899906842624) := by omega
        clear h1
        rcases hcs with h1 | ⟨h1, h2⟩ | ⟨h1, h2, h3⟩ | ⟨h1, h2, h3, h4⟩
        all_goals
          go_wp2
          go_ret
          exact ⟨rfl, HB.out⟩
    · obtain rfl : k = l.length := by omega
      have e : G = true := by have := HR.out.1; rw [List.drop_length] at this; exact this
      subst e
      go_wp2
      go_ret
      exact ⟨rfl, HR.out.2⟩
end Go.Proofs.Ytnfigdecgkcgcaa.Pv

