/- Parts of the proof: PDR. -/
import Derived.Test.YtnfigdecgkcgcaaRows
import Derived.Test.YtnfigdecgkcgcaaCK6
import Derived.Test.YtnfigdecgkcgcaaCK15
set_option maxRecDepth 100000
namespace Go.Proofs.Ytnfigdecgkcgcaa.Pv
open Go.RowKit
def isT (n : Int) : Bool := decide (0 ≤ n) && decide (n ≤ 1099511627776)
/-- P7.5 -/
def pktOf (l : List Int) : Pkt := ⟨(Cd.decP l).1, (Cd.decP l).2.1, (Cd.decP l).2.2.1, (Cd.decP l).2.2.2.1, (Cd.decP l).2.2.2.2.1, (Cd.decP l).2.2.2.2.2⟩
/-- one element is put behind a list that has no room: a new block -/
theorem apR {P : Nat → Prop} (t e : TypeId) (i0 : TypeInfo) (z : Value) (hu : Try.prog.underlying t = some (.slice e)) (hi : Try.prog.info? e = some i0) (hz0 : i0.zero = some z) (w : World) (A : Option Addr) (n y bt : Nat) (cs news : List Value) (hr : Rep P w (.slice A n n) i0.size bt cs) (hb : n * i0.bytes ≤ 140737488351232) (hb1 : 0 < i0.bytes) (hb2 : i0.bytes ≤ 1000) (hl : news.length = i0.size) (hy : ∀ j v, news[j]? = some v → w.cell? ⟨y, j, none⟩ = some v) :
    ∃ C w', (Builtin.append_ #[t, t] t #[.slice A n n, .slice (some ⟨y, 0, none⟩) 1 1]).run Try.prog w = .ok (.slice (some ⟨w.heap.size, 0, none⟩) (n + 1) C) w' ∧ n + 1 ≤ C ∧ (∀ j u, (cs ++ news)[j]? = some u → w'.cell? ⟨w.heap.size, j, none⟩ = some u) ∧ Below w.heap.size w w' ∧ w.heap.size < w'.heap.size := by
  have hnews : ∀ j v, news[j]? = some v → w.cell? ((⟨y, 0, none⟩ : Addr).add j) = some v := fun j v hv => by rw [Addr.add_lit, Nat.zero_add]; exact hy j v hv
  have hn63 : n ≤ 140737488351232 := by
    have := Nat.le_mul_of_pos_right n hb1
    omega
  obtain ⟨A', n', C', h1, h2, h3, h4, h5⟩ := hr
  cases h1
  have new : ∀ (arr tail : Array Value), arr.toList = cs ++ news → ∀ j u, (cs ++ news)[j]? = some u → (w.drew.alloc (.cells (arr ++ tail) e)).cell? ⟨w.heap.size, j, none⟩ = some u := fun arr tail ha j u hj => by
    have hj' : arr[j]? = some u := by rw [← ha] at hj; simpa using hj
    have hlt := (Array.getElem?_eq_some_iff.1 hj').1
    have h : (w.drew.alloc (.cells (arr ++ tail) e)).heap[w.heap.size]? = some (.cells (arr ++ tail) e) := heap_alloc_new w.drew _
    simp only [World.cell?, h]
    rw [Array.getElem?_append_left hlt]
    simp [hj']
  cases A with
  | none =>
    have h0 : n = 0 := by
      rcases Nat.eq_zero_or_pos n with h | h
      · exact h
      · obtain ⟨b, off, e, _⟩ := h5 h; cases e
    subst h0
    have hc0 : cs = [] := List.length_eq_zero_iff.1 (by rw [h2, Nat.zero_mul])
    subst hc0
    refine ⟨_, _, run_append_nil (P := Try.prog) w t t e i0 z hu hi hz0 ⟨y, 0, none⟩ 1 1 news (by rw [hl, Nat.one_mul]) hnews (by omega) (by omega) (by omega), grownCap_ge _ _ _ _, ?_, (Below.refl _ w).drew.alloc (Nat.le_refl _) _, by simp⟩
    exact new _ _ (by simp)
  | some a =>
    have hold : ∀ j v, cs[j]? = some v → w.cell? (a.add j) = some v := fun j v hv => by
      have h0 : 0 < n := by
        rcases Nat.eq_zero_or_pos n with h | h
        · subst h
          have := (List.getElem?_eq_some_iff.1 hv).1
          rw [h2, Nat.zero_mul] at this
          omega
        · exact h
      obtain ⟨b, off, e, _, _, hc⟩ := h5 h0
      cases e
      rw [Addr.add_lit]
      exact hc j v hv
    have hcap : Builtin.nextslicecap (n + 1) n * i0.bytes ≤ 281474976710656 := by
      rcases Nat.eq_zero_or_pos n with rfl | hp
      · rw [nextslicecap_zero (by omega)]; omega
      · have := Nat.mul_le_mul_right i0.bytes (nextslicecap_succ hp)
        rw [Nat.mul_assoc] at this
        omega
    refine ⟨_, _, run_append_grow (P := Try.prog) w t t e i0 z hu hi hz0 a n n cs h2 hold ⟨y, 0, none⟩ 1 1 news (by rw [hl, Nat.one_mul]) hnews (by omega) (by omega) hcap, grownCap_ge _ _ _ _, ?_, (Below.refl _ w).drew.alloc (Nat.le_refl _) _, by simp⟩
    exact new _ _ (by simp)
theorem Rep.clip {P : Nat → Prop} {w : World} {A : Option Addr} {n C sz bts : Nat} {cs : List Value} (h : Rep P w (.slice A n C) sz bts cs) : Rep P w (.slice A n n) sz bts cs := by
  obtain ⟨A', n', C', h1, h2, h3, h4, h5⟩ := h
  cases h1
  refine ⟨A, n, n, rfl, h2, h3, ⟨fun e => ?_, Nat.le_refl _⟩, h5⟩
  have := h4.1 e
  omega
end Go.Proofs.Ytnfigdecgkcgcaa.Pv

