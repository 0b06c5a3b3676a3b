/- Parts of the proof: PVGR SM. -/
import Derived.Test.YtdkalcnlncjgiaaRows
import Derived.Test.YtdkalcnlncjgiaaBK1
import Derived.Test.YtdkalcnlncjgiaaBK47
import Derived.Test.YtdkalcnlncjgiaaBK52
set_option maxRecDepth 100000
namespace Go.Proofs.Ytdkalcnlncjgiaa.Pv
open Go.RowKit
def setB1 (last : Int) (x : Int × Int) : Bool := decide (last < x.1) && decide (x.1 ≤ 5) && decide (1 ≤ x.2) && decide (x.2 ≤ 1125899906842624)
/-- a set: validators that rise, with powers -/
def setB (last : Int) : List (Int × Int) → Bool
  | [] => true
  | x :: l => setB1 last x && setB x.1 l
theorem drop_at' {α : Type} {l : List α} {k : Nat} (h : k < l.length) : ∃ x, l[k]? = some x ∧ l.drop k = x :: l.drop (k + 1) := ⟨l[k], List.getElem?_eq_getElem h, List.drop_eq_getElem_cons h⟩
set_option maxHeartbeats 2000000 in
theorem isset_rep (l : List (Int × Int)) (v : Value) (P : Nat → Prop) (w : World) (h : Rep P w v 2 16 (pwC l)) : Calls Try.prog 39 #[v] w fun e w' => e = .returned (.bool (setB (-1) l)) ∧ Below w.heap.size w w' := by
  obtain ⟨A, C, rfl, hs, -, hc, -⟩ := h.open (pwC_length _) (by decide)
  have HC := hide hc
  have hlen : l.length ≤ 8796093022202 := by omega
  obtain ⟨G, hG⟩ : ∃ G, setB (-1) l = G := ⟨_, rfl⟩
  have HG := hide hG
  rw [hG]
  clear hc h hs hG
  go_enter Try.func39, Try.ntmps39
  go_upto_region 3 with fail
  go_loopw [3, 8] (fun s3 i wl => ∃ (k : Nat) (last : Int), k ≤ l.length ∧ i = .int .i64 (k : Int) ∧ s3 = .int .i64 last ∧ Hid (G = setB last (l.drop k) ∧ Below w.heap.size w wl)) (fun _ i _ => l.length - (intOf i).toNat)
  case atStart => exact ⟨0, -1, Nat.zero_le _, rfl, rfl, HG.out.symm, Below.refl _ _⟩
  case round =>
    obtain ⟨k, last, hk, rfl, rfl, HR⟩ := hrel
    by_cases hlt : k < l.length
    · have hkI : (k : Int) < (l.length : Int) := by omega
      obtain ⟨x, hx, hd⟩ := drop_at' hlt
      obtain ⟨b, off, rfl, -, hbl, hcell⟩ := HC.out (by omega)
      have gx : l.getD k (0, 0) = x := by simp [List.getD, hx]
      obtain ⟨p0, p1⟩ := pwC_get l k hlt
      rw [gx] at p0 p1
      have c0 : wr.cell? ⟨b, off + k * 2, none⟩ = some (.int .i64 x.1) := (HR.out.2.cell (p := ⟨b, off + k * 2, none⟩) hbl).trans (hcell _ _ p0)
      have c1 : wr.cell? ⟨b, off + k * 2 + 1, none⟩ = some (.int .i64 x.2) := (HR.out.2.cell (p := ⟨b, off + k * 2 + 1, none⟩) hbl).trans (hcell _ _ p1)
      have HE : Hid (G = (setB1 last x && setB x.1 (l.drop (k + 1)))) := by have := HR.out.1; rw [hd] at this; exact this
      have HB := hide (HR.out.2.alloc HR.out.2.size (.cells #[.int .i64 x.1, .int .i64 x.2] 64))
      have HO : Hid (∀ last, setB1 last x = (decide (last < x.1) && decide (x.1 ≤ 5) && decide (1 ≤ x.2) && decide (x.2 ≤ 1125899906842624))) := fun _ => rfl
      clear HR hd hx gx p0 p1 hcell
      obtain ⟨x1, x2⟩ := x
      dsimp only at c0 c1
      by_cases h1 : last < x1 ∧ x1 ≤ 5 ∧ 1 ≤ x2 ∧ x2 ≤ 1125899906842624
      · obtain ⟨h1, h2, h3, h4⟩ := h1
        have e : G = setB x1 (l.drop (k + 1)) := by rw [HE.out, HO.out]; simp [h1, h2, h3, h4]
        have HE2 := hide e
        clear e HE
        go_wp2
        first | exact ⟨⟨k + 1, x1, by omega, by go_num, rfl, HE2.out, HB.out⟩, by simp [intOf]; omega⟩ | ((repeat apply Exists.intro); exact ⟨⟨k + 1, x1, by omega, by go_num, rfl, HE2.out, HB.out⟩, rfl⟩)
      · have e : G = false := by
          rw [HE.out, HO.out]
          simp only [Bool.and_eq_false_iff, decide_eq_false_iff_not]
          by_cases q1 : last < x1
          · by_cases q2 : x1 ≤ 5
            · by_cases q3 : 1 ≤ x2
              · exact .inl (.inr fun q4 => h1 ⟨q1, q2, q3, q4⟩)
              · exact .inl (.inl (.inr q3))
            · exact .inl (.inl (.inl (.inr q2)))
          · exact .inl (.inl (.inl (.inl q1)))
        subst e
        clear HE HG
        have hcs : ¬ last < x1 ∨ (last < x1 ∧ ¬ x1 ≤ 5) ∨ (last < x1 ∧ x1 ≤ 5 ∧ ¬ 1 ≤ x2) ∨ (last < x1 ∧ x1 ≤ 5 ∧ 1 ≤ x2 ∧ ¬ x2 ≤ 1125899906842624) := by omega
        clear h1
        rcases hcs with h1 | ⟨h1, h2⟩ | ⟨h1, h2, h3⟩ | ⟨h1, h2, h3, h4⟩
        all_goals
          go_wp2
          go_ret
          exact ⟨rfl, HB.out⟩
    · obtain rfl : k = l.length := by omega
      have e : G = true := by have := HR.out.1; rw [List.drop_length] at this; exact this
      subst e
      go_wp2
      go_ret
      exact ⟨rfl, HR.out.2⟩
end Go.Proofs.Ytdkalcnlncjgiaa.Pv

set_option maxRecDepth 100000
namespace Go.Proofs.Ytdkalcnlncjgiaa
def isV (v : Int) : Bool := decide (0 ≤ v ∧ v < 6)
theorem isV_iff {n : Int} : isV n = true ↔ 0 ≤ n ∧ n < 6 := decide_eq_true_iff
end Go.Proofs.Ytdkalcnlncjgiaa

