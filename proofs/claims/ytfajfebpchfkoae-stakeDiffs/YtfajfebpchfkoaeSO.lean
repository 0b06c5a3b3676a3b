/- Powers compared: cmp.Compare, byNumber, byPower. -/
import Derived.Test.YtfajfebpchfkoaeSA
import Derived.WalkKit
import Derived.WalkSmall
import Derived.Below
set_option maxRecDepth 100000
namespace Go.Proofs.Ytfajfebpchfkoae
open Go.RowKit
def cmpI (x y : Int) : Int := if x < y then -1 else if y < x then 1 else 0
theorem cmpI_eq (x y : Int) : cmpI x y = if x < y then -1 else if y < x then 1 else 0 := rfl
def cmpV (a b : Int × Int) : Int := cmpI a.1 b.1
def cmpP (a b : Int × Int) : Int := if a.2 = b.2 then cmpV a b else cmpI b.2 a.2
theorem isnan_any (x : Int) (w : World) : Calls Try.prog 103 #[.int .i64 x] w fun e w' => e = .returned (.bool false) ∧ w = w' := by
  go_enter Try.func103, Try.ntmps103
  go_wp2
  go_ret
  exact ⟨by simp, rfl⟩
theorem cmpi_any (x y : Int) (w : World) : Calls Try.prog 86 #[.int .i64 x, .int .i64 y] w fun e w' => e = .returned (.int .i64 (cmpI x y)) ∧ w = w' := by
  have HC := hide (cmpI_eq x y)
  generalize cmpI x y = r at *
  go_enter Try.func86, Try.ntmps86
  go_wp2_with (go_at_call 103; refine (isnan_any _ _).mono ?_; rintro e w1 ⟨rfl, rfl⟩)
  all_goals (go_ret; refine ⟨?_, rfl⟩; have h := HC.out; first | (simp_all; done) | (simp_all; omega) | (rw [h, if_neg (by omega), if_neg (by omega)]; rfl) | (rw [h, if_neg (by omega), if_pos (by omega)]; rfl) | (rw [h, if_pos (by omega)]; rfl))
theorem byNumber_any (a b : Int × Int) (w : World) : Calls Try.prog 63 #[.agg #[.int .i64 a.1, .int .i64 a.2], .agg #[.int .i64 b.1, .int .i64 b.2]] w fun e w' => e = .returned (.int .i64 (cmpV a b)) ∧ Below w.heap.size w w' := by
  have hc := cmpi_any a.1 b.1
  unfold cmpV
  generalize cmpI a.1 b.1 = r at *
  go_enter Try.func63, Try.ntmps63
  go_wp2_with (go_at_call 86; refine (hc _).mono ?_; rintro e w1 ⟨rfl, rfl⟩)
  go_ret
  exact ⟨rfl, ((Below.refl _ _).alloc (Nat.le_refl _) _).alloc (by simp) _⟩
theorem byPower_any (a b : Int × Int) (w : World) : Calls Try.prog 62 #[.agg #[.int .i64 a.1, .int .i64 a.2], .agg #[.int .i64 b.1, .int .i64 b.2]] w fun e w' => e = .returned (.int .i64 (cmpP a b)) ∧ Below w.heap.size w w' := by
  have hc := cmpi_any b.2 a.2
  have hn := fun w => byNumber_any a b w
  by_cases h : a.2 = b.2
  · have e : cmpP a b = cmpV a b := if_pos h
    rw [e]
    generalize cmpV a b = r at *
    have hb : (a.2 != b.2) = false := by simpa using h
    clear hc
    obtain ⟨a1, a2⟩ := a
    obtain ⟨b1, b2⟩ := b
    simp only at *
    subst h
    go_enter Try.func62, Try.ntmps62
    go_wp2_with (go_at_call 63; refine (hn _).mono ?_; rintro e w1 ⟨rfl, h1⟩)
    go_ret
    exact ⟨rfl, (((Below.refl _ _).alloc (Nat.le_refl _) _).alloc (by simp) _).trans (h1.mono (by simp; omega))⟩
  · have e : cmpP a b = cmpI b.2 a.2 := if_neg h
    rw [e]
    generalize cmpI b.2 a.2 = r at *
    have hb : (a.2 != b.2) = true := by simpa using h
    go_enter Try.func62, Try.ntmps62
    go_wp2_with (go_at_call 86; refine (hc _).mono ?_; rintro e w1 ⟨rfl, rfl⟩)
    go_ret
    exact ⟨rfl, ((Below.refl _ _).alloc (Nat.le_refl _) _).alloc (by simp) _⟩
end Go.Proofs.Ytfajfebpchfkoae
