/- slices.SortFunc of twelve powers at most, by byPower. -/
import Derived.Test.YtfajfebpchfkoaeSQP
set_option maxRecDepth 100000
namespace Go.Proofs.Ytfajfebpchfkoae
open Go.RowKit
set_option maxHeartbeats 4000000 in
theorem pdq_P (g cap : Nat) (lim : Int) (l : List Pw) (w : World) (h : RowAt w g l) (hn : l.length ≤ 12) :
    Calls Try.prog 84 #[.slice (some ⟨g, 0, none⟩) l.length cap, .int .i64 0, .int .i64 (l.length : Int), .int .i64 lim, .func (.func 62) #[] #[]] w fun e w' => e = .returned (.tuple #[]) ∧ RowAt w' g (isort ltP l) ∧ ButB g w w' := by
  have hI := insort_P g cap l w h hn
  have hn' : (l.length : Int) ≤ 12 := by omega
  clear h
  go_enter Try.func84, Try.ntmps84
  go_wp2_with fail
  go_loopw [1, 2] (fun a b wl => a = .int .i64 0 ∧ b = .int .i64 (l.length : Int) ∧ Hid (wl = w)) (fun _ _ _ => 0)
  case atStart => exact ⟨rfl, rfl, rfl⟩
  case round =>
    obtain ⟨rfl, rfl, HW⟩ := hrel
    have e := HW.out
    subst e
    clear HW
    go_wp2_with (go_at_call 93; refine hI.mono ?_; rintro e w1 ⟨rfl, h1⟩; have H1 := hide h1; clear h1)
    exact bodyPost_ret (v := .tuple #[]) (by simp [results, Try.results84]) rfl ⟨rfl, H1.out⟩
theorem bitslen_P (n : Nat) (hn : n ≤ 12) (w : World) : Calls Try.prog 85 #[.int .u64 (n : Int)] w fun e w' => (∃ k, e = .returned (.int .i64 k)) ∧ w = w' := by
  have hL := Ra.len64 n (by omega)
  go_enter Try.func85, Try.ntmps85
  go_wp2_with (go_at_call 102; refine (hL _).mono ?_; rintro e w1 ⟨rfl, rfl⟩)
  go_ret
  exact ⟨⟨_, rfl⟩, rfl⟩
set_option maxHeartbeats 1000000 in
theorem sortf_P (g cap : Nat) (l : List Pw) (w : World) (h : RowAt w g l) (hn : l.length ≤ 12) :
    Calls Try.prog 61 #[.slice (some ⟨g, 0, none⟩) l.length cap, .func (.func 62) #[] #[]] w fun e w' => e = .returned (.tuple #[]) ∧ RowAt w' g (isort ltP l) ∧ ButB g w w' := by
  have hP := fun lim => pdq_P g cap lim l w h hn
  have hL := bitslen_P l.length hn w
  clear h
  go_enter Try.func61, Try.ntmps61
  go_wp2_with (first
    | (go_at_call 85; refine hL.mono ?_; rintro e w1 ⟨⟨k, rfl⟩, rfl⟩)
    | (go_at_call 84; refine (hP _).mono ?_; rintro e w2 ⟨rfl, h1⟩; have H1 := hide h1; clear h1))
  go_end0
  exact ⟨rfl, H1.out⟩
end Go.Proofs.Ytfajfebpchfkoae
