/- Parts of the proof: KDF. -/
import Derived.Test.YtdkalcnlncjgiaaRows
import Derived.Test.YtdkalcnlncjgiaaBK14
import Derived.Test.YtdkalcnlncjgiaaBK47
set_option maxRecDepth 100000
namespace Go.Proofs.Ytdkalcnlncjgiaa.Kc
open Go.RowKit Pv
theorem pw_pin {P : Nat → Prop} {w : World} {v : Value} {l : List (Int × Int)} (h : Rep P w v 2 16 (pwC l)) : ∃ A C b off, v = .slice A l.length C ∧ Df.PIn w l A b off := by
  obtain ⟨A, C, rfl, hs, -, hc, -⟩ := h.open (pwC_length _) (by decide)
  rcases Nat.eq_zero_or_pos l.length with h0 | h0
  · exact ⟨A, C, 0, 0, rfl, by omega, fun h => by omega, fun i hi => by omega⟩
  · obtain ⟨b, off, e, -, -, hcell⟩ := hc h0
    exact ⟨A, C, b, off, rfl, by omega, fun _ => e, fun i hi => ⟨hcell _ _ (pwC_get l i hi).1, hcell _ _ (pwC_get l i hi).2⟩⟩
theorem pwL_eq : ∀ l : List (Int × Int), pwL l = pwC l
  | [] => rfl
  | x :: l => by
    show Value.int .i64 x.1 :: Value.int .i64 x.2 :: pwL l = [Value.int .i64 x.1, Value.int .i64 x.2] ++ pwC l
    rw [pwL_eq l]
    rfl
theorem pows_rep {w : World} {B : Nat} {v : Value} {l : List (Int × Int)} (h : Pows w B v l) (hl : l.length ≤ 6) : Rep (fun b => B ≤ b) w v 2 16 (pwC l) := by
  have h' : w.ownsRow B 64 2 v l.length (pwC l) := by rw [← pwL_eq]; exact h
  exact Rep.own (bts := 16) h' (by omega)
theorem apply_len (a d : List (Int × Int)) : (Df.applyL a d).length ≤ 6 := Df.those_len _ _ 6
theorem apply_rep (a d : List (Int × Int)) (v u : Value) (P P' : Nat → Prop) (w : World) (ha : Rep P w v 2 16 (pwC a)) (hd : Rep P' w u 2 16 (pwC d)) :
    Calls Try.prog 36 #[v, u] w fun e w' => ∃ A n C, e = .returned (.slice A n C) ∧ Rep (fun b => w.heap.size ≤ b) w' (.slice A n C) 2 16 (pwC (Df.applyL a d)) ∧ Below w.heap.size w w' := by
  obtain ⟨A, C, b, off, rfl, p1⟩ := pw_pin ha
  obtain ⟨A', C', b', off', rfl, p2⟩ := pw_pin hd
  refine (Df.apply_any a d A A' C C' b off b' off' w p1 p2).mono ?_
  rintro e w' ⟨x, rfl, hp, hb⟩
  have hr := pows_rep hp (apply_len a d)
  obtain ⟨A0, n0, C0, rfl, _⟩ := id hr
  exact ⟨A0, n0, C0, rfl, hr, hb⟩
end Go.Proofs.Ytdkalcnlncjgiaa.Kc

