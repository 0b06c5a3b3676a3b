/- Parts of the proof: DF0. -/
import Derived.Test.YtdkalcnlncjgiaaRows
set_option maxRecDepth 100000
namespace Go.Proofs.Ytdkalcnlncjgiaa.Df
abbrev Pw := Int × Int
/-- a power is put in its validator's place -/
def putP (P : Nat → Int) (x : Pw) : Nat → Int := if 0 ≤ x.1 ∧ x.1 < 6 then (fun i => if i = x.1.toNat then x.2 else P i) else P
def zeroP : Nat → Int := fun _ => 0
/-- the first one counts -/
def firstP (l : List Pw) : Nat → Int := l.foldr (fun x P => putP P x) zeroP
/-- the last one counts -/
def lastP (P : Nat → Int) (l : List Pw) : Nat → Int := l.foldl putP P
/-- those of the first n that are wanted, with their powers -/
def those (c : Nat → Bool) (f : Nat → Int) (n : Nat) : List Pw := (List.range n).filterMap fun v => if c v = true then some ((v : Int), f v) else none
theorem those_succ (c : Nat → Bool) (f : Nat → Int) (n : Nat) : those c f (n + 1) = if c n = true then those c f n ++ [((n : Int), f n)] else those c f n := by
  unfold those
  rw [List.range_succ, List.filterMap_append]
  cases h : c n <;> simp [h]
theorem those_len (c : Nat → Bool) (f : Nat → Int) : ∀ n, (those c f n).length ≤ n
  | 0 => by simp [those]
  | n + 1 => by
    have := those_len c f n
    rw [those_succ]
    split
    · rw [List.length_append]; simp; omega
    · omega
def applyL (a d : List Pw) : List Pw := those (fun v => decide (0 < lastP (lastP zeroP a) d v)) (lastP (lastP zeroP a) d) 6
theorem put_at {P : Nat → Int} {n : Nat} {x : Int} (hn : n < 6) (i : Nat) : putP P ((n : Int), x) i = if i = n then x else P i := by
  unfold putP
  rw [if_pos (by simp; omega)]
  simp
theorem foldr_drop (l : List Pw) (k : Nat) (hk : k < l.length) : firstP (l.drop k) = putP (firstP (l.drop (k + 1))) (l.getD k (0, 0)) := by
  unfold firstP
  rw [List.drop_eq_getElem_cons hk, List.foldr_cons, show l.getD k (0, 0) = l[k] by simp [List.getD, hk]]
theorem foldl_take (P : Nat → Int) (l : List Pw) (k : Nat) (hk : k < l.length) : lastP P (l.take (k + 1)) = putP (lastP P (l.take k)) (l.getD k (0, 0)) := by
  unfold lastP
  rw [List.take_succ_eq_append_getElem hk, List.foldl_append]
  simp [List.getD, hk]
end Go.Proofs.Ytdkalcnlncjgiaa.Df

