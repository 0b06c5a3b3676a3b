/- Parts of the proof: PV13. -/
import Derived.Test.YtnamphhchecaeaaGreatRows
import Derived.Test.YtnamphhchecaeaaGreatAK23
import Derived.Deep.AppendLies
set_option maxRecDepth 100000
namespace Go.Proofs.YtnamphhchecaeaaGreat.Pv
open Go.RowKit
theorem quL_length : ∀ (q : List (Int × Pkt)) (z : List (Value × Value)), z.length = q.length → (quL q z).length = q.length * 7
  | [], [], _ => rfl
  | x :: q, y :: z, h => by
    have := quL_length q z (by simpa using h)
    show (akL x y ++ quL q z).length = _
    rw [List.length_append, this, List.length_cons]
    show 7 + _ = _
    omega
  | [], _ :: _, h => by simp at h
  | _ :: _, [], h => by simp at h
theorem quL_get : ∀ (q : List (Int × Pkt)) (z : List (Value × Value)) (i : Nat) (x : Int × Pkt) (y : Value × Value) (j : Nat), q[i]? = some x → z[i]? = some y → j < 7 → (quL q z)[i * 7 + j]? = (akL x y)[j]?
  | a :: q, b :: z, 0, x, y, j, h1, h2, hj => by
    simp at h1 h2
    subst h1 h2
    show (akL a b ++ quL q z)[0 * 7 + j]? = _
    rw [Nat.zero_mul, Nat.zero_add, List.getElem?_append_left (by exact hj)]
  | a :: q, b :: z, i + 1, x, y, j, h1, h2, hj => by
    show (akL a b ++ quL q z)[(i + 1) * 7 + j]? = _
    rw [List.getElem?_append_right (by show 7 ≤ _; omega)]
    rw [show (i + 1) * 7 + j - (akL a b).length = i * 7 + j by show (i + 1) * 7 + j - 7 = _; omega]
    exact quL_get q z i x y j (by simpa using h1) (by simpa using h2) hj
  | [], _, i, _, _, _, h1, _, _ => by simp at h1
  | _ :: _, [], i, _, _, _, _, h2, _ => by simp at h2
/-- a queue in a row of the call's own, its packets' lists elsewhere -/
structure QOwn (B : Nat) (w : World) (v : Value) (q : List (Int × Pkt)) (z : List (Value × Value)) : Prop where
  len : z.length = q.length
  own : w.ownsRow B 81 7 v q.length (quL q z)
  ins : ∀ (i : Nat) (x : Int × Pkt) (y : Value × Value), q[i]? = some x → z[i]? = some y → Rep (fun b => B ≤ b ∧ some b ≠ v.ownBlock) w y.1 2 16 (pwC x.2.S) ∧ Rep (fun b => B ≤ b ∧ some b ≠ v.ownBlock) w y.2 1 8 (inC x.2.D)
theorem QOwn.nil (B : Nat) (w : World) : QOwn B w (.slice none 0 0) [] [] := ⟨rfl, World.ownsRow_nil _ _ _ _, fun i x y h => by simp at h⟩
theorem QOwn.over {B : Nat} {w w' : World} {v : Value} {q : List (Int × Pkt)} {z : List (Value × Value)} (h : QOwn B w v q z) (hb : Below w.heap.size w w') : QOwn B w' v q z :=
  ⟨h.len, Ln.own_over h.own hb, fun i x y hx hy => ⟨(h.ins i x y hx hy).1.over hb, (h.ins i x y hx hy).2.over hb⟩⟩
theorem QOwn.rep {B : Nat} {w : World} {v : Value} {q : List (Int × Pkt)} {z : List (Value × Value)} (h : QOwn B w v q z) (hl : q.length * 88 ≤ 140737488351232) : QRep (fun b => B ≤ b) w v q :=
  ⟨z, h.len, Rep.own h.own (by omega), fun i x y hx hy => ⟨(h.ins i x y hx hy).1.mono fun _ _ hb => hb.1, (h.ins i x y hx hy).2.mono fun _ _ hb => hb.1⟩⟩
end Go.Proofs.YtnamphhchecaeaaGreat.Pv

