/- A list of waits in memory; waitsGood. -/
import Derived.Test.YtfajfebpchfkoaeSA
import Derived.WalkKit
import Derived.WalkSmall
import Derived.Below
set_option maxRecDepth 100000
namespace Go.Proofs.Ytfajfebpchfkoae
open Go.RowKit
/-- a list of waits lies in memory -/
structure WsAt (w : World) (ao : Option Addr) (b o : Nat) (W : List Wt) : Prop where
  adr : 0 < W.length → ao = some ⟨b, o, none⟩
  len : W.length * 64 ≤ 140737488351232
  cell : ∀ i x, W[i]? = some x → w.cell? ⟨b, o + i * 8, none⟩ = some (.int .i64 x.num) ∧ w.cell? ⟨b, o + i * 8 + 1, none⟩ = some (.int .i64 x.d) ∧ w.cell? ⟨b, o + i * 8 + 2, none⟩ = some (.int .i64 x.v) ∧ w.cell? ⟨b, o + i * 8 + 3, none⟩ = some (.int .i64 x.amt) ∧
    w.cell? ⟨b, o + i * 8 + 4, none⟩ = some (.int .i64 x.hei) ∧ w.cell? ⟨b, o + i * 8 + 5, none⟩ = some (.int .i64 x.due) ∧ w.cell? ⟨b, o + i * 8 + 6, none⟩ = some (.int .i64 x.h0) ∧ w.cell? ⟨b, o + i * 8 + 7, none⟩ = some (.int .i64 x.h1)
theorem WsAt.later {w w' : World} {ao : Option Addr} {b o B : Nat} {W : List Wt} (h : WsAt w ao b o W) (hb : Below B w w') (hB : 0 < W.length → b < B) : WsAt w' ao b o W := by
  refine ⟨h.adr, h.len, fun i x hx => ?_⟩
  have hlt : b < B := hB (by have := (List.getElem?_eq_some_iff.1 hx).1; omega)
  have k : ∀ o, w'.cell? ⟨b, o, none⟩ = w.cell? ⟨b, o, none⟩ := fun o => hb.cell hlt
  obtain ⟨h0, h1, h2, h3, h4, h5, h6, h7⟩ := h.cell i x hx
  exact ⟨(k _).trans h0, (k _).trans h1, (k _).trans h2, (k _).trans h3, (k _).trans h4, (k _).trans h5, (k _).trans h6, (k _).trans h7⟩
theorem WsAt.lt {w : World} {ao : Option Addr} {b o : Nat} {W : List Wt} (h : WsAt w ao b o W) (h0 : 0 < W.length) : b < w.heap.size := by
  obtain ⟨x, hx⟩ : ∃ x, W[0]? = some x := ⟨W[0], List.getElem?_eq_getElem h0⟩
  exact World.block_lt_of_cell? w _ (h.cell 0 x hx).1
theorem WsAt.over {w w' : World} {ao : Option Addr} {b o : Nat} {W : List Wt} (h : WsAt w ao b o W) (hb : Below w.heap.size w w') : WsAt w' ao b o W := h.later hb h.lt
theorem drop_at {α : Type} {l : List α} {k : Nat} (h : k < l.length) : ∃ x, l[k]? = some x ∧ l.drop k = x :: l.drop (k + 1) := ⟨l[k], List.getElem?_eq_getElem h, List.drop_eq_getElem_cons h⟩
def wtC (x : Wt) : Array Value := #[.int .i64 x.num, .int .i64 x.d, .int .i64 x.v, .int .i64 x.amt, .int .i64 x.hei, .int .i64 x.due, .int .i64 x.h0, .int .i64 x.h1]
theorem isSome_any (d : Int) (w : World) : Calls Try.prog 57 #[.int .i64 d] w fun e w' => e = .returned (.bool (decide (0 < d) && inA d)) ∧ w = w' := by
  have i1 := inA_any d
  generalize inA d = t at *
  go_enter Try.func57, Try.ntmps57
  go_wp2_with (go_at_call 76; refine (i1 _).mono ?_; rintro e w5 ⟨rfl, rfl⟩)
  all_goals (go_ret; refine ⟨?_, rfl⟩; congr 1; congr 1; first | (simp_all; done) | (simp_all; omega) | (simp_all; intros; omega))
set_option maxHeartbeats 1000000 in
theorem waitsGood_any (W : List Wt) (ao : Option Addr) (b o c : Nat) (next : Int) (w : World) (h : WsAt w ao b o W) :
    Calls Try.prog 45 #[.slice ao W.length c, .int .i64 next] w fun e w' => e = .returned (.bool (wOk next 0 W)) ∧ Below w.heap.size w w' := by
  have hlen := h.len
  have HW : Hid (WsAt w ao b o W) := h
  have hadr := h.adr
  clear h
  go_enter Try.func45, Try.ntmps45
  go_wp2
  go_loopw [5, 10] (fun s5 i wl => ∃ (k : Nat) (last : Int), k ≤ W.length ∧ i = .int .i64 (k : Int) ∧ s5 = .int .i64 last ∧ Hid (wOk next 0 W = wOk next last (W.drop k) ∧ Below w.heap.size w wl)) (fun _ i _ => W.length - (intOf i).toNat)
  case atStart => exact ⟨0, 0, Nat.zero_le _, rfl, rfl, rfl, Below.refl _ _⟩
  case round =>
    obtain ⟨k, last, hk, rfl, rfl, HR⟩ := hrel
    by_cases hlt : k < W.length
    · obtain ⟨x, hx, hd⟩ := drop_at hlt
      have HB : Hid (Below w.heap.size w wr) := HR.out.2
      obtain ⟨c0, c1, c2, c3, c4, c5, c6, c7⟩ := (HW.out.over HB.out).cell k x hx
      have HE : Hid (wOk next 0 W = (wOk1 last next x && wOk next x.num (W.drop (k + 1)))) := by have := HR.out.1; rw [hd] at this; exact this
      clear HR hd
      obtain rfl := hadr (by omega)
      clear hadr
      have hsz : w.heap.size ≤ wr.heap.size := HB.out.size
      have j1 := sisDel_any x.d
      have j2 := isVal_any x.v
      have j3 := inA_any x.amt
      have HO : Hid (∀ last, wOk1 last next x = (decide (last < x.num) && decide (x.num < next) && isD x.d && isV x.v && inA x.amt && decide (0 ≤ x.hei) && decide (0 ≤ x.due))) := fun _ => rfl
      generalize isD x.d = t1 at *
      generalize isV x.v = t2 at *
      generalize inA x.amt = t3 at *
      go_wp2_with (first
        | (go_at_call 75; refine (j1 _).mono ?_; rintro e w5 ⟨rfl, rfl⟩)
        | (go_at_call 55; refine (j2 _).mono ?_; rintro e w6 ⟨rfl, rfl⟩)
        | (go_at_call 76; refine (j3 _).mono ?_; rintro e w7 ⟨rfl, rfl⟩))
      all_goals first
        | (go_ret; refine ⟨?_, HB.out.alloc hsz _⟩; rw [HE.out, HO.out]; congr 1; congr 1; first | (simp_all; done) | (simp_all; omega) | (simp_all; intros; omega))
        | (go_roundw
           case rel => exact ⟨k + 1, x.num, by omega, by go_num, rfl, (by rw [HE.out, HO.out]; simp_all), HB.out.alloc hsz _⟩
           case measure => simp [intOf]; omega)
    · go_wp2
      go_ret
      refine ⟨?_, HR.out.2⟩
      rw [HR.out.1, List.drop_eq_nil_of_le (by omega)]
      rfl
end Go.Proofs.Ytfajfebpchfkoae
