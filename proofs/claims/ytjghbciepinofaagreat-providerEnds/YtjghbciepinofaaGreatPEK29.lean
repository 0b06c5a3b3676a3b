/- Parts of the proof: SA SB SC SD. -/
import Derived.Test.YtjghbciepinofaaGreatRows
import Derived.Test.YtjghbciepinofaaGreatPEK20
import Derived.Test.YtjghbciepinofaaGreatPEK28
import Derived.WalkKit
import Derived.WalkSmall
import Derived.Below
import Derived.Deep.MidRow
import Derived.Deep.DeepCutAuto
set_option maxRecDepth 100000
namespace Go.Proofs.YtjghbciepinofaaGreat
open Go.RowKit
theorem hide {p : Prop} (h : p) : Hid p := h
theorem isVal_any (d : Int) (w : World) : Calls Tryz.prog 90 #[.int .i64 d] w fun e w' => e = .returned (.bool (isV d)) ∧ w = w' := by
  unfold isV
  by_cases h0 : 0 ≤ d
  · by_cases h1 : d < 6
    · rw [decide_eq_true ⟨h0, h1⟩]
      go_enter Tryz.func90, Tryz.ntmps90
      go_wp2
      go_ret
      exact ⟨rfl, rfl⟩
    · rw [decide_eq_false (by omega)]
      go_enter Tryz.func90, Tryz.ntmps90
      go_wp2
      go_ret
      exact ⟨rfl, rfl⟩
  · rw [decide_eq_false (by omega)]
    go_enter Tryz.func90, Tryz.ntmps90
    go_wp2
    go_ret
    exact ⟨rfl, rfl⟩
theorem sisDel_any (d : Int) (w : World) : Calls Tryz.prog 120 #[.int .i64 d] w fun e w' => e = .returned (.bool (isD d)) ∧ w = w' := by
  unfold isD
  by_cases h0 : 0 ≤ d
  · by_cases h1 : d < 4
    · rw [decide_eq_true ⟨h0, h1⟩]
      go_enter Tryz.func120, Tryz.ntmps120
      go_wp2
      go_ret
      exact ⟨rfl, rfl⟩
    · rw [decide_eq_false (by omega)]
      go_enter Tryz.func120, Tryz.ntmps120
      go_wp2
      go_ret
      exact ⟨rfl, rfl⟩
  · rw [decide_eq_false (by omega)]
    go_enter Tryz.func120, Tryz.ntmps120
    go_wp2
    go_ret
    exact ⟨rfl, rfl⟩
theorem inA_any (d : Int) (w : World) : Calls Tryz.prog 121 #[.int .i64 d] w fun e w' => e = .returned (.bool (inA d)) ∧ w = w' := inn_any d w
theorem validatorGood_any (b o : Nat) (x : Vd) (w : World) (h0 : w.cell? ⟨b, o, none⟩ = some (.int .i64 x.tok)) (h1 : w.cell? ⟨b, o + 1, none⟩ = some (.int .i64 x.sh)) (h2 : w.cell? ⟨b, o + 2, none⟩ = some (.int .i64 x.lost))
    (h3 : w.cell? ⟨b, o + 3, none⟩ = some (.bool x.jail)) (h4 : w.cell? ⟨b, o + 4, none⟩ = some (.bool x.dead)) :
    Calls Tryz.prog 76 #[.pointer (some ⟨b, o, none⟩)] w fun e w' => e = .returned (.bool (vOk x)) ∧ w = w' := by
  unfold vOk
  have i1 := inA_any x.tok
  have i2 := inA_any x.sh
  have i3 := inA_any x.lost
  obtain ⟨xt, xs, xl, xj, xd⟩ := x
  simp only at *
  generalize inA xt = t1 at *
  generalize inA xs = t2 at *
  generalize inA xl = t3 at *
  go_enter Tryz.func76, Tryz.ntmps76
  go_wp2_with (first
    | (go_at_call 121; have _m := m2; refine (i3 _).mono ?_; rintro e w7 ⟨rfl, rfl⟩)
    | (go_at_call 121; have _m := m1; refine (i2 _).mono ?_; rintro e w6 ⟨rfl, rfl⟩; have m2 : True := trivial)
    | (go_at_call 121; refine (i1 _).mono ?_; rintro e w5 ⟨rfl, rfl⟩; have m1 : True := trivial))
  all_goals (go_ret; refine ⟨?_, rfl⟩; congr 1; congr 1; simp_all)
end Go.Proofs.YtjghbciepinofaaGreat

set_option maxRecDepth 100000
namespace Go.Proofs.YtjghbciepinofaaGreat
open Go.RowKit
/-- a list of waits lies in memory -/
structure WsAt (w : World) (ao : Option Addr) (b o : Nat) (W : List Wt) : Prop where
  adr : 0 < W.length → ao = some ⟨b, o, none⟩
  len : W.length * 64 ≤ 140737488351232
  cell : ∀ i x, W[i]? = some x → w.cell? ⟨b, o + i * 8, none⟩ = some (.int .i64 x.num) ∧ w.cell? ⟨b, o + i * 8 + 1, none⟩ = some (.int .i64 x.d) ∧ w.cell? ⟨b, o + i * 8 + 2, none⟩ = some (.int .i64 x.v) ∧ w.cell? ⟨b, o + i * 8 + 3, none⟩ = some (.int .i64 x.amt) ∧
    w.cell? ⟨b, o + i * 8 + 4, none⟩ = some (.int .i64 x.hei) ∧ w.cell? ⟨b, o + i * 8 + 5, none⟩ = some (.int .i64 x.due) ∧ w.cell? ⟨b, o + i * 8 + 6, none⟩ = some (.int .i64 x.h0) ∧ w.cell? ⟨b, o + i * 8 + 7, none⟩ = some (.int .i64 x.h1)
theorem WsAt.later {w w' : World} {ao : Option Addr} {b o B : Nat} {W : List Wt} (h : WsAt w ao b o W) (hb : Below B w w') (hB : 0 < W.length → b < B) : WsAt w' ao b o W := by
  refine ⟨h.adr, h.len, fun i x hx => ?_⟩
  have hlt : b < B := hB (by have := (List.getElem?_eq_some_iff.1 hx).1; omega)
  have k : ∀ o, w'.cell? ⟨b, o, none⟩ = w.cell? ⟨b, o, none⟩ := fun o => hb.cell hlt
  obtain ⟨h0, h1, h2, h3, h4, h5, h6, h7⟩ := h.cell i x hx
  exact ⟨(k _).trans h0, (k _).trans h1, (k _).trans h2, (k _).trans h3, (k _).trans h4, (k _).trans h5, (k _).trans h6, (k _).trans h7⟩
theorem WsAt.lt {w : World} {ao : Option Addr} {b o : Nat} {W : List Wt} (h : WsAt w ao b o W) (h0 : 0 < W.length) : b < w.heap.size := by
  obtain ⟨x, hx⟩ : ∃ x, W[0]? = some x := ⟨W[0], List.getElem?_eq_getElem h0⟩
  exact World.block_lt_of_cell? w _ (h.cell 0 x hx).1
theorem WsAt.over {w w' : World} {ao : Option Addr} {b o : Nat} {W : List Wt} (h : WsAt w ao b o W) (hb : Below w.heap.size w w') : WsAt w' ao b o W := h.later hb h.lt
theorem drop_at {α : Type} {l : List α} {k : Nat} (h : k < l.length) : ∃ x, l[k]? = some x ∧ l.drop k = x :: l.drop (k + 1) := ⟨l[k], List.getElem?_eq_getElem h, List.drop_eq_getElem_cons h⟩
def wtC (x : Wt) : Array Value := #[.int .i64 x.num, .int .i64 x.d, .int .i64 x.v, .int .i64 x.amt, .int .i64 x.hei, .int .i64 x.due, .int .i64 x.h0, .int .i64 x.h1]
theorem isSome_any (d : Int) (w : World) : Calls Tryz.prog 104 #[.int .i64 d] w fun e w' => e = .returned (.bool (decide (0 < d) && inA d)) ∧ w = w' := by
  have i1 := inA_any d
  generalize inA d = t at *
  go_enter Tryz.func104, Tryz.ntmps104
  go_wp2_with (go_at_call 121; refine (i1 _).mono ?_; rintro e w5 ⟨rfl, rfl⟩)
  all_goals (go_ret; refine ⟨?_, rfl⟩; congr 1; congr 1; first | (simp_all; done) | (simp_all; omega) | (simp_all; intros; omega))
set_option maxHeartbeats 1000000 in
theorem waitsGood_any (W : List Wt) (ao : Option Addr) (b o c : Nat) (next : Int) (w : World) (h : WsAt w ao b o W) :
    Calls Tryz.prog 75 #[.slice ao W.length c, .int .i64 next] w fun e w' => e = .returned (.bool (wOk next 0 W)) ∧ Below w.heap.size w w' := by
  have hlen := h.len
  have HW : Hid (WsAt w ao b o W) := h
  have hadr := h.adr
  clear h
  go_enter Tryz.func75, Tryz.ntmps75
  go_wp2
  go_loopw [5, 10] (fun s5 i wl => ∃ (k : Nat) (last : Int), k ≤ W.length ∧ i = .int .i64 (k : Int) ∧ s5 = .int .i64 last ∧ Hid (wOk next 0 W = wOk next last (W.drop k) ∧ Below w.heap.size w wl)) (fun _ i _ => W.length - (intOf i).toNat)
  case atStart => exact ⟨0, 0, Nat.zero_le _, rfl, rfl, rfl, Below.refl _ _⟩
  case round =>
    obtain ⟨k, last, hk, rfl, rfl, HR⟩ := hrel
    by_cases hlt : k < W.length
    · obtain ⟨x, hx, hd⟩ := drop_at hlt
      have HB : Hid (Below w.heap.size w wr) := HR.out.2
      obtain ⟨c0, c1, c2, c3, c4, c5, c6, c7⟩ := (HW.out.over HB.out).cell k x hx
      have HE : Hid (wOk next 0 W = (wOk1 last next x && wOk next x.num (W.drop (k + 1)))) := by have := HR.out.1; rw [hd] at this; exact this
      clear HR hd
      obtain rfl := hadr (by omega)
      clear hadr
      have hsz : w.heap.size ≤ wr.heap.size := HB.out.size
      have j1 := sisDel_any x.d
      have j2 := isVal_any x.v
      have j3 := inA_any x.amt
      have HO : Hid (∀ last, wOk1 last next x = (decide (last < x.num) && decide (x.num < next) && isD x.d && isV x.v && inA x.amt && decide (0 ≤ x.hei) && decide (0 ≤ x.due))) := fun _ => rfl
      generalize isD x.d = t1 at *
      generalize isV x.v = t2 at *
      generalize inA x.amt = t3 at *
      go_wp2_with (first
        | (go_at_call 120; refine (j1 _).mono ?_; rintro e w5 ⟨rfl, rfl⟩)
        | (go_at_call 90; refine (j2 _).mono ?_; rintro e w6 ⟨rfl, rfl⟩)
        | (go_at_call 121; refine (j3 _).mono ?_; rintro e w7 ⟨rfl, rfl⟩))
      all_goals first
        | (go_ret; refine ⟨?_, HB.out.alloc hsz _⟩; rw [HE.out, HO.out]; congr 1; congr 1; first | (simp_all; done) | (simp_all; omega) | (simp_all; intros; omega))
        | (go_roundw
           case rel => exact ⟨k + 1, x.num, by omega, by go_num, rfl, (by rw [HE.out, HO.out]; simp_all), HB.out.alloc hsz _⟩
           case measure => simp [intOf]; omega)
    · go_wp2
      go_ret
      refine ⟨?_, HR.out.2⟩
      rw [HR.out.1, List.drop_eq_nil_of_le (by omega)]
      rfl
end Go.Proofs.YtjghbciepinofaaGreat

set_option maxRecDepth 100000
namespace Go.Proofs.YtjghbciepinofaaGreat
open Go.RowKit
theorem infoS : (Tryz.prog.info? 32).map (·.size) = some 63 := by kernel_rfl
/-- 63 cells of a stake lie in a block -/
def SAt (w : World) (b : Nat) (cs : Array Value) : Prop := w.heap[b]? = some (.cells cs 32)
theorem SAt.new (w : World) (cs : Array Value) : SAt (w.alloc (.cells cs 32)) w.heap.size cs := heap_alloc_new _ _
theorem SAt.new2 (w : World) (o : Obj) (cs : Array Value) : SAt ((w.alloc o).alloc (.cells cs 32)) (w.heap.size + 1) cs := by
  have h : SAt ((w.alloc o).alloc (.cells cs 32)) (w.alloc o).heap.size cs := SAt.new (w.alloc o) cs
  rwa [show (w.alloc o).heap.size = w.heap.size + 1 by simp] at h
theorem SAt.later {w w' : World} {b B : Nat} {cs : Array Value} (h : SAt w b cs) (hb : Below B w w') (hB : b < B) : SAt w' b cs := (hb.block b hB).trans h
theorem SAt.alloc {w : World} {b : Nat} {cs : Array Value} (h : SAt w b cs) (o : Obj) : SAt (w.alloc o) b cs := (Below.heap_alloc _ _ _ (Array.getElem?_eq_some_iff.1 h).1).trans h
theorem SAt.lt {w : World} {b : Nat} {cs : Array Value} (h : SAt w b cs) : b < w.heap.size := (Array.getElem?_eq_some_iff.1 h).1
theorem SAt.other {w : World} {b c o : Nat} {cs : Array Value} (h : SAt w b cs) (hb : b ≠ c) (v : Value) : SAt (w.setCell ⟨c, o, none⟩ v) b cs := (Below.heap_setCell _ _ _ _ hb).trans h
theorem SAt.cell {w : World} {b : Nat} {cs : Array Value} (h : SAt w b cs) (o : Nat) : w.cell? ⟨b, o, none⟩ = cs[o]? := by
  unfold SAt at h
  simp [World.cell?, h]
theorem SAt.free {w : World} {b : Nat} {cs : Array Value} (h : SAt w b cs) (o : Nat) : w.frozen? ⟨b, o, none⟩ = false := by
  unfold SAt at h
  simp [World.frozen?, h]
theorem SAt.set {w : World} {b : Nat} {cs : Array Value} (h : SAt w b cs) (o : Nat) (v : Value) : SAt (w.setCell ⟨b, o, none⟩ v) b (cs.setIfInBounds o v) := by
  unfold SAt at *
  simp [World.setCell, Array.getElem?_modify, h]
theorem SAt.range {w : World} {b : Nat} {cs : Array Value} (h : SAt w b cs) : w.rangeAt b 0 cs.toList := by
  intro j v hv
  rw [Nat.zero_add, h.cell]
  simpa using hv
theorem SAt.there {w : World} {b : Nat} {cs : Array Value} (h : SAt w b cs) (o n : Nat) (hn : o + n ≤ cs.size) : w.there b o n := by
  intro j hj
  rw [h.cell, h.free]
  have : o + j < cs.size := by omega
  simp [this]
theorem SAt.sets {b : Nat} : ∀ (vs : List Value) (o : Nat) (w : World) (cs : Array Value), SAt w b cs → SAt (w.setCells b o vs) b (spl cs o vs)
  | [], _, _, _, h => h
  | v :: r, o, _, _, h => SAt.sets r (o + 1) _ _ (h.set o v)
theorem SAt.setAll {w : World} {b : Nat} {cs ds : Array Value} (h : SAt w b cs) (hd : ds.size = cs.size) : SAt (w.setCells b 0 ds.toList) b ds := by
  have := SAt.sets ds.toList 0 w cs h
  rwa [spl_all hd] at this
theorem SAt.load {w : World} {b : Nat} {cs : Array Value} (h : SAt w b cs) (hs : cs.size = 63) : (Instr.loadAt 32 (.pointer (some ⟨b, 0, none⟩))).run Tryz.prog w = .ok (.agg cs) w := by
  have := run_loadAt_mid (P := Tryz.prog) w b 0 32 cs.toList _ h.range Tryz.underlying32 rfl (by rw [infoS]; simp [hs])
  simpa using this
def Z63 : Array Value := #[.int .i64 0, .int .i64 0, .int .i64 0, .int .i64 0, .int .i64 0, .int .i64 0, .int .i64 0, .int .i64 0, .int .i64 0, .int .i64 0, .bool false, .bool false, .int .i64 0, .int .i64 0, .int .i64 0, .bool false, .bool false, .int .i64 0, .int .i64 0, .int .i64 0, .bool false, .bool false, .int .i64 0, .int .i64 0, .int .i64 0, .bool false, .bool false, .int .i64 0, .int .i64 0, .int .i64 0, .bool false, .bool false, .int .i64 0, .int .i64 0, .int .i64 0, .bool false, .bool false, .int .i64 0, .int .i64 0, .int .i64 0, .int .i64 0, .int .i64 0, .int .i64 0, .int .i64 0, .int .i64 0, .int .i64 0, .int .i64 0, .int .i64 0, .int .i64 0, .int .i64 0, .int .i64 0, .int .i64 0, .int .i64 0, .int .i64 0, .int .i64 0, .int .i64 0, .int .i64 0, .int .i64 0, .int .i64 0, .int .i64 0, .int .i64 0, .slice none 0 0, .int .i64 0]
def vdC (x : Vd) : Array Value := #[.int .i64 (x).tok, .int .i64 (x).sh, .int .i64 (x).lost, .bool (x).jail, .bool (x).dead]
def vsC (V : Nat → Vd) : Array Value := #[.int .i64 (V 0).tok, .int .i64 (V 0).sh, .int .i64 (V 0).lost, .bool (V 0).jail, .bool (V 0).dead, .int .i64 (V 1).tok, .int .i64 (V 1).sh, .int .i64 (V 1).lost, .bool (V 1).jail, .bool (V 1).dead, .int .i64 (V 2).tok, .int .i64 (V 2).sh, .int .i64 (V 2).lost, .bool (V 2).jail, .bool (V 2).dead, .int .i64 (V 3).tok, .int .i64 (V 3).sh, .int .i64 (V 3).lost, .bool (V 3).jail, .bool (V 3).dead, .int .i64 (V 4).tok, .int .i64 (V 4).sh, .int .i64 (V 4).lost, .bool (V 4).jail, .bool (V 4).dead, .int .i64 (V 5).tok, .int .i64 (V 5).sh, .int .i64 (V 5).lost, .bool (V 5).jail, .bool (V 5).dead]
def rowC (r : Nat → Int) : Array Value := #[.int .i64 (r 0), .int .i64 (r 1), .int .i64 (r 2), .int .i64 (r 3), .int .i64 (r 4), .int .i64 (r 5)]
def shC (S : Nat → Nat → Int) : Array Value := #[.int .i64 (S 0 0), .int .i64 (S 0 1), .int .i64 (S 0 2), .int .i64 (S 0 3), .int .i64 (S 0 4), .int .i64 (S 0 5), .int .i64 (S 1 0), .int .i64 (S 1 1), .int .i64 (S 1 2), .int .i64 (S 1 3), .int .i64 (S 1 4), .int .i64 (S 1 5), .int .i64 (S 2 0), .int .i64 (S 2 1), .int .i64 (S 2 2), .int .i64 (S 2 3), .int .i64 (S 2 4), .int .i64 (S 2 5), .int .i64 (S 3 0), .int .i64 (S 3 1), .int .i64 (S 3 2), .int .i64 (S 3 3), .int .i64 (S 3 4), .int .i64 (S 3 5)]
def bkC (b : Bk) : Array Value := #[.int .i64 b.f0, .int .i64 b.f1, .int .i64 b.f2, .int .i64 b.f3, .int .i64 b.bo, .int .i64 b.wa, .int .i64 b.bu]
def stL (b : Bk) (V : Nat → Vd) (S : Nat → Nat → Int) (sl : Value) (next : Int) : List Value := (bkC b).toList ++ ((vsC V).toList ++ ((shC S).toList ++ [sl, .int .i64 next]))
def stC (s : St) (sl : Value) : Array Value := (stL s.b s.V s.S sl s.next).toArray
theorem stC_size (s : St) (sl : Value) : (stC s sl).size = 63 := rfl
theorem st_vals {w : World} {b : Nat} {s : St} {sl : Value} (h : SAt w b (stC s sl)) : w.rangeAt b 7 (vsC s.V).toList := by
  intro j v hv
  have hj : j < 30 := (List.getElem?_eq_some_iff.1 hv).1
  rw [h.cell]
  simp only [stC, stL, List.getElem?_toArray]
  rw [List.getElem?_append_right (by show 7 ≤ 7 + j; omega), show 7 + j - (bkC s.b).toList.length = j from by show 7 + j - 7 = j; omega, List.getElem?_append_left (show j < (vsC s.V).toList.length from hj)]
  exact hv
theorem st_shares {w : World} {b : Nat} {s : St} {sl : Value} (h : SAt w b (stC s sl)) : w.rangeAt b 37 (shC s.S).toList := by
  intro j v hv
  have hj : j < 24 := (List.getElem?_eq_some_iff.1 hv).1
  rw [h.cell]
  simp only [stC, stL, List.getElem?_toArray]
  rw [List.getElem?_append_right (by show 7 ≤ 37 + j; omega), show 37 + j - (bkC s.b).toList.length = 30 + j from by show 37 + j - 7 = 30 + j; omega,
    List.getElem?_append_right (by show 30 ≤ 30 + j; omega), show 30 + j - (vsC s.V).toList.length = j from by show 30 + j - 30 = j; omega, List.getElem?_append_left (show j < (shC s.S).toList.length from hj)]
  exact hv
theorem st_cells {w : World} {b : Nat} {s : St} {sl : Value} (h : SAt w b (stC s sl)) : w.cell? ⟨b, 0, none⟩ = some (.int .i64 s.b.f0) ∧ w.cell? ⟨b, 1, none⟩ = some (.int .i64 s.b.f1) ∧ w.cell? ⟨b, 2, none⟩ = some (.int .i64 s.b.f2) ∧ w.cell? ⟨b, 3, none⟩ = some (.int .i64 s.b.f3) ∧ w.cell? ⟨b, 4, none⟩ = some (.int .i64 s.b.bo) ∧ w.cell? ⟨b, 5, none⟩ = some (.int .i64 s.b.wa) ∧ w.cell? ⟨b, 6, none⟩ = some (.int .i64 s.b.bu) ∧ w.cell? ⟨b, 61, none⟩ = some sl ∧ w.cell? ⟨b, 62, none⟩ = some (.int .i64 s.next) :=
  ⟨(h.cell 0).trans rfl, (h.cell 1).trans rfl, (h.cell 2).trans rfl, (h.cell 3).trans rfl, (h.cell 4).trans rfl, (h.cell 5).trans rfl, (h.cell 6).trans rfl, (h.cell 61).trans rfl, (h.cell 62).trans rfl⟩
theorem infoVs : (Tryz.prog.info? 27).map (·.size) = some 30 := by kernel_rfl
theorem infoSh : (Tryz.prog.info? 29).map (·.size) = some 24 := by kernel_rfl
theorem ixV (w : World) (V : Nat → Vd) (k : Nat) (hk : k < 6) : (Instr.index 27 (.agg (vsC V)) (.int .i64 k)).run Tryz.prog w = .ok (.agg #[.int .i64 (V k).tok, .int .i64 (V k).sh, .int .i64 (V k).lost, .bool (V k).jail, .bool (V k).dead]) w := by
  rcases (show k = 0 ∨ k = 1 ∨ k = 2 ∨ k = 3 ∨ k = 4 ∨ k = 5 by omega) with rfl | rfl | rfl | rfl | rfl | rfl <;> kernel_rfl
theorem ixS (w : World) (S : Nat → Nat → Int) (k : Nat) (hk : k < 4) : (Instr.index 29 (.agg (shC S)) (.int .i64 k)).run Tryz.prog w = .ok (.agg #[.int .i64 (S k 0), .int .i64 (S k 1), .int .i64 (S k 2), .int .i64 (S k 3), .int .i64 (S k 4), .int .i64 (S k 5)]) w := by
  rcases (show k = 0 ∨ k = 1 ∨ k = 2 ∨ k = 3 by omega) with rfl | rfl | rfl | rfl <;> kernel_rfl
theorem SAt.val {w : World} {b : Nat} {s : St} {sl : Value} (h : SAt w b (stC s sl)) (k : Nat) (hk : k < 6) : w.cell? ⟨b, 7 + k * 5, none⟩ = some (.int .i64 (s.V k).tok) ∧ w.cell? ⟨b, 7 + k * 5 + 1, none⟩ = some (.int .i64 (s.V k).sh) ∧ w.cell? ⟨b, 7 + k * 5 + 2, none⟩ = some (.int .i64 (s.V k).lost) ∧ w.cell? ⟨b, 7 + k * 5 + 3, none⟩ = some (.bool (s.V k).jail) ∧ w.cell? ⟨b, 7 + k * 5 + 4, none⟩ = some (.bool (s.V k).dead) := by
  rcases (show k = 0 ∨ k = 1 ∨ k = 2 ∨ k = 3 ∨ k = 4 ∨ k = 5 by omega) with rfl | rfl | rfl | rfl | rfl | rfl <;> exact ⟨(h.cell _).trans rfl, (h.cell _).trans rfl, (h.cell _).trans rfl, (h.cell _).trans rfl, (h.cell _).trans rfl⟩
theorem SAt.shr {w : World} {b : Nat} {s : St} {sl : Value} (h : SAt w b (stC s sl)) (d v : Nat) (hd : d < 4) (hv : v < 6) : w.cell? ⟨b, 37 + d * 6 + v, none⟩ = some (.int .i64 (s.S d v)) := by
  rcases (show d = 0 ∨ d = 1 ∨ d = 2 ∨ d = 3 by omega) with rfl | rfl | rfl | rfl <;> rcases (show v = 0 ∨ v = 1 ∨ v = 2 ∨ v = 3 ∨ v = 4 ∨ v = 5 by omega) with rfl | rfl | rfl | rfl | rfl | rfl <;> exact (h.cell _).trans rfl
theorem stC_one (s : St) (sa : Option Addr) (n c : Nat) : (stC s (.slice sa n c)).all (·.oneCell') = true := by simp [stC, stL, bkC, vsC, shC, Value.oneCell']
theorem stC_61 (s : St) (sl : Value) : (stC s sl)[61]? = some sl := rfl
end Go.Proofs.YtjghbciepinofaaGreat

set_option maxRecDepth 100000
namespace Go.Proofs.YtjghbciepinofaaGreat
open Go.RowKit
theorem psh_bound {S : Nat → Nat → Int} {v : Nat} : ∀ j, pshOk S v j = true → 0 ≤ psh S v j ∧ psh S v j ≤ 1125899906842624 * (j : Int)
  | 0, _ => by simp [psh]
  | j + 1, h => by
    simp only [pshOk, Bool.and_eq_true, inA_iff] at h
    have h1 := psh_bound j h.1
    have h2 := h.2
    simp only [psh]
    omega
theorem shOk_false {S : Nat → Nat → Int} {v j : Nat} {x : Int} (hj : j < 4) (hin : inA (S j v) = false) : shOk S v x = false := by
  unfold shOk
  rcases (show j = 0 ∨ j = 1 ∨ j = 2 ∨ j = 3 by omega) with rfl | rfl | rfl | rfl <;> simp [pshOk, hin]
theorem shOk_dec {S : Nat → Nat → Int} {v : Nat} {x : Int} (h : pshOk S v 4 = true) : shOk S v x = decide (psh S v 4 = x) := by
  unfold shOk
  rw [h, Bool.true_and]
set_option maxHeartbeats 1000000 in
theorem sharesGood_any (s : St) (sl : Value) (b v : Nat) (hv : v < 6) (w : World) (h : SAt w b (stC s sl)) :
    Calls Tryz.prog 77 #[.pointer (some ⟨b, 0, none⟩), .int .i64 (v : Int)] w fun e w' => e = .returned (.bool (shOk s.S v (s.V v).sh)) ∧ w = w' := by
  have HS : Hid (SAt w b (stC s sl)) := h
  have hv' : (v : Int) < 6 := by omega
  obtain ⟨_, hsh, _⟩ := h.val v hv
  clear h
  go_enter Tryz.func77, Tryz.ntmps77
  go_wp2
  go_loop [5, 8] (fun s5 i => ∃ (j : Nat), j ≤ 4 ∧ i = .int .i64 (j : Int) ∧ s5 = .int .i64 (psh s.S v j) ∧ Hid (pshOk s.S v j = true)) (fun _ i => (4 - intOf i).toNat)
  case atStart => exact ⟨0, by omega, rfl, rfl, rfl⟩
  case round =>
    obtain ⟨j, hj, rfl, rfl, HR⟩ := hrel
    by_cases hlt : j < 4
    · have hlt' : (j : Int) < 4 := by omega
      have hc := HS.out.shr j v hlt hv
      have i1 := inA_any (s.S j v)
      have hpb := psh_bound j HR.out
      by_cases hin : inA (s.S j v) = true
      · rw [hin] at i1
        have HR2 : Hid (pshOk s.S v (j + 1) = true) := by show (pshOk s.S v j && inA (s.S j v)) = true; rw [HR.out, hin]; rfl
        rw [inA_iff] at hin
        have hps : psh s.S v (j + 1) = psh s.S v j + s.S j v := rfl
        have HP : Hid (psh s.S v (j + 1) = psh s.S v j + s.S j v) := hps
        clear hps
        go_wp2_with (go_at_call 121; refine (i1 _).mono ?_; rintro e w5 ⟨rfl, rfl⟩)
        go_round
        case rel => exact ⟨j + 1, by omega, by go_num, by rw [HP.out], HR2.out⟩
        case measure => simp [intOf]; omega
      · simp only [Bool.not_eq_true] at hin
        rw [hin] at i1
        have HF : Hid (shOk s.S v (s.V v).sh = false) := shOk_false hlt hin
        clear hin
        go_wp2_with (go_at_call 121; refine (i1 _).mono ?_; rintro e w5 ⟨rfl, rfl⟩)
        go_ret
        exact ⟨by rw [HF.out]; rfl, rfl⟩
    · obtain rfl : j = 4 := by omega
      have HF : Hid (shOk s.S v (s.V v).sh = decide (psh s.S v 4 = (s.V v).sh)) := shOk_dec HR.out
      go_wp2
      go_ret
      exact ⟨by rw [HF.out]; congr 1, rfl⟩
end Go.Proofs.YtjghbciepinofaaGreat

