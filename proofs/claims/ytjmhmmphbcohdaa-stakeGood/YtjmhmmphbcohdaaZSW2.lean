/- Undelegate. -/
import Derived.Test.YtjmhmmphbcohdaaXsb
import Derived.Test.YtjmhmmphbcohdaaXsa
import Derived.Test.YtjmhmmphbcohdaaZSW1
set_option maxRecDepth 100000
namespace Go.Proofs.Ytjmhmmphbcohdaa
open Go.RowKit
def outS (s : St) (d v : Nat) (wo n : Int) (B : Bk) (x : Wt) : St := { addS { s with b := B } d v (-wo) (-n) with W := s.W ++ [x], next := s.next + 1 }
def undelS (s : St) (d v n : Int) (y : Wt) : St × Int :=
  if refOfE s d v = 0 then
    if (decide (0 < n) && inA n) = true ∧ 0 ≤ y.hei ∧ 0 ≤ y.due then
      if n ≤ s.S d.toNat v.toNat then
        if s.W.length < 60 ∧ s.next < 1125899906842624 then
          if woE (s.V v.toNat) n = 0 then
            if (unbondR s.b (woN (s.V v.toNat) n)).2 = 0 then (outS s d.toNat v.toNat (woN (s.V v.toNat) n) n (unbondR s.b (woN (s.V v.toNat) n)).1 { y with num := s.next, d := d, v := v, amt := woN (s.V v.toNat) n }, 0)
            else (s, (unbondR s.b (woN (s.V v.toNat) n)).2)
          else (s, woE (s.V v.toNat) n)
        else (s, 6)
      else (s, 7)
    else (s, 2)
  else (s, refOfE s d v)
/-- what a function that may change a stake's list answers, where the list lies, and its room -/
def AnswersC (B sb : Nat) (w : World) (r : St × Int) (e : Ending) (w' : World) : Prop := ∃ A ab ao C, e = .returned (.tuple #[.agg (stC r.1 (.slice A r.1.W.length C)), .int .i64 r.2]) ∧ r.1.W.length ≤ C ∧ WsAt w' A ab ao r.1.W ∧ (0 < r.1.W.length → ab < w'.heap.size ∧ (ab = sb ∨ B ≤ ab)) ∧ Below B w w'
theorem stake_endz {f : Func} {p q : Tmp} (hres : f.results = #[.cell p 34, .tmp q]) {B g sb : Nat} {w wq : World} {zs : Array Value} (R : SAt wq g zs) (hz : zs.size = 63) (H : Below B w wq) (hB : B ≤ g) (s' : St) (A : Option Addr) (ab ao C : Nat) (er : Int) (r : St × Int) (hr : r = (s', er)) (hC : s'.W.length ≤ C) (hW : WsAt wq A ab ao s'.W) (hg : 0 < s'.W.length → ab ≠ g) (hq : 0 < s'.W.length → ab = sb ∨ B ≤ ab) (act : Act)
    (h8 : act.tmps.getD p undef = .pointer (some ⟨g, 0, none⟩)) (h9 : act.tmps.getD q undef = .int .i64 er) (hd : act.defers = []) :
    bodyPost Try.prog f (fun e w' => AnswersC B sb w r e w') Exit.ret act (wq.setCells g 0 (stC s' (.slice A s'.W.length C)).toList) := by
  subst hr
  have R3 := R.setAll (ds := stC s' (.slice A s'.W.length C)) (by rw [hz]; rfl)
  have hW' := hW.sets hg (stC s' (.slice A s'.W.length C)).toList 0
  exact bodyPost_ret (v := .tuple #[.agg (stC s' (.slice A s'.W.length C)), .int .i64 er]) (results_stake2 hres _ _ g _ _ h8 h9 R3 rfl) hd ⟨A, ab, ao, C, rfl, hC, hW', fun h => ⟨hW'.lt h, hq h⟩, below_sets hB _ _ _ H⟩
/-- a wait's eight cells lie in a block -/
def YAt (w : World) (y : Nat) (x : Wt) : Prop := w.heap[y]? = some (.cells #[.int .i64 x.num, .int .i64 x.d, .int .i64 x.v, .int .i64 x.amt, .int .i64 x.hei, .int .i64 x.due, .int .i64 x.h0, .int .i64 x.h1] 54)
theorem YAt.later {w w' : World} {y B : Nat} {x : Wt} (h : YAt w y x) (hb : Below B w w') (hB : y < B) : YAt w' y x := (hb.block y hB).trans h
theorem YAt.lt {w : World} {y : Nat} {x : Wt} (h : YAt w y x) : y < w.heap.size := (Array.getElem?_eq_some_iff.1 h).1
theorem YAt.cells {w : World} {y : Nat} {x : Wt} (h : YAt w y x) : w.cell? ⟨y, 0, none⟩ = some (.int .i64 x.num) ∧ w.cell? ⟨y, 1, none⟩ = some (.int .i64 x.d) ∧ w.cell? ⟨y, 2, none⟩ = some (.int .i64 x.v) ∧ w.cell? ⟨y, 3, none⟩ = some (.int .i64 x.amt) ∧ w.cell? ⟨y, 4, none⟩ = some (.int .i64 x.hei) ∧ w.cell? ⟨y, 5, none⟩ = some (.int .i64 x.due) ∧ w.cell? ⟨y, 6, none⟩ = some (.int .i64 x.h0) ∧ w.cell? ⟨y, 7, none⟩ = some (.int .i64 x.h1) := by
  unfold YAt at h
  simp [World.cell?, h]
theorem SAt.new3 (w : World) (o p : Obj) (cs : Array Value) : SAt (((w.alloc o).alloc p).alloc (.cells cs 34)) (w.heap.size + 2) cs := by
  have h := SAt.new2 (w.alloc o) p cs
  rwa [show (w.alloc o).heap.size + 1 = w.heap.size + 2 by simp] at h
theorem YAt.new (w : World) (o p : Obj) (x : Wt) : YAt (((w.alloc o).alloc (.cells #[.int .i64 x.num, .int .i64 x.d, .int .i64 x.v, .int .i64 x.amt, .int .i64 x.hei, .int .i64 x.due, .int .i64 x.h0, .int .i64 x.h1] 54)).alloc p) (w.heap.size + 1) x := by
  have h : YAt ((w.alloc o).alloc (.cells #[.int .i64 x.num, .int .i64 x.d, .int .i64 x.v, .int .i64 x.amt, .int .i64 x.hei, .int .i64 x.due, .int .i64 x.h0, .int .i64 x.h1] 54)) (w.alloc o).heap.size x := heap_alloc_new _ _
  rw [show (w.alloc o).heap.size = w.heap.size + 1 by simp] at h
  exact h.later ((Below.refl _ _).alloc (Nat.le_refl _) _) h.lt
set_option maxHeartbeats 4000000 in
theorem undel_no (s : St) (ao : Option Addr) (sb so c : Nat) (d v n : Int) (y : Wt) (w : World) (hc : s.W.length ≤ c) (hW : WsAt w ao sb so s.W) (r : St × Int) (h0 : refOfE s d v ≠ 0) (hr : r = (s, refOfE s d v)) :
    Calls Try.prog 13 #[.agg (stC s (.slice ao s.W.length c)), .int .i64 d, .int .i64 v, .int .i64 n, .agg #[.int .i64 y.num, .int .i64 y.d, .int .i64 y.v, .int .i64 y.amt, .int .i64 y.hei, .int .i64 y.due, .int .i64 y.h0, .int .i64 y.h1]] w fun e w' => AnswersC w.heap.size sb w r e w' := by
  have SS := ((SAt.new w (stC s (.slice ao s.W.length c))).alloc (.cells #[.int .i64 y.num, .int .i64 y.d, .int .i64 y.v, .int .i64 y.amt, .int .i64 y.hei, .int .i64 y.due, .int .i64 y.h0, .int .i64 y.h1] 54)).alloc (.cells Z63 34)
  have RR := SAt.new3 w (.cells (stC s (.slice ao s.W.length c)) 34) (.cells #[.int .i64 y.num, .int .i64 y.d, .int .i64 y.v, .int .i64 y.amt, .int .i64 y.hei, .int .i64 y.due, .int .i64 y.h0, .int .i64 y.h1] 54) Z63
  have HB : Hid (Below w.heap.size w (((w.alloc (.cells (stC s (.slice ao s.W.length c)) 34)).alloc (.cells #[.int .i64 y.num, .int .i64 y.d, .int .i64 y.v, .int .i64 y.amt, .int .i64 y.hei, .int .i64 y.due, .int .i64 y.h0, .int .i64 y.h1] 54)).alloc (.cells Z63 34))) := (((Below.refl _ w).alloc (Nat.le_refl _) _).alloc (by simp) _).alloc (by simp; omega) _
  have HW := hide hW
  have HR := hide hr
  have HC := hide hc
  clear hW hr hc
  go_enter Try.func13, Try.ntmps13
  go_upto_region 1 with fail
  change Code.wp Try.prog _ _ _ (((w.alloc (.cells (stC s (.slice ao s.W.length c)) 34)).alloc (.cells #[.int .i64 y.num, .int .i64 y.d, .int .i64 y.v, .int .i64 y.amt, .int .i64 y.hei, .int .i64 y.due, .int .i64 y.h0, .int .i64 y.h1] 54)).alloc (.cells Z63 34))
  generalize ((w.alloc (.cells (stC s (.slice ao s.W.length c)) 34)).alloc (.cells #[.int .i64 y.num, .int .i64 y.d, .int .i64 y.v, .int .i64 y.amt, .int .i64 y.hei, .int .i64 y.due, .int .i64 y.h0, .int .i64 y.h1] 54)).alloc (.cells Z63 34) = w0 at *
  go_upto_region 2 with (go_at_call 26; refine (refusedOf_any s ao sb so c w.heap.size d v _ SS (by exact HW.out.over HB.out)).mono ?_; rintro e w1 ⟨rfl, h1⟩)
  have HB1 := hide (HB.out.trans (h1.mono HB.out.size))
  have S1 := SS.later h1 SS.lt
  have R1 := RR.later h1 RR.lt
  clear SS RR h1 HB
  go_upto_region 3 with fail
  apply wp_region_lit
  refine wpList_load_mid rfl 34 _ rfl _ 0 rfl _ _ S1.range Try.underlying34 rfl (by rw [infoS]; rfl) ?_
  refine wpList_mv rfl _ rfl ?_
  refine wpList_store_mid rfl 34 _ _ rfl _ 0 (stC s (.slice ao s.W.length c)) rfl rfl (R1.there 0 _ (by rw [Z63_size, stC_size]; omega)) (by rw [infoS]; rfl) (stC_one _ _ _ _) ?_
  go_wp2
  exact stake_endz Try.results13 R1 rfl HB1.out (by omega) s ao sb so c _ r HR.out HC.out (HW.out.over HB1.out) (fun h => by have := HW.out.lt h; omega) (fun _ => .inl rfl) _ rfl rfl rfl
end Go.Proofs.Ytjmhmmphbcohdaa
