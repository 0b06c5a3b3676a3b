/- A stake as numbers, and when it is good: plain definitions. The stake's small functions: isValidator, isDelegator, isSome, validatorGood. A list of waits in memory; waitsGood. A stake's 63 cells in a block. sharesGood. isBalanced. Good. refused, refusedOf. Stores into a stake's cells; add. What the stake's functions answer: plain definitions. How a function that answers a stake and an error ends. How a function that answers a stake with a list of its own, and an error, ends. A whole stake loaded, in a region that draws its order. -/
import Derived.Test.YtjmhmmphbcohdaaXba
import Derived.WalkKit
import Derived.WalkSmall
import Derived.Below
import Derived.Deep.MidRow
import Derived.Deep.DeepCutAuto
import Derived.BigQuiet
import Derived.Deep.QuietTactic
import Derived.Deep.RegionHeld3
set_option maxRecDepth 100000
namespace Go.Proofs.Ytjmhmmphbcohdaa
structure Vd where
  tok : Int
  sh : Int
  lost : Int
  jail : Bool
  dead : Bool
structure Wt where
  num : Int
  d : Int
  v : Int
  amt : Int
  hei : Int
  due : Int
  h0 : Int
  h1 : Int
structure St where
  b : Bk
  V : Nat → Vd
  S : Nat → Nat → Int
  W : List Wt
  next : Int
/-- an amount -/
def inA (n : Int) : Bool := decide (0 ≤ n ∧ n ≤ 1125899906842624)
def isV (v : Int) : Bool := decide (0 ≤ v ∧ v < 6)
def isD (d : Int) : Bool := decide (0 ≤ d ∧ d < 4)
/-- a validator's numbers are right -/
def vOk (x : Vd) : Bool := inA x.tok && inA x.sh && inA x.lost && !(decide (0 < x.tok) && decide (x.sh = 0)) && (x.jail || !x.dead)
/-- the shares of the first delegators on a validator -/
def psh (S : Nat → Nat → Int) (v : Nat) : Nat → Int
  | 0 => 0
  | j + 1 => psh S v j + S j v
/-- the first delegators' shares on a validator are amounts -/
def pshOk (S : Nat → Nat → Int) (v : Nat) : Nat → Bool
  | 0 => true
  | j + 1 => pshOk S v j && inA (S j v)
def shOk (S : Nat → Nat → Int) (v : Nat) (sh : Int) : Bool := pshOk S v 4 && decide (psh S v 4 = sh)
def wOk1 (last next : Int) (w : Wt) : Bool := decide (last < w.num) && decide (w.num < next) && isD w.d && isV w.v && inA w.amt && decide (0 ≤ w.hei) && decide (0 ≤ w.due)
/-- the waits are right, their numbers rising -/
def wOk (next : Int) : Int → List Wt → Bool
  | _, [] => true
  | last, w :: r => wOk1 last next w && wOk next w.num r
def amts : List Wt → Int
  | [] => 0
  | w :: r => w.amt + amts r
def ptok (V : Nat → Vd) : Nat → Int
  | 0 => 0
  | k + 1 => ptok V k + (V k).tok
def plost (V : Nat → Vd) : Nat → Int
  | 0 => 0
  | k + 1 => plost V k + (V k).lost
def vsOk (s : St) (v : Nat) : Bool := vOk (s.V v) && shOk s.S v (s.V v).sh
def pvs (s : St) : Nat → Bool
  | 0 => true
  | k + 1 => pvs s k && vsOk s k
def bal (s : St) : Bool := decide (ptok s.V 6 = s.b.bo) && decide (amts s.W = s.b.wa) && decide (plost s.V 6 = s.b.bu)
def goodS (s : St) : Bool := s.b.good && decide (1 ≤ s.next) && decide (s.next ≤ 1125899906842624) && decide (s.W.length ≤ 60) && wOk s.next 0 s.W && pvs s 6 && bal s
/-- what a call on a validator says first -/
def refE (s : St) (v : Int) : Int := if goodS s = true then if isV v = true then 0 else 4 else 2
def refOfE (s : St) (d v : Int) : Int := if refE s v = 0 then if isD d = true then 0 else 4 else refE s v
/-- a times b by c, rounded down, where it is an amount; and its error -/
def mdN (a b c : Int) : Int := if a < 0 ∨ b < 0 ∨ c < 1 then 0 else if a * b / c ≤ 1125899906842624 then a * b / c else 0
def mdE (a b c : Int) : Int := if a < 0 ∨ b < 0 ∨ c < 1 then 2 else if a * b / c ≤ 1125899906842624 then 0 else 2
/-- how many shares n tokens more bring, and the error -/
def shN (x : Vd) (n : Int) : Int := if x.sh = 0 then n else if x.tok = 0 then 0 else if mdE n x.sh x.tok = 0 ∧ inA (x.sh + mdN n x.sh x.tok) = true then mdN n x.sh x.tok else 0
def shE (x : Vd) (n : Int) : Int := if x.sh = 0 then 0 else if x.tok = 0 then 8 else if mdE n x.sh x.tok = 0 ∧ inA (x.sh + mdN n x.sh x.tok) = true then if mdN n x.sh x.tok = 0 then 8 else 0 else 6
/-- how many tokens shares are worth, and the error -/
def woN (x : Vd) (n : Int) : Int := if mdE n x.tok x.sh = 0 then mdN n x.tok x.sh else 0
def woE (x : Vd) (n : Int) : Int := if mdE n x.tok x.sh = 0 then if mdN n x.tok x.sh = 0 then 8 else 0 else mdE n x.tok x.sh
def setV (V : Nat → Vd) (v : Nat) (x : Vd) : Nat → Vd := fun i => if i = v then x else V i
def setSh (S : Nat → Nat → Int) (d v : Nat) (n : Int) : Nat → Nat → Int := fun i j => if i = d ∧ j = v then n else S i j
/-- tokens and shares more on a validator -/
def addS (s : St) (d v : Nat) (t n : Int) : St := { s with V := setV s.V v { s.V v with tok := (s.V v).tok + t, sh := (s.V v).sh + n }, S := setSh s.S d v (s.S d v + n) }
theorem inA_iff {n : Int} : inA n = true ↔ 0 ≤ n ∧ n ≤ 1125899906842624 := decide_eq_true_iff
theorem isV_iff {n : Int} : isV n = true ↔ 0 ≤ n ∧ n < 6 := decide_eq_true_iff
theorem isD_iff {n : Int} : isD n = true ↔ 0 ≤ n ∧ n < 4 := decide_eq_true_iff
end Go.Proofs.Ytjmhmmphbcohdaa
namespace Go.Proofs.Ytjmhmmphbcohdaa
open Go.RowKit
theorem hide {p : Prop} (h : p) : Hid p := h
theorem isVal_any (d : Int) (w : World) : Calls Try.prog 46 #[.int .i64 d] w fun e w' => e = .returned (.bool (isV d)) ∧ w = w' := by
  unfold isV
  by_cases h0 : 0 ≤ d
  · by_cases h1 : d < 6
    · rw [decide_eq_true ⟨h0, h1⟩]
      go_enter Try.func46, Try.ntmps46
      go_wp2
      go_ret
      exact ⟨rfl, rfl⟩
    · rw [decide_eq_false (by omega)]
      go_enter Try.func46, Try.ntmps46
      go_wp2
      go_ret
      exact ⟨rfl, rfl⟩
  · rw [decide_eq_false (by omega)]
    go_enter Try.func46, Try.ntmps46
    go_wp2
    go_ret
    exact ⟨rfl, rfl⟩
theorem sisDel_any (d : Int) (w : World) : Calls Try.prog 45 #[.int .i64 d] w fun e w' => e = .returned (.bool (isD d)) ∧ w = w' := by
  unfold isD
  by_cases h0 : 0 ≤ d
  · by_cases h1 : d < 4
    · rw [decide_eq_true ⟨h0, h1⟩]
      go_enter Try.func45, Try.ntmps45
      go_wp2
      go_ret
      exact ⟨rfl, rfl⟩
    · rw [decide_eq_false (by omega)]
      go_enter Try.func45, Try.ntmps45
      go_wp2
      go_ret
      exact ⟨rfl, rfl⟩
  · rw [decide_eq_false (by omega)]
    go_enter Try.func45, Try.ntmps45
    go_wp2
    go_ret
    exact ⟨rfl, rfl⟩
theorem inA_any (d : Int) (w : World) : Calls Try.prog 47 #[.int .i64 d] w fun e w' => e = .returned (.bool (inA d)) ∧ w = w' := inn_any d w
theorem validatorGood_any (b o : Nat) (x : Vd) (w : World) (h0 : w.cell? ⟨b, o, none⟩ = some (.int .i64 x.tok)) (h1 : w.cell? ⟨b, o + 1, none⟩ = some (.int .i64 x.sh)) (h2 : w.cell? ⟨b, o + 2, none⟩ = some (.int .i64 x.lost))
    (h3 : w.cell? ⟨b, o + 3, none⟩ = some (.bool x.jail)) (h4 : w.cell? ⟨b, o + 4, none⟩ = some (.bool x.dead)) :
    Calls Try.prog 22 #[.pointer (some ⟨b, o, none⟩)] w fun e w' => e = .returned (.bool (vOk x)) ∧ w = w' := by
  unfold vOk
  have i1 := inA_any x.tok
  have i2 := inA_any x.sh
  have i3 := inA_any x.lost
  obtain ⟨xt, xs, xl, xj, xd⟩ := x
  simp only at *
  generalize inA xt = t1 at *
  generalize inA xs = t2 at *
  generalize inA xl = t3 at *
  go_enter Try.func22, Try.ntmps22
  go_wp2_with (first
    | (go_at_call 47; have _m := m2; refine (i3 _).mono ?_; rintro e w7 ⟨rfl, rfl⟩)
    | (go_at_call 47; have _m := m1; refine (i2 _).mono ?_; rintro e w6 ⟨rfl, rfl⟩; have m2 : True := trivial)
    | (go_at_call 47; refine (i1 _).mono ?_; rintro e w5 ⟨rfl, rfl⟩; have m1 : True := trivial))
  all_goals (go_ret; refine ⟨?_, rfl⟩; congr 1; congr 1; simp_all)
end Go.Proofs.Ytjmhmmphbcohdaa
namespace Go.Proofs.Ytjmhmmphbcohdaa
open Go.RowKit
/-- a list of waits lies in memory -/
structure WsAt (w : World) (ao : Option Addr) (b o : Nat) (W : List Wt) : Prop where
  adr : 0 < W.length → ao = some ⟨b, o, none⟩
  len : W.length * 64 ≤ 140737488351232
  cell : ∀ i x, W[i]? = some x → w.cell? ⟨b, o + i * 8, none⟩ = some (.int .i64 x.num) ∧ w.cell? ⟨b, o + i * 8 + 1, none⟩ = some (.int .i64 x.d) ∧ w.cell? ⟨b, o + i * 8 + 2, none⟩ = some (.int .i64 x.v) ∧ w.cell? ⟨b, o + i * 8 + 3, none⟩ = some (.int .i64 x.amt) ∧
    w.cell? ⟨b, o + i * 8 + 4, none⟩ = some (.int .i64 x.hei) ∧ w.cell? ⟨b, o + i * 8 + 5, none⟩ = some (.int .i64 x.due) ∧ w.cell? ⟨b, o + i * 8 + 6, none⟩ = some (.int .i64 x.h0) ∧ w.cell? ⟨b, o + i * 8 + 7, none⟩ = some (.int .i64 x.h1)
theorem WsAt.later {w w' : World} {ao : Option Addr} {b o B : Nat} {W : List Wt} (h : WsAt w ao b o W) (hb : Below B w w') (hB : 0 < W.length → b < B) : WsAt w' ao b o W := by
  refine ⟨h.adr, h.len, fun i x hx => ?_⟩
  have hlt : b < B := hB (by have := (List.getElem?_eq_some_iff.1 hx).1; omega)
  have k : ∀ o, w'.cell? ⟨b, o, none⟩ = w.cell? ⟨b, o, none⟩ := fun o => hb.cell hlt
  obtain ⟨h0, h1, h2, h3, h4, h5, h6, h7⟩ := h.cell i x hx
  exact ⟨(k _).trans h0, (k _).trans h1, (k _).trans h2, (k _).trans h3, (k _).trans h4, (k _).trans h5, (k _).trans h6, (k _).trans h7⟩
theorem WsAt.lt {w : World} {ao : Option Addr} {b o : Nat} {W : List Wt} (h : WsAt w ao b o W) (h0 : 0 < W.length) : b < w.heap.size := by
  obtain ⟨x, hx⟩ : ∃ x, W[0]? = some x := ⟨W[0], List.getElem?_eq_getElem h0⟩
  exact World.block_lt_of_cell? w _ (h.cell 0 x hx).1
theorem WsAt.over {w w' : World} {ao : Option Addr} {b o : Nat} {W : List Wt} (h : WsAt w ao b o W) (hb : Below w.heap.size w w') : WsAt w' ao b o W := h.later hb h.lt
theorem drop_at {α : Type} {l : List α} {k : Nat} (h : k < l.length) : ∃ x, l[k]? = some x ∧ l.drop k = x :: l.drop (k + 1) := ⟨l[k], List.getElem?_eq_getElem h, List.drop_eq_getElem_cons h⟩
def wtC (x : Wt) : Array Value := #[.int .i64 x.num, .int .i64 x.d, .int .i64 x.v, .int .i64 x.amt, .int .i64 x.hei, .int .i64 x.due, .int .i64 x.h0, .int .i64 x.h1]
theorem isSome_any (d : Int) (w : World) : Calls Try.prog 27 #[.int .i64 d] w fun e w' => e = .returned (.bool (decide (0 < d) && inA d)) ∧ w = w' := by
  have i1 := inA_any d
  generalize inA d = t at *
  go_enter Try.func27, Try.ntmps27
  go_wp2_with (go_at_call 47; refine (i1 _).mono ?_; rintro e w5 ⟨rfl, rfl⟩)
  all_goals (go_ret; refine ⟨?_, rfl⟩; congr 1; congr 1; first | (simp_all; done) | (simp_all; omega) | (simp_all; intros; omega))
set_option maxHeartbeats 1000000 in
theorem waitsGood_any (W : List Wt) (ao : Option Addr) (b o c : Nat) (next : Int) (w : World) (h : WsAt w ao b o W) :
    Calls Try.prog 21 #[.slice ao W.length c, .int .i64 next] w fun e w' => e = .returned (.bool (wOk next 0 W)) ∧ Below w.heap.size w w' := by
  have hlen := h.len
  have HW : Hid (WsAt w ao b o W) := h
  have hadr := h.adr
  clear h
  go_enter Try.func21, Try.ntmps21
  go_wp2
  go_loopw [5, 10] (fun s5 i wl => ∃ (k : Nat) (last : Int), k ≤ W.length ∧ i = .int .i64 (k : Int) ∧ s5 = .int .i64 last ∧ Hid (wOk next 0 W = wOk next last (W.drop k) ∧ Below w.heap.size w wl)) (fun _ i _ => W.length - (intOf i).toNat)
  case atStart => exact ⟨0, 0, Nat.zero_le _, rfl, rfl, rfl, Below.refl _ _⟩
  case round =>
    obtain ⟨k, last, hk, rfl, rfl, HR⟩ := hrel
    by_cases hlt : k < W.length
    · obtain ⟨x, hx, hd⟩ := drop_at hlt
      have HB : Hid (Below w.heap.size w wr) := HR.out.2
      obtain ⟨c0, c1, c2, c3, c4, c5, c6, c7⟩ := (HW.out.over HB.out).cell k x hx
      have HE : Hid (wOk next 0 W = (wOk1 last next x && wOk next x.num (W.drop (k + 1)))) := by have := HR.out.1; rw [hd] at this; exact this
      clear HR hd
      obtain rfl := hadr (by omega)
      clear hadr
      have hsz : w.heap.size ≤ wr.heap.size := HB.out.size
      have j1 := sisDel_any x.d
      have j2 := isVal_any x.v
      have j3 := inA_any x.amt
      have HO : Hid (∀ last, wOk1 last next x = (decide (last < x.num) && decide (x.num < next) && isD x.d && isV x.v && inA x.amt && decide (0 ≤ x.hei) && decide (0 ≤ x.due))) := fun _ => rfl
      generalize isD x.d = t1 at *
      generalize isV x.v = t2 at *
      generalize inA x.amt = t3 at *
      go_wp2_with (first
        | (go_at_call 45; refine (j1 _).mono ?_; rintro e w5 ⟨rfl, rfl⟩)
        | (go_at_call 46; refine (j2 _).mono ?_; rintro e w6 ⟨rfl, rfl⟩)
        | (go_at_call 47; refine (j3 _).mono ?_; rintro e w7 ⟨rfl, rfl⟩))
      all_goals first
        | (go_ret; refine ⟨?_, HB.out.alloc hsz _⟩; rw [HE.out, HO.out]; congr 1; congr 1; first | (simp_all; done) | (simp_all; omega) | (simp_all; intros; omega))
        | (go_roundw
           case rel => exact ⟨k + 1, x.num, by omega, by go_num, rfl, (by rw [HE.out, HO.out]; simp_all), HB.out.alloc hsz _⟩
           case measure => simp [intOf]; omega)
    · go_wp2
      go_ret
      refine ⟨?_, HR.out.2⟩
      rw [HR.out.1, List.drop_eq_nil_of_le (by omega)]
      rfl
end Go.Proofs.Ytjmhmmphbcohdaa
namespace Go.Proofs.Ytjmhmmphbcohdaa
open Go.RowKit
theorem infoS : (Try.prog.info? 34).map (·.size) = some 63 := by kernel_rfl
/-- 63 cells of a stake lie in a block -/
def SAt (w : World) (b : Nat) (cs : Array Value) : Prop := w.heap[b]? = some (.cells cs 34)
theorem SAt.new (w : World) (cs : Array Value) : SAt (w.alloc (.cells cs 34)) w.heap.size cs := heap_alloc_new _ _
theorem SAt.new2 (w : World) (o : Obj) (cs : Array Value) : SAt ((w.alloc o).alloc (.cells cs 34)) (w.heap.size + 1) cs := by
  have h : SAt ((w.alloc o).alloc (.cells cs 34)) (w.alloc o).heap.size cs := SAt.new (w.alloc o) cs
  rwa [show (w.alloc o).heap.size = w.heap.size + 1 by simp] at h
theorem SAt.later {w w' : World} {b B : Nat} {cs : Array Value} (h : SAt w b cs) (hb : Below B w w') (hB : b < B) : SAt w' b cs := (hb.block b hB).trans h
theorem SAt.alloc {w : World} {b : Nat} {cs : Array Value} (h : SAt w b cs) (o : Obj) : SAt (w.alloc o) b cs := (Below.heap_alloc _ _ _ (Array.getElem?_eq_some_iff.1 h).1).trans h
theorem SAt.lt {w : World} {b : Nat} {cs : Array Value} (h : SAt w b cs) : b < w.heap.size := (Array.getElem?_eq_some_iff.1 h).1
theorem SAt.other {w : World} {b c o : Nat} {cs : Array Value} (h : SAt w b cs) (hb : b ≠ c) (v : Value) : SAt (w.setCell ⟨c, o, none⟩ v) b cs := (Below.heap_setCell _ _ _ _ hb).trans h
theorem SAt.cell {w : World} {b : Nat} {cs : Array Value} (h : SAt w b cs) (o : Nat) : w.cell? ⟨b, o, none⟩ = cs[o]? := by
  unfold SAt at h
  simp [World.cell?, h]
theorem SAt.free {w : World} {b : Nat} {cs : Array Value} (h : SAt w b cs) (o : Nat) : w.frozen? ⟨b, o, none⟩ = false := by
  unfold SAt at h
  simp [World.frozen?, h]
theorem SAt.set {w : World} {b : Nat} {cs : Array Value} (h : SAt w b cs) (o : Nat) (v : Value) : SAt (w.setCell ⟨b, o, none⟩ v) b (cs.setIfInBounds o v) := by
  unfold SAt at *
  simp [World.setCell, Array.getElem?_modify, h]
theorem SAt.range {w : World} {b : Nat} {cs : Array Value} (h : SAt w b cs) : w.rangeAt b 0 cs.toList := by
  intro j v hv
  rw [Nat.zero_add, h.cell]
  simpa using hv
theorem SAt.there {w : World} {b : Nat} {cs : Array Value} (h : SAt w b cs) (o n : Nat) (hn : o + n ≤ cs.size) : w.there b o n := by
  intro j hj
  rw [h.cell, h.free]
  have : o + j < cs.size := by omega
  simp [this]
/-- cells with others in their place, from a place on -/
def spl (cs : Array Value) : Nat → List Value → Array Value
  | _, [] => cs
  | o, v :: r => spl (cs.setIfInBounds o v) (o + 1) r
theorem spl_size : ∀ (vs : List Value) (cs : Array Value) (o : Nat), (spl cs o vs).size = cs.size
  | [], _, _ => rfl
  | v :: r, cs, o => by rw [spl, spl_size r]; simp
theorem spl_get : ∀ (vs : List Value) (cs : Array Value) (o i : Nat), o + vs.length ≤ cs.size → (spl cs o vs)[i]? = if o ≤ i ∧ i < o + vs.length then vs[i - o]? else cs[i]?
  | [], cs, o, i, _ => by simp [spl]; intro h1 h2; omega
  | v :: r, cs, o, i, h => by
    simp only [List.length_cons] at h
    rw [spl, spl_get r _ (o + 1) i (by simp; omega)]
    by_cases e : i = o
    · subst e
      have : i < cs.size := by omega
      simp [this]
      intro h1
      omega
    · by_cases h1 : o + 1 ≤ i ∧ i < o + 1 + r.length
      · rw [if_pos h1, if_pos ⟨by omega, by simp; omega⟩]
        obtain ⟨j, rfl⟩ : ∃ j, i = o + 1 + j := ⟨i - (o + 1), by omega⟩
        rw [show o + 1 + j - (o + 1) = j by omega, show o + 1 + j - o = j + 1 by omega]
        simp
      · rw [if_neg h1, if_neg (by simp; omega), Array.getElem?_setIfInBounds_ne (by omega)]
theorem spl_all {cs ds : Array Value} (h : ds.size = cs.size) : spl cs 0 ds.toList = ds := by
  apply Array.ext_getElem?
  intro i
  rw [spl_get _ _ _ _ (by simp; omega)]
  by_cases hi : i < ds.size
  · rw [if_pos ⟨by omega, by simp; omega⟩]; simp
  · rw [if_neg (by simp; omega), Array.getElem?_eq_none (by omega), Array.getElem?_eq_none (by omega)]
theorem SAt.sets {b : Nat} : ∀ (vs : List Value) (o : Nat) (w : World) (cs : Array Value), SAt w b cs → SAt (w.setCells b o vs) b (spl cs o vs)
  | [], _, _, _, h => h
  | v :: r, o, _, _, h => SAt.sets r (o + 1) _ _ (h.set o v)
theorem SAt.setAll {w : World} {b : Nat} {cs ds : Array Value} (h : SAt w b cs) (hd : ds.size = cs.size) : SAt (w.setCells b 0 ds.toList) b ds := by
  have := SAt.sets ds.toList 0 w cs h
  rwa [spl_all hd] at this
theorem below_sets {B b : Nat} {a : World} (hB : B ≤ b) : ∀ (vs : List Value) (o : Nat) (w : World), Below B a w → Below B a (w.setCells b o vs)
  | [], _, _, h => h
  | v :: r, o, _, h => below_sets hB r (o + 1) _ (h.setCell hB v)
theorem heap_sets {b k : Nat} (hk : k ≠ b) : ∀ (vs : List Value) (o : Nat) (w : World), (w.setCells b o vs).heap[k]? = w.heap[k]?
  | [], _, _ => rfl
  | _ :: r, o, _ => (heap_sets hk r (o + 1) _).trans (Below.heap_setCell _ _ _ _ hk)
theorem SAt.load {w : World} {b : Nat} {cs : Array Value} (h : SAt w b cs) (hs : cs.size = 63) : (Instr.loadAt 34 (.pointer (some ⟨b, 0, none⟩))).run Try.prog w = .ok (.agg cs) w := by
  have := run_loadAt_mid (P := Try.prog) w b 0 34 cs.toList _ h.range Try.underlying34 rfl (by rw [infoS]; simp [hs])
  simpa using this
def Z63 : Array Value := #[.int .i64 0, .int .i64 0, .int .i64 0, .int .i64 0, .int .i64 0, .int .i64 0, .int .i64 0, .int .i64 0, .int .i64 0, .int .i64 0, .bool false, .bool false, .int .i64 0, .int .i64 0, .int .i64 0, .bool false, .bool false, .int .i64 0, .int .i64 0, .int .i64 0, .bool false, .bool false, .int .i64 0, .int .i64 0, .int .i64 0, .bool false, .bool false, .int .i64 0, .int .i64 0, .int .i64 0, .bool false, .bool false, .int .i64 0, .int .i64 0, .int .i64 0, .bool false, .bool false, .int .i64 0, .int .i64 0, .int .i64 0, .int .i64 0, .int .i64 0, .int .i64 0, .int .i64 0, .int .i64 0, .int .i64 0, .int .i64 0, .int .i64 0, .int .i64 0, .int .i64 0, .int .i64 0, .int .i64 0, .int .i64 0, .int .i64 0, .int .i64 0, .int .i64 0, .int .i64 0, .int .i64 0, .int .i64 0, .int .i64 0, .int .i64 0, .slice none 0 0, .int .i64 0]
theorem all_set {cs : Array Value} {i : Nat} {v : Value} (h : cs.all (·.oneCell') = true) (hv : v.oneCell' = true) : (cs.setIfInBounds i v).all (·.oneCell') = true := by
  rw [Array.all_eq_true_iff_forall_mem] at *
  intro x hx
  rcases Array.mem_or_eq_of_mem_setIfInBounds hx with h' | rfl
  · exact h x h'
  · exact hv
def vdC (x : Vd) : Array Value := #[.int .i64 (x).tok, .int .i64 (x).sh, .int .i64 (x).lost, .bool (x).jail, .bool (x).dead]
def vsC (V : Nat → Vd) : Array Value := #[.int .i64 (V 0).tok, .int .i64 (V 0).sh, .int .i64 (V 0).lost, .bool (V 0).jail, .bool (V 0).dead, .int .i64 (V 1).tok, .int .i64 (V 1).sh, .int .i64 (V 1).lost, .bool (V 1).jail, .bool (V 1).dead, .int .i64 (V 2).tok, .int .i64 (V 2).sh, .int .i64 (V 2).lost, .bool (V 2).jail, .bool (V 2).dead, .int .i64 (V 3).tok, .int .i64 (V 3).sh, .int .i64 (V 3).lost, .bool (V 3).jail, .bool (V 3).dead, .int .i64 (V 4).tok, .int .i64 (V 4).sh, .int .i64 (V 4).lost, .bool (V 4).jail, .bool (V 4).dead, .int .i64 (V 5).tok, .int .i64 (V 5).sh, .int .i64 (V 5).lost, .bool (V 5).jail, .bool (V 5).dead]
def rowC (r : Nat → Int) : Array Value := #[.int .i64 (r 0), .int .i64 (r 1), .int .i64 (r 2), .int .i64 (r 3), .int .i64 (r 4), .int .i64 (r 5)]
def shC (S : Nat → Nat → Int) : Array Value := #[.int .i64 (S 0 0), .int .i64 (S 0 1), .int .i64 (S 0 2), .int .i64 (S 0 3), .int .i64 (S 0 4), .int .i64 (S 0 5), .int .i64 (S 1 0), .int .i64 (S 1 1), .int .i64 (S 1 2), .int .i64 (S 1 3), .int .i64 (S 1 4), .int .i64 (S 1 5), .int .i64 (S 2 0), .int .i64 (S 2 1), .int .i64 (S 2 2), .int .i64 (S 2 3), .int .i64 (S 2 4), .int .i64 (S 2 5), .int .i64 (S 3 0), .int .i64 (S 3 1), .int .i64 (S 3 2), .int .i64 (S 3 3), .int .i64 (S 3 4), .int .i64 (S 3 5)]
def bkC (b : Bk) : Array Value := #[.int .i64 b.f0, .int .i64 b.f1, .int .i64 b.f2, .int .i64 b.f3, .int .i64 b.bo, .int .i64 b.wa, .int .i64 b.bu]
def stL (b : Bk) (V : Nat → Vd) (S : Nat → Nat → Int) (sl : Value) (next : Int) : List Value := (bkC b).toList ++ ((vsC V).toList ++ ((shC S).toList ++ [sl, .int .i64 next]))
def stC (s : St) (sl : Value) : Array Value := (stL s.b s.V s.S sl s.next).toArray
theorem stC_size (s : St) (sl : Value) : (stC s sl).size = 63 := rfl
theorem st_bank {w : World} {b : Nat} {s : St} {sl : Value} (h : SAt w b (stC s sl)) : w.rangeAt b 0 (bkC s.b).toList := by
  intro j v hv
  have hj : j < 7 := (List.getElem?_eq_some_iff.1 hv).1
  rw [h.cell, Nat.zero_add]
  simp only [stC, stL, List.getElem?_toArray]
  rw [List.getElem?_append_left (show j < (bkC s.b).toList.length from hj)]
  exact hv
theorem st_vals {w : World} {b : Nat} {s : St} {sl : Value} (h : SAt w b (stC s sl)) : w.rangeAt b 7 (vsC s.V).toList := by
  intro j v hv
  have hj : j < 30 := (List.getElem?_eq_some_iff.1 hv).1
  rw [h.cell]
  simp only [stC, stL, List.getElem?_toArray]
  rw [List.getElem?_append_right (by show 7 ≤ 7 + j; omega), show 7 + j - (bkC s.b).toList.length = j from by show 7 + j - 7 = j; omega, List.getElem?_append_left (show j < (vsC s.V).toList.length from hj)]
  exact hv
theorem st_shares {w : World} {b : Nat} {s : St} {sl : Value} (h : SAt w b (stC s sl)) : w.rangeAt b 37 (shC s.S).toList := by
  intro j v hv
  have hj : j < 24 := (List.getElem?_eq_some_iff.1 hv).1
  rw [h.cell]
  simp only [stC, stL, List.getElem?_toArray]
  rw [List.getElem?_append_right (by show 7 ≤ 37 + j; omega), show 37 + j - (bkC s.b).toList.length = 30 + j from by show 37 + j - 7 = 30 + j; omega,
    List.getElem?_append_right (by show 30 ≤ 30 + j; omega), show 30 + j - (vsC s.V).toList.length = j from by show 30 + j - 30 = j; omega, List.getElem?_append_left (show j < (shC s.S).toList.length from hj)]
  exact hv
theorem st_cells {w : World} {b : Nat} {s : St} {sl : Value} (h : SAt w b (stC s sl)) : w.cell? ⟨b, 0, none⟩ = some (.int .i64 s.b.f0) ∧ w.cell? ⟨b, 1, none⟩ = some (.int .i64 s.b.f1) ∧ w.cell? ⟨b, 2, none⟩ = some (.int .i64 s.b.f2) ∧ w.cell? ⟨b, 3, none⟩ = some (.int .i64 s.b.f3) ∧ w.cell? ⟨b, 4, none⟩ = some (.int .i64 s.b.bo) ∧ w.cell? ⟨b, 5, none⟩ = some (.int .i64 s.b.wa) ∧ w.cell? ⟨b, 6, none⟩ = some (.int .i64 s.b.bu) ∧ w.cell? ⟨b, 61, none⟩ = some sl ∧ w.cell? ⟨b, 62, none⟩ = some (.int .i64 s.next) :=
  ⟨(h.cell 0).trans rfl, (h.cell 1).trans rfl, (h.cell 2).trans rfl, (h.cell 3).trans rfl, (h.cell 4).trans rfl, (h.cell 5).trans rfl, (h.cell 6).trans rfl, (h.cell 61).trans rfl, (h.cell 62).trans rfl⟩
theorem infoVs : (Try.prog.info? 29).map (·.size) = some 30 := by kernel_rfl
theorem infoSh : (Try.prog.info? 31).map (·.size) = some 24 := by kernel_rfl
theorem ixV (w : World) (V : Nat → Vd) (k : Nat) (hk : k < 6) : (Instr.index 29 (.agg (vsC V)) (.int .i64 k)).run Try.prog w = .ok (.agg #[.int .i64 (V k).tok, .int .i64 (V k).sh, .int .i64 (V k).lost, .bool (V k).jail, .bool (V k).dead]) w := by
  rcases (show k = 0 ∨ k = 1 ∨ k = 2 ∨ k = 3 ∨ k = 4 ∨ k = 5 by omega) with rfl | rfl | rfl | rfl | rfl | rfl <;> kernel_rfl
theorem ixS (w : World) (S : Nat → Nat → Int) (k : Nat) (hk : k < 4) : (Instr.index 31 (.agg (shC S)) (.int .i64 k)).run Try.prog w = .ok (.agg #[.int .i64 (S k 0), .int .i64 (S k 1), .int .i64 (S k 2), .int .i64 (S k 3), .int .i64 (S k 4), .int .i64 (S k 5)]) w := by
  rcases (show k = 0 ∨ k = 1 ∨ k = 2 ∨ k = 3 by omega) with rfl | rfl | rfl | rfl <;> kernel_rfl
theorem SAt.val {w : World} {b : Nat} {s : St} {sl : Value} (h : SAt w b (stC s sl)) (k : Nat) (hk : k < 6) : w.cell? ⟨b, 7 + k * 5, none⟩ = some (.int .i64 (s.V k).tok) ∧ w.cell? ⟨b, 7 + k * 5 + 1, none⟩ = some (.int .i64 (s.V k).sh) ∧ w.cell? ⟨b, 7 + k * 5 + 2, none⟩ = some (.int .i64 (s.V k).lost) ∧ w.cell? ⟨b, 7 + k * 5 + 3, none⟩ = some (.bool (s.V k).jail) ∧ w.cell? ⟨b, 7 + k * 5 + 4, none⟩ = some (.bool (s.V k).dead) := by
  rcases (show k = 0 ∨ k = 1 ∨ k = 2 ∨ k = 3 ∨ k = 4 ∨ k = 5 by omega) with rfl | rfl | rfl | rfl | rfl | rfl <;> exact ⟨(h.cell _).trans rfl, (h.cell _).trans rfl, (h.cell _).trans rfl, (h.cell _).trans rfl, (h.cell _).trans rfl⟩
theorem SAt.shr {w : World} {b : Nat} {s : St} {sl : Value} (h : SAt w b (stC s sl)) (d v : Nat) (hd : d < 4) (hv : v < 6) : w.cell? ⟨b, 37 + d * 6 + v, none⟩ = some (.int .i64 (s.S d v)) := by
  rcases (show d = 0 ∨ d = 1 ∨ d = 2 ∨ d = 3 by omega) with rfl | rfl | rfl | rfl <;> rcases (show v = 0 ∨ v = 1 ∨ v = 2 ∨ v = 3 ∨ v = 4 ∨ v = 5 by omega) with rfl | rfl | rfl | rfl | rfl | rfl <;> exact (h.cell _).trans rfl
theorem stC_one (s : St) (sa : Option Addr) (n c : Nat) : (stC s (.slice sa n c)).all (·.oneCell') = true := by simp [stC, stL, bkC, vsC, shC, Value.oneCell']
theorem stC_61 (s : St) (sl : Value) : (stC s sl)[61]? = some sl := rfl
end Go.Proofs.Ytjmhmmphbcohdaa
namespace Go.Proofs.Ytjmhmmphbcohdaa
open Go.RowKit
theorem wrap64_in {n : Int} (h0 : -9223372036854775808 ≤ n) (h1 : n < 9223372036854775808) : wrap64 n = n := by
  unfold wrap64
  omega
theorem psh_bound {S : Nat → Nat → Int} {v : Nat} : ∀ j, pshOk S v j = true → 0 ≤ psh S v j ∧ psh S v j ≤ 1125899906842624 * (j : Int)
  | 0, _ => by simp [psh]
  | j + 1, h => by
    simp only [pshOk, Bool.and_eq_true, inA_iff] at h
    have h1 := psh_bound j h.1
    have h2 := h.2
    simp only [psh]
    omega
theorem shOk_false {S : Nat → Nat → Int} {v j : Nat} {x : Int} (hj : j < 4) (hin : inA (S j v) = false) : shOk S v x = false := by
  unfold shOk
  rcases (show j = 0 ∨ j = 1 ∨ j = 2 ∨ j = 3 by omega) with rfl | rfl | rfl | rfl <;> simp [pshOk, hin]
theorem shOk_dec {S : Nat → Nat → Int} {v : Nat} {x : Int} (h : pshOk S v 4 = true) : shOk S v x = decide (psh S v 4 = x) := by
  unfold shOk
  rw [h, Bool.true_and]
set_option maxHeartbeats 1000000 in
theorem sharesGood_any (s : St) (sl : Value) (b v : Nat) (hv : v < 6) (w : World) (h : SAt w b (stC s sl)) :
    Calls Try.prog 23 #[.pointer (some ⟨b, 0, none⟩), .int .i64 (v : Int)] w fun e w' => e = .returned (.bool (shOk s.S v (s.V v).sh)) ∧ w = w' := by
  have HS : Hid (SAt w b (stC s sl)) := h
  have hv' : (v : Int) < 6 := by omega
  obtain ⟨_, hsh, _⟩ := h.val v hv
  clear h
  go_enter Try.func23, Try.ntmps23
  go_wp2
  go_loop [5, 8] (fun s5 i => ∃ (j : Nat), j ≤ 4 ∧ i = .int .i64 (j : Int) ∧ s5 = .int .i64 (psh s.S v j) ∧ Hid (pshOk s.S v j = true)) (fun _ i => (4 - intOf i).toNat)
  case atStart => exact ⟨0, by omega, rfl, rfl, rfl⟩
  case round =>
    obtain ⟨j, hj, rfl, rfl, HR⟩ := hrel
    by_cases hlt : j < 4
    · have hlt' : (j : Int) < 4 := by omega
      have hc := HS.out.shr j v hlt hv
      have i1 := inA_any (s.S j v)
      have hpb := psh_bound j HR.out
      by_cases hin : inA (s.S j v) = true
      · rw [hin] at i1
        have HR2 : Hid (pshOk s.S v (j + 1) = true) := by show (pshOk s.S v j && inA (s.S j v)) = true; rw [HR.out, hin]; rfl
        rw [inA_iff] at hin
        have hps : psh s.S v (j + 1) = psh s.S v j + s.S j v := rfl
        have HP : Hid (psh s.S v (j + 1) = psh s.S v j + s.S j v) := hps
        clear hps
        go_wp2_with (go_at_call 47; refine (i1 _).mono ?_; rintro e w5 ⟨rfl, rfl⟩)
        go_round
        case rel => exact ⟨j + 1, by omega, by go_num, by rw [HP.out], HR2.out⟩
        case measure => simp [intOf]; omega
      · simp only [Bool.not_eq_true] at hin
        rw [hin] at i1
        have HF : Hid (shOk s.S v (s.V v).sh = false) := shOk_false hlt hin
        clear hin
        go_wp2_with (go_at_call 47; refine (i1 _).mono ?_; rintro e w5 ⟨rfl, rfl⟩)
        go_ret
        exact ⟨by rw [HF.out]; rfl, rfl⟩
    · obtain rfl : j = 4 := by omega
      have HF : Hid (shOk s.S v (s.V v).sh = decide (psh s.S v 4 = (s.V v).sh)) := shOk_dec HR.out
      go_wp2
      go_ret
      exact ⟨by rw [HF.out]; congr 1, rfl⟩
end Go.Proofs.Ytjmhmmphbcohdaa
namespace Go.Proofs.Ytjmhmmphbcohdaa
open Go.RowKit
theorem ptok_bound {V : Nat → Vd} : ∀ k, (∀ i, i < k → inA (V i).tok = true) → 0 ≤ ptok V k ∧ ptok V k ≤ 1125899906842624 * (k : Int)
  | 0, _ => by simp [ptok]
  | k + 1, h => by
    have h1 := ptok_bound k (fun i hi => h i (by omega))
    have h2 := inA_iff.1 (h k (by omega))
    simp only [ptok] at *
    omega
theorem plost_bound {V : Nat → Vd} : ∀ k, (∀ i, i < k → inA (V i).lost = true) → 0 ≤ plost V k ∧ plost V k ≤ 1125899906842624 * (k : Int)
  | 0, _ => by simp [plost]
  | k + 1, h => by
    have h1 := plost_bound k (fun i hi => h i (by omega))
    have h2 := inA_iff.1 (h k (by omega))
    simp only [plost] at *
    omega
theorem amts_take {W : List Wt} {k : Nat} {x : Wt} (h : W[k]? = some x) : amts (W.take (k + 1)) = amts (W.take k) + x.amt := by
  have hk := (List.getElem?_eq_some_iff.1 h).1
  rw [List.take_succ_eq_append_getElem hk]
  have e : W[k] = x := by simpa [List.getElem?_eq_getElem hk] using h
  rw [e]
  generalize W.take k = l
  induction l with
  | nil => simp [amts]
  | cons y r ih => simp only [List.cons_append, amts, ih]; omega
theorem amts_bound : ∀ {l : List Wt}, (∀ x ∈ l, inA x.amt = true) → 0 ≤ amts l ∧ amts l ≤ 1125899906842624 * (l.length : Int)
  | [], _ => by simp [amts]
  | x :: r, h => by
    have h1 := amts_bound (l := r) (fun y hy => h y (List.mem_cons_of_mem _ hy))
    have h2 := inA_iff.1 (h x List.mem_cons_self)
    simp only [amts, List.length_cons]
    omega
set_option maxHeartbeats 2000000 in
theorem isBalanced_any (s : St) (ao : Option Addr) (sb so c b : Nat) (w : World) (h : SAt w b (stC s (.slice ao s.W.length c))) (hW : WsAt w ao sb so s.W) (hl : s.W.length ≤ 60)
    (hv : ∀ i, i < 6 → inA (s.V i).tok = true ∧ inA (s.V i).lost = true) (ha : ∀ x ∈ s.W, inA x.amt = true) :
    Calls Try.prog 24 #[.pointer (some ⟨b, 0, none⟩)] w fun e w' => e = .returned (.bool (bal s)) ∧ Below w.heap.size w w' := by
  have HS : Hid (SAt w b (stC s (.slice ao s.W.length c))) := h
  have HV : Hid (∀ i, i < 6 → inA (s.V i).tok = true ∧ inA (s.V i).lost = true) := hv
  have HA : Hid (∀ x ∈ s.W, inA x.amt = true) := ha
  have HW : Hid (WsAt w ao sb so s.W) := hW
  have hrg := st_vals h
  have hblt : b < w.heap.size := h.lt
  clear hv ha h hW
  go_enter Try.func24, Try.ntmps24
  go_upto_region 2 with fail
  apply wp_region_lit
  iterate 9 go_step
  refine wpList_load_mid rfl 29 _ rfl b 7 rfl _ _ hrg Try.underlying29 rfl (by rw [infoVs]; rfl) ?_
  clear hrg
  go_wp2_with fail
  go_loopw [3, 4, 14] (fun s3 s4 i wl => ∃ k : Nat, k ≤ 6 ∧ i = .int .i64 (k : Int) ∧ s3 = .int .i64 (ptok s.V k) ∧ s4 = .int .i64 (plost s.V k) ∧ Hid (Below w.heap.size w wl)) (fun _ _ i _ => (6 - intOf i).toNat)
  case atStart => exact ⟨0, by omega, rfl, rfl, rfl, Below.refl _ _⟩
  case round =>
    obtain ⟨k, hk, rfl, rfl, rfl, HB⟩ := hrel
    have hsz : w.heap.size ≤ wr.heap.size := HB.out.size
    by_cases hk6 : k < 6
    · have hix := fun w => ixV w s.V k hk6
      have b1 := ptok_bound (V := s.V) k (fun i hi => (HV.out i (by omega)).1)
      have b2 := plost_bound (V := s.V) k (fun i hi => (HV.out i (by omega)).2)
      have b3 := inA_iff.1 (HV.out k hk6).1
      have b4 := inA_iff.1 (HV.out k hk6).2
      have P1 : Hid (ptok s.V (k + 1) = ptok s.V k + (s.V k).tok) := rfl
      have P2 : Hid (plost s.V (k + 1) = plost s.V k + (s.V k).lost) := rfl
      go_wp2_with fail
      go_roundw
      case rel => exact ⟨k + 1, by omega, by go_num, by rw [P1.out], by rw [P2.out], HB.out.alloc hsz _⟩
      case measure => simp [intOf]; omega
    · obtain rfl : k = 6 := by omega
      rename World => w1
      have S1 := HS.out.later HB.out hblt
      obtain ⟨x0, x1, x2, x3, x4, x5, x6, x7, x8⟩ := st_cells S1
      have HS1 : Hid (SAt w1 b (stC s (.slice ao s.W.length c))) := S1
      have HW1 : Hid (WsAt w1 ao sb so s.W) := HW.out.over HB.out
      have hadr := HW.out.adr
      clear x0 x1 x2 x3 x4 x5 x6 x8 S1 HS HW
      go_wp2_with fail
      clear x7
      go_loopw [5, 31] (fun s5 i wl => ∃ k : Nat, k ≤ s.W.length ∧ i = .int .i64 (k : Int) ∧ s5 = .int .i64 (amts (s.W.take k)) ∧ Hid (Below w1.heap.size w1 wl)) (fun _ i _ => s.W.length - (intOf i).toNat)
      case atStart => exact ⟨0, by omega, rfl, rfl, Below.refl _ _⟩
      case round =>
        obtain ⟨k, hk, rfl, rfl, HB1⟩ := hrel
        have hsz1 : w1.heap.size ≤ wr.heap.size := HB1.out.size
        by_cases hlt : k < s.W.length
        · obtain ⟨x, hx, _⟩ := drop_at hlt
          obtain ⟨c0, c1, c2, c3, c4, c5, c6, c7⟩ := (HW1.out.over HB1.out).cell k x hx
          have P1 : Hid (amts (s.W.take (k + 1)) = amts (s.W.take k) + x.amt) := amts_take hx
          have b1 := amts_bound (l := s.W.take k) (fun y hy => HA.out y (List.mem_of_mem_take hy))
          rw [List.length_take, Nat.min_eq_left hk] at b1
          have b2 := inA_iff.1 (HA.out x (List.mem_of_getElem? hx))
          obtain rfl := hadr (by omega)
          clear hadr hx
          go_wp2_with fail
          go_roundw
          case rel => exact ⟨k + 1, by omega, by go_num, by rw [P1.out], HB1.out.alloc hsz1 _⟩
          case measure => simp [intOf]; omega
        · have S1 := HS1.out.later HB1.out (by omega)
          obtain ⟨x0, x1, x2, x3, x4, x5, x6, x7, x8⟩ := st_cells S1
          have HF : Hid (bal s = (decide (ptok s.V 6 = s.b.bo) && decide (amts (s.W.take k) = s.b.wa) && decide (plost s.V 6 = s.b.bu))) := by rw [List.take_of_length_le (by omega)]; exact rfl
          clear x0 x1 x2 x3 x7 x8 S1
          generalize ptok s.V 6 = pt at *
          generalize plost s.V 6 = pl at *
          generalize amts (s.W.take k) = pa at *
          go_wp2_with fail
          all_goals (go_ret; refine ⟨?_, HB.out.trans (HB1.out.mono hsz)⟩; rw [HF.out]; congr 1; congr 1; first | (simp_all; done) | (simp_all; rfl))
end Go.Proofs.Ytjmhmmphbcohdaa
namespace Go.Proofs.Ytjmhmmphbcohdaa
open Go.RowKit
theorem pvs_no {s : St} : ∀ {n k : Nat}, k < n → vsOk s k = false → pvs s n = false
  | 0, _, h, _ => by omega
  | n + 1, k, h, hk => by
    rw [pvs]
    rcases (show k < n ∨ k = n by omega) with h' | rfl
    · rw [pvs_no h' hk, Bool.false_and]
    · rw [hk, Bool.and_false]
theorem pvs_at {s : St} : ∀ {n k : Nat}, pvs s n = true → k < n → vsOk s k = true
  | 0, _, _, h => by omega
  | n + 1, k, h, hk => by
    rw [pvs, Bool.and_eq_true] at h
    rcases (show k < n ∨ k = n by omega) with h' | rfl
    · exact pvs_at h.1 h'
    · exact h.2
theorem vOk_amounts {x : Vd} (h : vOk x = true) : inA x.tok = true ∧ inA x.sh = true ∧ inA x.lost = true := by
  unfold vOk at h
  simp only [Bool.and_eq_true] at h
  exact ⟨h.1.1.1.1, h.1.1.1.2, h.1.1.2⟩
theorem wOk_amounts {next : Int} : ∀ {l : List Wt} {last : Int}, wOk next last l = true → ∀ x ∈ l, inA x.amt = true
  | [], _, _, x, hx => by cases hx
  | y :: r, last, h, x, hx => by
    rw [wOk, Bool.and_eq_true] at h
    rcases List.mem_cons.1 hx with rfl | hx
    · have := h.1; unfold wOk1 at this; simp only [Bool.and_eq_true] at this; exact this.1.1.2
    · exact wOk_amounts h.2 x hx
set_option maxHeartbeats 2000000 in
theorem sgood_any (s : St) (ao : Option Addr) (sb so c : Nat) (w : World) (hW : WsAt w ao sb so s.W) :
    Calls Try.prog 7 #[.agg (stC s (.slice ao s.W.length c))] w fun e w' => e = .returned (.bool (goodS s)) ∧ Below w.heap.size w w' := by
  have S0 := SAt.new w (stC s (.slice ao s.W.length c))
  have HB0 : Hid (Below w.heap.size w (w.alloc (.cells (stC s (.slice ao s.W.length c)) 34))) := (Below.refl _ w).alloc (Nat.le_refl _) _
  have HW : Hid (WsAt w ao sb so s.W) := hW
  have hlen := hW.len
  have hGB := good_any s.b.f0 s.b.f1 s.b.f2 s.b.f3 s.b.bo s.b.wa s.b.bu
  have hWG := fun w h => waitsGood_any s.W ao sb so c s.next w h
  have HG : Hid (goodS s = (goodB s.b.f0 s.b.f1 s.b.f2 s.b.f3 s.b.bo s.b.wa s.b.bu && decide (1 ≤ s.next) && decide (s.next ≤ 1125899906842624) && decide (s.W.length ≤ 60) && wOk s.next 0 s.W && pvs s 6 && bal s)) := rfl
  have HT2 : Hid (wOk s.next 0 s.W = true → ∀ x ∈ s.W, inA x.amt = true) := wOk_amounts
  generalize goodB s.b.f0 s.b.f1 s.b.f2 s.b.f3 s.b.bo s.b.wa s.b.bu = t1 at *
  generalize wOk s.next 0 s.W = t2 at *
  clear hW
  go_enter Try.func7, Try.ntmps7
  go_upto_region 1 with fail
  generalize w.alloc (.cells (stC s (.slice ao s.W.length c)) 34) = w0 at *
  obtain ⟨x0, x1, x2, x3, x4, x5, x6, x7, x8⟩ := st_cells S0
  go_wp2_with (first
    | (go_at_call 20; refine (hGB _).mono ?_; rintro e w1 ⟨rfl, h1⟩; have S1 := S0.later h1 S0.lt; have HB1 : Hid (Below w.heap.size w w1) := HB0.out.trans (h1.mono HB0.out.size); obtain ⟨y0, y1, y2, y3, y4, y5, y6, y7, y8⟩ := st_cells S1; clear x0 x1 x2 x3 x4 x5 x6 x7 x8 y0 y1 y2 y3 y4 y5 y6 h1 S0 HB0)
    | (go_at_call 21; refine (hWG _ (by exact HW.out.over HB1.out)).mono ?_; rintro e w2 ⟨rfl, h2⟩; have HB2 : Hid (Below w.heap.size w w2) := HB1.out.trans (h2.mono HB1.out.size); have S2 := S1.later h2 S1.lt; clear h2 S1 y7 y8))
  all_goals first
    | (go_ret; first | (refine ⟨?_, HB2.out⟩; rw [HG.out]; congr 1; congr 1; first | (simp_all; done) | (cases t2 <;> simp_all <;> omega) | (simp_all; omega) | (simp_all; intros; omega)) | (refine ⟨?_, HB1.out⟩; rw [HG.out]; congr 1; congr 1; first | (simp_all; done) | (simp_all; omega) | (simp_all; intros; omega)))
    | skip
  have hl60 : s.W.length ≤ 60 := by omega
  have hg2 : goodS s = (pvs s 6 && bal s) := by rw [HG.out]; simp_all
  have HG2 : Hid (goodS s = (pvs s 6 && bal s)) := hg2
  have HA : Hid (∀ x ∈ s.W, inA x.amt = true) := HT2.out (by simp_all)
  have hbl : w.heap.size < w2.heap.size := S2.lt
  clear HG HT2 hGB hWG HB1
  clear hg2
  obtain rfl : t2 = true := by simp_all
  simp only [Bool.not_true, Bool.or_false]
  go_loopw [30] (fun i wl => ∃ k : Nat, k ≤ 6 ∧ i = .int .i64 (k : Int) ∧ Hid (pvs s k = true ∧ Below w2.heap.size w2 wl)) (fun i _ => (6 - intOf i).toNat)
  case atStart => exact ⟨0, by omega, rfl, rfl, Below.refl _ _⟩
  case round =>
    obtain ⟨k, hk, rfl, HR⟩ := hrel
    have HB3 : Hid (Below w.heap.size w wr) := HB2.out.trans (HR.out.2.mono (Nat.le_of_lt hbl))
    have S3 := S2.later HR.out.2 hbl
    clear S2
    by_cases hk6 : k < 6
    · obtain ⟨c0, c1, c2, c3, c4⟩ := S3.val k hk6
      have hkk : (k : Int) < 6 := by omega
      have j1 := validatorGood_any w.heap.size (7 + k * 5) (s.V k) wr c0 c1 c2 c3 c4
      have j2 := sharesGood_any s (.slice ao s.W.length c) w.heap.size k hk6 wr S3
      have HV : Hid (vsOk s k = (vOk (s.V k) && shOk s.S k (s.V k).sh)) := rfl
      generalize vOk (s.V k) = t3 at *
      generalize shOk s.S k (s.V k).sh = t4 at *
      clear c0 c1 c2 c3 c4 S3
      go_wp2_with (first
        | (go_at_call 22; refine j1.mono ?_; rintro e w4 ⟨rfl, rfl⟩)
        | (go_at_call 23; refine j2.mono ?_; rintro e w4 ⟨rfl, rfl⟩))
      all_goals first
        | (go_ret; refine ⟨?_, HB3.out⟩; rw [HG2.out, pvs_no hk6 (by rw [HV.out]; simp_all)]; rfl)
        | (go_roundw
           case rel =>
             have hp : pvs s (k + 1) = true := by rw [pvs, HR.out.1, HV.out]; simp_all
             exact ⟨k + 1, by omega, by go_num, hp, HR.out.2⟩
           case measure => simp [intOf]; omega)
    · obtain rfl : k = 6 := by omega
      have hj := isBalanced_any s ao sb so c w.heap.size wr S3 (HW.out.over HB3.out) hl60 (fun i hi => by have h := pvs_at HR.out.1 hi; rw [vsOk, Bool.and_eq_true] at h; exact ⟨(vOk_amounts h.1).1, (vOk_amounts h.1).2.2⟩) HA.out
      have hg3 : goodS s = bal s := by rw [HG2.out, HR.out.1, Bool.true_and]
      have HG3 : Hid (goodS s = bal s) := hg3
      clear hg3
      generalize bal s = t5 at *
      clear S3
      go_wp2_with (go_at_call 24; refine hj.mono ?_; rintro e w5 ⟨rfl, h5⟩)
      go_ret
      refine ⟨?_, HB3.out.trans (h5.mono HB3.out.size)⟩
      rw [HG3.out]
      rfl
end Go.Proofs.Ytjmhmmphbcohdaa
namespace Go.Proofs.Ytjmhmmphbcohdaa
open Go.RowKit
set_option maxHeartbeats 1000000 in
theorem refused_any (s : St) (ao : Option Addr) (sb so c b : Nat) (v : Int) (w : World) (h : SAt w b (stC s (.slice ao s.W.length c))) (hW : WsAt w ao sb so s.W) :
    Calls Try.prog 37 #[.pointer (some ⟨b, 0, none⟩), .int .i64 v] w fun e w' => e = .returned (.int .i64 (refE s v)) ∧ Below w.heap.size w w' := by
  have hrg := h.range
  have hG := sgood_any s ao sb so c w hW
  have hV := isVal_any v
  unfold refE
  generalize goodS s = t1 at *
  generalize isV v = t2 at *
  clear h hW
  go_enter Try.func37, Try.ntmps37
  go_upto_region 1 with fail
  apply wp_region_lit
  iterate 6 go_step
  refine wpList_load_mid rfl 34 _ rfl b 0 rfl _ _ hrg Try.underlying34 rfl (by rw [infoS]; rfl) ?_
  clear hrg
  go_wp2_with (first
    | (go_at_call 7; refine hG.mono ?_; rintro e w1 ⟨rfl, hB⟩)
    | (go_at_call 46; refine (hV _).mono ?_; rintro e w2 ⟨rfl, rfl⟩))
  all_goals (go_ret; refine ⟨?_, hB⟩; first | (simp_all; done) | (congr 1; congr 1; simp_all))
set_option maxHeartbeats 1000000 in
theorem refusedOf_any (s : St) (ao : Option Addr) (sb so c b : Nat) (d v : Int) (w : World) (h : SAt w b (stC s (.slice ao s.W.length c))) (hW : WsAt w ao sb so s.W) :
    Calls Try.prog 26 #[.pointer (some ⟨b, 0, none⟩), .int .i64 d, .int .i64 v] w fun e w' => e = .returned (.int .i64 (refOfE s d v)) ∧ Below w.heap.size w w' := by
  have hG := refused_any s ao sb so c b v w h hW
  have hV := sisDel_any d
  unfold refOfE
  generalize refE s v = t1 at *
  generalize isD d = t2 at *
  clear h hW
  go_enter Try.func26, Try.ntmps26
  go_wp2_with (first
    | (go_at_call 37; refine hG.mono ?_; rintro e w1 ⟨rfl, hB⟩)
    | (go_at_call 45; refine (hV _).mono ?_; rintro e w2 ⟨rfl, rfl⟩))
  all_goals (go_ret; refine ⟨?_, hB⟩; first | (simp_all; done) | (congr 1; congr 1; simp_all))
end Go.Proofs.Ytjmhmmphbcohdaa
namespace Go.Proofs.Ytjmhmmphbcohdaa
open Go.RowKit
/-- but for one block the world is as it was -/
structure But (b : Nat) (w w' : World) : Prop where
  os : w'.os = w.os
  tape : w'.tape = w.tape
  output : w'.output = w.output
  size : w'.heap.size = w.heap.size
  block : ∀ k, k ≠ b → w'.heap[k]? = w.heap[k]?
theorem But.refl (b : Nat) (w : World) : But b w w := ⟨rfl, rfl, rfl, rfl, fun _ _ => rfl⟩
theorem But.set {b : Nat} {w w' : World} (h : But b w w') (o : Nat) (v : Value) : But b w (w'.setCell ⟨b, o, none⟩ v) :=
  ⟨h.os, h.tape, h.output, (by simp [World.setCell]; exact h.size), fun k hk => (Below.heap_setCell _ _ _ _ hk).trans (h.block k hk)⟩
theorem But.drew {b : Nat} {w w' : World} (h : But b w w') : But b w w'.drew := ⟨h.os, h.tape, h.output, h.size, h.block⟩
theorem But.below {b B : Nat} {w w' : World} (h : But b w w') (hB : B ≤ b) : Below B w w' := ⟨h.os, h.tape, h.output, by rw [h.size]; exact Nat.le_refl _, fun k hk => h.block k (by omega)⟩
theorem But.stake {b c : Nat} {w w' : World} {cs : Array Value} (h : But b w w') (hc : c ≠ b) (S : SAt w c cs) : SAt w' c cs := (h.block c hc).trans S
theorem set_tok (s : St) (sl : Value) (v : Nat) (hv : v < 6) (x : Int) : (stC s sl).setIfInBounds (7 + v * 5) (.int .i64 x) = stC { s with V := setV s.V v { s.V v with tok := x } } sl := by
  rcases (show v = 0 ∨ v = 1 ∨ v = 2 ∨ v = 3 ∨ v = 4 ∨ v = 5 by omega) with rfl | rfl | rfl | rfl | rfl | rfl <;> rfl
theorem set_sh (s : St) (sl : Value) (v : Nat) (hv : v < 6) (x : Int) : (stC s sl).setIfInBounds (7 + v * 5 + 1) (.int .i64 x) = stC { s with V := setV s.V v { s.V v with sh := x } } sl := by
  rcases (show v = 0 ∨ v = 1 ∨ v = 2 ∨ v = 3 ∨ v = 4 ∨ v = 5 by omega) with rfl | rfl | rfl | rfl | rfl | rfl <;> rfl
theorem set_lost (s : St) (sl : Value) (v : Nat) (hv : v < 6) (x : Int) : (stC s sl).setIfInBounds (7 + v * 5 + 2) (.int .i64 x) = stC { s with V := setV s.V v { s.V v with lost := x } } sl := by
  rcases (show v = 0 ∨ v = 1 ∨ v = 2 ∨ v = 3 ∨ v = 4 ∨ v = 5 by omega) with rfl | rfl | rfl | rfl | rfl | rfl <;> rfl
theorem set_jail (s : St) (sl : Value) (v : Nat) (hv : v < 6) (x : Bool) : (stC s sl).setIfInBounds (7 + v * 5 + 3) (.bool x) = stC { s with V := setV s.V v { s.V v with jail := x } } sl := by
  rcases (show v = 0 ∨ v = 1 ∨ v = 2 ∨ v = 3 ∨ v = 4 ∨ v = 5 by omega) with rfl | rfl | rfl | rfl | rfl | rfl <;> rfl
theorem set_dead (s : St) (sl : Value) (v : Nat) (hv : v < 6) (x : Bool) : (stC s sl).setIfInBounds (7 + v * 5 + 4) (.bool x) = stC { s with V := setV s.V v { s.V v with dead := x } } sl := by
  rcases (show v = 0 ∨ v = 1 ∨ v = 2 ∨ v = 3 ∨ v = 4 ∨ v = 5 by omega) with rfl | rfl | rfl | rfl | rfl | rfl <;> rfl
theorem set_shr (s : St) (sl : Value) (d v : Nat) (hd : d < 4) (hv : v < 6) (x : Int) : (stC s sl).setIfInBounds (37 + d * 6 + v) (.int .i64 x) = stC { s with S := setSh s.S d v x } sl := by
  rcases (show d = 0 ∨ d = 1 ∨ d = 2 ∨ d = 3 by omega) with rfl | rfl | rfl | rfl <;> rcases (show v = 0 ∨ v = 1 ∨ v = 2 ∨ v = 3 ∨ v = 4 ∨ v = 5 by omega) with rfl | rfl | rfl | rfl | rfl | rfl <;> rfl
theorem set_next (s : St) (sl : Value) (x : Int) : (stC s sl).setIfInBounds 62 (.int .i64 x) = stC { s with next := x } sl := rfl
theorem set_sl (s : St) (sl sl' : Value) : (stC s sl).setIfInBounds 61 sl' = stC s sl' := rfl
theorem setV_setV (V : Nat → Vd) (v : Nat) (x y : Vd) : setV (setV V v x) v y = setV V v y := by funext i; unfold setV; split <;> rfl
theorem setV_at (V : Nat → Vd) (v : Nat) (x : Vd) : setV V v x v = x := if_pos rfl
theorem add_eq (s : St) (d v : Nat) (t n : Int) : addS s d v t n = { ({ ({ s with V := setV s.V v { s.V v with tok := (s.V v).tok + t } } : St) with V := setV (setV s.V v { s.V v with tok := (s.V v).tok + t }) v { (setV s.V v { s.V v with tok := (s.V v).tok + t }) v with sh := (s.V v).sh + n } } : St) with S := setSh s.S d v (s.S d v + n) } := by
  unfold addS
  rw [setV_setV, setV_at]
theorem but_drewN (b : Nat) (w : World) (n : Nat) : But b w (w.drewN n) := ⟨rfl, rfl, rfl, rfl, fun _ _ => rfl⟩
set_option maxHeartbeats 1000000 in
theorem sadd_any (s : St) (sl : Value) (b d v : Nat) (t n : Int) (w : World) (h : SAt w b (stC s sl)) (hd : d < 4) (hv : v < 6)
    (h1 : -4611686018427387904 ≤ (s.V v).tok + t ∧ (s.V v).tok + t ≤ 4611686018427387904) (h2 : -4611686018427387904 ≤ (s.V v).sh + n ∧ (s.V v).sh + n ≤ 4611686018427387904) (h3 : -4611686018427387904 ≤ s.S d v + n ∧ s.S d v + n ≤ 4611686018427387904) :
    Calls Try.prog 30 #[.pointer (some ⟨b, 0, none⟩), .int .i64 (d : Int), .int .i64 (v : Int), .int .i64 t, .int .i64 n] w fun e w' => e = .returned (.tuple #[]) ∧ SAt w' b (stC (addS s d v t n) sl) ∧ But b w w' := by
  have hd' : (d : Int) < 4 := by omega
  have hv' : (v : Int) < 6 := by omega
  have hd0 : (0 : Int) ≤ (d : Int) := by omega
  have hv0 : (0 : Int) ≤ (v : Int) := by omega
  go_enter Try.func30, Try.ntmps30
  go_upto_region 0 with fail
  go_quiet (fail)
  have S0 : SAt (w.drewN nq) b (stC s sl) := h
  have HB0 : Hid (But b w (w.drewN nq)) := but_drewN b w nq
  generalize w.drewN nq = w0 at *
  obtain ⟨c0, c1, c2, c3, c4⟩ := S0.val v hv
  have f0 := S0.free (7 + v * 5)
  go_upto_region 2 with fail
  have S1 := S0.set (7 + v * 5) (.int .i64 ((s.V v).tok + t))
  rw [set_tok s sl v hv] at S1
  have HB1 : Hid (But b w (w0.setCell ⟨b, 7 + v * 5, none⟩ (.int .i64 ((s.V v).tok + t)))) := HB0.out.set _ _
  generalize w0.setCell ⟨b, 7 + v * 5, none⟩ (.int .i64 ((s.V v).tok + t)) = w1 at *
  clear c0 c1 c2 c3 c4 f0 S0 HB0 h
  obtain ⟨c0, c1, c2, c3, c4⟩ := S1.val v hv
  simp only [setV_at] at c1
  have f0 := S1.free (7 + v * 5 + 1)
  go_upto_region 3 with fail
  have S2 := S1.set (7 + v * 5 + 1) (.int .i64 ((s.V v).sh + n))
  rw [set_sh _ sl v hv] at S2
  have HB2 : Hid (But b w (w1.setCell ⟨b, 7 + v * 5 + 1, none⟩ (.int .i64 ((s.V v).sh + n)))) := HB1.out.set _ _
  generalize w1.setCell ⟨b, 7 + v * 5 + 1, none⟩ (.int .i64 ((s.V v).sh + n)) = w2 at *
  clear c0 c1 c2 c3 c4 f0 S1 HB1
  have c0 := S2.shr d v hd hv
  have f0 := S2.free (37 + d * 6 + v)
  have S3 := S2.set (37 + d * 6 + v) (.int .i64 (s.S d v + n))
  rw [set_shr _ sl d v hd hv] at S3
  have HS3 : Hid (SAt (w2.setCell ⟨b, 37 + d * 6 + v, none⟩ (.int .i64 (s.S d v + n))) b (stC (addS s d v t n) sl)) := by rw [add_eq]; exact S3
  clear S2 S3
  go_wp2
  go_end0
  exact ⟨rfl, HS3.out, HB2.out.set _ _⟩
end Go.Proofs.Ytjmhmmphbcohdaa
namespace Go.Proofs.Ytjmhmmphbcohdaa
/-- Delegate -/
def delegS (s : St) (d v n : Int) : St × Int :=
  if refOfE s d v = 0 then
    if (s.V v.toNat).dead = true then (s, 15)
    else if (decide (0 < n) && inA n) = true then
      if shE (s.V v.toNat) n = 0 then
        if (bondR s.b d n).2 = 0 then (addS { s with b := (bondR s.b d n).1 } d.toNat v.toNat n (shN (s.V v.toNat) n), 0)
        else (s, (bondR s.b d n).2)
      else (s, shE (s.V v.toNat) n)
    else (s, 2)
  else (s, refOfE s d v)
end Go.Proofs.Ytjmhmmphbcohdaa
namespace Go.Proofs.Ytjmhmmphbcohdaa
open Go.RowKit
theorem results_stake2 {fn : Func} {p q : Tmp} (h : fn.results = #[.cell p 34, .tmp q]) (tmps : Array Value) (w : World) (g : Nat) (cs : Array Value) (v : Value)
    (hp : tmps.getD p undef = .pointer (some ⟨g, 0, none⟩)) (hq : tmps.getD q undef = v) (hg : SAt w g cs) (hsz : cs.size = 63) :
    (results fn tmps).run Try.prog w = .ok (.tuple #[.agg cs, v]) w := by
  have hp' : tmps[p]?.getD undef = .pointer (some ⟨g, 0, none⟩) := by simpa using hp
  have hq' : tmps[q]?.getD undef = v := by simpa using hq
  simp [results, h, hp', hq', asAddr, run_loadVar_row w g 34 34 cs (0, 0) _ hg Try.underlying34 rfl (by rw [infoS, hsz])]
theorem stake_end2 {f : Func} {p q : Tmp} (hres : f.results = #[.cell p 34, .tmp q]) {B g : Nat} {w wq : World} {zs : Array Value} (R : SAt wq g zs) (hz : zs.size = 63) (H : Below B w wq) (hB : B ≤ g) (s' : St) (sl : Value) (er : Int) (r : St × Int) (hr : r = (s', er)) (act : Act)
    (h8 : act.tmps.getD p undef = .pointer (some ⟨g, 0, none⟩)) (h9 : act.tmps.getD q undef = .int .i64 er) (hd : act.defers = []) :
    bodyPost Try.prog f (fun e w' => e = .returned (.tuple #[.agg (stC r.1 sl), .int .i64 r.2]) ∧ Below B w w') Exit.ret act (wq.setCells g 0 (stC s' sl).toList) := by
  subst hr
  have R3 := R.setAll (ds := stC s' sl) (by rw [hz]; rfl)
  exact bodyPost_ret (v := .tuple #[.agg (stC s' sl), .int .i64 er]) (results_stake2 hres _ _ g _ _ h8 h9 R3 rfl) hd ⟨rfl, below_sets hB _ _ _ H⟩
theorem wpList_mv {ops : Array Oper} {rest : List Oper} {o : Oper} {a : Act} {w : World} {Q : Exit → Act → World → Prop} (hg : o.guard = none) (x : Operand) (hop : o.op = Op.move x) (hK : wpList Try.prog ops Q rest (a.put o.dst (a.eval x)) w) :
    wpList Try.prog ops Q (o :: rest) a w := by
  refine wpList_plain hg fun _ hK' => ?_
  unfold Oper.wp
  simp [execOp, hop]
  exact hK' _ _ hK
theorem Z63_size : Z63.size = 63 := rfl
end Go.Proofs.Ytjmhmmphbcohdaa
namespace Go.Proofs.Ytjmhmmphbcohdaa
open Go.RowKit
theorem cell_sets {b k o : Nat} (hk : k ≠ b) (vs : List Value) (p : Nat) (w : World) : (w.setCells b p vs).cell? ⟨k, o, none⟩ = w.cell? ⟨k, o, none⟩ := World.cell?_of_block (w := w) (heap_sets hk vs p w)
theorem WsAt.sets {w : World} {ao : Option Addr} {b o g : Nat} {W : List Wt} (h : WsAt w ao b o W) (hg : 0 < W.length → b ≠ g) (vs : List Value) (p : Nat) : WsAt (w.setCells g p vs) ao b o W := by
  refine ⟨h.adr, h.len, fun i x hx => ?_⟩
  have hne : b ≠ g := hg (by have := (List.getElem?_eq_some_iff.1 hx).1; omega)
  obtain ⟨h0, h1, h2, h3, h4, h5, h6, h7⟩ := h.cell i x hx
  exact ⟨(cell_sets hne _ _ _).trans h0, (cell_sets hne _ _ _).trans h1, (cell_sets hne _ _ _).trans h2, (cell_sets hne _ _ _).trans h3, (cell_sets hne _ _ _).trans h4, (cell_sets hne _ _ _).trans h5, (cell_sets hne _ _ _).trans h6, (cell_sets hne _ _ _).trans h7⟩
theorem WsAt.set {w : World} {ao : Option Addr} {b o g p : Nat} {W : List Wt} {v : Value} (h : WsAt w ao b o W) (hg : 0 < W.length → b ≠ g) : WsAt (w.setCell ⟨g, p, none⟩ v) ao b o W := h.sets hg [v] p
theorem WsAt.alloc {w : World} {ao : Option Addr} {b o : Nat} {W : List Wt} (h : WsAt w ao b o W) (x : Obj) : WsAt (w.alloc x) ao b o W := h.over ((Below.refl _ w).alloc (Nat.le_refl _) x)
theorem WsAt.but {w w' : World} {ao : Option Addr} {b o g : Nat} {W : List Wt} (h : WsAt w ao b o W) (hb : But g w w') (hg : 0 < W.length → b ≠ g) : WsAt w' ao b o W := by
  refine ⟨h.adr, h.len, fun i x hx => ?_⟩
  have hne : b ≠ g := hg (by have := (List.getElem?_eq_some_iff.1 hx).1; omega)
  have k : ∀ o, w'.cell? ⟨b, o, none⟩ = w.cell? ⟨b, o, none⟩ := fun o => World.cell?_of_block (w := w) (hb.block b hne)
  obtain ⟨h0, h1, h2, h3, h4, h5, h6, h7⟩ := h.cell i x hx
  exact ⟨(k _).trans h0, (k _).trans h1, (k _).trans h2, (k _).trans h3, (k _).trans h4, (k _).trans h5, (k _).trans h6, (k _).trans h7⟩
/-- what such a function answers -/
def Answers (B : Nat) (w : World) (r : St × Int) (e : Ending) (w' : World) : Prop := ∃ A ab ao C, e = .returned (.tuple #[.agg (stC r.1 (.slice A r.1.W.length C)), .int .i64 r.2]) ∧ WsAt w' A ab ao r.1.W ∧ (0 < r.1.W.length → ab < w'.heap.size) ∧ Below B w w'
theorem stake_endx {f : Func} {p q : Tmp} (hres : f.results = #[.cell p 34, .tmp q]) {B g : Nat} {w wq : World} {zs : Array Value} (R : SAt wq g zs) (hz : zs.size = 63) (H : Below B w wq) (hB : B ≤ g) (s' : St) (A : Option Addr) (ab ao C : Nat) (er : Int) (r : St × Int) (hr : r = (s', er)) (hW : WsAt wq A ab ao s'.W) (hg : 0 < s'.W.length → ab ≠ g) (act : Act)
    (h8 : act.tmps.getD p undef = .pointer (some ⟨g, 0, none⟩)) (h9 : act.tmps.getD q undef = .int .i64 er) (hd : act.defers = []) :
    bodyPost Try.prog f (fun e w' => Answers B w r e w') Exit.ret act (wq.setCells g 0 (stC s' (.slice A s'.W.length C)).toList) := by
  subst hr
  have R3 := R.setAll (ds := stC s' (.slice A s'.W.length C)) (by rw [hz]; rfl)
  have hW' := hW.sets hg (stC s' (.slice A s'.W.length C)).toList 0
  exact bodyPost_ret (v := .tuple #[.agg (stC s' (.slice A s'.W.length C)), .int .i64 er]) (results_stake2 hres _ _ g _ _ h8 h9 R3 rfl) hd ⟨A, ab, ao, C, rfl, hW', hW'.lt, below_sets hB _ _ _ H⟩
end Go.Proofs.Ytjmhmmphbcohdaa
namespace Go.Proofs.Ytjmhmmphbcohdaa
open Go.RowKit
/-- a stake is loaded -/
def loadS (v : Value) : Sem Value := Instr.loadAt 34 v
theorem loadS_eq (v : Value) : Instr.loadAt 34 v = loadS v := rfl
theorem SAt.loadS {w : World} {b : Nat} {cs : Array Value} (h : SAt w b cs) (hs : cs.size = 63) : (loadS (.pointer (some ⟨b, 0, none⟩))).run Try.prog w = .ok (.agg cs) w := h.load hs
end Go.Proofs.Ytjmhmmphbcohdaa
