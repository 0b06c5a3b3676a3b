/- Parts of the proof: PB SM A LA. -/
import Derived.Test.YtkhlihpghbhppabGreatRows
import Derived.Test.YtkhlihpghbhppabGreatProg
import Derived.WalkKit
import Derived.Below
import Derived.BigQuiet
import Derived.Deep.QuietTactic
import Derived.WalkSpells
import Derived.WalkLawsBesides
import Derived.WideShapes
set_option maxRecDepth 100000
namespace Go.Proofs.YtkhlihpghbhppabGreat
/-- a good bank -/
def goodB (f0 f1 f2 f3 bo wa bu : Int) : Bool := decide ((0 ≤ f0 ∧ f0 ≤ 400000) ∧ (0 ≤ f1 ∧ f1 ≤ 400000) ∧ (0 ≤ f2 ∧ f2 ≤ 400000) ∧ (0 ≤ f3 ∧ f3 ≤ 400000) ∧ (0 ≤ bo ∧ bo ≤ 400000) ∧ (0 ≤ wa ∧ wa ≤ 400000) ∧ (0 ≤ bu ∧ bu ≤ 400000) ∧ f0 + f1 + f2 + f3 + bo + wa + bu = 400000)
/-- a bank: four free ones, bonded, waiting, burnt -/
structure Bk where
  f0 : Int
  f1 : Int
  f2 : Int
  f3 : Int
  bo : Int
  wa : Int
  bu : Int
def Bk.good (b : Bk) : Bool := goodB b.f0 b.f1 b.f2 b.f3 b.bo b.wa b.bu
def Bk.get (b : Bk) : Nat → Int
  | 0 => b.f0
  | 1 => b.f1
  | 2 => b.f2
  | 3 => b.f3
  | 4 => b.bo
  | 5 => b.wa
  | _ => b.bu
def Bk.put (b : Bk) (k : Nat) (x : Int) : Bk :=
  match k with
  | 0 => { b with f0 := x }
  | 1 => { b with f1 := x }
  | 2 => { b with f2 := x }
  | 3 => { b with f3 := x }
  | 4 => { b with bo := x }
  | 5 => { b with wa := x }
  | _ => { b with bu := x }
/-- to move n from one place to another -/
def mv (b : Bk) (f t : Nat) (n : Int) : Bk × Int :=
  if b.good = false ∨ ¬ (0 ≤ n ∧ n ≤ 1125899906842624) then (b, 2) else if b.get f < n then (b, 7) else ((b.put f (b.get f - n)).put t (b.get t + n), 0)
def bondR (b : Bk) (d n : Int) : Bk × Int := if 0 ≤ d ∧ d < 4 then mv b d.toNat 4 n else (b, 4)
def payR (b : Bk) (d n : Int) : Bk × Int := if 0 ≤ d ∧ d < 4 then mv b 5 d.toNat n else (b, 4)
def burnR (b : Bk) (x y : Int) : Bk × Int :=
  if (mv b 4 6 x).2 = 0 then if (mv (mv b 4 6 x).1 5 6 y).2 = 0 then ((mv (mv b 4 6 x).1 5 6 y).1, 0) else (b, (mv (mv b 4 6 x).1 5 6 y).2) else (b, (mv b 4 6 x).2)
end Go.Proofs.YtkhlihpghbhppabGreat

set_option maxRecDepth 100000
namespace Go.Proofs.YtkhlihpghbhppabGreat
structure Vd where
  tok : Int
  sh : Int
  lost : Int
  jail : Bool
  dead : Bool
structure Wt where
  num : Int
  d : Int
  v : Int
  amt : Int
  hei : Int
  due : Int
  h0 : Int
  h1 : Int
structure St where
  b : Bk
  V : Nat → Vd
  S : Nat → Nat → Int
  W : List Wt
  next : Int
/-- an amount -/
def inA (n : Int) : Bool := decide (0 ≤ n ∧ n ≤ 1125899906842624)
def isV (v : Int) : Bool := decide (0 ≤ v ∧ v < 6)
def isD (d : Int) : Bool := decide (0 ≤ d ∧ d < 4)
/-- a validator's numbers are right -/
def vOk (x : Vd) : Bool := inA x.tok && inA x.sh && inA x.lost && !(decide (0 < x.tok) && decide (x.sh = 0)) && (x.jail || !x.dead)
/-- the shares of the first delegators on a validator -/
def psh (S : Nat → Nat → Int) (v : Nat) : Nat → Int
  | 0 => 0
  | j + 1 => psh S v j + S j v
/-- the first delegators' shares on a validator are amounts -/
def pshOk (S : Nat → Nat → Int) (v : Nat) : Nat → Bool
  | 0 => true
  | j + 1 => pshOk S v j && inA (S j v)
def shOk (S : Nat → Nat → Int) (v : Nat) (sh : Int) : Bool := pshOk S v 4 && decide (psh S v 4 = sh)
def wOk1 (last next : Int) (w : Wt) : Bool := decide (last < w.num) && decide (w.num < next) && isD w.d && isV w.v && inA w.amt && decide (0 ≤ w.hei) && decide (0 ≤ w.due)
/-- the waits are right, their numbers rising -/
def wOk (next : Int) : Int → List Wt → Bool
  | _, [] => true
  | last, w :: r => wOk1 last next w && wOk next w.num r
def amts : List Wt → Int
  | [] => 0
  | w :: r => w.amt + amts r
def ptok (V : Nat → Vd) : Nat → Int
  | 0 => 0
  | k + 1 => ptok V k + (V k).tok
def plost (V : Nat → Vd) : Nat → Int
  | 0 => 0
  | k + 1 => plost V k + (V k).lost
def vsOk (s : St) (v : Nat) : Bool := vOk (s.V v) && shOk s.S v (s.V v).sh
def pvs (s : St) : Nat → Bool
  | 0 => true
  | k + 1 => pvs s k && vsOk s k
def bal (s : St) : Bool := decide (ptok s.V 6 = s.b.bo) && decide (amts s.W = s.b.wa) && decide (plost s.V 6 = s.b.bu)
def goodS (s : St) : Bool := s.b.good && decide (1 ≤ s.next) && decide (s.next ≤ 1125899906842624) && decide (s.W.length ≤ 60) && wOk s.next 0 s.W && pvs s 6 && bal s
/-- what a call on a validator says first -/
def refE (s : St) (v : Int) : Int := if goodS s = true then if isV v = true then 0 else 4 else 2
def refOfE (s : St) (d v : Int) : Int := if refE s v = 0 then if isD d = true then 0 else 4 else refE s v
/-- a times b by c, rounded down, where it is an amount; and its error -/
def mdN (a b c : Int) : Int := if a < 0 ∨ b < 0 ∨ c < 1 then 0 else if a * b / c ≤ 1125899906842624 then a * b / c else 0
def mdE (a b c : Int) : Int := if a < 0 ∨ b < 0 ∨ c < 1 then 2 else if a * b / c ≤ 1125899906842624 then 0 else 2
/-- how many shares n tokens more bring, and the error -/
def shN (x : Vd) (n : Int) : Int := if x.sh = 0 then n else if x.tok = 0 then 0 else if mdE n x.sh x.tok = 0 ∧ inA (x.sh + mdN n x.sh x.tok) = true then mdN n x.sh x.tok else 0
def shE (x : Vd) (n : Int) : Int := if x.sh = 0 then 0 else if x.tok = 0 then 8 else if mdE n x.sh x.tok = 0 ∧ inA (x.sh + mdN n x.sh x.tok) = true then if mdN n x.sh x.tok = 0 then 8 else 0 else 6
def setV (V : Nat → Vd) (v : Nat) (x : Vd) : Nat → Vd := fun i => if i = v then x else V i
def setSh (S : Nat → Nat → Int) (d v : Nat) (n : Int) : Nat → Nat → Int := fun i j => if i = d ∧ j = v then n else S i j
/-- tokens and shares more on a validator -/
def addS (s : St) (d v : Nat) (t n : Int) : St := { s with V := setV s.V v { s.V v with tok := (s.V v).tok + t, sh := (s.V v).sh + n }, S := setSh s.S d v (s.S d v + n) }
theorem inA_iff {n : Int} : inA n = true ↔ 0 ≤ n ∧ n ≤ 1125899906842624 := decide_eq_true_iff
theorem isV_iff {n : Int} : isV n = true ↔ 0 ≤ n ∧ n < 6 := decide_eq_true_iff
theorem isD_iff {n : Int} : isD n = true ↔ 0 ≤ n ∧ n < 4 := decide_eq_true_iff
end Go.Proofs.YtkhlihpghbhppabGreat

set_option maxRecDepth 100000
namespace Go.Proofs.YtkhlihpghbhppabGreat
open Go.RowKit
theorem bonded1_any (b : Nat) (w : World) : Calls Tryz.prog 114 #[.pointer (some ⟨b, 0, none⟩)] w fun e w' => e = .returned (.pointer (some ⟨b, 4, none⟩)) ∧ w = w' := by
  go_enter Tryz.func114, Tryz.ntmps114
  go_wp2
  go_ret
  exact ⟨rfl, rfl⟩
theorem waiting1_any (b : Nat) (w : World) : Calls Tryz.prog 97 #[.pointer (some ⟨b, 0, none⟩)] w fun e w' => e = .returned (.pointer (some ⟨b, 5, none⟩)) ∧ w = w' := by
  go_enter Tryz.func97, Tryz.ntmps97
  go_wp2
  go_ret
  exact ⟨rfl, rfl⟩
theorem burnt1_any (b : Nat) (w : World) : Calls Tryz.prog 126 #[.pointer (some ⟨b, 0, none⟩)] w fun e w' => e = .returned (.pointer (some ⟨b, 6, none⟩)) ∧ w = w' := by
  go_enter Tryz.func126, Tryz.ntmps126
  go_wp2
  go_ret
  exact ⟨rfl, rfl⟩
theorem free1_any (b c : Nat) (d : Int) (w : World) (h0 : 0 ≤ d) (h1 : d < 4) (hc : w.cell? ⟨c, 0, none⟩ = some (.int .i64 d)) :
    Calls Tryz.prog 98 #[.pointer (some ⟨b, 0, none⟩), .pointer (some ⟨c, 0, none⟩)] w fun e w' => e = .returned (.pointer (some ⟨b, d.toNat, none⟩)) ∧ ∃ nq, w' = w.drewN nq := by
  go_enter Tryz.func98, Tryz.ntmps98
  go_wp2_with fail
  go_quiet (fail)
  go_wp2
  go_ret
  exact ⟨rfl, _, rfl⟩
theorem bonded_any (w : World) : Calls Tryz.prog 91 #[] w fun e w' => e = .returned (.func (.func 114) #[] #[]) ∧ w = w' := by
  go_enter Tryz.func91, Tryz.ntmps91
  go_wp2
  go_ret
  exact ⟨rfl, rfl⟩
theorem waiting_any (w : World) : Calls Tryz.prog 79 #[] w fun e w' => e = .returned (.func (.func 97) #[] #[]) ∧ w = w' := by
  go_enter Tryz.func79, Tryz.ntmps79
  go_wp2
  go_ret
  exact ⟨rfl, rfl⟩
theorem burnt_any (w : World) : Calls Tryz.prog 111 #[] w fun e w' => e = .returned (.func (.func 126) #[] #[]) ∧ w = w' := by
  go_enter Tryz.func111, Tryz.ntmps111
  go_wp2
  go_ret
  exact ⟨rfl, rfl⟩
theorem freeOf_any (d : Int) (w : World) : Calls Tryz.prog 80 #[.int .i64 d] w fun e w' => e = .returned (.func (.func 98) #[] #[.pointer (some ⟨w.heap.size, 0, none⟩)]) ∧ w' = w.alloc (.cells #[.int .i64 d] 3) := by
  have hmf : ∀ (fn : Fn) (first cap : Array Value) (w : World), (Instr.makeFunc fn first cap).run Tryz.prog w = .ok (.func fn first cap) w := fun _ _ _ _ => rfl
  go_enter Tryz.func80, Tryz.ntmps80
  go_wp2
  go_ret
  exact ⟨rfl, rfl⟩
theorem isDel_any (d : Int) (w : World) : Calls Tryz.prog 77 #[.int .i64 d] w fun e w' => e = .returned (.bool (decide (0 ≤ d ∧ d < 4))) ∧ w = w' := by
  by_cases h0 : 0 ≤ d
  · by_cases h1 : d < 4
    · rw [decide_eq_true ⟨h0, h1⟩]
      go_enter Tryz.func77, Tryz.ntmps77
      go_wp2
      go_ret
      exact ⟨rfl, rfl⟩
    · rw [decide_eq_false (fun h => h1 h.2)]
      have h2 : 4 ≤ d := by omega
      go_enter Tryz.func77, Tryz.ntmps77
      go_wp2
      go_ret
      exact ⟨rfl, rfl⟩
  · rw [decide_eq_false (fun h => h0 h.1)]
    have h2 : d < 0 := by omega
    go_enter Tryz.func77, Tryz.ntmps77
    go_wp2
    go_ret
    exact ⟨rfl, rfl⟩
theorem inn_any (d : Int) (w : World) : Calls Tryz.prog 66 #[.int .i64 d] w fun e w' => e = .returned (.bool (decide (0 ≤ d ∧ d ≤ 1125899906842624))) ∧ w = w' := by
  by_cases h0 : 0 ≤ d
  · by_cases h1 : d ≤ 1125899906842624
    · rw [decide_eq_true ⟨h0, h1⟩]
      go_enter Tryz.func66, Tryz.ntmps66
      go_wp2
      go_ret
      exact ⟨rfl, rfl⟩
    · rw [decide_eq_false (fun h => h1 h.2)]
      have h2 : 1125899906842624 < d := by omega
      go_enter Tryz.func66, Tryz.ntmps66
      go_wp2
      go_ret
      exact ⟨rfl, rfl⟩
  · rw [decide_eq_false (fun h => h0 h.1)]
    have h2 : d < 0 := by omega
    go_enter Tryz.func66, Tryz.ntmps66
    go_wp2
    go_ret
    exact ⟨rfl, rfl⟩
end Go.Proofs.YtkhlihpghbhppabGreat

set_option maxRecDepth 100000
namespace Go.Proofs.YtkhlihpghbhppabGreat.Ln
open Go.RowKit
/-- a line: what was said, when each of it is too late, how much came, whether it is closed -/
structure Line where
  S : List ByteArray
  D : List Int
  g : Int
  cl : Bool
/-- a list of ints lies at an address -/
def IntsAt (w : World) (b off : Nat) (l : List Int) : Prop := ∀ i, i < l.length → w.cell? ⟨b, off + i, none⟩ = some (.int .i64 (l.getD i 0))
/-- a list of texts lies at an address -/
def StrsAt (w : World) (b off : Nat) (l : List ByteArray) : Prop := ∀ i, i < l.length → w.cell? ⟨b, off + i, none⟩ = some (.string (l.getD i ByteArray.empty))
theorem IntsAt.laterB {B : Nat} {w w' : World} {b off : Nat} {l : List Int} (h : IntsAt w b off l) (hb : Below B w w') (hB : 0 < l.length → b < B) : IntsAt w' b off l := fun i hi =>
  (hb.cell (p := ⟨b, off + i, none⟩) (hB (by omega))).trans (h i hi)
theorem StrsAt.laterB {B : Nat} {w w' : World} {b off : Nat} {l : List ByteArray} (h : StrsAt w b off l) (hb : Below B w w') (hB : 0 < l.length → b < B) : StrsAt w' b off l := fun i hi =>
  (hb.cell (p := ⟨b, off + i, none⟩) (hB (by omega))).trans (h i hi)
theorem IntsAt.later {w w' : World} {b off : Nat} {l : List Int} (h : IntsAt w b off l) (hb : Below w.heap.size w w') : IntsAt w' b off l := fun i hi =>
  (hb.cell (p := ⟨b, off + i, none⟩) (World.block_lt_of_cell? w _ (h i hi))).trans (h i hi)
theorem StrsAt.later {w w' : World} {b off : Nat} {l : List ByteArray} (h : StrsAt w b off l) (hb : Below w.heap.size w w') : StrsAt w' b off l := fun i hi =>
  (hb.cell (p := ⟨b, off + i, none⟩) (World.block_lt_of_cell? w _ (h i hi))).trans (h i hi)
/-- a line's two lists lie in memory -/
structure LAt (w : World) (x : Line) (sa da : Option Addr) (cs cd sb so db dO : Nat) : Prop where
  hls : x.S.length * 16 ≤ 140737488351232
  hld : x.D.length * 8 ≤ 140737488351232
  hsa : 0 < x.S.length → sa = some ⟨sb, so, none⟩
  hda : 0 < x.D.length → da = some ⟨db, dO, none⟩
  ncs : sa = none → cs = 0
  ncd : da = none → cd = 0
  PS : StrsAt w sb so x.S
  PD : IntsAt w db dO x.D
theorem LAt.later {w w' : World} {x : Line} {sa da : Option Addr} {cs cd sb so db dO : Nat} (h : LAt w x sa da cs cd sb so db dO) (hb : Below w.heap.size w w') : LAt w' x sa da cs cd sb so db dO :=
  ⟨h.hls, h.hld, h.hsa, h.hda, h.ncs, h.ncd, h.PS.later hb, h.PD.later hb⟩
theorem LAt.ltS {w : World} {x : Line} {sa da : Option Addr} {cs cd sb so db dO : Nat} (h : LAt w x sa da cs cd sb so db dO) (h0 : 0 < x.S.length) : sb < w.heap.size := World.block_lt_of_cell? w _ (h.PS 0 h0)
theorem LAt.ltD {w : World} {x : Line} {sa da : Option Addr} {cs cd sb so db dO : Nat} (h : LAt w x sa da cs cd sb so db dO) (h0 : 0 < x.D.length) : db < w.heap.size := World.block_lt_of_cell? w _ (h.PD 0 h0)
theorem LAt.laterB {B : Nat} {w w' : World} {x : Line} {sa da : Option Addr} {cs cd sb so db dO : Nat} (h : LAt w x sa da cs cd sb so db dO) (hb : Below B w w') (hS : 0 < x.S.length → sb < B) (hD : 0 < x.D.length → db < B) : LAt w' x sa da cs cd sb so db dO :=
  ⟨h.hls, h.hld, h.hsa, h.hda, h.ncs, h.ncd, h.PS.laterB hb hS, h.PD.laterB hb hD⟩
/-- a value is a line, in memory below B -/
def LV (B : Nat) (w : World) (x : Line) (v : Value) : Prop :=
  ∃ sa da cs cd sb so db dO, v = .agg #[.slice sa x.S.length cs, .slice da x.D.length cd, .int .i64 x.g, .bool x.cl] ∧ LAt w x sa da cs cd sb so db dO ∧ (0 < x.S.length → sb < B) ∧ (0 < x.D.length → db < B)
theorem LV.later {B : Nat} {w w' : World} {x : Line} {v : Value} (h : LV B w x v) (hb : Below B w w') : LV B w' x v := by
  obtain ⟨sa, da, cs, cd, sb, so, db, dO, e, L, h1, h2⟩ := h
  exact ⟨sa, da, cs, cd, sb, so, db, dO, e, L.laterB hb h1 h2, h1, h2⟩
theorem hide {p : Prop} (h : p) : Hid p := h
theorem below_new (w : World) (o : Obj) : Below w.heap.size w (w.alloc o) := (Below.refl _ _).alloc (Nat.le_refl _) o
theorem below_step {w w' : World} {o : Obj} (h : Below (w.alloc o).heap.size (w.alloc o) w') : Below w.heap.size w w' :=
  (below_new w o).trans (h.mono (by simp))
theorem below_then {w w1 w2 : World} (h : Below w.heap.size w w1) (k : Below w1.heap.size w1 w2) : Below w.heap.size w w2 := h.trans (k.mono h.size)
theorem bcell {W w1 : World} (hb : Below W.heap.size W w1) : (∀ b o, b < W.heap.size → w1.cell? ⟨b, o, none⟩ = W.cell? ⟨b, o, none⟩) ∧ (∀ b o, b < W.heap.size → w1.frozen? ⟨b, o, none⟩ = W.frozen? ⟨b, o, none⟩) :=
  ⟨fun b o h => hb.cell (p := ⟨b, o, none⟩) h, fun b o h => hb.frozen (p := ⟨b, o, none⟩) h⟩
/-- no number below 0 -/
def nonneg (l : List Int) : Bool := l.all fun d => decide (0 ≤ d)
theorem nonneg_step {l : List Int} {k : Nat} (h : nonneg (l.take k) = true) (hl : k < l.length) (hd : 0 ≤ l.getD k 0) : nonneg (l.take (k + 1)) = true := by
  rw [List.take_succ_eq_append_getElem hl]
  simp [List.getD, hl] at hd
  unfold nonneg at *
  rw [List.all_append, h]
  simp [hd]
theorem nonneg_not {l : List Int} {k : Nat} (hl : k < l.length) (hd : l.getD k 0 < 0) : nonneg l = false := by
  simp [List.getD, hl] at hd
  simp only [nonneg, List.all_eq_false, decide_eq_true_eq]
  exact ⟨l[k], List.getElem_mem hl, by omega⟩
/-- P5.1: a line is one -/
def goodL (x : Line) : Bool := decide (x.D.length = x.S.length) && decide (x.S.length ≤ 400) && nonneg x.D && decide (0 ≤ x.g) && decide (x.g ≤ x.S.length)
/-- what any call says first -/
def refN (x : Line) : Int := if goodL x = false then 2 else if x.cl = true then 11 else 0
def sayE (x : Line) (due : Int) : Int := if due < 0 then 2 else if refN x ≠ 0 then refN x else if 400 ≤ x.S.length then 6 else 0
def sayL (x : Line) (s : ByteArray) (due : Int) : Line := if sayE x due = 0 then ⟨x.S ++ [s], x.D ++ [due], x.g, x.cl⟩ else x
end Go.Proofs.YtkhlihpghbhppabGreat.Ln

