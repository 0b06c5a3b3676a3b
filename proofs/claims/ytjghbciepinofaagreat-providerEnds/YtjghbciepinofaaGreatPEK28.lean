/- Parts of the proof: PB SM A OR1. -/
import Derived.Test.YtjghbciepinofaaGreatRows
import Derived.Test.YtjghbciepinofaaGreatProg
import Derived.WalkKit
import Derived.Below
import Derived.BigQuiet
import Derived.Deep.QuietTactic
import Derived.OrdersHeld
import Derived.RegionTactic
import Derived.Deep.MidRow
set_option maxRecDepth 100000
namespace Go.Proofs.YtjghbciepinofaaGreat
/-- a good bank -/
def goodB (f0 f1 f2 f3 bo wa bu : Int) : Bool := decide ((0 ≤ f0 ∧ f0 ≤ 400000) ∧ (0 ≤ f1 ∧ f1 ≤ 400000) ∧ (0 ≤ f2 ∧ f2 ≤ 400000) ∧ (0 ≤ f3 ∧ f3 ≤ 400000) ∧ (0 ≤ bo ∧ bo ≤ 400000) ∧ (0 ≤ wa ∧ wa ≤ 400000) ∧ (0 ≤ bu ∧ bu ≤ 400000) ∧ f0 + f1 + f2 + f3 + bo + wa + bu = 400000)
/-- a bank: four free ones, bonded, waiting, burnt -/
structure Bk where
  f0 : Int
  f1 : Int
  f2 : Int
  f3 : Int
  bo : Int
  wa : Int
  bu : Int
def Bk.good (b : Bk) : Bool := goodB b.f0 b.f1 b.f2 b.f3 b.bo b.wa b.bu
def Bk.get (b : Bk) : Nat → Int
  | 0 => b.f0
  | 1 => b.f1
  | 2 => b.f2
  | 3 => b.f3
  | 4 => b.bo
  | 5 => b.wa
  | _ => b.bu
def Bk.put (b : Bk) (k : Nat) (x : Int) : Bk :=
  match k with
  | 0 => { b with f0 := x }
  | 1 => { b with f1 := x }
  | 2 => { b with f2 := x }
  | 3 => { b with f3 := x }
  | 4 => { b with bo := x }
  | 5 => { b with wa := x }
  | _ => { b with bu := x }
/-- to move n from one place to another -/
def mv (b : Bk) (f t : Nat) (n : Int) : Bk × Int :=
  if b.good = false ∨ ¬ (0 ≤ n ∧ n ≤ 1125899906842624) then (b, 2) else if b.get f < n then (b, 7) else ((b.put f (b.get f - n)).put t (b.get t + n), 0)
def bondR (b : Bk) (d n : Int) : Bk × Int := if 0 ≤ d ∧ d < 4 then mv b d.toNat 4 n else (b, 4)
def payR (b : Bk) (d n : Int) : Bk × Int := if 0 ≤ d ∧ d < 4 then mv b 5 d.toNat n else (b, 4)
def burnR (b : Bk) (x y : Int) : Bk × Int :=
  if (mv b 4 6 x).2 = 0 then if (mv (mv b 4 6 x).1 5 6 y).2 = 0 then ((mv (mv b 4 6 x).1 5 6 y).1, 0) else (b, (mv (mv b 4 6 x).1 5 6 y).2) else (b, (mv b 4 6 x).2)
end Go.Proofs.YtjghbciepinofaaGreat

set_option maxRecDepth 100000
namespace Go.Proofs.YtjghbciepinofaaGreat
structure Vd where
  tok : Int
  sh : Int
  lost : Int
  jail : Bool
  dead : Bool
structure Wt where
  num : Int
  d : Int
  v : Int
  amt : Int
  hei : Int
  due : Int
  h0 : Int
  h1 : Int
structure St where
  b : Bk
  V : Nat → Vd
  S : Nat → Nat → Int
  W : List Wt
  next : Int
/-- an amount -/
def inA (n : Int) : Bool := decide (0 ≤ n ∧ n ≤ 1125899906842624)
def isV (v : Int) : Bool := decide (0 ≤ v ∧ v < 6)
def isD (d : Int) : Bool := decide (0 ≤ d ∧ d < 4)
/-- a validator's numbers are right -/
def vOk (x : Vd) : Bool := inA x.tok && inA x.sh && inA x.lost && !(decide (0 < x.tok) && decide (x.sh = 0)) && (x.jail || !x.dead)
/-- the shares of the first delegators on a validator -/
def psh (S : Nat → Nat → Int) (v : Nat) : Nat → Int
  | 0 => 0
  | j + 1 => psh S v j + S j v
/-- the first delegators' shares on a validator are amounts -/
def pshOk (S : Nat → Nat → Int) (v : Nat) : Nat → Bool
  | 0 => true
  | j + 1 => pshOk S v j && inA (S j v)
def shOk (S : Nat → Nat → Int) (v : Nat) (sh : Int) : Bool := pshOk S v 4 && decide (psh S v 4 = sh)
def wOk1 (last next : Int) (w : Wt) : Bool := decide (last < w.num) && decide (w.num < next) && isD w.d && isV w.v && inA w.amt && decide (0 ≤ w.hei) && decide (0 ≤ w.due)
/-- the waits are right, their numbers rising -/
def wOk (next : Int) : Int → List Wt → Bool
  | _, [] => true
  | last, w :: r => wOk1 last next w && wOk next w.num r
def amts : List Wt → Int
  | [] => 0
  | w :: r => w.amt + amts r
def ptok (V : Nat → Vd) : Nat → Int
  | 0 => 0
  | k + 1 => ptok V k + (V k).tok
def plost (V : Nat → Vd) : Nat → Int
  | 0 => 0
  | k + 1 => plost V k + (V k).lost
def vsOk (s : St) (v : Nat) : Bool := vOk (s.V v) && shOk s.S v (s.V v).sh
def pvs (s : St) : Nat → Bool
  | 0 => true
  | k + 1 => pvs s k && vsOk s k
def bal (s : St) : Bool := decide (ptok s.V 6 = s.b.bo) && decide (amts s.W = s.b.wa) && decide (plost s.V 6 = s.b.bu)
def goodS (s : St) : Bool := s.b.good && decide (1 ≤ s.next) && decide (s.next ≤ 1125899906842624) && decide (s.W.length ≤ 60) && wOk s.next 0 s.W && pvs s 6 && bal s
/-- what a call on a validator says first -/
def refE (s : St) (v : Int) : Int := if goodS s = true then if isV v = true then 0 else 4 else 2
def refOfE (s : St) (d v : Int) : Int := if refE s v = 0 then if isD d = true then 0 else 4 else refE s v
/-- a times b by c, rounded down, where it is an amount; and its error -/
def mdN (a b c : Int) : Int := if a < 0 ∨ b < 0 ∨ c < 1 then 0 else if a * b / c ≤ 1125899906842624 then a * b / c else 0
def mdE (a b c : Int) : Int := if a < 0 ∨ b < 0 ∨ c < 1 then 2 else if a * b / c ≤ 1125899906842624 then 0 else 2
/-- how many shares n tokens more bring, and the error -/
def shN (x : Vd) (n : Int) : Int := if x.sh = 0 then n else if x.tok = 0 then 0 else if mdE n x.sh x.tok = 0 ∧ inA (x.sh + mdN n x.sh x.tok) = true then mdN n x.sh x.tok else 0
def shE (x : Vd) (n : Int) : Int := if x.sh = 0 then 0 else if x.tok = 0 then 8 else if mdE n x.sh x.tok = 0 ∧ inA (x.sh + mdN n x.sh x.tok) = true then if mdN n x.sh x.tok = 0 then 8 else 0 else 6
def setV (V : Nat → Vd) (v : Nat) (x : Vd) : Nat → Vd := fun i => if i = v then x else V i
def setSh (S : Nat → Nat → Int) (d v : Nat) (n : Int) : Nat → Nat → Int := fun i j => if i = d ∧ j = v then n else S i j
/-- tokens and shares more on a validator -/
def addS (s : St) (d v : Nat) (t n : Int) : St := { s with V := setV s.V v { s.V v with tok := (s.V v).tok + t, sh := (s.V v).sh + n }, S := setSh s.S d v (s.S d v + n) }
theorem inA_iff {n : Int} : inA n = true ↔ 0 ≤ n ∧ n ≤ 1125899906842624 := decide_eq_true_iff
theorem isV_iff {n : Int} : isV n = true ↔ 0 ≤ n ∧ n < 6 := decide_eq_true_iff
theorem isD_iff {n : Int} : isD n = true ↔ 0 ≤ n ∧ n < 4 := decide_eq_true_iff
end Go.Proofs.YtjghbciepinofaaGreat

set_option maxRecDepth 100000
namespace Go.Proofs.YtjghbciepinofaaGreat
open Go.RowKit
theorem bonded1_any (b : Nat) (w : World) : Calls Tryz.prog 122 #[.pointer (some ⟨b, 0, none⟩)] w fun e w' => e = .returned (.pointer (some ⟨b, 4, none⟩)) ∧ w = w' := by
  go_enter Tryz.func122, Tryz.ntmps122
  go_wp2
  go_ret
  exact ⟨rfl, rfl⟩
theorem waiting1_any (b : Nat) (w : World) : Calls Tryz.prog 123 #[.pointer (some ⟨b, 0, none⟩)] w fun e w' => e = .returned (.pointer (some ⟨b, 5, none⟩)) ∧ w = w' := by
  go_enter Tryz.func123, Tryz.ntmps123
  go_wp2
  go_ret
  exact ⟨rfl, rfl⟩
theorem burnt1_any (b : Nat) (w : World) : Calls Tryz.prog 124 #[.pointer (some ⟨b, 0, none⟩)] w fun e w' => e = .returned (.pointer (some ⟨b, 6, none⟩)) ∧ w = w' := by
  go_enter Tryz.func124, Tryz.ntmps124
  go_wp2
  go_ret
  exact ⟨rfl, rfl⟩
theorem free1_any (b c : Nat) (d : Int) (w : World) (h0 : 0 ≤ d) (h1 : d < 4) (hc : w.cell? ⟨c, 0, none⟩ = some (.int .i64 d)) :
    Calls Tryz.prog 125 #[.pointer (some ⟨b, 0, none⟩), .pointer (some ⟨c, 0, none⟩)] w fun e w' => e = .returned (.pointer (some ⟨b, d.toNat, none⟩)) ∧ ∃ nq, w' = w.drewN nq := by
  go_enter Tryz.func125, Tryz.ntmps125
  go_wp2_with fail
  go_quiet (fail)
  go_wp2
  go_ret
  exact ⟨rfl, _, rfl⟩
theorem bonded_any (w : World) : Calls Tryz.prog 82 #[] w fun e w' => e = .returned (.func (.func 122) #[] #[]) ∧ w = w' := by
  go_enter Tryz.func82, Tryz.ntmps82
  go_wp2
  go_ret
  exact ⟨rfl, rfl⟩
theorem waiting_any (w : World) : Calls Tryz.prog 83 #[] w fun e w' => e = .returned (.func (.func 123) #[] #[]) ∧ w = w' := by
  go_enter Tryz.func83, Tryz.ntmps83
  go_wp2
  go_ret
  exact ⟨rfl, rfl⟩
theorem burnt_any (w : World) : Calls Tryz.prog 84 #[] w fun e w' => e = .returned (.func (.func 124) #[] #[]) ∧ w = w' := by
  go_enter Tryz.func84, Tryz.ntmps84
  go_wp2
  go_ret
  exact ⟨rfl, rfl⟩
theorem freeOf_any (d : Int) (w : World) : Calls Tryz.prog 85 #[.int .i64 d] w fun e w' => e = .returned (.func (.func 125) #[] #[.pointer (some ⟨w.heap.size, 0, none⟩)]) ∧ w' = w.alloc (.cells #[.int .i64 d] 3) := by
  have hmf : ∀ (fn : Fn) (first cap : Array Value) (w : World), (Instr.makeFunc fn first cap).run Tryz.prog w = .ok (.func fn first cap) w := fun _ _ _ _ => rfl
  go_enter Tryz.func85, Tryz.ntmps85
  go_wp2
  go_ret
  exact ⟨rfl, rfl⟩
theorem isDel_any (d : Int) (w : World) : Calls Tryz.prog 113 #[.int .i64 d] w fun e w' => e = .returned (.bool (decide (0 ≤ d ∧ d < 4))) ∧ w = w' := by
  by_cases h0 : 0 ≤ d
  · by_cases h1 : d < 4
    · rw [decide_eq_true ⟨h0, h1⟩]
      go_enter Tryz.func113, Tryz.ntmps113
      go_wp2
      go_ret
      exact ⟨rfl, rfl⟩
    · rw [decide_eq_false (fun h => h1 h.2)]
      have h2 : 4 ≤ d := by omega
      go_enter Tryz.func113, Tryz.ntmps113
      go_wp2
      go_ret
      exact ⟨rfl, rfl⟩
  · rw [decide_eq_false (fun h => h0 h.1)]
    have h2 : d < 0 := by omega
    go_enter Tryz.func113, Tryz.ntmps113
    go_wp2
    go_ret
    exact ⟨rfl, rfl⟩
theorem inn_any (d : Int) (w : World) : Calls Tryz.prog 121 #[.int .i64 d] w fun e w' => e = .returned (.bool (decide (0 ≤ d ∧ d ≤ 1125899906842624))) ∧ w = w' := by
  by_cases h0 : 0 ≤ d
  · by_cases h1 : d ≤ 1125899906842624
    · rw [decide_eq_true ⟨h0, h1⟩]
      go_enter Tryz.func121, Tryz.ntmps121
      go_wp2
      go_ret
      exact ⟨rfl, rfl⟩
    · rw [decide_eq_false (fun h => h1 h.2)]
      have h2 : 1125899906842624 < d := by omega
      go_enter Tryz.func121, Tryz.ntmps121
      go_wp2
      go_ret
      exact ⟨rfl, rfl⟩
  · rw [decide_eq_false (fun h => h0 h.1)]
    have h2 : d < 0 := by omega
    go_enter Tryz.func121, Tryz.ntmps121
    go_wp2
    go_ret
    exact ⟨rfl, rfl⟩
end Go.Proofs.YtjghbciepinofaaGreat

set_option maxRecDepth 100000
namespace Go.Proofs.YtjghbciepinofaaGreat.Od
open Go
section
variable {P : Program} {md : Region.Mode} {ops : Array Oper} {Q : Exit → Act → World → Prop} {S : World → Prop} {c : Nat}
/-- whatever order is picked: S holds behind each operation that comes ahead of number c; what comes behind c is left to itself -/
def anyC (P : Program) (md : Region.Mode) (ops : Array Oper) (Q : Exit → Act → World → Prop) (S : World → Prop) (c : Nat) : Nat → Array Bool → Act → World → Prop
  | 0, L, a, w => Region.ready md ops L = [] ∧ Q .normal a w
  | n + 1, L, a, w => (Region.ready md ops L = [] → Q .normal a w) ∧
    ∀ i ∈ Region.ready md ops L, wpOp P ops Q i (fun a' w' => (i = c → wpAny P md ops Q n (L.setIfInBounds i true) a' w') ∧ (i ≠ c → S w' ∧ anyC P md ops Q S c n (L.setIfInBounds i true) a' w')) a w
theorem any_of_C : ∀ (n : Nat) (L : Array Bool) (a : Act) (w : World), anyC P md ops Q S c n L a w → wpAny P md ops Q n L a w
  | 0, _, _, _, h => h
  | n + 1, L, a, w, h => ⟨h.1, fun i hi => wpOp_mono (fun a' w' h' => by
      by_cases e : i = c
      · exact h'.1 e
      · exact any_of_C n _ a' w' (h'.2 e).2) (h.2 i hi)⟩
/-- a set of operations that may come up without number i, and does not hold c -/
structure Shut (md : Region.Mode) (ops : Array Oper) (i c : Nat) (R : Array Bool) : Prop where
  noC : R.getD c false = false
  noI : R.getD i false = false
  closed : ∀ j o, j ≠ i → ops[j]? = some o → (∀ e ∈ o.after, Region.binds md e = true → R.getD e.on false = true) → R.getD j false = true
theorem shut_first {i : Nat} {oi : Oper} {v : Value} {R : Array Bool} (hi : ops[i]? = some oi) (hsel : ∀ (j : Nat) (o : Oper) cs b, ops[j]? = some o → o.op ≠ .select cs b)
    (hQ : ∀ c a w, Q (.panic c) (a.put oi.dst v) w → Q (.panic c) a w) (hR : Shut md ops i c R) :
    ∀ (n : Nat) (L : Array Bool) (a : Act) (w : World), (∀ j, L.getD j false = true → R.getD j false = true) →
      (∀ j oj, ops[j]? = some oj → j ≠ i → L.getD j true = false → (∀ e ∈ oj.after, Region.binds md e = true → e.on ≠ i) → oi.apart ops oj = true) →
      i ∈ Region.ready md ops L → YieldsIf P ops S oi v a → S w → i ≠ c →
      anyC P md ops Q S c n (L.setIfInBounds i true) (a.put oi.dst v) w → anyC P md ops Q S c (n + 1) L a w := by
  intro n
  induction n with
  | zero =>
    intro L a w _ _ hr hy hS hic H
    refine ⟨fun h => (by rw [h] at hr; cases hr), fun j hj => ?_⟩
    by_cases hji : j = i
    · subst hji
      exact hy.wpOp hi hS ⟨fun e => absurd e hic, fun _ => ⟨hS, H⟩⟩
    · have := ready_mono hj hji
      rw [H.1] at this
      cases this
  | succ n ih =>
    intro L a w hsub hfree hr hy hS hic H
    refine ⟨fun h => (by rw [h] at hr; cases hr), fun j hj => ?_⟩
    by_cases hji : j = i
    · subst hji
      exact hy.wpOp hi hS ⟨fun e => absurd e hic, fun _ => ⟨hS, H⟩⟩
    · have hK := H.2 j (ready_mono hj hji)
      obtain ⟨hjun, oj, hoj, hall⟩ := mem_ready.1 hj
      have hRj : R.getD j false = true := hR.closed j oj hji hoj fun e he hb => hsub _ (hall e he hb)
      have hjc : j ≠ c := fun e => by rw [e, hR.noC] at hRj; cases hRj
      have hnot : ∀ e ∈ oj.after, Region.binds md e = true → e.on ≠ i := fun e he hb heq => by
        have := hsub _ (hall e he hb)
        rw [heq, hR.noI] at this
        cases this
      refine wpOp_mono (fun a' w' h3 => ⟨fun e => absurd e hjc, fun _ => ?_⟩) (wpOp_putIf hoj (hfree j oj hoj hji hjun hnot) (fun cs b => hsel i oi cs b hi) (fun cs b => hsel j oj cs b hoj) hQ hy hK)
      obtain ⟨hy', -, h4⟩ := h3
      obtain ⟨hS', h5⟩ := h4 hjc
      refine ⟨hS', ih (L.setIfInBounds j true) a' w' (fun k hk => ?_) (fun k ok hk hki hun hno => ?_) (ready_mono hr (Ne.symm hji)) hy' hS' hic ?_⟩
      · by_cases hkj : j = k
        · subst hkj; exact hRj
        · rw [getD_set_ne false hkj] at hk; exact hsub k hk
      · refine hfree k ok hk hki ?_ hno
        by_cases hjk : j = k
        · subst hjk; exact hjun
        · rw [getD_set_ne true hjk] at hun; exact hun
      · rw [Array.setIfInBounds_comm _ _ hji]
        exact h5
/-- all that may come up without number i, step by step -/
def reachB (md : Region.Mode) (ops : Array Oper) (i : Nat) : Nat → Array Bool → Array Bool
  | 0, R => R
  | n + 1, R => reachB md ops i n ((List.range ops.size).map fun j => R.getD j false || (j != i && match ops[j]? with | some o => o.after.all (fun e => !(Region.binds md e) || R.getD e.on false) | none => false)).toArray
def shutB (md : Region.Mode) (ops : Array Oper) (L : Array Bool) (i c : Nat) (R : Array Bool) : Bool :=
  !(R.getD c false) && !(R.getD i false) && (L.size == ops.size) && (List.range ops.size).all fun j => (!(L.getD j false) || R.getD j false) && (j == i || R.getD j false || match ops[j]? with | some o => o.after.any (fun e => Region.binds md e && !(R.getD e.on false)) | none => true)
theorem shutB_spec {L : Array Bool} {i : Nat} {R : Array Bool} (h : shutB md ops L i c R = true) : Shut md ops i c R ∧ ∀ j, L.getD j false = true → R.getD j false = true := by
  simp only [shutB, Bool.and_eq_true, Bool.not_eq_true', beq_iff_eq, List.all_eq_true, List.mem_range] at h
  obtain ⟨⟨⟨h1, h2⟩, h3⟩, h4⟩ := h
  refine ⟨⟨h1, h2, fun j o hj ho hall => ?_⟩, fun j hj => ?_⟩
  · have hlt : j < ops.size := (Array.getElem?_eq_some_iff.1 ho).1
    have := (h4 j hlt).2
    rw [ho] at this
    simp only [Bool.or_eq_true, beq_iff_eq, Array.any_eq_true', Bool.and_eq_true, Bool.not_eq_true'] at this
    rcases this with (h | h) | ⟨e, he, hb, hn⟩
    · exact absurd h hj
    · exact h
    · have := hall e he hb
      rw [hn] at this
      cases this
  · by_cases hlt : j < ops.size
    · have := (h4 j hlt).1
      simp only [Bool.or_eq_true, Bool.not_eq_true'] at this
      rcases this with h | h
      · rw [hj] at h; cases h
      · exact h
    · have : L.getD j false = false := by
        simp [Array.getD_eq_getD_getElem?, Array.getElem?_eq_none (show L.size ≤ j by omega)]
      rw [this] at hj
      cases hj
/-- number i is taken first -/
theorem anyC_take {i : Nat} {oi : Oper} {v : Value} {n : Nat} {L : Array Bool} {a : Act} {w : World} (hi : ops[i]? = some oi)
    (hs : Region.noSelect ops = true) (hf : Region.free md ops L i = true) (hr : (Region.ready md ops L).contains i = true) (hR : shutB md ops L i c (reachB md ops i ops.size L) = true) (hic : i ≠ c)
    (hQ : ∀ c a w, Q (.panic c) (a.put oi.dst v) w → Q (.panic c) a w) (hy : YieldsIf P ops S oi v a) (hS : S w)
    (h : anyC P md ops Q S c n (L.setIfInBounds i true) (a.put oi.dst v) w) : anyC P md ops Q S c (n + 1) L a w :=
  shut_first hi (Region.noSelect_spec hs) hQ (shutB_spec hR).1 n L a w (shutB_spec hR).2 (Region.free_spec hi hf) (by simpa using hr) hy hS hic h
/-- one alone may come up -/
theorem anyC_one {i : Nat} {o : Oper} {n : Nat} {L : Array Bool} {a : Act} {w : World} (hr : Region.ready md ops L = [i]) (ho : ops[i]? = some o) (hic : i ≠ c)
    (h : ∀ K' : Act → World → Prop, (∀ a w, S w → anyC P md ops Q S c n (L.setIfInBounds i true) a w → K' a w) → if Region.wanted o (yielded ops a.tmps) = true then Oper.wp P o a w K' Q else K' (a.put o.dst undef) w) : anyC P md ops Q S c (n + 1) L a w := by
  refine ⟨fun h0 => (by rw [hr] at h0; cases h0), fun j hj => ?_⟩
  rw [hr, List.mem_singleton] at hj
  subst hj
  exact wpOp_step ho fun K' hK => h K' fun a w hS hA => hK a w ⟨fun e => absurd e hic, fun _ => ⟨hS, hA⟩⟩
/-- the last call alone may come up -/
theorem anyC_last {o : Oper} {n : Nat} {L : Array Bool} {a : Act} {w : World} (hr : Region.ready md ops L = [c]) (ho : ops[c]? = some o)
    (h : ∀ K' : Act → World → Prop, (∀ a w, wpAny P md ops Q n (L.setIfInBounds c true) a w → K' a w) → if Region.wanted o (yielded ops a.tmps) = true then Oper.wp P o a w K' Q else K' (a.put o.dst undef) w) : anyC P md ops Q S c (n + 1) L a w := by
  refine ⟨fun h0 => (by rw [hr] at h0; cases h0), fun j hj => ?_⟩
  rw [hr, List.mem_singleton] at hj
  subst hj
  exact wpOp_step ho fun K' hK => h K' fun a w hA => hK a w ⟨fun _ => hA, fun e => absurd rfl e⟩
/-- behind the last call: one alone may come up -/
theorem any_one {i : Nat} {o : Oper} {n : Nat} {L : Array Bool} {a : Act} {w : World} (hr : Region.ready md ops L = [i]) (ho : ops[i]? = some o)
    (h : ∀ K' : Act → World → Prop, (∀ a w, wpAny P md ops Q n (L.setIfInBounds i true) a w → K' a w) → if Region.wanted o (yielded ops a.tmps) = true then Oper.wp P o a w K' Q else K' (a.put o.dst undef) w) : wpAny P md ops Q (n + 1) L a w := by
  refine ⟨fun h0 => (by rw [hr] at h0; cases h0), fun j hj => ?_⟩
  rw [hr, List.mem_singleton] at hj
  subst hj
  exact wpOp_step ho fun K' hK => h K' fun a w hA => hK a w hA
theorem anyC_at {i : Nat} {oi : Oper} {v : Value} {n : Nat} {L : Array Bool} {a : Act} {w : World} (dd : Option Tmp) (hi : ops[i]? = some oi) (hd : oi.dst = dd)
    (hs : Region.noSelect ops = true) (hf : Region.free md ops L i = true) (hr : (Region.ready md ops L).contains i = true) (hR : shutB md ops L i c (reachB md ops i ops.size L) = true) (hic : i ≠ c)
    (hQ : ∀ c a w, Q (.panic c) (a.put dd v) w → Q (.panic c) a w) (hy : YieldsIf P ops S oi v a) (hS : S w)
    (h : anyC P md ops Q S c n (L.setIfInBounds i true) (a.put dd v) w) : anyC P md ops Q S c (n + 1) L a w := by
  subst hd
  exact anyC_take hi hs hf hr hR hic hQ hy hS h
theorem any_at {i : Nat} {oi : Oper} {v : Value} {n : Nat} {L : Array Bool} {a : Act} {w : World} (dd : Option Tmp) (hi : ops[i]? = some oi) (hd : oi.dst = dd)
    (hs : Region.noSelect ops = true) (hf : Region.free md ops L i = true) (hr : (Region.ready md ops L).contains i = true)
    (hQ : ∀ c a w, Q (.panic c) (a.put dd v) w → Q (.panic c) a w) (hy : Yields P ops oi v a)
    (h : wpAny P md ops Q n (L.setIfInBounds i true) (a.put dd v) w) : wpAny P md ops Q (n + 1) L a w := by
  subst hd
  exact wpAny_take hi hs hf hr hQ hy h
/-- behind the last call: one alone may come up, and nothing guards it -/
theorem any_go {i : Nat} {o : Oper} {n : Nat} {L : Array Bool} {a : Act} {w : World} (hr : Region.ready md ops L = [i]) (ho : ops[i]? = some o) (hg : o.guard = none)
    (h : ∀ K' : Act → World → Prop, (∀ a w, wpAny P md ops Q n (L.setIfInBounds i true) a w → K' a w) → Oper.wp P o a w K' Q) : wpAny P md ops Q (n + 1) L a w :=
  any_one hr ho fun K' hK => by
    have hw : Region.wanted o (yielded ops a.tmps) = true := by simp [Region.wanted, hg]
    rw [if_pos hw]
    exact h K' hK
theorem wp_region_C {id : Nat} {a : Act} {w : World} (hm : P.follows .mixedOrders = true) (h : anyC P .any ops Q S c ops.size (Array.replicate ops.size false) a w.drew) : (Code.region id ops true).wp P Q a w :=
  wp_region_any hm (any_of_C _ _ _ _ h)
end
end Go.Proofs.YtjghbciepinofaaGreat.Od

