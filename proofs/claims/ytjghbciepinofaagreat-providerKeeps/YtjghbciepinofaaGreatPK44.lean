/- Parts of the proof: CA PB SM A. -/
import Derived.Test.YtjghbciepinofaaGreatRows
import Derived.WalkKit
import Derived.WalkSpells
import Derived.WalkLawsBesides
import Derived.Test.YtjghbciepinofaaGreatProg
import Derived.Below
import Derived.BigQuiet
import Derived.Deep.QuietTactic
set_option maxRecDepth 100000
namespace Go.Proofs.YtjghbciepinofaaGreat.Cd
open Go.RowKit
/-- a list of ints lies at an address -/
def IntsAt (w : World) (b off : Nat) (l : List Int) : Prop := ∀ i, i < l.length → w.cell? ⟨b, off + i, none⟩ = some (.int .i64 (l.getD i 0))
/-- a list of powers lies at an address, two cells each -/
def PwsAt (w : World) (b off : Nat) (l : List (Int × Int)) : Prop := ∀ i, i < l.length → w.cell? ⟨b, off + i * 2, none⟩ = some (.int .i64 (l.getD i (0, 0)).1) ∧ w.cell? ⟨b, off + i * 2 + 1, none⟩ = some (.int .i64 (l.getD i (0, 0)).2)
theorem IntsAt.later {w w' : World} {b off : Nat} {l : List Int} (h : IntsAt w b off l) (hb : Below w.heap.size w w') : IntsAt w' b off l := fun i hi =>
  (hb.cell (p := ⟨b, off + i, none⟩) (World.block_lt_of_cell? w _ (h i hi))).trans (h i hi)
theorem PwsAt.later {w w' : World} {b off : Nat} {l : List (Int × Int)} (h : PwsAt w b off l) (hb : Below w.heap.size w w') : PwsAt w' b off l := fun i hi =>
  ⟨(hb.cell (p := ⟨b, off + i * 2, none⟩) (World.block_lt_of_cell? w _ (h i hi).1)).trans (h i hi).1, (hb.cell (p := ⟨b, off + i * 2 + 1, none⟩) (World.block_lt_of_cell? w _ (h i hi).2)).trans (h i hi).2⟩
theorem below_new (w : World) (o : Obj) : Below w.heap.size w (w.alloc o) := (Below.refl _ _).alloc (Nat.le_refl _) o
theorem bcell {W w1 : World} (hb : Below W.heap.size W w1) : (∀ b o, b < W.heap.size → w1.cell? ⟨b, o, none⟩ = W.cell? ⟨b, o, none⟩) ∧ (∀ b o, b < W.heap.size → w1.frozen? ⟨b, o, none⟩ = W.frozen? ⟨b, o, none⟩) :=
  ⟨fun b o h => hb.cell (p := ⟨b, o, none⟩) h, fun b o h => hb.frozen (p := ⟨b, o, none⟩) h⟩
theorem below_step {w w' : World} {o : Obj} (h : Below (w.alloc o).heap.size (w.alloc o) w') : Below w.heap.size w w' :=
  (below_new w o).trans (h.mono (by simp))
theorem below_then {w w1 w2 : World} (h : Below w.heap.size w w1) (k : Below w1.heap.size w1 w2) : Below w.heap.size w w2 := h.trans (k.mono h.size)

def isV (v : Int) : Bool := decide (0 ≤ v ∧ v < 6)
theorem isV_pos {v : Int} (h : 0 ≤ v) (h2 : v < 6) : isV v = true := by simp [isV]; omega
theorem isV_neg {v : Int} (h : ¬ (0 ≤ v ∧ v < 6)) : isV v = false := by simp [isV]; omega
set_option maxHeartbeats 400000 in
theorem isV_any (v : Int) (w : World) :
    Calls Tryz.prog 59 #[.int .i64 v] w fun e w' => e = .returned (.bool (isV v)) ∧ w = w' := by
  by_cases h : 0 ≤ v
  · by_cases h2 : v < 6
    · rw [isV_pos h h2]
      go_enter Tryz.func59, Tryz.ntmps59
      go_wp2
      go_ret
      exact ⟨rfl, rfl⟩
    · rw [isV_neg (by omega)]
      go_enter Tryz.func59, Tryz.ntmps59
      go_wp2
      go_ret
      exact ⟨rfl, rfl⟩
  · rw [isV_neg (by omega)]
    go_enter Tryz.func59, Tryz.ntmps59
    go_wp2
    go_ret
    exact ⟨rfl, rfl⟩

def risesFrom (last : Int) : List Int → Bool
  | [] => true
  | v :: t => decide (last < v) && isV v && risesFrom v t

theorem rises_drop (l : List Int) (k : Nat) (h : k < l.length) (last : Int) :
    risesFrom last (l.drop k) = (decide (last < l.getD k 0) && isV (l.getD k 0) && risesFrom (l.getD k 0) (l.drop (k + 1))) := by
  rw [List.drop_eq_getElem_cons h, risesFrom]
  simp [List.getD, h]
set_option maxHeartbeats 400000 in
theorem rises_any (l : List Int) (a : Option Addr) (c b off : Nat) (w : World) (hlen : l.length ≤ maxLen) (ha : 0 < l.length → a = some ⟨b, off, none⟩)
    (hc : IntsAt w b off l) :
    Calls Tryz.prog 62 #[.slice a l.length c] w fun e w' => e = .returned (.bool (risesFrom (-1) l)) ∧ w = w' := by
  unfold maxLen at hlen
  have HC : Hid (∀ i, i < l.length → w.cell? ⟨b, off + i, none⟩ = some (.int .i64 (l.getD i 0))) := hc
  have HA : Hid (0 < l.length → a = some ⟨b, off, none⟩) := ha
  clear hc ha
  go_enter Tryz.func62, Tryz.ntmps62
  go_wp2
  go_loop [3, 8] (fun last i => ∃ (k : Nat) (x : Int), k ≤ l.length ∧ i = .int .i64 k ∧ last = .int .i64 x ∧ Hid (risesFrom (-1) l = risesFrom x (l.drop k))) (fun _ i => l.length - (intOf i).toNat)
  case atStart => exact ⟨0, -1, Nat.zero_le _, rfl, rfl, by simp [Hid]⟩
  case round =>
    obtain ⟨k, x, hk, rfl, rfl, HR⟩ := hrel
    by_cases hlt : k < l.length
    · have hcell := HC.out k hlt
      have hd := rises_drop l k hlt x
      obtain ⟨y, hy⟩ : ∃ y, l.getD k 0 = y := ⟨_, rfl⟩
      rw [hy] at hcell hd
      have e := HA.out (by omega)
      subst e
      have HD : Hid (risesFrom x (l.drop k) = (decide (x < y) && isV y && risesFrom y (l.drop (k + 1)))) := hd
      clear hd hy
      by_cases h1 : y ≤ x
      · go_wp2_with (go_at_call 59; refine (isV_any _ _).mono ?_; rintro e w' ⟨rfl, rfl⟩)
        go_ret
        refine ⟨?_, rfl⟩
        rw [HR.out, HD.out]
        have : decide (x < y) = false := by simp; omega
        simp [this]
      · by_cases h2 : isV y = true
        · go_wp2_with (go_at_call 59; refine (isV_any _ _).mono ?_; rintro e w' ⟨rfl, rfl⟩)
          go_round
          case rel =>
            refine ⟨k + 1, y, by omega, by go_num, rfl, ?_⟩
            have : decide (x < y) = true := by simp; omega
            show _ = _
            rw [HR.out, HD.out, this, h2]; simp
          case measure => simp [intOf]; omega
        · have h2 : isV y = false := by simpa using h2
          go_wp2_with (go_at_call 59; refine (isV_any _ _).mono ?_; rintro e w' ⟨rfl, rfl⟩)
          go_ret
          refine ⟨?_, rfl⟩
          rw [HR.out, HD.out, h2]; simp
    · go_wp2
      go_ret
      refine ⟨?_, rfl⟩
      rw [HR.out, List.drop_of_length_le (by omega)]; rfl
def prisesFrom (last : Int) : List (Int × Int) → Bool
  | [] => true
  | p :: t => decide (last < p.1) && isV p.1 && decide (0 ≤ p.2) && decide (p.2 ≤ 1125899906842624) && prisesFrom p.1 t

theorem prises_drop (l : List (Int × Int)) (k : Nat) (h : k < l.length) (last : Int) :
    prisesFrom last (l.drop k) = (decide (last < (l.getD k (0, 0)).1) && isV (l.getD k (0, 0)).1 && decide (0 ≤ (l.getD k (0, 0)).2) && decide ((l.getD k (0, 0)).2 ≤ 1125899906842624) && prisesFrom (l.getD k (0, 0)).1 (l.drop (k + 1))) := by
  rw [List.drop_eq_getElem_cons h, prisesFrom]
  simp [List.getD, h]
set_option maxHeartbeats 400000 in
theorem prises_any (l : List (Int × Int)) (a : Option Addr) (c b off : Nat) (w : World) (hlen : l.length ≤ maxLen) (ha : 0 < l.length → a = some ⟨b, off, none⟩)
    (hc : PwsAt w b off l) :
    Calls Tryz.prog 61 #[.slice a l.length c] w fun e w' => e = .returned (.bool (prisesFrom (-1) l)) ∧ Below w.heap.size w w' := by
  unfold maxLen at hlen
  have HC : Hid (∀ i, i < l.length → w.cell? ⟨b, off + i * 2, none⟩ = some (.int .i64 (l.getD i (0, 0)).1) ∧ w.cell? ⟨b, off + i * 2 + 1, none⟩ = some (.int .i64 (l.getD i (0, 0)).2)) := hc
  have HA : Hid (0 < l.length → a = some ⟨b, off, none⟩) := ha
  clear hc ha
  go_enter Tryz.func61, Tryz.ntmps61
  go_wp2
  go_loopw [3, 8] (fun last i wl => ∃ (k : Nat) (x : Int), k ≤ l.length ∧ i = .int .i64 k ∧ last = .int .i64 x ∧ Hid (prisesFrom (-1) l = prisesFrom x (l.drop k)) ∧ Hid (Below w.heap.size w wl)) (fun _ i _ => l.length - (intOf i).toNat)
  case atStart => exact ⟨0, -1, Nat.zero_le _, rfl, rfl, by simp [Hid], Below.refl _ _⟩
  case round =>
    obtain ⟨k, x, hk, rfl, rfl, HR, HB⟩ := hrel
    by_cases hlt : k < l.length
    · have hcell := HC.out k hlt
      have hd := prises_drop l k hlt x
      obtain ⟨y, hy⟩ : ∃ y, l.getD k (0, 0) = y := ⟨_, rfl⟩
      rw [hy] at hcell hd
      obtain ⟨y, z⟩ := y
      have e := HA.out (by omega)
      subst e
      have HD : Hid (prisesFrom x (l.drop k) = (decide (x < y) && isV y && decide (0 ≤ z) && decide (z ≤ 1125899906842624) && prisesFrom y (l.drop (k + 1)))) := hd
      clear hd hy
      obtain ⟨hc0, hc1⟩ := hcell
      dsimp only at hc0 hc1
      have hbl : b < w.heap.size := World.block_lt_of_cell? w _ hc0
      have hc0' : wr.cell? ⟨b, off + k * 2, none⟩ = some (.int .i64 y) := (HB.out.cell (p := ⟨b, off + k * 2, none⟩) hbl).trans hc0
      have hc1' : wr.cell? ⟨b, off + k * 2 + 1, none⟩ = some (.int .i64 z) := (HB.out.cell (p := ⟨b, off + k * 2 + 1, none⟩) hbl).trans hc1
      clear hc0 hc1
      have hB0 := HB.out.size
      by_cases h1 : y ≤ x
      · have e1 : decide (x < y) = false := by simp; omega
        have E : Hid (prisesFrom x (l.drop k) = false) := by show _ = _; rw [HD.out, e1]; simp
        clear e1
        go_wp2_with (go_at_call 59; refine (isV_any _ _).mono ?_; rintro e w' ⟨rfl, rfl⟩)
        go_ret
        refine ⟨?_, ?_⟩
        · rw [HR.out, E.out]; simp
        · exact HB.out.alloc hB0 _
      by_cases h2 : isV y = true
      · by_cases h3 : z < 0
        · have e1 : decide (0 ≤ z) = false := by simp; omega
          have E : Hid (prisesFrom x (l.drop k) = false) := by show _ = _; rw [HD.out, e1]; simp
          clear e1
          go_wp2_with (go_at_call 59; refine (isV_any _ _).mono ?_; rintro e w' ⟨rfl, rfl⟩)
          go_ret
          refine ⟨?_, ?_⟩
          · rw [HR.out, E.out]; simp
          · exact HB.out.alloc hB0 _
        by_cases h4 : 1125899906842624 < z
        · have e1 : decide (z ≤ 1125899906842624) = false := by simp; omega
          have E : Hid (prisesFrom x (l.drop k) = false) := by show _ = _; rw [HD.out, e1]; simp
          clear e1
          go_wp2_with (go_at_call 59; refine (isV_any _ _).mono ?_; rintro e w' ⟨rfl, rfl⟩)
          go_ret
          refine ⟨?_, ?_⟩
          · rw [HR.out, E.out]; simp
          · exact HB.out.alloc hB0 _
        · have E : Hid (prisesFrom x (l.drop k) = prisesFrom y (l.drop (k + 1))) := by
            show _ = _
            have e0 : decide (x < y) = true := by simp; omega
            have e1 : decide (0 ≤ z) = true := by simp; omega
            have e2 : decide (z ≤ 1125899906842624) = true := by simp; omega
            rw [HD.out, e0, e1, e2, h2]; simp
          go_wp2_with (go_at_call 59; refine (isV_any _ _).mono ?_; rintro e w' ⟨rfl, rfl⟩)
          go_roundw
          case rel => exact ⟨k + 1, y, by omega, by go_num, rfl, HR.out.trans E.out, HB.out.alloc hB0 _⟩
          case measure => simp [intOf]; omega
      · have h2 : isV y = false := by simpa using h2
        have E : Hid (prisesFrom x (l.drop k) = false) := by show _ = _; rw [HD.out, h2]; simp
        go_wp2_with (go_at_call 59; refine (isV_any _ _).mono ?_; rintro e w' ⟨rfl, rfl⟩)
        go_ret
        refine ⟨?_, ?_⟩
        · rw [HR.out, E.out]; simp
        · exact HB.out.alloc hB0 _
    · go_wp2
      go_ret
      refine ⟨?_, HB.out⟩
      rw [HR.out, List.drop_of_length_le (by omega)]; rfl

def accB (k : Int) : Bool := k == 3 || k == 4
theorem accB_pos {k : Int} (h : k = 3 ∨ k = 4) : accB k = true := by simp [accB]; omega
theorem accB_neg {k : Int} (h : k ≠ 3) (h2 : k ≠ 4) : accB k = false := by simp [accB]; omega
set_option maxHeartbeats 400000 in
theorem acc_any (k i v n : Int) (s d : Value) (w : World) :
    Calls Tryz.prog 58 #[.agg #[.int .i64 k, .int .i64 i, .int .i64 v, .int .i64 n, s, d]] w fun e w' => e = .returned (.bool (accB k)) ∧ Below w.heap.size w w' := by
  by_cases h : k = 3
  · subst h
    rw [accB_pos (by omega)]
    go_enter Tryz.func58, Tryz.ntmps58
    go_wp2
    go_ret
    exact ⟨rfl, (Below.refl _ _).alloc (Nat.le_refl _) _⟩
  have h3 : (k == 3) = false := by simpa using h
  by_cases h' : k = 4
  · subst h'
    rw [accB_pos (by omega)]
    go_enter Tryz.func58, Tryz.ntmps58
    go_wp2
    go_ret
    exact ⟨rfl, (Below.refl _ _).alloc (Nat.le_refl _) _⟩
  have h4 : (k == 4) = false := by simpa using h'
  rw [accB_neg h h']
  clear h h'
  go_enter Tryz.func58, Tryz.ntmps58
  go_wp2
  go_ret
  exact ⟨rfl, (Below.refl _ _).alloc (Nat.le_refl _) _⟩

def forB (k v n : Int) (ls ld : Nat) : Bool := (!(accB k) && (v != 0 || n != 0)) || (k != 1 && ((ls : Int) != 0 || (ld : Int) != 0))
theorem forB_cases (k v n : Int) (ls ld : Nat) :
    (accB k = false ∧ (v != 0) = true ∧ forB k v n ls ld = true) ∨ (accB k = false ∧ (v != 0) = false ∧ (n != 0) = true ∧ forB k v n ls ld = true) ∨
    (((accB k = false ∧ (v != 0) = false ∧ (n != 0) = false) ∨ accB k = true) ∧
      ((k != 1) = false ∧ forB k v n ls ld = false ∨ (k != 1) = true ∧ ((ls : Int) != 0) = true ∧ forB k v n ls ld = true ∨
       (k != 1) = true ∧ ((ls : Int) != 0) = false ∧ ((ld : Int) != 0) = true ∧ forB k v n ls ld = true ∨
       (k != 1) = true ∧ ((ls : Int) != 0) = false ∧ ((ld : Int) != 0) = false ∧ forB k v n ls ld = false)) := by
  unfold forB
  cases accB k <;> cases (v != 0) <;> cases (n != 0) <;> cases (k != 1) <;> cases ((ls : Int) != 0) <;> cases ((ld : Int) != 0) <;> simp
set_option maxHeartbeats 1000000 in
theorem for_any (k i v n : Int) (sa da : Option Addr) (ls cs ld cd : Nat) (w : World) :
    Calls Tryz.prog 60 #[.agg #[.int .i64 k, .int .i64 i, .int .i64 v, .int .i64 n, .slice sa ls cs, .slice da ld cd]] w fun e w' => e = .returned (.bool (forB k v n ls ld)) ∧ Below w.heap.size w w' := by
  have hcs := forB_cases k v n ls ld
  generalize forB k v n ls ld = F at *
  rcases hcs with ⟨hacc, hv, rfl⟩ | ⟨hacc, hv, hn, rfl⟩ | ⟨⟨hacc, hv, hn⟩ | hacc, ⟨hk, rfl⟩ | ⟨hk, hs, rfl⟩ | ⟨hk, hs, hd, rfl⟩ | ⟨hk, hs, hd, rfl⟩⟩
  all_goals go_enter Tryz.func60, Tryz.ntmps60
  all_goals go_wp2_with (go_at_call 58; refine (acc_any _ _ _ _ _ _ _).mono ?_; rintro e w' ⟨rfl, hb⟩; obtain ⟨hc, hf⟩ := bcell hb; have hz : w.heap.size + 1 ≤ w'.heap.size := (by have := hb.size; simp at this; omega); have HB : Hid (Below _ _ w') := hb; clear hb)
  all_goals go_ret
  all_goals exact ⟨rfl, below_step HB.out⟩
end Go.Proofs.YtjghbciepinofaaGreat.Cd

set_option maxRecDepth 100000
namespace Go.Proofs.YtjghbciepinofaaGreat
/-- a good bank -/
def goodB (f0 f1 f2 f3 bo wa bu : Int) : Bool := decide ((0 ≤ f0 ∧ f0 ≤ 400000) ∧ (0 ≤ f1 ∧ f1 ≤ 400000) ∧ (0 ≤ f2 ∧ f2 ≤ 400000) ∧ (0 ≤ f3 ∧ f3 ≤ 400000) ∧ (0 ≤ bo ∧ bo ≤ 400000) ∧ (0 ≤ wa ∧ wa ≤ 400000) ∧ (0 ≤ bu ∧ bu ≤ 400000) ∧ f0 + f1 + f2 + f3 + bo + wa + bu = 400000)
/-- a bank: four free ones, bonded, waiting, burnt -/
structure Bk where
  f0 : Int
  f1 : Int
  f2 : Int
  f3 : Int
  bo : Int
  wa : Int
  bu : Int
def Bk.good (b : Bk) : Bool := goodB b.f0 b.f1 b.f2 b.f3 b.bo b.wa b.bu
def Bk.get (b : Bk) : Nat → Int
  | 0 => b.f0
  | 1 => b.f1
  | 2 => b.f2
  | 3 => b.f3
  | 4 => b.bo
  | 5 => b.wa
  | _ => b.bu
def Bk.put (b : Bk) (k : Nat) (x : Int) : Bk :=
  match k with
  | 0 => { b with f0 := x }
  | 1 => { b with f1 := x }
  | 2 => { b with f2 := x }
  | 3 => { b with f3 := x }
  | 4 => { b with bo := x }
  | 5 => { b with wa := x }
  | _ => { b with bu := x }
/-- to move n from one place to another -/
def mv (b : Bk) (f t : Nat) (n : Int) : Bk × Int :=
  if b.good = false ∨ ¬ (0 ≤ n ∧ n ≤ 1125899906842624) then (b, 2) else if b.get f < n then (b, 7) else ((b.put f (b.get f - n)).put t (b.get t + n), 0)
def bondR (b : Bk) (d n : Int) : Bk × Int := if 0 ≤ d ∧ d < 4 then mv b d.toNat 4 n else (b, 4)
def payR (b : Bk) (d n : Int) : Bk × Int := if 0 ≤ d ∧ d < 4 then mv b 5 d.toNat n else (b, 4)
def burnR (b : Bk) (x y : Int) : Bk × Int :=
  if (mv b 4 6 x).2 = 0 then if (mv (mv b 4 6 x).1 5 6 y).2 = 0 then ((mv (mv b 4 6 x).1 5 6 y).1, 0) else (b, (mv (mv b 4 6 x).1 5 6 y).2) else (b, (mv b 4 6 x).2)
end Go.Proofs.YtjghbciepinofaaGreat

set_option maxRecDepth 100000
namespace Go.Proofs.YtjghbciepinofaaGreat
structure Vd where
  tok : Int
  sh : Int
  lost : Int
  jail : Bool
  dead : Bool
structure Wt where
  num : Int
  d : Int
  v : Int
  amt : Int
  hei : Int
  due : Int
  h0 : Int
  h1 : Int
structure St where
  b : Bk
  V : Nat → Vd
  S : Nat → Nat → Int
  W : List Wt
  next : Int
/-- an amount -/
def inA (n : Int) : Bool := decide (0 ≤ n ∧ n ≤ 1125899906842624)
def isV (v : Int) : Bool := decide (0 ≤ v ∧ v < 6)
def isD (d : Int) : Bool := decide (0 ≤ d ∧ d < 4)
/-- a validator's numbers are right -/
def vOk (x : Vd) : Bool := inA x.tok && inA x.sh && inA x.lost && !(decide (0 < x.tok) && decide (x.sh = 0)) && (x.jail || !x.dead)
/-- the shares of the first delegators on a validator -/
def psh (S : Nat → Nat → Int) (v : Nat) : Nat → Int
  | 0 => 0
  | j + 1 => psh S v j + S j v
/-- the first delegators' shares on a validator are amounts -/
def pshOk (S : Nat → Nat → Int) (v : Nat) : Nat → Bool
  | 0 => true
  | j + 1 => pshOk S v j && inA (S j v)
def shOk (S : Nat → Nat → Int) (v : Nat) (sh : Int) : Bool := pshOk S v 4 && decide (psh S v 4 = sh)
def wOk1 (last next : Int) (w : Wt) : Bool := decide (last < w.num) && decide (w.num < next) && isD w.d && isV w.v && inA w.amt && decide (0 ≤ w.hei) && decide (0 ≤ w.due)
/-- the waits are right, their numbers rising -/
def wOk (next : Int) : Int → List Wt → Bool
  | _, [] => true
  | last, w :: r => wOk1 last next w && wOk next w.num r
def amts : List Wt → Int
  | [] => 0
  | w :: r => w.amt + amts r
def ptok (V : Nat → Vd) : Nat → Int
  | 0 => 0
  | k + 1 => ptok V k + (V k).tok
def plost (V : Nat → Vd) : Nat → Int
  | 0 => 0
  | k + 1 => plost V k + (V k).lost
def vsOk (s : St) (v : Nat) : Bool := vOk (s.V v) && shOk s.S v (s.V v).sh
def pvs (s : St) : Nat → Bool
  | 0 => true
  | k + 1 => pvs s k && vsOk s k
def bal (s : St) : Bool := decide (ptok s.V 6 = s.b.bo) && decide (amts s.W = s.b.wa) && decide (plost s.V 6 = s.b.bu)
def goodS (s : St) : Bool := s.b.good && decide (1 ≤ s.next) && decide (s.next ≤ 1125899906842624) && decide (s.W.length ≤ 60) && wOk s.next 0 s.W && pvs s 6 && bal s
/-- what a call on a validator says first -/
def refE (s : St) (v : Int) : Int := if goodS s = true then if isV v = true then 0 else 4 else 2
def refOfE (s : St) (d v : Int) : Int := if refE s v = 0 then if isD d = true then 0 else 4 else refE s v
/-- a times b by c, rounded down, where it is an amount; and its error -/
def mdN (a b c : Int) : Int := if a < 0 ∨ b < 0 ∨ c < 1 then 0 else if a * b / c ≤ 1125899906842624 then a * b / c else 0
def mdE (a b c : Int) : Int := if a < 0 ∨ b < 0 ∨ c < 1 then 2 else if a * b / c ≤ 1125899906842624 then 0 else 2
/-- how many shares n tokens more bring, and the error -/
def shN (x : Vd) (n : Int) : Int := if x.sh = 0 then n else if x.tok = 0 then 0 else if mdE n x.sh x.tok = 0 ∧ inA (x.sh + mdN n x.sh x.tok) = true then mdN n x.sh x.tok else 0
def shE (x : Vd) (n : Int) : Int := if x.sh = 0 then 0 else if x.tok = 0 then 8 else if mdE n x.sh x.tok = 0 ∧ inA (x.sh + mdN n x.sh x.tok) = true then if mdN n x.sh x.tok = 0 then 8 else 0 else 6
def setV (V : Nat → Vd) (v : Nat) (x : Vd) : Nat → Vd := fun i => if i = v then x else V i
def setSh (S : Nat → Nat → Int) (d v : Nat) (n : Int) : Nat → Nat → Int := fun i j => if i = d ∧ j = v then n else S i j
/-- tokens and shares more on a validator -/
def addS (s : St) (d v : Nat) (t n : Int) : St := { s with V := setV s.V v { s.V v with tok := (s.V v).tok + t, sh := (s.V v).sh + n }, S := setSh s.S d v (s.S d v + n) }
theorem inA_iff {n : Int} : inA n = true ↔ 0 ≤ n ∧ n ≤ 1125899906842624 := decide_eq_true_iff
theorem isV_iff {n : Int} : isV n = true ↔ 0 ≤ n ∧ n < 6 := decide_eq_true_iff
theorem isD_iff {n : Int} : isD n = true ↔ 0 ≤ n ∧ n < 4 := decide_eq_true_iff
end Go.Proofs.YtjghbciepinofaaGreat

set_option maxRecDepth 100000
namespace Go.Proofs.YtjghbciepinofaaGreat
open Go.RowKit
theorem bonded1_any (b : Nat) (w : World) : Calls Tryz.prog 122 #[.pointer (some ⟨b, 0, none⟩)] w fun e w' => e = .returned (.pointer (some ⟨b, 4, none⟩)) ∧ w = w' := by
  go_enter Tryz.func122, Tryz.ntmps122
  go_wp2
  go_ret
  exact ⟨rfl, rfl⟩
theorem waiting1_any (b : Nat) (w : World) : Calls Tryz.prog 123 #[.pointer (some ⟨b, 0, none⟩)] w fun e w' => e = .returned (.pointer (some ⟨b, 5, none⟩)) ∧ w = w' := by
  go_enter Tryz.func123, Tryz.ntmps123
  go_wp2
  go_ret
  exact ⟨rfl, rfl⟩
theorem burnt1_any (b : Nat) (w : World) : Calls Tryz.prog 124 #[.pointer (some ⟨b, 0, none⟩)] w fun e w' => e = .returned (.pointer (some ⟨b, 6, none⟩)) ∧ w = w' := by
  go_enter Tryz.func124, Tryz.ntmps124
  go_wp2
  go_ret
  exact ⟨rfl, rfl⟩
theorem free1_any (b c : Nat) (d : Int) (w : World) (h0 : 0 ≤ d) (h1 : d < 4) (hc : w.cell? ⟨c, 0, none⟩ = some (.int .i64 d)) :
    Calls Tryz.prog 125 #[.pointer (some ⟨b, 0, none⟩), .pointer (some ⟨c, 0, none⟩)] w fun e w' => e = .returned (.pointer (some ⟨b, d.toNat, none⟩)) ∧ ∃ nq, w' = w.drewN nq := by
  go_enter Tryz.func125, Tryz.ntmps125
  go_wp2_with fail
  go_quiet (fail)
  go_wp2
  go_ret
  exact ⟨rfl, _, rfl⟩
theorem bonded_any (w : World) : Calls Tryz.prog 82 #[] w fun e w' => e = .returned (.func (.func 122) #[] #[]) ∧ w = w' := by
  go_enter Tryz.func82, Tryz.ntmps82
  go_wp2
  go_ret
  exact ⟨rfl, rfl⟩
theorem waiting_any (w : World) : Calls Tryz.prog 83 #[] w fun e w' => e = .returned (.func (.func 123) #[] #[]) ∧ w = w' := by
  go_enter Tryz.func83, Tryz.ntmps83
  go_wp2
  go_ret
  exact ⟨rfl, rfl⟩
theorem burnt_any (w : World) : Calls Tryz.prog 84 #[] w fun e w' => e = .returned (.func (.func 124) #[] #[]) ∧ w = w' := by
  go_enter Tryz.func84, Tryz.ntmps84
  go_wp2
  go_ret
  exact ⟨rfl, rfl⟩
theorem freeOf_any (d : Int) (w : World) : Calls Tryz.prog 85 #[.int .i64 d] w fun e w' => e = .returned (.func (.func 125) #[] #[.pointer (some ⟨w.heap.size, 0, none⟩)]) ∧ w' = w.alloc (.cells #[.int .i64 d] 3) := by
  have hmf : ∀ (fn : Fn) (first cap : Array Value) (w : World), (Instr.makeFunc fn first cap).run Tryz.prog w = .ok (.func fn first cap) w := fun _ _ _ _ => rfl
  go_enter Tryz.func85, Tryz.ntmps85
  go_wp2
  go_ret
  exact ⟨rfl, rfl⟩
theorem isDel_any (d : Int) (w : World) : Calls Tryz.prog 113 #[.int .i64 d] w fun e w' => e = .returned (.bool (decide (0 ≤ d ∧ d < 4))) ∧ w = w' := by
  by_cases h0 : 0 ≤ d
  · by_cases h1 : d < 4
    · rw [decide_eq_true ⟨h0, h1⟩]
      go_enter Tryz.func113, Tryz.ntmps113
      go_wp2
      go_ret
      exact ⟨rfl, rfl⟩
    · rw [decide_eq_false (fun h => h1 h.2)]
      have h2 : 4 ≤ d := by omega
      go_enter Tryz.func113, Tryz.ntmps113
      go_wp2
      go_ret
      exact ⟨rfl, rfl⟩
  · rw [decide_eq_false (fun h => h0 h.1)]
    have h2 : d < 0 := by omega
    go_enter Tryz.func113, Tryz.ntmps113
    go_wp2
    go_ret
    exact ⟨rfl, rfl⟩
theorem inn_any (d : Int) (w : World) : Calls Tryz.prog 121 #[.int .i64 d] w fun e w' => e = .returned (.bool (decide (0 ≤ d ∧ d ≤ 1125899906842624))) ∧ w = w' := by
  by_cases h0 : 0 ≤ d
  · by_cases h1 : d ≤ 1125899906842624
    · rw [decide_eq_true ⟨h0, h1⟩]
      go_enter Tryz.func121, Tryz.ntmps121
      go_wp2
      go_ret
      exact ⟨rfl, rfl⟩
    · rw [decide_eq_false (fun h => h1 h.2)]
      have h2 : 1125899906842624 < d := by omega
      go_enter Tryz.func121, Tryz.ntmps121
      go_wp2
      go_ret
      exact ⟨rfl, rfl⟩
  · rw [decide_eq_false (fun h => h0 h.1)]
    have h2 : d < 0 := by omega
    go_enter Tryz.func121, Tryz.ntmps121
    go_wp2
    go_ret
    exact ⟨rfl, rfl⟩
end Go.Proofs.YtjghbciepinofaaGreat

