/- Parts of the proof: CA CB S Q. -/
import Derived.Test.YtjghbciepinofaaGreatRows
import Derived.WalkKit
import Derived.WalkSpells
import Derived.WalkLawsBesides
import Derived.Test.YtjghbciepinofaaGreatProg
import Derived.WalkSmall
import Derived.Below
import Derived.ChangeKeysEq
set_option maxRecDepth 100000
namespace Go.Proofs.YtjghbciepinofaaGreat.Cd
open Go.RowKit
/-- a list of ints lies at an address -/
def IntsAt (w : World) (b off : Nat) (l : List Int) : Prop := ∀ i, i < l.length → w.cell? ⟨b, off + i, none⟩ = some (.int .i64 (l.getD i 0))
/-- a list of powers lies at an address, two cells each -/
def PwsAt (w : World) (b off : Nat) (l : List (Int × Int)) : Prop := ∀ i, i < l.length → w.cell? ⟨b, off + i * 2, none⟩ = some (.int .i64 (l.getD i (0, 0)).1) ∧ w.cell? ⟨b, off + i * 2 + 1, none⟩ = some (.int .i64 (l.getD i (0, 0)).2)
theorem IntsAt.later {w w' : World} {b off : Nat} {l : List Int} (h : IntsAt w b off l) (hb : Below w.heap.size w w') : IntsAt w' b off l := fun i hi =>
  (hb.cell (p := ⟨b, off + i, none⟩) (World.block_lt_of_cell? w _ (h i hi))).trans (h i hi)
theorem PwsAt.later {w w' : World} {b off : Nat} {l : List (Int × Int)} (h : PwsAt w b off l) (hb : Below w.heap.size w w') : PwsAt w' b off l := fun i hi =>
  ⟨(hb.cell (p := ⟨b, off + i * 2, none⟩) (World.block_lt_of_cell? w _ (h i hi).1)).trans (h i hi).1, (hb.cell (p := ⟨b, off + i * 2 + 1, none⟩) (World.block_lt_of_cell? w _ (h i hi).2)).trans (h i hi).2⟩
theorem below_new (w : World) (o : Obj) : Below w.heap.size w (w.alloc o) := (Below.refl _ _).alloc (Nat.le_refl _) o
theorem bcell {W w1 : World} (hb : Below W.heap.size W w1) : (∀ b o, b < W.heap.size → w1.cell? ⟨b, o, none⟩ = W.cell? ⟨b, o, none⟩) ∧ (∀ b o, b < W.heap.size → w1.frozen? ⟨b, o, none⟩ = W.frozen? ⟨b, o, none⟩) :=
  ⟨fun b o h => hb.cell (p := ⟨b, o, none⟩) h, fun b o h => hb.frozen (p := ⟨b, o, none⟩) h⟩
theorem below_step {w w' : World} {o : Obj} (h : Below (w.alloc o).heap.size (w.alloc o) w') : Below w.heap.size w w' :=
  (below_new w o).trans (h.mono (by simp))
theorem below_then {w w1 w2 : World} (h : Below w.heap.size w w1) (k : Below w1.heap.size w1 w2) : Below w.heap.size w w2 := h.trans (k.mono h.size)

def isV (v : Int) : Bool := decide (0 ≤ v ∧ v < 6)
theorem isV_pos {v : Int} (h : 0 ≤ v) (h2 : v < 6) : isV v = true := by simp [isV]; omega
theorem isV_neg {v : Int} (h : ¬ (0 ≤ v ∧ v < 6)) : isV v = false := by simp [isV]; omega
set_option maxHeartbeats 400000 in
theorem isV_any (v : Int) (w : World) :
    Calls Tryz.prog 59 #[.int .i64 v] w fun e w' => e = .returned (.bool (isV v)) ∧ w = w' := by
  by_cases h : 0 ≤ v
  · by_cases h2 : v < 6
    · rw [isV_pos h h2]
      go_enter Tryz.func59, Tryz.ntmps59
      go_wp2
      go_ret
      exact ⟨rfl, rfl⟩
    · rw [isV_neg (by omega)]
      go_enter Tryz.func59, Tryz.ntmps59
      go_wp2
      go_ret
      exact ⟨rfl, rfl⟩
  · rw [isV_neg (by omega)]
    go_enter Tryz.func59, Tryz.ntmps59
    go_wp2
    go_ret
    exact ⟨rfl, rfl⟩

def risesFrom (last : Int) : List Int → Bool
  | [] => true
  | v :: t => decide (last < v) && isV v && risesFrom v t

theorem rises_drop (l : List Int) (k : Nat) (h : k < l.length) (last : Int) :
    risesFrom last (l.drop k) = (decide (last < l.getD k 0) && isV (l.getD k 0) && risesFrom (l.getD k 0) (l.drop (k + 1))) := by
  rw [List.drop_eq_getElem_cons h, risesFrom]
  simp [List.getD, h]
set_option maxHeartbeats 400000 in
theorem rises_any (l : List Int) (a : Option Addr) (c b off : Nat) (w : World) (hlen : l.length ≤ maxLen) (ha : 0 < l.length → a = some ⟨b, off, none⟩)
    (hc : IntsAt w b off l) :
    Calls Tryz.prog 62 #[.slice a l.length c] w fun e w' => e = .returned (.bool (risesFrom (-1) l)) ∧ w = w' := by
  unfold maxLen at hlen
  have HC : Hid (∀ i, i < l.length → w.cell? ⟨b, off + i, none⟩ = some (.int .i64 (l.getD i 0))) := hc
  have HA : Hid (0 < l.length → a = some ⟨b, off, none⟩) := ha
  clear hc ha
  go_enter Tryz.func62, Tryz.ntmps62
  go_wp2
  go_loop [3, 8] (fun last i => ∃ (k : Nat) (x : Int), k ≤ l.length ∧ i = .int .i64 k ∧ last = .int .i64 x ∧ Hid (risesFrom (-1) l = risesFrom x (l.drop k))) (fun _ i => l.length - (intOf i).toNat)
  case atStart => exact ⟨0, -1, Nat.zero_le _, rfl, rfl, by simp [Hid]⟩
  case round =>
    obtain ⟨k, x, hk, rfl, rfl, HR⟩ := hrel
    by_cases hlt : k < l.length
    · have hcell := HC.out k hlt
      have hd := rises_drop l k hlt x
      obtain ⟨y, hy⟩ : ∃ y, l.getD k 0 = y := ⟨_, rfl⟩
      rw [hy] at hcell hd
      have e := HA.out (by omega)
      subst e
      have HD : Hid (risesFrom x (l.drop k) = (decide (x < y) && isV y && risesFrom y (l.drop (k + 1)))) := hd
      clear hd hy
      by_cases h1 : y ≤ x
      · go_wp2_with (go_at_call 59; refine (isV_any _ _).mono ?_; rintro e w' ⟨rfl, rfl⟩)
        go_ret
        refine ⟨?_, rfl⟩
        rw [HR.out, HD.out]
        have : decide (x < y) = false := by simp; omega
        simp [this]
      · by_cases h2 : isV y = true
        · go_wp2_with (go_at_call 59; refine (isV_any _ _).mono ?_; rintro e w' ⟨rfl, rfl⟩)
          go_round
          case rel =>
            refine ⟨k + 1, y, by omega, by go_num, rfl, ?_⟩
            have : decide (x < y) = true := by simp; omega
            show _ = _
            rw [HR.out, HD.out, this, h2]; simp
          case measure => simp [intOf]; omega
        · have h2 : isV y = false := by simpa using h2
          go_wp2_with (go_at_call 59; refine (isV_any _ _).mono ?_; rintro e w' ⟨rfl, rfl⟩)
          go_ret
          refine ⟨?_, rfl⟩
          rw [HR.out, HD.out, h2]; simp
    · go_wp2
      go_ret
      refine ⟨?_, rfl⟩
      rw [HR.out, List.drop_of_length_le (by omega)]; rfl
def prisesFrom (last : Int) : List (Int × Int) → Bool
  | [] => true
  | p :: t => decide (last < p.1) && isV p.1 && decide (0 ≤ p.2) && decide (p.2 ≤ 1125899906842624) && prisesFrom p.1 t

theorem prises_drop (l : List (Int × Int)) (k : Nat) (h : k < l.length) (last : Int) :
    prisesFrom last (l.drop k) = (decide (last < (l.getD k (0, 0)).1) && isV (l.getD k (0, 0)).1 && decide (0 ≤ (l.getD k (0, 0)).2) && decide ((l.getD k (0, 0)).2 ≤ 1125899906842624) && prisesFrom (l.getD k (0, 0)).1 (l.drop (k + 1))) := by
  rw [List.drop_eq_getElem_cons h, prisesFrom]
  simp [List.getD, h]
set_option maxHeartbeats 400000 in
theorem prises_any (l : List (Int × Int)) (a : Option Addr) (c b off : Nat) (w : World) (hlen : l.length ≤ maxLen) (ha : 0 < l.length → a = some ⟨b, off, none⟩)
    (hc : PwsAt w b off l) :
    Calls Tryz.prog 61 #[.slice a l.length c] w fun e w' => e = .returned (.bool (prisesFrom (-1) l)) ∧ Below w.heap.size w w' := by
  unfold maxLen at hlen
  have HC : Hid (∀ i, i < l.length → w.cell? ⟨b, off + i * 2, none⟩ = some (.int .i64 (l.getD i (0, 0)).1) ∧ w.cell? ⟨b, off + i * 2 + 1, none⟩ = some (.int .i64 (l.getD i (0, 0)).2)) := hc
  have HA : Hid (0 < l.length → a = some ⟨b, off, none⟩) := ha
  clear hc ha
  go_enter Tryz.func61, Tryz.ntmps61
  go_wp2
  go_loopw [3, 8] (fun last i wl => ∃ (k : Nat) (x : Int), k ≤ l.length ∧ i = .int .i64 k ∧ last = .int .i64 x ∧ Hid (prisesFrom (-1) l = prisesFrom x (l.drop k)) ∧ Hid (Below w.heap.size w wl)) (fun _ i _ => l.length - (intOf i).toNat)
  case atStart => exact ⟨0, -1, Nat.zero_le _, rfl, rfl, by simp [Hid], Below.refl _ _⟩
  case round =>
    obtain ⟨k, x, hk, rfl, rfl, HR, HB⟩ := hrel
    by_cases hlt : k < l.length
    · have hcell := HC.out k hlt
      have hd := prises_drop l k hlt x
      obtain ⟨y, hy⟩ : ∃ y, l.getD k (0, 0) = y := ⟨_, rfl⟩
      rw [hy] at hcell hd
      obtain ⟨y, z⟩ := y
      have e := HA.out (by omega)
      subst e
      have HD : Hid (prisesFrom x (l.drop k) = (decide (x < y) && isV y && decide (0 ≤ z) && decide (z ≤ 1125899906842624) && prisesFrom y (l.drop (k + 1)))) := hd
      clear hd hy
      obtain ⟨hc0, hc1⟩ := hcell
      dsimp only at hc0 hc1
      have hbl : b < w.heap.size := World.block_lt_of_cell? w _ hc0
      have hc0' : wr.cell? ⟨b, off + k * 2, none⟩ = some (.int .i64 y) := (HB.out.cell (p := ⟨b, off + k * 2, none⟩) hbl).trans hc0
      have hc1' : wr.cell? ⟨b, off + k * 2 + 1, none⟩ = some (.int .i64 z) := (HB.out.cell (p := ⟨b, off + k * 2 + 1, none⟩) hbl).trans hc1
      clear hc0 hc1
      have hB0 := HB.out.size
      by_cases h1 : y ≤ x
      · have e1 : decide (x < y) = false := by simp; omega
        have E : Hid (prisesFrom x (l.drop k) = false) := by show _ = _; rw [HD.out, e1]; simp
        clear e1
        go_wp2_with (go_at_call 59; refine (isV_any _ _).mono ?_; rintro e w' ⟨rfl, rfl⟩)
        go_ret
        refine ⟨?_, ?_⟩
        · rw [HR.out, E.out]; simp
        · exact HB.out.alloc hB0 _
      by_cases h2 : isV y = true
      · by_cases h3 : z < 0
        · have e1 : decide (0 ≤ z) = false := by simp; omega
          have E : Hid (prisesFrom x (l.drop k) = false) := by show _ = _; rw [HD.out, e1]; simp
          clear e1
          go_wp2_with (go_at_call 59; refine (isV_any _ _).mono ?_; rintro e w' ⟨rfl, rfl⟩)
          go_ret
          refine ⟨?_, ?_⟩
          · rw [HR.out, E.out]; simp
          · exact HB.out.alloc hB0 _
        by_cases h4 : 1125899906842624 < z
        · have e1 : decide (z ≤ 1125899906842624) = false := by simp; omega
          have E : Hid (prisesFrom x (l.drop k) = false) := by show _ = _; rw [HD.out, e1]; simp
          clear e1
          go_wp2_with (go_at_call 59; refine (isV_any _ _).mono ?_; rintro e w' ⟨rfl, rfl⟩)
          go_ret
          refine ⟨?_, ?_⟩
          · rw [HR.out, E.out]; simp
          · exact HB.out.alloc hB0 _
        · have E : Hid (prisesFrom x (l.drop k) = prisesFrom y (l.drop (k + 1))) := by
            show _ = _
            have e0 : decide (x < y) = true := by simp; omega
            have e1 : decide (0 ≤ z) = true := by simp; omega
            have e2 : decide (z ≤ 1125899906842624) = true := by simp; omega
            rw [HD.out, e0, e1, e2, h2]; simp
          go_wp2_with (go_at_call 59; refine (isV_any _ _).mono ?_; rintro e w' ⟨rfl, rfl⟩)
          go_roundw
          case rel => exact ⟨k + 1, y, by omega, by go_num, rfl, HR.out.trans E.out, HB.out.alloc hB0 _⟩
          case measure => simp [intOf]; omega
      · have h2 : isV y = false := by simpa using h2
        have E : Hid (prisesFrom x (l.drop k) = false) := by show _ = _; rw [HD.out, h2]; simp
        go_wp2_with (go_at_call 59; refine (isV_any _ _).mono ?_; rintro e w' ⟨rfl, rfl⟩)
        go_ret
        refine ⟨?_, ?_⟩
        · rw [HR.out, E.out]; simp
        · exact HB.out.alloc hB0 _
    · go_wp2
      go_ret
      refine ⟨?_, HB.out⟩
      rw [HR.out, List.drop_of_length_le (by omega)]; rfl

def accB (k : Int) : Bool := k == 3 || k == 4
theorem accB_pos {k : Int} (h : k = 3 ∨ k = 4) : accB k = true := by simp [accB]; omega
theorem accB_neg {k : Int} (h : k ≠ 3) (h2 : k ≠ 4) : accB k = false := by simp [accB]; omega
set_option maxHeartbeats 400000 in
theorem acc_any (k i v n : Int) (s d : Value) (w : World) :
    Calls Tryz.prog 58 #[.agg #[.int .i64 k, .int .i64 i, .int .i64 v, .int .i64 n, s, d]] w fun e w' => e = .returned (.bool (accB k)) ∧ Below w.heap.size w w' := by
  by_cases h : k = 3
  · subst h
    rw [accB_pos (by omega)]
    go_enter Tryz.func58, Tryz.ntmps58
    go_wp2
    go_ret
    exact ⟨rfl, (Below.refl _ _).alloc (Nat.le_refl _) _⟩
  have h3 : (k == 3) = false := by simpa using h
  by_cases h' : k = 4
  · subst h'
    rw [accB_pos (by omega)]
    go_enter Tryz.func58, Tryz.ntmps58
    go_wp2
    go_ret
    exact ⟨rfl, (Below.refl _ _).alloc (Nat.le_refl _) _⟩
  have h4 : (k == 4) = false := by simpa using h'
  rw [accB_neg h h']
  clear h h'
  go_enter Tryz.func58, Tryz.ntmps58
  go_wp2
  go_ret
  exact ⟨rfl, (Below.refl _ _).alloc (Nat.le_refl _) _⟩

def forB (k v n : Int) (ls ld : Nat) : Bool := (!(accB k) && (v != 0 || n != 0)) || (k != 1 && ((ls : Int) != 0 || (ld : Int) != 0))
theorem forB_cases (k v n : Int) (ls ld : Nat) :
    (accB k = false ∧ (v != 0) = true ∧ forB k v n ls ld = true) ∨ (accB k = false ∧ (v != 0) = false ∧ (n != 0) = true ∧ forB k v n ls ld = true) ∨
    (((accB k = false ∧ (v != 0) = false ∧ (n != 0) = false) ∨ accB k = true) ∧
      ((k != 1) = false ∧ forB k v n ls ld = false ∨ (k != 1) = true ∧ ((ls : Int) != 0) = true ∧ forB k v n ls ld = true ∨
       (k != 1) = true ∧ ((ls : Int) != 0) = false ∧ ((ld : Int) != 0) = true ∧ forB k v n ls ld = true ∨
       (k != 1) = true ∧ ((ls : Int) != 0) = false ∧ ((ld : Int) != 0) = false ∧ forB k v n ls ld = false)) := by
  unfold forB
  cases accB k <;> cases (v != 0) <;> cases (n != 0) <;> cases (k != 1) <;> cases ((ls : Int) != 0) <;> cases ((ld : Int) != 0) <;> simp
set_option maxHeartbeats 1000000 in
theorem for_any (k i v n : Int) (sa da : Option Addr) (ls cs ld cd : Nat) (w : World) :
    Calls Tryz.prog 60 #[.agg #[.int .i64 k, .int .i64 i, .int .i64 v, .int .i64 n, .slice sa ls cs, .slice da ld cd]] w fun e w' => e = .returned (.bool (forB k v n ls ld)) ∧ Below w.heap.size w w' := by
  have hcs := forB_cases k v n ls ld
  generalize forB k v n ls ld = F at *
  rcases hcs with ⟨hacc, hv, rfl⟩ | ⟨hacc, hv, hn, rfl⟩ | ⟨⟨hacc, hv, hn⟩ | hacc, ⟨hk, rfl⟩ | ⟨hk, hs, rfl⟩ | ⟨hk, hs, hd, rfl⟩ | ⟨hk, hs, hd, rfl⟩⟩
  all_goals go_enter Tryz.func60, Tryz.ntmps60
  all_goals go_wp2_with (go_at_call 58; refine (acc_any _ _ _ _ _ _ _).mono ?_; rintro e w' ⟨rfl, hb⟩; obtain ⟨hc, hf⟩ := bcell hb; have hz : w.heap.size + 1 ≤ w'.heap.size := (by have := hb.size; simp at this; omega); have HB : Hid (Below _ _ w') := hb; clear hb)
  all_goals go_ret
  all_goals exact ⟨rfl, below_step HB.out⟩
end Go.Proofs.YtjghbciepinofaaGreat.Cd

set_option maxRecDepth 100000
namespace Go.Proofs.YtjghbciepinofaaGreat.Cd
open Go.RowKit

def goodN (k i v n : Int) (S : List (Int × Int)) (D : List Int) : Int :=
  if k < 1 ∨ 4 < k then 3 else if i < 1 ∨ 1099511627776 < i then 2
  else if accB k = true ∧ (isV v = false ∨ n < 1 ∨ 1125899906842624 < n) then 2
  else if forB k v n S.length D.length = true then 1
  else if prisesFrom (-1) S = false ∨ risesFrom (-1) D = false then 2 else 0

theorem goodN_cases (k i v n : Int) (S : List (Int × Int)) (D : List Int) :
    (k < 1 ∧ goodN k i v n S D = 3) ∨ (1 ≤ k ∧ 4 < k ∧ goodN k i v n S D = 3) ∨
    (1 ≤ k ∧ k ≤ 4 ∧
      ((i < 1 ∧ goodN k i v n S D = 2) ∨ (1 ≤ i ∧ 1099511627776 < i ∧ goodN k i v n S D = 2) ∨
       (1 ≤ i ∧ i ≤ 1099511627776 ∧
        ((accB k = true ∧ isV v = false ∧ goodN k i v n S D = 2) ∨ (accB k = true ∧ isV v = true ∧ n < 1 ∧ goodN k i v n S D = 2) ∨
         (accB k = true ∧ isV v = true ∧ 1 ≤ n ∧ 1125899906842624 < n ∧ goodN k i v n S D = 2) ∨
         (((accB k = true ∧ isV v = true ∧ 1 ≤ n ∧ n ≤ 1125899906842624) ∨ accB k = false) ∧
          ((forB k v n S.length D.length = true ∧ goodN k i v n S D = 1) ∨
           (forB k v n S.length D.length = false ∧ prisesFrom (-1) S = false ∧ goodN k i v n S D = 2) ∨
           (forB k v n S.length D.length = false ∧ prisesFrom (-1) S = true ∧ risesFrom (-1) D = false ∧ goodN k i v n S D = 2) ∨
           (forB k v n S.length D.length = false ∧ prisesFrom (-1) S = true ∧ risesFrom (-1) D = true ∧ goodN k i v n S D = 0))))))) := by
  unfold goodN
  generalize forB k v n S.length D.length = f
  generalize prisesFrom (-1) S = p
  generalize risesFrom (-1) D = r
  generalize accB k = a
  generalize isV v = x
  rcases Int.lt_or_le k 1 with h | h
  · left; exact ⟨h, by rw [if_pos (Or.inl h)]⟩
  right
  rcases Int.lt_or_le 4 k with h4 | h4
  · left; exact ⟨h, h4, by rw [if_pos (Or.inr h4)]⟩
  right
  rw [if_neg (by omega)]
  refine ⟨h, h4, ?_⟩
  rcases Int.lt_or_le i 1 with hi | hi
  · left; exact ⟨hi, by rw [if_pos (Or.inl hi)]⟩
  right
  rcases Int.lt_or_le 1099511627776 i with hi4 | hi4
  · left; exact ⟨hi, hi4, by rw [if_pos (Or.inr hi4)]⟩
  right
  rw [if_neg (by omega)]
  refine ⟨hi, hi4, ?_⟩
  rcases Int.lt_or_le n 1 with hn | hn
  all_goals rcases Int.lt_or_le 1125899906842624 n with hn4 | hn4
  all_goals first | (exfalso; omega) | skip
  all_goals cases a <;> cases x <;> cases f <;> cases p <;> cases r <;> simp_all
  all_goals omega

set_option maxHeartbeats 1000000 in
theorem good_any (k i v n : Int) (S : List (Int × Int)) (D : List Int) (sa da : Option Addr) (cs cd sb so db dO : Nat) (w : World)
    (hls : S.length ≤ maxLen) (hld : D.length ≤ maxLen) (hsa : 0 < S.length → sa = some ⟨sb, so, none⟩) (hda : 0 < D.length → da = some ⟨db, dO, none⟩) (PS : PwsAt w sb so S) (PD : IntsAt w db dO D) :
    Calls Tryz.prog 21 #[.agg #[.int .i64 k, .int .i64 i, .int .i64 v, .int .i64 n, .slice sa S.length cs, .slice da D.length cd]] w fun e w' => e = .returned (.int .i64 (goodN k i v n S D)) ∧ Below w.heap.size w w' := by
  have HLS : Hid (S.length ≤ maxLen) := hls
  have HLD : Hid (D.length ≤ maxLen) := hld
  have HSA : Hid (0 < S.length → sa = some ⟨sb, so, none⟩) := hsa
  have HDA : Hid (0 < D.length → da = some ⟨db, dO, none⟩) := hda
  clear hls hld hsa hda
  have hcs := goodN_cases k i v n S D
  generalize goodN k i v n S D = G at *
  rcases hcs with ⟨h1, rfl⟩ | ⟨h1, h2, rfl⟩ | ⟨h1, h2, ⟨h3, rfl⟩ | ⟨h3, h4, rfl⟩ | ⟨h3, h4, ⟨h5, h6, rfl⟩ | ⟨h5, h6, h7, rfl⟩ | ⟨h5, h6, h7, h8, rfl⟩ | ⟨⟨h5, h6, h7, h8⟩ | h5, ⟨h9, rfl⟩ | ⟨h9, h10, rfl⟩ | ⟨h9, h10, h11, rfl⟩ | ⟨h9, h10, h11, rfl⟩⟩⟩⟩
  all_goals go_enter Tryz.func21, Tryz.ntmps21
  all_goals go_wp2_with (first
    | (go_at_call 58; refine (acc_any _ _ _ _ _ _ _).mono ?_; rintro e w1 ⟨rfl, hb⟩
       have PS1 := (PS.later (below_new _ _)).later hb
       have PD1 := (PD.later (below_new _ _)).later hb
       obtain ⟨hc, hf⟩ := bcell hb
       have hz : w.heap.size < w1.heap.size := (by have := hb.size; simp at this; omega)
       have HB1 : Hid (Below w.heap.size w w1) := below_step hb
       clear hb PS PD)
    | (go_at_call 59; refine (isV_any _ _).mono ?_; rintro e w' ⟨rfl, rfl⟩)
    | (go_at_call 60; refine (for_any _ _ _ _ _ _ _ _ _ _ _).mono ?_; rintro e w2 ⟨rfl, hb⟩
       have PS2 := PS1.later hb
       have PD2 := PD1.later hb
       obtain ⟨hc2, hf2⟩ := bcell hb
       have hz2 : w.heap.size < w2.heap.size := Nat.lt_of_lt_of_le hz hb.size
       have HB2 : Hid (Below w.heap.size w w2) := below_then HB1.out hb
       clear hb PS1 PD1 HB1)
    | (go_at_call 61; refine (prises_any S sa cs sb so _ HLS.out HSA.out PS2).mono ?_; rintro e w3 ⟨rfl, hb⟩
       have PD3 := PD2.later hb
       obtain ⟨hc3, hf3⟩ := bcell hb
       have hz3 : w.heap.size < w3.heap.size := Nat.lt_of_lt_of_le hz2 hb.size
       have HB3 : Hid (Below w.heap.size w w3) := below_then HB2.out hb
       clear hb PS2 PD2 HB2)
    | (go_at_call 62; refine (rises_any D da cd db dO _ HLD.out HDA.out PD3).mono ?_; rintro e w' ⟨rfl, rfl⟩))
  all_goals go_ret
  all_goals refine ⟨rfl, ?_⟩
  all_goals first | exact HB3.out | exact HB2.out | exact HB1.out | exact below_new _ _
end Go.Proofs.YtjghbciepinofaaGreat.Cd

set_option maxRecDepth 100000
namespace Go.Proofs.YtjghbciepinofaaGreat
open Go.RowKit
/-- a bank's numbers lie in a block -/
def BAt (w : World) (b : Nat) (f0 f1 f2 f3 bo wa bu : Int) : Prop := w.heap[b]? = some (.cells #[.int .i64 f0, .int .i64 f1, .int .i64 f2, .int .i64 f3, .int .i64 bo, .int .i64 wa, .int .i64 bu] 24)
section
variable {w w' : World} {b B : Nat} {f0 f1 f2 f3 bo wa bu : Int}
theorem BAt.later (h : BAt w b f0 f1 f2 f3 bo wa bu) (hb : Below B w w') (hB : b < B) : BAt w' b f0 f1 f2 f3 bo wa bu := (hb.block b hB).trans h
theorem BAt.new (w : World) (f0 f1 f2 f3 bo wa bu : Int) : BAt (w.alloc (.cells #[.int .i64 f0, .int .i64 f1, .int .i64 f2, .int .i64 f3, .int .i64 bo, .int .i64 wa, .int .i64 bu] 24)) w.heap.size f0 f1 f2 f3 bo wa bu := heap_alloc_new _ _
theorem BAt.other {c o : Nat} (h : BAt w b f0 f1 f2 f3 bo wa bu) (hb : b ≠ c) (v : Value) : BAt (w.setCell ⟨c, o, none⟩ v) b f0 f1 f2 f3 bo wa bu := (Below.heap_setCell _ _ _ _ hb).trans h
theorem BAt.alloc (h : BAt w b f0 f1 f2 f3 bo wa bu) (o : Obj) : BAt (w.alloc o) b f0 f1 f2 f3 bo wa bu := (Below.heap_alloc _ _ _ (Array.getElem?_eq_some_iff.1 h).1).trans h
theorem BAt.lt (h : BAt w b f0 f1 f2 f3 bo wa bu) : b < w.heap.size := (Array.getElem?_eq_some_iff.1 h).1
theorem BAt.cells (h : BAt w b f0 f1 f2 f3 bo wa bu) : w.cell? ⟨b, 0, none⟩ = some (.int .i64 f0) ∧ w.cell? ⟨b, 1, none⟩ = some (.int .i64 f1) ∧ w.cell? ⟨b, 2, none⟩ = some (.int .i64 f2) ∧ w.cell? ⟨b, 3, none⟩ = some (.int .i64 f3) ∧ w.cell? ⟨b, 4, none⟩ = some (.int .i64 bo) ∧ w.cell? ⟨b, 5, none⟩ = some (.int .i64 wa) ∧ w.cell? ⟨b, 6, none⟩ = some (.int .i64 bu) := by
  unfold BAt at h
  simp [World.cell?, h]
theorem BAt.frees (h : BAt w b f0 f1 f2 f3 bo wa bu) : w.frozen? ⟨b, 0, none⟩ = false ∧ w.frozen? ⟨b, 1, none⟩ = false ∧ w.frozen? ⟨b, 2, none⟩ = false ∧ w.frozen? ⟨b, 3, none⟩ = false ∧ w.frozen? ⟨b, 4, none⟩ = false ∧ w.frozen? ⟨b, 5, none⟩ = false ∧ w.frozen? ⟨b, 6, none⟩ = false := by
  unfold BAt at h
  simp [World.frozen?, h]
theorem BAt.set_0 (h : BAt w b f0 f1 f2 f3 bo wa bu) (v : Int) : BAt (w.setCell ⟨b, 0, none⟩ (.int .i64 v)) b v f1 f2 f3 bo wa bu := by
  unfold BAt at *
  simp [World.setCell, Array.getElem?_modify, h]
theorem BAt.set_1 (h : BAt w b f0 f1 f2 f3 bo wa bu) (v : Int) : BAt (w.setCell ⟨b, 1, none⟩ (.int .i64 v)) b f0 v f2 f3 bo wa bu := by
  unfold BAt at *
  simp [World.setCell, Array.getElem?_modify, h]
theorem BAt.set_2 (h : BAt w b f0 f1 f2 f3 bo wa bu) (v : Int) : BAt (w.setCell ⟨b, 2, none⟩ (.int .i64 v)) b f0 f1 v f3 bo wa bu := by
  unfold BAt at *
  simp [World.setCell, Array.getElem?_modify, h]
theorem BAt.set_3 (h : BAt w b f0 f1 f2 f3 bo wa bu) (v : Int) : BAt (w.setCell ⟨b, 3, none⟩ (.int .i64 v)) b f0 f1 f2 v bo wa bu := by
  unfold BAt at *
  simp [World.setCell, Array.getElem?_modify, h]
theorem BAt.set_4 (h : BAt w b f0 f1 f2 f3 bo wa bu) (v : Int) : BAt (w.setCell ⟨b, 4, none⟩ (.int .i64 v)) b f0 f1 f2 f3 v wa bu := by
  unfold BAt at *
  simp [World.setCell, Array.getElem?_modify, h]
theorem BAt.set_5 (h : BAt w b f0 f1 f2 f3 bo wa bu) (v : Int) : BAt (w.setCell ⟨b, 5, none⟩ (.int .i64 v)) b f0 f1 f2 f3 bo v bu := by
  unfold BAt at *
  simp [World.setCell, Array.getElem?_modify, h]
theorem BAt.set_6 (h : BAt w b f0 f1 f2 f3 bo wa bu) (v : Int) : BAt (w.setCell ⟨b, 6, none⟩ (.int .i64 v)) b f0 f1 f2 f3 bo wa v := by
  unfold BAt at *
  simp [World.setCell, Array.getElem?_modify, h]
/-- the seven numbers are written -/
def set7 (w : World) (b : Nat) (v0 v1 v2 v3 v4 v5 v6 : Int) : World := ((((((w.setCell ⟨b, 0, none⟩ (.int .i64 v0)).setCell ⟨b, 1, none⟩ (.int .i64 v1)).setCell ⟨b, 2, none⟩ (.int .i64 v2)).setCell ⟨b, 3, none⟩ (.int .i64 v3)).setCell ⟨b, 4, none⟩ (.int .i64 v4)).setCell ⟨b, 5, none⟩ (.int .i64 v5)).setCell ⟨b, 6, none⟩ (.int .i64 v6)
theorem BAt.set7 (h : BAt w b f0 f1 f2 f3 bo wa bu) (v0 v1 v2 v3 v4 v5 v6 : Int) : BAt (set7 w b v0 v1 v2 v3 v4 v5 v6) b v0 v1 v2 v3 v4 v5 v6 :=
  ((((((h.set_0 v0).set_1 v1).set_2 v2).set_3 v3).set_4 v4).set_5 v5).set_6 v6
theorem set7_below (h : Below B w w') (hB : B ≤ b) (v0 v1 v2 v3 v4 v5 v6 : Int) : Below B w (Go.Proofs.YtjghbciepinofaaGreat.set7 w' b v0 v1 v2 v3 v4 v5 v6) :=
  ((((((h.setCell hB _).setCell hB _).setCell hB _).setCell hB _).setCell hB _).setCell hB _).setCell hB _
theorem BAt.other7 {c : Nat} (h : BAt w b f0 f1 f2 f3 bo wa bu) (hb : b ≠ c) (v0 v1 v2 v3 v4 v5 v6 : Int) : BAt (Go.Proofs.YtjghbciepinofaaGreat.set7 w c v0 v1 v2 v3 v4 v5 v6) b f0 f1 f2 f3 bo wa bu :=
  ((((((h.other hb _).other hb _).other hb _).other hb _).other hb _).other hb _).other hb _
end
end Go.Proofs.YtjghbciepinofaaGreat

set_option maxRecDepth 100000
namespace Go.Proofs.YtjghbciepinofaaGreat
open Go.RowKit
theorem eqA (w : World) (a0 a1 a2 a3 b0 b1 b2 b3 : Int) : (Op.equalIn 9999 22 (.agg #[.int .i64 a0, .int .i64 a1, .int .i64 a2, .int .i64 a3]) (.agg #[.int .i64 b0, .int .i64 b1, .int .i64 b2, .int .i64 b3])).run Tryz.prog w = .ok (decide (a0 = b0 ∧ a1 = b1 ∧ a2 = b2 ∧ a3 = b3)) w := by
  have hi : (Tryz.prog.info? 3).isSome = true := by kernel_rfl
  obtain ⟨i, hi⟩ := Option.isSome_iff_exists.1 hi
  have hc : Tryz.prog.cellsOf 3 = 1 := by kernel_rfl
  rw [run_equalIn_array w 9998 _ _ Tryz.underlying22 hi, hc, show List.range 4 = [0, 1, 2, 3] from rfl]
  simp only [Op.eqItems]
  go_simp
  by_cases h0 : a0 = b0 <;> by_cases h1 : a1 = b1 <;> by_cases h2 : a2 = b2 <;> by_cases h3 : a3 = b3 <;> simp [h0, h1, h2, h3]
theorem eqB (w : World) (a0 a1 a2 a3 a4 a5 a6 b0 b1 b2 b3 b4 b5 b6 : Int) : (binOp .eql 24 (.agg #[.int .i64 a0, .int .i64 a1, .int .i64 a2, .int .i64 a3, .int .i64 a4, .int .i64 a5, .int .i64 a6]) (.agg #[.int .i64 b0, .int .i64 b1, .int .i64 b2, .int .i64 b3, .int .i64 b4, .int .i64 b5, .int .i64 b6])).run Tryz.prog w = .ok (.bool (decide (a0 = b0 ∧ a1 = b1 ∧ a2 = b2 ∧ a3 = b3 ∧ a4 = b4 ∧ a5 = b5 ∧ a6 = b6))) w := by
  have h := fun w => eqA w a0 a1 a2 a3 b0 b1 b2 b3
  rw [run_eql_struct]
  by_cases hh : a0 = b0 ∧ a1 = b1 ∧ a2 = b2 ∧ a3 = b3
  · rw [decide_eq_true hh] at h
    obtain ⟨h0, h1, h2, h3⟩ := hh
    go_simp
    subst h0 h1 h2 h3
    by_cases h4 : a4 = b4 <;> by_cases h5 : a5 = b5 <;> by_cases h6 : a6 = b6 <;> simp [h4, h5, h6, h]
  · rw [decide_eq_false hh] at h
    have e : decide (a0 = b0 ∧ a1 = b1 ∧ a2 = b2 ∧ a3 = b3 ∧ a4 = b4 ∧ a5 = b5 ∧ a6 = b6) = false := decide_eq_false (fun g => hh ⟨g.1, g.2.1, g.2.2.1, g.2.2.2.1⟩)
    rw [e]
    go_simp
theorem neB (w : World) (a0 a1 a2 a3 a4 a5 a6 b0 b1 b2 b3 b4 b5 b6 : Int) : (binOp .neq 24 (.agg #[.int .i64 a0, .int .i64 a1, .int .i64 a2, .int .i64 a3, .int .i64 a4, .int .i64 a5, .int .i64 a6]) (.agg #[.int .i64 b0, .int .i64 b1, .int .i64 b2, .int .i64 b3, .int .i64 b4, .int .i64 b5, .int .i64 b6])).run Tryz.prog w = .ok (.bool (!decide (a0 = b0 ∧ a1 = b1 ∧ a2 = b2 ∧ a3 = b3 ∧ a4 = b4 ∧ a5 = b5 ∧ a6 = b6))) w := by
  have h := eqB w a0 a1 a2 a3 a4 a5 a6 b0 b1 b2 b3 b4 b5 b6
  rw [run_eql_struct] at h
  rw [run_neq_struct]
  revert h
  generalize (Op.equalIn 10000 24 _ _).run Tryz.prog w = r
  intro h
  cases r with
  | ok a w1 => 
    simp only [Result.andThen_ok] at h ⊢
    cases h
    rfl
  | _ => cases h
end Go.Proofs.YtjghbciepinofaaGreat

