/- Parts of the proof: LF CB CC CD. -/
import Derived.Test.YtjghbciepinofaaGreatRows
import Derived.Test.YtjghbciepinofaaGreatPK39
import Derived.Test.YtjghbciepinofaaGreatPK44
import Derived.Deep.RegionLaw
import Derived.Laws.OwnMore
import Derived.OneCell
import Derived.Maps.AppendAt
import Derived.Laws.BytesArg
set_option maxRecDepth 100000
namespace Go.Proofs.YtjghbciepinofaaGreat.Ln
open Go.RowKit
/-- texts lie in a row of the call's own -/
def OwnS (B : Nat) (w : World) (A : Option Addr) (C : Nat) (l : List ByteArray) : Prop := w.ownsRow B 9 1 (.slice A l.length C) l.length (l.map .string)
/-- numbers lie in a row of the call's own -/
def OwnI (B : Nat) (w : World) (A : Option Addr) (C : Nat) (l : List Int) : Prop := w.ownsRow B 3 1 (.slice A l.length C) l.length (l.map (.int .i64))
theorem own_of {w w' : World} {b e z n : Nat} {v : Value} {xs : List Value} (h : w.ownsRow b e z v n xs) (hk : ∀ k, v.ownBlock = some k → w'.heap[k]? = w.heap[k]?) : w'.ownsRow b e z v n xs := by
  refine ⟨h.1, ?_⟩
  rcases h.2 with hn | ⟨g, cap, cur, rfl, hb, hg, rest⟩
  · exact .inl hn
  · exact .inr ⟨g, cap, cur, rfl, hb, (hk g rfl).trans hg, rest⟩
theorem own_base {w : World} {b b' e z n : Nat} {v : Value} {xs : List Value} (h : w.ownsRow b e z v n xs) (hb : b' ≤ b) : w.ownsRow b' e z v n xs := by
  refine ⟨h.1, ?_⟩
  rcases h.2 with hn | ⟨g, cap, cur, hv, h2, h3⟩
  · exact .inl hn
  · exact .inr ⟨g, cap, cur, hv, Nat.le_trans hb h2, h3⟩
theorem own_over {w w' : World} {b e z n : Nat} {v : Value} {xs : List Value} (h : w.ownsRow b e z v n xs) (hb : Below w.heap.size w w') : w'.ownsRow b e z v n xs := own_of h fun k hk => hb.block k (World.ownsRow.lt h k hk).2
theorem own_form {w : World} {b e z n : Nat} {v : Value} {xs : List Value} (h : w.ownsRow b e z v n xs) : ∃ A C, v = .slice A n C := by
  rcases h.2 with ⟨hv, hn⟩ | ⟨g, cap, cur, hv, _⟩
  · subst hn; exact ⟨_, _, hv⟩
  · exact ⟨_, _, hv⟩
theorem OwnS.facts {B : Nat} {w : World} {A : Option Addr} {C : Nat} {l : List ByteArray} (h : OwnS B w A C l) : (A = none → C = 0) ∧ ∃ g, (0 < l.length → A = some ⟨g, 0, none⟩ ∧ B ≤ g ∧ g < w.heap.size) ∧ StrsAt w g 0 l := by
  rcases h.2 with ⟨hv, hn⟩ | ⟨g, cap, cur, hv, hb, hg, _⟩
  · simp at hv
    exact ⟨fun _ => hv.2.2, 0, fun h0 => by omega, fun i hi => by omega⟩
  · cases hv
    obtain ⟨o1, o2, o3⟩ := own_strs h
    exact ⟨fun h => (by cases h), g, fun _ => ⟨rfl, o1, o2⟩, o3⟩
theorem OwnI.facts {B : Nat} {w : World} {A : Option Addr} {C : Nat} {l : List Int} (h : OwnI B w A C l) : (A = none → C = 0) ∧ ∃ g, (0 < l.length → A = some ⟨g, 0, none⟩ ∧ B ≤ g ∧ g < w.heap.size) ∧ IntsAt w g 0 l := by
  rcases h.2 with ⟨hv, hn⟩ | ⟨g, cap, cur, hv, hb, hg, _⟩
  · simp at hv
    exact ⟨fun _ => hv.2.2, 0, fun h0 => by omega, fun i hi => by omega⟩
  · cases hv
    obtain ⟨o1, o2, o3⟩ := own_ints h
    exact ⟨fun h => (by cases h), g, fun _ => ⟨rfl, o1, o2⟩, o3⟩
/-- a line whose lists are rows of the call's own -/
structure OwnL (B : Nat) (w : World) (x : Line) (A1 A2 : Option Addr) (C1 C2 : Nat) : Prop where
  oS : OwnS B w A1 C1 x.S
  oD : OwnI B w A2 C2 x.D
  apart : ∀ k, (Value.slice A1 x.S.length C1).ownBlock = some k → (Value.slice A2 x.D.length C2).ownBlock ≠ some k
theorem OwnL.at {B : Nat} {w : World} {x : Line} {A1 A2 : Option Addr} {C1 C2 : Nat} (h : OwnL B w x A1 A2 C1 C2) (h1 : x.S.length * 16 ≤ 140737488351232) (h2 : x.D.length * 8 ≤ 140737488351232) : ∃ g1 g2, LAt w x A1 A2 C1 C2 g1 0 g2 0 ∧ (0 < x.S.length → B ≤ g1 ∧ g1 < w.heap.size) ∧ (0 < x.D.length → B ≤ g2 ∧ g2 < w.heap.size) := by
  obtain ⟨n1, g1, f1, p1⟩ := h.oS.facts
  obtain ⟨n2, g2, f2, p2⟩ := h.oD.facts
  exact ⟨g1, g2, ⟨h1, h2, fun h => (f1 h).1, fun h => (f2 h).1, n1, n2, p1, p2⟩, fun h => (f1 h).2, fun h => (f2 h).2⟩
theorem OwnL.over {B : Nat} {w w' : World} {x : Line} {A1 A2 : Option Addr} {C1 C2 : Nat} (h : OwnL B w x A1 A2 C1 C2) (hb : Below w.heap.size w w') : OwnL B w' x A1 A2 C1 C2 := ⟨own_over h.oS hb, own_over h.oD hb, h.apart⟩
/-- stores below the base change no own row -/
theorem OwnL.set {B : Nat} {w : World} {x : Line} {A1 A2 : Option Addr} {C1 C2 : Nat} (h : OwnL B w x A1 A2 C1 C2) {w' : World} (hk : ∀ k, B ≤ k → k < w.heap.size → w'.heap[k]? = w.heap[k]?) : OwnL B w' x A1 A2 C1 C2 :=
  ⟨own_of h.oS fun k e => hk k (World.ownsRow.lt h.oS k e).1 (World.ownsRow.lt h.oS k e).2, own_of h.oD fun k e => hk k (World.ownsRow.lt h.oD k e).1 (World.ownsRow.lt h.oD k e).2, h.apart⟩
end Go.Proofs.YtjghbciepinofaaGreat.Ln

set_option maxRecDepth 100000
namespace Go.Proofs.YtjghbciepinofaaGreat.Cd
open Go.RowKit

def goodN (k i v n : Int) (S : List (Int × Int)) (D : List Int) : Int :=
  if k < 1 ∨ 4 < k then 3 else if i < 1 ∨ 1099511627776 < i then 2
  else if accB k = true ∧ (isV v = false ∨ n < 1 ∨ 1125899906842624 < n) then 2
  else if forB k v n S.length D.length = true then 1
  else if prisesFrom (-1) S = false ∨ risesFrom (-1) D = false then 2 else 0

theorem goodN_cases (k i v n : Int) (S : List (Int × Int)) (D : List Int) :
    (k < 1 ∧ goodN k i v n S D = 3) ∨ (1 ≤ k ∧ 4 < k ∧ goodN k i v n S D = 3) ∨
    (1 ≤ k ∧ k ≤ 4 ∧
      ((i < 1 ∧ goodN k i v n S D = 2) ∨ (1 ≤ i ∧ 1099511627776 < i ∧ goodN k i v n S D = 2) ∨
       (1 ≤ i ∧ i ≤ 1099511627776 ∧
        ((accB k = true ∧ isV v = false ∧ goodN k i v n S D = 2) ∨ (accB k = true ∧ isV v = true ∧ n < 1 ∧ goodN k i v n S D = 2) ∨
         (accB k = true ∧ isV v = true ∧ 1 ≤ n ∧ 1125899906842624 < n ∧ goodN k i v n S D = 2) ∨
         (((accB k = true ∧ isV v = true ∧ 1 ≤ n ∧ n ≤ 1125899906842624) ∨ accB k = false) ∧
          ((forB k v n S.length D.length = true ∧ goodN k i v n S D = 1) ∨
           (forB k v n S.length D.length = false ∧ prisesFrom (-1) S = false ∧ goodN k i v n S D = 2) ∨
           (forB k v n S.length D.length = false ∧ prisesFrom (-1) S = true ∧ risesFrom (-1) D = false ∧ goodN k i v n S D = 2) ∨
           (forB k v n S.length D.length = false ∧ prisesFrom (-1) S = true ∧ risesFrom (-1) D = true ∧ goodN k i v n S D = 0))))))) := by
  unfold goodN
  generalize forB k v n S.length D.length = f
  generalize prisesFrom (-1) S = p
  generalize risesFrom (-1) D = r
  generalize accB k = a
  generalize isV v = x
  rcases Int.lt_or_le k 1 with h | h
  · left; exact ⟨h, by rw [if_pos (Or.inl h)]⟩
  right
  rcases Int.lt_or_le 4 k with h4 | h4
  · left; exact ⟨h, h4, by rw [if_pos (Or.inr h4)]⟩
  right
  rw [if_neg (by omega)]
  refine ⟨h, h4, ?_⟩
  rcases Int.lt_or_le i 1 with hi | hi
  · left; exact ⟨hi, by rw [if_pos (Or.inl hi)]⟩
  right
  rcases Int.lt_or_le 1099511627776 i with hi4 | hi4
  · left; exact ⟨hi, hi4, by rw [if_pos (Or.inr hi4)]⟩
  right
  rw [if_neg (by omega)]
  refine ⟨hi, hi4, ?_⟩
  rcases Int.lt_or_le n 1 with hn | hn
  all_goals rcases Int.lt_or_le 1125899906842624 n with hn4 | hn4
  all_goals first | (exfalso; omega) | skip
  all_goals cases a <;> cases x <;> cases f <;> cases p <;> cases r <;> simp_all
  all_goals omega

set_option maxHeartbeats 1000000 in
theorem good_any (k i v n : Int) (S : List (Int × Int)) (D : List Int) (sa da : Option Addr) (cs cd sb so db dO : Nat) (w : World)
    (hls : S.length ≤ maxLen) (hld : D.length ≤ maxLen) (hsa : 0 < S.length → sa = some ⟨sb, so, none⟩) (hda : 0 < D.length → da = some ⟨db, dO, none⟩) (PS : PwsAt w sb so S) (PD : IntsAt w db dO D) :
    Calls Tryz.prog 21 #[.agg #[.int .i64 k, .int .i64 i, .int .i64 v, .int .i64 n, .slice sa S.length cs, .slice da D.length cd]] w fun e w' => e = .returned (.int .i64 (goodN k i v n S D)) ∧ Below w.heap.size w w' := by
  have HLS : Hid (S.length ≤ maxLen) := hls
  have HLD : Hid (D.length ≤ maxLen) := hld
  have HSA : Hid (0 < S.length → sa = some ⟨sb, so, none⟩) := hsa
  have HDA : Hid (0 < D.length → da = some ⟨db, dO, none⟩) := hda
  clear hls hld hsa hda
  have hcs := goodN_cases k i v n S D
  generalize goodN k i v n S D = G at *
  rcases hcs with ⟨h1, rfl⟩ | ⟨h1, h2, rfl⟩ | ⟨h1, h2, ⟨h3, rfl⟩ | ⟨h3, h4, rfl⟩ | ⟨h3, h4, ⟨h5, h6, rfl⟩ | ⟨h5, h6, h7, rfl⟩ | ⟨h5, h6, h7, h8, rfl⟩ | ⟨⟨h5, h6, h7, h8⟩ | h5, ⟨h9, rfl⟩ | ⟨h9, h10, rfl⟩ | ⟨h9, h10, h11, rfl⟩ | ⟨h9, h10, h11, rfl⟩⟩⟩⟩
  all_goals go_enter Tryz.func21, Tryz.ntmps21
  all_goals go_wp2_with (first
    | (go_at_call 58; refine (acc_any _ _ _ _ _ _ _).mono ?_; rintro e w1 ⟨rfl, hb⟩
       have PS1 := (PS.later (below_new _ _)).later hb
       have PD1 := (PD.later (below_new _ _)).later hb
       obtain ⟨hc, hf⟩ := bcell hb
       have hz : w.heap.size < w1.heap.size := (by have := hb.size; simp at this; omega)
       have HB1 : Hid (Below w.heap.size w w1) := below_step hb
       clear hb PS PD)
    | (go_at_call 59; refine (isV_any _ _).mono ?_; rintro e w' ⟨rfl, rfl⟩)
    | (go_at_call 60; refine (for_any _ _ _ _ _ _ _ _ _ _ _).mono ?_; rintro e w2 ⟨rfl, hb⟩
       have PS2 := PS1.later hb
       have PD2 := PD1.later hb
       obtain ⟨hc2, hf2⟩ := bcell hb
       have hz2 : w.heap.size < w2.heap.size := Nat.lt_of_lt_of_le hz hb.size
       have HB2 : Hid (Below w.heap.size w w2) := below_then HB1.out hb
       clear hb PS1 PD1 HB1)
    | (go_at_call 61; refine (prises_any S sa cs sb so _ HLS.out HSA.out PS2).mono ?_; rintro e w3 ⟨rfl, hb⟩
       have PD3 := PD2.later hb
       obtain ⟨hc3, hf3⟩ := bcell hb
       have hz3 : w.heap.size < w3.heap.size := Nat.lt_of_lt_of_le hz2 hb.size
       have HB3 : Hid (Below w.heap.size w w3) := below_then HB2.out hb
       clear hb PS2 PD2 HB2)
    | (go_at_call 62; refine (rises_any D da cd db dO _ HLD.out HDA.out PD3).mono ?_; rintro e w' ⟨rfl, rfl⟩))
  all_goals go_ret
  all_goals refine ⟨rfl, ?_⟩
  all_goals first | exact HB3.out | exact HB2.out | exact HB1.out | exact below_new _ _
end Go.Proofs.YtjghbciepinofaaGreat.Cd

set_option maxRecDepth 100000
namespace Go.Proofs.YtjghbciepinofaaGreat.Cd
open Go.RowKit
theorem info5 : (Tryz.prog.info? 5).map (fun i => (i.zero, i.size, i.bytes)) = some (some (.int .u8 0), 1, 1) := by kernel_rfl
/-- the bytes of a number, m of them, the highest first -/
def be (n : Int) : Nat → List Int
  | 0 => []
  | m + 1 => (n / 2 ^ (8 * m)) % 256 :: be n m
theorem be_length (n : Int) (m : Nat) : (be n m).length = m := by
  induction m with
  | zero => rfl
  | succ m ih => simp [be, ih]
/-- a row of bytes that the call owns -/
def Row (w : World) (B : Nat) (v : Value) (xs : List Int) : Prop := w.ownsRow B 5 1 v xs.length (xs.map (Value.int .u8))
/-- v' lies where v lay, or in a block that is new since w -/
def At (w : World) (v v' : Value) : Prop := v'.ownBlock = v.ownBlock ∨ ∃ k, v'.ownBlock = some k ∧ w.heap.size ≤ k
theorem grown_trans {w w1 w2 : World} {v v1 : Value} (h : w.grownBy w1 v.ownBlock) (ha : At w v v1) (k : w1.grownBy w2 v1.ownBlock) : w.grownBy w2 v.ownBlock := by
  refine ⟨k.os.trans h.os, k.tape.trans h.tape, k.output.trans h.output, Nat.le_trans h.size k.size, fun i hi hne => ?_⟩
  rw [k.block i (Nat.lt_of_lt_of_le hi h.size) ?_, h.block i hi hne]
  rcases ha with e | ⟨j, e, hj⟩
  · rw [e]; exact hne
  · rw [e]; intro h; cases h; omega
theorem grown_refl (w : World) (r : Option Nat) : w.grownBy w r := ⟨rfl, rfl, rfl, Nat.le_refl _, fun _ _ _ => rfl⟩
theorem At.trans {w w1 : World} {v v1 v2 : Value} (hs : w.heap.size ≤ w1.heap.size) (h : At w v v1) (k : At w1 v1 v2) : At w v v2 := by
  rcases k with e | ⟨j, e, hj⟩
  · rcases h with e1 | ⟨j, e1, hj⟩
    · exact .inl (e.trans e1)
    · exact .inr ⟨j, e.trans e1, hj⟩
  · exact .inr ⟨j, e, Nat.le_trans hs hj⟩
theorem grown_alloc {w w2 : World} {o : Obj} {r : Option Nat} (k : (w.alloc o).grownBy w2 r) : w.grownBy w2 r :=
  ⟨k.os, k.tape, k.output, Nat.le_trans (by simp) k.size, fun i hi hne => (k.block i (by simp; omega) hne).trans (Below.heap_alloc _ _ _ hi)⟩
set_option maxHeartbeats 400000 in
theorem put_any (B : Nat) (v : Value) (xs : List Int) (n : Int) (wd : Nat) (w : World) (hown : Row w B v xs) (hwd : wd ≤ 7) (hlen : xs.length + wd ≤ 1000000) (hB : B ≤ w.heap.size) :
    Calls Tryz.prog 22 #[v, .int .i64 n, .int .i64 wd] w fun e w' => ∃ v', e = .returned v' ∧ Row w' B v' (xs ++ be n wd) ∧ w.grownBy w' v.ownBlock ∧ At w v v' := by
  obtain ⟨i0, hi, hz0, hz1, hz2⟩ := info_parts info5
  go_enter Tryz.func22, Tryz.ntmps22
  go_wp2
  go_loopw [0, 7] (fun u i wl => ∃ (m : Nat) (ys : List Int), m ≤ wd ∧ i = .int .i64 ((m : Int) - 1) ∧ Hid (ys ++ be n m = xs ++ be n wd) ∧ Row wl B u ys ∧ Hid (w.grownBy wl v.ownBlock ∧ At w v u)) (fun _ i _ => (intOf i + 1).toNat)
  case atStart => exact ⟨wd, xs, Nat.le_refl _, rfl, rfl, hown, grown_refl _ _, .inl rfl⟩
  case round =>
    obtain ⟨m, ys, hm, rfl, HE, hown2, HB⟩ := hrel
    clear hown
    match m, HE with
    | 0, HE =>
      go_wp2
      go_ret
      have hE := HE.out
      simp only [be, List.append_nil] at hE
      subst hE
      exact ⟨_, rfl, hown2, HB.out.1, HB.out.2⟩
    | m + 1, HE =>
      have hl : ys.length ≤ 1000000 := by
        have h1 := congrArg List.length HE.out
        simp only [List.length_append, be_length] at h1
        omega
      have hsz : B ≤ wr.heap.size := Nat.le_trans hB HB.out.1.size
      go_wp2_with (at_builtin; refine wpList_append_own_at _ rfl _ _ 71 rfl B 5 i0 (.int .u8 0) 1 1 Tryz.underlying71 hi hz0 hz1 hz2 rfl (by decide) _ _ _ rfl (World.ownsRow.alloc hown2 _) ⟨wr.heap.size, 0, none⟩ 1 1 [.int .u8 (n / 2 ^ (8 * m) % 256)] rfl rfl (cell_one_new _ _ _) (by intro u hu; simp at hu; subst hu; rfl) (by unfold maxLen; omega) (by omega) (by simp; omega) ?_; intro v' w1 hown' hgrow _ hat)
      have HO : Hid (Row w1 B v' (ys ++ [n / 2 ^ (8 * m) % 256])) := by simpa [Hid, Row] using hown'
      have HB1 : Hid (w.grownBy w1 v.ownBlock ∧ At w v v') := by
        refine ⟨grown_trans HB.out.1 HB.out.2 (grown_alloc hgrow), HB.out.2.trans HB.out.1.size ?_⟩
        rcases hat with h | h
        · exact .inl h
        · exact .inr ⟨_, h, by simp⟩
      clear hown' hgrow hown2 hat
      go_wp2
      go_roundw
      case rel => exact ⟨m, _, by omega, by go_num, by show _ = _; rw [← HE.out]; simp [be], HO.out, HB1⟩
      case measure => simp [intOf]
end Go.Proofs.YtjghbciepinofaaGreat.Cd

set_option maxRecDepth 100000
namespace Go.Proofs.YtjghbciepinofaaGreat.Cd
open Go.RowKit

theorem rises_len (l : List Int) : ∀ last : Int, -1 ≤ last → risesFrom last l = true → (l.length : Int) ≤ 5 - last ∨ l = [] := by
  induction l with
  | nil => intro _ _ _; exact .inr rfl
  | cons x t ih =>
    intro last hl h
    simp only [risesFrom, Bool.and_eq_true, decide_eq_true_eq, isV] at h
    obtain ⟨⟨h1, h2⟩, h3⟩ := h
    rcases ih x (by omega) h3 with h4 | h4
    · left; simp only [List.length_cons]; omega
    · subst h4; left; simp; omega
theorem prises_len (l : List (Int × Int)) : ∀ last : Int, -1 ≤ last → prisesFrom last l = true → (l.length : Int) ≤ 5 - last ∨ l = [] := by
  induction l with
  | nil => intro _ _ _; exact .inr rfl
  | cons x t ih =>
    intro last hl h
    simp only [prisesFrom, Bool.and_eq_true, decide_eq_true_eq, isV] at h
    obtain ⟨⟨⟨⟨h1, h2⟩, _⟩, _⟩, h3⟩ := h
    rcases ih x.1 (by omega) h3 with h4 | h4
    · left; simp only [List.length_cons]; omega
    · subst h4; left; simp; omega
theorem good_lists {k i v n : Int} {S : List (Int × Int)} {D : List Int} (h : goodN k i v n S D = 0) : prisesFrom (-1) S = true ∧ risesFrom (-1) D = true ∧ S.length ≤ 6 ∧ D.length ≤ 6 := by
  have h0 : prisesFrom (-1) S = true ∧ risesFrom (-1) D = true := by
    rcases goodN_cases k i v n S D with h | h | ⟨_, _, h | h | ⟨_, _, h | h | h | ⟨_, h | h | h | h⟩⟩⟩ <;> simp_all
  refine ⟨h0.1, h0.2, ?_, ?_⟩
  · rcases prises_len S (-1) (by omega) h0.1 with h | h
    · omega
    · subst h; simp
  · rcases rises_len D (-1) (by omega) h0.2 with h | h
    · omega
    · subst h; simp

/-- a packet lies in a box -/
def PkAt (w : World) (b : Nat) (k i v n : Int) (s d : Value) : Prop :=
  w.cell? ⟨b, 0, none⟩ = some (.int .i64 k) ∧ w.cell? ⟨b, 1, none⟩ = some (.int .i64 i) ∧ w.cell? ⟨b, 2, none⟩ = some (.int .i64 v) ∧
  w.cell? ⟨b, 3, none⟩ = some (.int .i64 n) ∧ w.cell? ⟨b, 4, none⟩ = some s ∧ w.cell? ⟨b, 5, none⟩ = some d
theorem pkAt_new (w : World) (k i v n : Int) (s d : Value) : PkAt (w.alloc (.cells #[.int .i64 k, .int .i64 i, .int .i64 v, .int .i64 n, s, d] 49)) w.heap.size k i v n s d := by
  unfold PkAt
  simp [World.cell?_alloc_at]
theorem PkAt.later {w w' : World} {B b : Nat} {k i v n : Int} {s d : Value} (h : PkAt w b k i v n s d) (hb : Below B w w') (hB : b < B) : PkAt w' b k i v n s d := by
  obtain ⟨h0, h1, h2, h3, h4, h5⟩ := h
  exact ⟨(hb.cell (p := ⟨b, 0, none⟩) hB).trans h0, (hb.cell (p := ⟨b, 1, none⟩) hB).trans h1, (hb.cell (p := ⟨b, 2, none⟩) hB).trans h2, (hb.cell (p := ⟨b, 3, none⟩) hB).trans h3, (hb.cell (p := ⟨b, 4, none⟩) hB).trans h4, (hb.cell (p := ⟨b, 5, none⟩) hB).trans h5⟩
theorem Row.below {W w w' : World} {B : Nat} {v : Value} {xs : List Int} (h : Row w B v xs) (hb : Below B W w) (hB : B ≤ W.heap.size) (hg : w.grownBy w' v.ownBlock) : Below B W w' :=
  hb.grown hg (Nat.le_trans hB hb.size) (fun k hk => (World.ownsRow.lt h k hk).1)

set_option maxHeartbeats 1000000 in
theorem encode_bad (k i v n : Int) (S : List (Int × Int)) (D : List Int) (sa da : Option Addr) (cs cd sb so db dO : Nat) (w : World)
    (hls : S.length ≤ maxLen) (hld : D.length ≤ maxLen) (hsa : 0 < S.length → sa = some ⟨sb, so, none⟩) (hda : 0 < D.length → da = some ⟨db, dO, none⟩) (PS : PwsAt w sb so S) (PD : IntsAt w db dO D)
    (hg : goodN k i v n S D ≠ 0) :
    Calls Tryz.prog 6 #[.agg #[.int .i64 k, .int .i64 i, .int .i64 v, .int .i64 n, .slice sa S.length cs, .slice da D.length cd]] w fun e w' => e = .returned (.tuple #[.string ⟨#[]⟩, .int .i64 (goodN k i v n S D)]) ∧ Below w.heap.size w w' := by
  have hgood := good_any k i v n S D sa da cs cd sb so db dO _ hls hld hsa hda (PS.later (below_new w (.cells #[.int .i64 k, .int .i64 i, .int .i64 v, .int .i64 n, .slice sa S.length cs, .slice da D.length cd] 49))) (PD.later (below_new _ _))
  generalize goodN k i v n S D = G at *
  have hG : (G != 0) = true := by simpa using hg
  have HG := hgood
  clear hgood PS PD hls hld hsa hda hg
  go_enter Tryz.func6, Tryz.ntmps6
  go_wp2_with (go_at_call 21; refine HG.mono ?_; rintro e w1 ⟨rfl, hb⟩)
  go_ret2
  exact ⟨rfl, below_step hb⟩
def encP (p : Int × Int) : List Int := be p.1 1 ++ be p.2 7
def encH (k i v n : Int) (ls : Nat) : List Int := be k 1 ++ be i 6 ++ be v 1 ++ be n 7 ++ be ls 1
def enc (k i v n : Int) (S : List (Int × Int)) (D : List Int) : List Int :=
  encH k i v n S.length ++ S.flatMap encP ++ be D.length 1 ++ D.flatMap (be · 1)
theorem encP_length (p : Int × Int) : (encP p).length = 8 := by simp [encP, be_length]
theorem encPs_length (S : List (Int × Int)) : (S.flatMap encP).length = 8 * S.length := by
  induction S with
  | nil => rfl
  | cons a t ih => rw [List.flatMap_cons, List.length_append, ih, encP_length, List.length_cons]; omega
theorem encDs_length (D : List Int) : (D.flatMap (be · 1)).length = D.length := by
  induction D with
  | nil => rfl
  | cons a t ih => rw [List.flatMap_cons, List.length_append, ih, be_length, List.length_cons]; omega
theorem encH_length (k i v n : Int) (ls : Nat) : (encH k i v n ls).length = 16 := by simp [encH, be_length]
theorem enc_length (k i v n : Int) (S : List (Int × Int)) (D : List Int) : (enc k i v n S D).length = 17 + 8 * S.length + D.length := by
  simp only [enc, List.length_append, encH_length, encPs_length, encDs_length, be_length]; omega
theorem take_flat {α : Type} (f : α → List Int) (l : List α) (d : α) (m : Nat) (h : m < l.length) : (l.take (m + 1)).flatMap f = (l.take m).flatMap f ++ f (l.getD m d) := by
  rw [List.take_succ_eq_append_getElem h, List.flatMap_append, List.flatMap_singleton]
  simp [List.getD, h]
theorem take_len {α : Type} (l : List α) (m : Nat) : (l.take m).length ≤ l.length := by simp; omega

theorem Row.keeps {w w' : World} {B : Nat} {v : Value} {xs : List Int} {o : Obj} (h : Row w B v xs) (hg : (w.alloc o).grownBy w' v.ownBlock) : w'.heap[w.heap.size]? = (w.alloc o).heap[w.heap.size]? :=
  hg.block _ (by simp) (fun e => by have := (World.ownsRow.lt h _ e.symm).2; omega)
theorem cell_of_heap {w w' : World} {b : Nat} (h : w'.heap[b]? = w.heap[b]?) (o : Nat) : w'.cell? ⟨b, o, none⟩ = w.cell? ⟨b, o, none⟩ := World.cell?_of_block (w := w) (a := ⟨b, o, none⟩) h

theorem Row.conv {w : World} {B : Nat} {v : Value} {E : List Int} (h : Row w B v E) : (convert 71 9 v).run Tryz.prog w = .ok (.string (strOfNums E)) w := by
  rcases h.2 with ⟨rfl, h0⟩ | ⟨g, cap, cur, rfl, hb, hh, hn, hm, hs, ht⟩
  · have : E = [] := List.eq_nil_of_length_eq_zero h0
    subst this
    exact run_convert_bytes_nil (P := Tryz.prog) w 71 5 Tryz.underlying71 Tryz.underlying5 0 0 9 Tryz.underlying9
  · refine run_convert_bytes_arg (P := Tryz.prog) w 71 5 Tryz.underlying71 Tryz.underlying5 g 0 E.length cap E rfl (fun j hj => ?_) 9 Tryz.underlying9
    have h' : w.ownsRow B 5 1 (.slice (some ⟨g, 0, none⟩) E.length cap) E.length (E.map (Value.int .u8)) := h
    rw [Nat.zero_add, h'.cellAt j (by omega)]
    simp [List.getD, hj]
theorem PwsAt.laterB {w w' : World} {B b off : Nat} {l : List (Int × Int)} (h : PwsAt w b off l) (hb : Below B w w') (hB : 0 < l.length → b < B) : PwsAt w' b off l := fun i hi =>
  ⟨(hb.cell (p := ⟨b, off + i * 2, none⟩) (hB (by omega))).trans (h i hi).1, (hb.cell (p := ⟨b, off + i * 2 + 1, none⟩) (hB (by omega))).trans (h i hi).2⟩
theorem IntsAt.laterB {w w' : World} {B b off : Nat} {l : List Int} (h : IntsAt w b off l) (hb : Below B w w') (hB : 0 < l.length → b < B) : IntsAt w' b off l := fun i hi =>
  (hb.cell (p := ⟨b, off + i, none⟩) (hB (by omega))).trans (h i hi)
theorem PwsAt.lt {w : World} {b off : Nat} {l : List (Int × Int)} (h : PwsAt w b off l) (hl : 0 < l.length) : b < w.heap.size := World.block_lt_of_cell? w _ (h 0 hl).1
theorem IntsAt.lt {w : World} {b off : Nat} {l : List Int} (h : IntsAt w b off l) (hl : 0 < l.length) : b < w.heap.size := World.block_lt_of_cell? w _ (h 0 hl)
theorem put_at (B : Nat) (v : Value) (xs : List Int) (n wi : Int) (wd : Nat) (w : World) (hwi : wi = (wd : Int)) (hown : Row w B v xs) (hwd : wd ≤ 7) (hlen : xs.length + wd ≤ 1000000) (hB : B ≤ w.heap.size) :
    Calls Tryz.prog 22 #[v, .int .i64 n, .int .i64 wi] w fun e w' => ∃ v', e = .returned v' ∧ Row w' B v' (xs ++ be n wd) ∧ w.grownBy w' v.ownBlock ∧ At w v v' := by
  subst hwi; exact put_any B v xs n wd w hown hwd hlen hB

set_option maxHeartbeats 1000000 in
theorem encode_ok (k i v n : Int) (S : List (Int × Int)) (D : List Int) (sa da : Option Addr) (cs cd sb so db dO : Nat) (w : World)
    (hls : S.length ≤ maxLen) (hld : D.length ≤ maxLen) (hsa : 0 < S.length → sa = some ⟨sb, so, none⟩) (hda : 0 < D.length → da = some ⟨db, dO, none⟩) (PS : PwsAt w sb so S) (PD : IntsAt w db dO D)
    (hg : goodN k i v n S D = 0) :
    Calls Tryz.prog 6 #[.agg #[.int .i64 k, .int .i64 i, .int .i64 v, .int .i64 n, .slice sa S.length cs, .slice da D.length cd]] w fun e w' => e = .returned (.tuple #[.string (strOfNums (enc k i v n S D)), .int .i64 0]) ∧ Below w.heap.size w w' := by
  obtain ⟨_, _, hS6, hD6⟩ := good_lists hg
  have hsb := fun h => PS.lt h
  have hdb := fun h => PD.lt h
  have hgood := good_any k i v n S D sa da cs cd sb so db dO _ hls hld hsa hda (PS.later (below_new w (.cells #[.int .i64 k, .int .i64 i, .int .i64 v, .int .i64 n, .slice sa S.length cs, .slice da D.length cd] 49))) (PD.later (below_new _ _))
  rw [hg] at hgood
  have HSB : Hid (0 < S.length → sb < w.heap.size + 1) := fun h => Nat.lt_succ_of_lt (hsb h)
  have HDB : Hid (0 < D.length → db < w.heap.size + 1) := fun h => Nat.lt_succ_of_lt (hdb h)
  have HSA : Hid (0 < S.length → sa = some ⟨sb, so, none⟩) := hsa
  have HDA : Hid (0 < D.length → da = some ⟨db, dO, none⟩) := hda
  clear hls hld hsa hda hg hsb hdb
  go_enter Tryz.func6, Tryz.ntmps6
  go_wp2_with fail
  refine hgood.mono ?_
  rintro e w1 ⟨rfl, hb1⟩
  clear hgood
  have PK1 : PkAt w1 w.heap.size k i v n (.slice sa S.length cs) (.slice da D.length cd) := (pkAt_new _ _ _ _ _ _ _).later hb1 (by simp)
  have HB1 : Hid (Below w.heap.size w w1) := below_step hb1
  have PS1 := PS.later HB1.out
  have PD1 := PD.later HB1.out
  have hz1 : w.heap.size + 1 ≤ w1.heap.size := (by have := hb1.size; simpa using this)
  have hr1 : Row w1 (w.heap.size + 1) (.slice none 0 0) [] := World.ownsRow_nil _ _ _ _
  clear hb1 PS PD
  obtain ⟨c0, c1, c2, c3, c4, c5⟩ := id PK1
  go_wp2_with fail
  refine (put_at (w.heap.size + 1) _ [] _ 1 1 _ rfl hr1 (by omega) (by simp) hz1).mono ?_
  rintro e w2 ⟨v2, rfl, hr2, hg2, _⟩
  have HB2 : Hid (Below (w.heap.size + 1) w1 w2) := hr1.below (Below.refl _ _) hz1 hg2
  clear c0 c1 c2 c3 c4 c5 hg2 hr1
  have PK2 := PK1.later HB2.out (Nat.lt_succ_self _)
  obtain ⟨c0, c1, c2, c3, c4, c5⟩ := id PK2
  have hz2 : w.heap.size + 1 ≤ w2.heap.size := Nat.le_trans hz1 HB2.out.size
  rw [List.nil_append] at hr2
  go_wp2_with fail
  refine (put_at (w.heap.size + 1) _ _ _ 6 6 _ rfl hr2 (by omega) (by simp [be_length]) hz2).mono ?_
  rintro e w3 ⟨v3, rfl, hr3, hg3, _⟩
  have HB3 : Hid (Below (w.heap.size + 1) w1 w3) := hr2.below HB2.out hz1 hg3
  clear c0 c1 c2 c3 c4 c5 hg3 hr2 HB2 PK2
  have PK3 := PK1.later HB3.out (Nat.lt_succ_self _)
  obtain ⟨c0, c1, c2, c3, c4, c5⟩ := id PK3
  have hz3 : w.heap.size + 1 ≤ w3.heap.size := Nat.le_trans hz1 HB3.out.size
  go_wp2_with fail
  refine (put_at (w.heap.size + 1) _ _ _ 1 1 _ rfl hr3 (by omega) (by simp [be_length]) hz3).mono ?_
  rintro e w4 ⟨v4, rfl, hr4, hg4, _⟩
  have HB4 : Hid (Below (w.heap.size + 1) w1 w4) := hr3.below HB3.out hz1 hg4
  clear c0 c1 c2 c3 c4 c5 hg4 hr3 HB3 PK3
  have PK4 := PK1.later HB4.out (Nat.lt_succ_self _)
  obtain ⟨c0, c1, c2, c3, c4, c5⟩ := id PK4
  have hz4 : w.heap.size + 1 ≤ w4.heap.size := Nat.le_trans hz1 HB4.out.size
  go_wp2_with fail
  refine (put_at (w.heap.size + 1) _ _ _ 7 7 _ rfl hr4 (by omega) (by simp [be_length]) hz4).mono ?_
  rintro e w5 ⟨v5, rfl, hr5, hg5, _⟩
  have HB5 : Hid (Below (w.heap.size + 1) w1 w5) := hr4.below HB4.out hz1 hg5
  clear c0 c1 c2 c3 c4 c5 hg5 hr4 HB4 PK4
  have PK5 := PK1.later HB5.out (Nat.lt_succ_self _)
  obtain ⟨c0, c1, c2, c3, c4, c5⟩ := id PK5
  have hz5 : w.heap.size + 1 ≤ w5.heap.size := Nat.le_trans hz1 HB5.out.size
  go_wp2_with fail
  refine (put_at (w.heap.size + 1) _ _ _ 1 1 _ rfl hr5 (by omega) (by simp [be_length]) hz5).mono ?_
  rintro e w6 ⟨v6, rfl, hr6, hg6, _⟩
  have HB6 : Hid (Below (w.heap.size + 1) w1 w6) := hr5.below HB5.out hz1 hg6
  clear c0 c1 c2 c3 c4 c5 hg6 hr5 HB5 PK5
  have PK6 := PK1.later HB6.out (Nat.lt_succ_self _)
  obtain ⟨c0, c1, c2, c3, c4, c5⟩ := id PK6
  clear hz2 hz3 hz4 hz5
  have HR6 : Hid (Row w6 (w.heap.size + 1) v6 (encH k i v n S.length)) := hr6
  clear hr6
  go_wp2_with fail
  clear c0 c1 c2 c3 c4 c5 PK6
  go_loopw [5, 39] (fun u j wl => ∃ m : Nat, m ≤ S.length ∧ j = .int .i64 m ∧ Hid (Row wl (w.heap.size + 1) u (encH k i v n S.length ++ (S.take m).flatMap encP)) ∧ Hid (Below (w.heap.size + 1) w1 wl)) (fun _ j _ => S.length - (intOf j).toNat)
  case atStart => exact ⟨0, Nat.zero_le _, rfl, by simpa using HR6, HB6⟩
  case round =>
    obtain ⟨m, hm, rfl, HR, HB⟩ := hrel
    clear HR6 HB6
    have hzr : w.heap.size + 1 ≤ wr.heap.size := Nat.le_trans hz1 HB.out.size
    have hlt8 : ((S.take m).flatMap encP).length ≤ 48 := by rw [encPs_length]; have := take_len S m; omega
    by_cases hlt : m < S.length
    · have hcell := PS1.laterB HB.out HSB.out m hlt
      have htk := take_flat encP S (0, 0) m hlt
      obtain ⟨y, hy⟩ : ∃ y, S.getD m (0, 0) = y := ⟨_, rfl⟩
      rw [hy] at hcell htk
      obtain ⟨y, z⟩ := y
      obtain ⟨hc0, hc1⟩ := hcell
      dsimp only at hc0 hc1
      have e := HSA.out (by omega)
      subst e
      have HT : Hid _ := htk
      clear htk hy
      go_wp2_with fail
      have hrA : Row (wr.alloc (Obj.cells #[Value.int IntKind.i64 y, Value.int IntKind.i64 z] 74)) (w.heap.size + 1) u5 (encH k i v n S.length ++ (S.take m).flatMap encP) := World.ownsRow.alloc HR.out _
      have HBA : Hid (Below (w.heap.size + 1) w1 (wr.alloc (Obj.cells #[Value.int IntKind.i64 y, Value.int IntKind.i64 z] 74))) := HB.out.alloc hzr _
      refine (put_at (w.heap.size + 1) _ _ _ 1 1 _ rfl hrA (by omega) (by simp only [List.length_append, encH_length]; omega) (by simp; omega)).mono ?_
      rintro e wa ⟨va, rfl, hra, hga, _⟩
      have hk := HR.out.keeps hga
      have hd1 : wa.cell? ⟨wr.heap.size, 1, none⟩ = some (.int .i64 z) := by rw [cell_of_heap hk]; simp [World.cell?_alloc_at]
      have HBa : Hid (Below (w.heap.size + 1) w1 wa) := hrA.below HBA.out hz1 hga
      have hza : w.heap.size + 1 ≤ wa.heap.size := Nat.le_trans hz1 HBa.out.size
      clear hk hga hrA HBA hc0 hc1
      go_wp2_with fail
      refine (put_at (w.heap.size + 1) _ _ _ 7 7 _ rfl hra (by omega) (by simp only [List.length_append, encH_length, be_length]; omega) hza).mono ?_
      rintro e wb ⟨vb, rfl, hrb, hgb, _⟩
      have HBb : Hid (Below (w.heap.size + 1) w1 wb) := hra.below HBa.out hz1 hgb
      have HRb : Hid (Row wb (w.heap.size + 1) vb (encH k i v n S.length ++ (S.take (m + 1)).flatMap encP)) := by
        show Row _ _ _ _
        rw [HT.out, encP, ← List.append_assoc, ← List.append_assoc]; exact hrb
      clear hra hrb hgb hd1
      go_wp2
      go_roundw
      case rel => exact ⟨m + 1, by omega, by go_num, HRb, HBb⟩
      case measure => simp [intOf]; omega
    · have hmS : m = S.length := by omega
      subst hmS
      have hr7 : Row wr (w.heap.size + 1) u5 (encH k i v n S.length ++ S.flatMap encP) := by have := HR.out; rwa [List.take_length] at this
      have PK7 := PK1.later HB.out (Nat.lt_succ_self _)
      obtain ⟨c0, c1, c2, c3, c4, c5⟩ := id PK7
      have hl8 : (S.flatMap encP).length ≤ 48 := by rw [encPs_length]; omega
      clear hlt8 HR PK7
      go_wp2_with fail
      refine (put_at (w.heap.size + 1) _ _ _ 1 1 _ rfl hr7 (by omega) (by simp only [List.length_append, encH_length]; omega) hzr).mono ?_
      rintro e w8 ⟨v8, rfl, hr8, hg8, _⟩
      have HB8 : Hid (Below (w.heap.size + 1) w1 w8) := hr7.below HB.out hz1 hg8
      clear c0 c1 c2 c3 c4 c5 hg8 hr7 hlt hm HB
      have PK8 := PK1.later HB8.out (Nat.lt_succ_self _)
      obtain ⟨c0, c1, c2, c3, c4, c5⟩ := id PK8
      have HR8 : Hid (Row w8 (w.heap.size + 1) v8 (encH k i v n S.length ++ S.flatMap encP ++ be D.length 1)) := hr8
      clear hr8
      go_wp2_with fail
      clear c0 c1 c2 c3 c4 c5 PK8
      go_loopw [5, 60] (fun u j wl => ∃ m : Nat, m ≤ D.length ∧ j = .int .i64 m ∧ Hid (Row wl (w.heap.size + 1) u (encH k i v n S.length ++ S.flatMap encP ++ be D.length 1 ++ (D.take m).flatMap (be · 1))) ∧ Hid (Below (w.heap.size + 1) w1 wl)) (fun _ j _ => D.length - (intOf j).toNat)
      case atStart => exact ⟨0, Nat.zero_le _, rfl, by simpa using HR8, HB8⟩
      case round =>
        obtain ⟨m, hm, rfl, HR, HB⟩ := hrel
        clear HR8 HB8
        have hzr : w.heap.size + 1 ≤ wr.heap.size := Nat.le_trans hz1 HB.out.size
        have hltm : ((D.take m).flatMap (be · 1)).length ≤ 6 := by rw [encDs_length]; have := take_len D m; omega
        by_cases hlt : m < D.length
        · have hcell := PD1.laterB HB.out HDB.out m hlt
          have htk := take_flat (be · 1) D 0 m hlt
          obtain ⟨y, hy⟩ : ∃ y, D.getD m 0 = y := ⟨_, rfl⟩
          rw [hy] at hcell htk
          have e := HDA.out (by omega)
          subst e
          have HT : Hid _ := htk
          clear htk hy
          go_wp2_with fail
          refine (put_at (w.heap.size + 1) _ _ _ 1 1 _ rfl HR.out (by omega) (by simp only [List.length_append, encH_length, be_length]; omega) hzr).mono ?_
          rintro e wb ⟨vb, rfl, hrb, hgb, _⟩
          have HBb : Hid (Below (w.heap.size + 1) w1 wb) := HR.out.below HB.out hz1 hgb
          have HRb : Hid (Row wb (w.heap.size + 1) vb (encH k i v n S.length ++ S.flatMap encP ++ be D.length 1 ++ (D.take (m + 1)).flatMap (be · 1))) := by
            show Row _ _ _ _
            rw [HT.out, ← List.append_assoc]; exact hrb
          clear hrb hgb hcell
          go_wp2
          go_roundw
          case rel => exact ⟨m + 1, by omega, by go_num, HRb, HBb⟩
          case measure => simp [intOf]; omega
        · have hmD : m = D.length := by omega
          subst hmD
          have hr9 : Row wr (w.heap.size + 1) u5 (enc k i v n S D) := by have := HR.out; rwa [List.take_length] at this
          have HF : Hid (Below w.heap.size w wr) := HB1.out.trans (HB.out.mono (Nat.le_succ _))
          have hcv := hr9.conv
          clear hr9 HR HB
          go_wp2
          go_ret2
          exact ⟨rfl, HF.out⟩
end Go.Proofs.YtjghbciepinofaaGreat.Cd

