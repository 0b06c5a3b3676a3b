/- Parts of the proof: PWS ML1. -/
import Derived.Test.YtjghbciepinofaaGreatRows
import Derived.Test.YtjghbciepinofaaGreatPK13
import Derived.Test.YtjghbciepinofaaGreatPK16
import Derived.Test.YtjghbciepinofaaGreatPK25
import Derived.Test.YtjghbciepinofaaGreatPK39
import Derived.Test.YtjghbciepinofaaGreatPK45
import Derived.BigQuiet
import Derived.Deep.QuietTactic
import Derived.Deep.RegionHeld3
import Derived.Deep.RegionWith
import Derived.Deep.DeepCutAuto
set_option maxRecDepth 100000
namespace Go.Proofs.YtjghbciepinofaaGreat.Pv
open Go.RowKit
set_option maxHeartbeats 4000000 in
theorem indexI_any (l : List Int) (u : Value) (P : Nat → Prop) (w : World) (v : Int) (hu : Rep P w u 1 8 (inC l)) :
    Calls Tryz.prog 169 #[u, .int .i64 v] w fun e w' => (∃ r : Int, e = .returned (.int .i64 r) ∧ decide (0 ≤ r) = decide (v ∈ l)) ∧ w = w' := by
  obtain ⟨A, C, rfl, hs, -, hc, -⟩ := hu.open (inC_length _) (by decide)
  have HC := hide hc
  have hla : l.length ≤ 17592186044405 := by omega
  obtain ⟨G, hG⟩ : ∃ G, decide (v ∈ l) = G := ⟨_, rfl⟩
  have HG := hide hG
  rw [hG]
  clear hc hu hs hG
  go_enter Tryz.func169, Tryz.ntmps169
  go_wp2
  go_loop [8] (fun i => ∃ (k : Nat), k ≤ l.length ∧ i = .int .i64 (k : Int) ∧ Hid (G = decide (v ∈ l.drop k))) (fun i => l.length - (intOf i).toNat)
  case atStart => exact ⟨0, Nat.zero_le _, rfl, by rw [List.drop_zero]; exact HG.out.symm⟩
  case round =>
    obtain ⟨k, hk, rfl, HR⟩ := hrel
    by_cases hlt : k < l.length
    · have hkI : (k : Int) < (l.length : Int) := by omega
      obtain ⟨x, hx, hd⟩ := drop_at2 hlt
      obtain ⟨ba, oa, rfl, -, hbl, hcell⟩ := HC.out (by omega)
      have gx : l.getD k 0 = x := by simp [List.getD, hx]
      have p0 := inC_get l k hlt
      rw [gx] at p0
      have c0 : w.cell? ⟨ba, oa + k, none⟩ = some (.int .i64 x) := hcell _ _ p0
      have HE : Hid (G = decide (v ∈ x :: l.drop (k + 1))) := by have := HR.out; rw [hd] at this; exact this
      clear HR hd hx gx p0 hcell
      by_cases h1 : v = x
      · subst h1
        have e : G = true := by rw [HE.out]; simp
        subst e
        clear HE HG
        go_wp2
        go_ret
        exact ⟨⟨_, rfl, by simp⟩, rfl⟩
      · have HE2 : Hid (G = decide (v ∈ l.drop (k + 1))) := by rw [Hid, HE.out]; simp [h1]
        clear HE
        go_wp2
        go_round
        case rel => exact ⟨k + 1, by omega, by go_num, HE2⟩
        case measure => simp [intOf]; omega
    · obtain rfl : k = l.length := by omega
      have e : G = false := by have := HR.out; rw [List.drop_length] at this; simpa using this
      subst e
      go_wp2
      go_ret
      exact ⟨⟨_, rfl, by decide⟩, rfl⟩
theorem containsI_any (l : List Int) (u : Value) (P : Nat → Prop) (w : World) (v : Int) (hu : Rep P w u 1 8 (inC l)) :
    Calls Tryz.prog 161 #[u, .int .i64 v] w fun e w' => e = .returned (.bool (decide (v ∈ l))) ∧ w = w' := by
  have HI := hide (indexI_any l u P w v hu)
  generalize decide (v ∈ l) = G at *
  clear hu
  go_enter Tryz.func161, Tryz.ntmps161
  go_wp2_with (go_at_call 169; refine HI.out.mono ?_; rintro e w1 ⟨⟨r, rfl, hr⟩, rfl⟩)
  go_ret
  subst hr
  exact ⟨rfl, rfl⟩
theorem clipI_any (ao : Option Addr) (n c : Nat) (hn : n ≤ c) (h0 : ao = none → n = 0) (hc : (n : Int) < 4611686018427387904) (w : World) : Calls Tryz.prog 162 #[.slice ao n c] w fun e w' => e = .returned (.slice ao n n) ∧ w = w' := by
  have h1 : (n : Int) ≤ (c : Int) := by omega
  have h2 : (0 : Int) ≤ (n : Int) := by omega
  go_enter Tryz.func162, Tryz.ntmps162
  cases ao
  · obtain rfl := h0 rfl
    go_wp2
    go_ret
    exact ⟨rfl, rfl⟩
  · clear h0
    go_wp2
    go_ret
    exact ⟨rfl, rfl⟩
/-- a row of numbers lies at a block's beginning -/
def RowI (w : World) (g : Nat) (l : List Int) : Prop := ∃ cur : Array Value, w.heap[g]? = some (.cells cur 3 (0, 0)) ∧ ∀ (i : Nat) (x : Int), l[i]? = some x → cur[i]? = some (Value.int .i64 x)
theorem RowI.later {w w' : World} {g : Nat} {l : List Int} (h : RowI w g l) (hb : Below w.heap.size w w') : RowI w' g l := by
  obtain ⟨cur, hc, hx⟩ := h
  exact ⟨cur, (hb.block g (Array.getElem?_eq_some_iff.1 hc).1).trans hc, hx⟩
theorem RowI.cell {w : World} {g : Nat} {l : List Int} (h : RowI w g l) {i : Nat} (hi : i < l.length) : w.cell? ⟨g, i, none⟩ = some (.int .i64 (l.getD i 0)) := by
  obtain ⟨cur, hc, hx⟩ := h
  have e : l[i]? = some (l.getD i 0) := by simp [List.getD, hi]
  have h1 := hx i _ e
  simp only [World.cell?, hc]
  simp [h1]
theorem RowI.free {w : World} {g : Nat} {l : List Int} (h : RowI w g l) (o : Nat) : w.frozen? ⟨g, o, none⟩ = false := by
  obtain ⟨cur, hc, _⟩ := h
  simp [World.frozen?, hc]
theorem RowI.lt {w : World} {g : Nat} {l : List Int} (h : RowI w g l) : g < w.heap.size := by
  obtain ⟨cur, hc, _⟩ := h
  exact (Array.getElem?_eq_some_iff.1 hc).1
theorem RowI.put {w : World} {g : Nat} {l : List Int} (h : RowI w g l) {i : Nat} (hi : i < l.length) (x : Int) : RowI (w.setCell ⟨g, i, none⟩ (.int .i64 x)) g (l.set i x) := by
  obtain ⟨cur, hc, hx⟩ := h
  have s1 : i < cur.size := (Array.getElem?_eq_some_iff.1 (hx i _ (List.getElem?_eq_getElem hi))).1
  refine ⟨cur.setIfInBounds i (.int .i64 x), ?_, fun j y hy => ?_⟩
  · simp [World.setCell, Array.getElem?_modify, hc]
  · rw [List.getElem?_set] at hy
    by_cases hj : i = j
    · subst hj
      rw [if_pos rfl, if_pos hi] at hy
      simp at hy
      subst hy
      simp [s1]
    · rw [if_neg hj] at hy
      have h1 := hx j y hy
      simp only [Array.getElem?_setIfInBounds]
      rw [if_neg hj]
      exact h1
theorem RowI.rep {w : World} {g C : Nat} {l : List Int} (h : RowI w g l) (hC : l.length ≤ C) (hl : l.length * 8 ≤ 140737488351232) : Rep (fun b => b = g) w (.slice (some ⟨g, 0, none⟩) l.length C) 1 8 (inC l) := by
  refine ⟨_, l.length, C, rfl, by simp [inC], hl, ⟨fun e => (by cases e), hC⟩, fun h0 => ⟨g, 0, rfl, rfl, h.lt, fun j u hu => ?_⟩⟩
  have hj : j < l.length := by have := (List.getElem?_eq_some_iff.1 hu).1; rw [inC_length] at this; omega
  rw [Nat.zero_add, h.cell hj, ← hu, inC_get l j hj]
theorem lessI_any (x y : Int) (w : World) : Calls Tryz.prog 177 #[.int .i64 x, .int .i64 y] w fun e w' => e = .returned (.bool (decide (x < y))) ∧ w = w' := by
  go_enter Tryz.func177, Tryz.ntmps177
  by_cases h : x < y
  · go_wp2_with (go_at_call 136; refine (isnan_any _ _).mono ?_; rintro e w1 ⟨rfl, rfl⟩)
    all_goals (go_ret; exact ⟨by simp [h], rfl⟩)
  · go_wp2_with (go_at_call 136; refine (isnan_any _ _).mono ?_; rintro e w1 ⟨rfl, rfl⟩)
    all_goals (go_ret; exact ⟨by simp, rfl⟩)
set_option maxHeartbeats 4000000 in
theorem insI_any (g cap : Nat) (l : List Int) (w : World) (h : RowI w g l) (hn : l.length ≤ 12) :
    Calls Tryz.prog 171 #[.slice (some ⟨g, 0, none⟩) l.length cap, .int .i64 0, .int .i64 (l.length : Int)] w fun e w' => e = .returned (.tuple #[]) ∧ RowI w' g (isrtI l) ∧ ButB g w w' := by
  have HR0 := hide h
  clear h
  go_enter Tryz.func171, Tryz.ntmps171
  go_wp2
  go_loopw [6] (fun i wl => ∃ m : Nat, i = .int .i64 ((m : Int) + 1) ∧ (m + 1 ≤ l.length ∨ m = 0) ∧ Hid (RowI wl g (srtI l m) ∧ ButB g w wl)) (fun i _ => l.length - (intOf i).toNat)
  case atStart => exact ⟨0, rfl, .inr rfl, HR0.out, ButB.refl _ _⟩
  case round =>
    obtain ⟨m, rfl, hm, HR⟩ := hrel
    by_cases hlt : m + 1 < l.length
    · rename World => wo
      have hlt' : (m : Int) + 1 < (l.length : Int) := by omega
      go_wp2_with fail
      go_loopw [7] (fun j wl => ∃ (p : Nat) (l' : List Int), j = .int .i64 (p : Int) ∧ p ≤ m + 1 ∧ l'.length = l.length ∧ Hid (insI (m + 1) (srtI l m) = insI p l' ∧ RowI wl g l' ∧ ButB g w wl)) (fun j _ => (intOf j).toNat)
      case atStart => exact ⟨m + 1, srtI l m, by go_num, Nat.le_refl _, srtI_length _ _, rfl, HR.out⟩
      case round =>
        obtain ⟨p, l', rfl, hp, hl', HI⟩ := hrel
        have hsz : w.heap.size ≤ wr.heap.size := HI.out.2.2.size
        cases p with
        | zero =>
          have hg0 : decide ((0 : Int) < 0) = false := by decide
          go_upto_region 4 with fail
          go_quiet (fail)
          go_wp2
          go_roundw
          case rel => exact ⟨m + 1, by go_num, .inl (by omega), (by rw [srtI, HI.out.1]; exact HI.out.2.1), (show ButB g w (wr.drewN nq) from HI.out.2.2.drewN nq)⟩
          case measure => simp [intOf]; omega
        | succ p =>
          have hp1 : p + 1 < l'.length := by omega
          have c0 := HI.out.2.1.cell (i := p + 1) hp1
          have d0 := HI.out.2.1.cell (i := p) (by omega)
          have hC := lessI_any (l'.getD (p + 1) 0) (l'.getD p 0)
          have hgl := HI.out.2.1.lt
          have HI1 : Hid (insI (m + 1) (srtI l m) = if l'.getD (p + 1) 0 < l'.getD p 0 then insI p (swI l' p) else l') := HI.out.1
          have HRow := hide HI.out.2
          clear HI
          generalize hA : l'.getD (p + 1) 0 = A at *
          generalize hB : l'.getD p 0 = B at *
          have HA := hide hA
          have HB := hide hB
          clear hA hB
          have hw1 : IntKind.i64.wrap (((p + 1 : Nat) : Int) - 1) = (p : Int) := by rw [show ((p + 1 : Nat) : Int) - 1 = (p : Int) by omega]; exact wrapI (by omega) (by omega)
          generalize hq : p + 1 = q at *
          have HQ := hide hq
          clear hq
          have hq0 : (0 : Int) ≤ (q : Int) := by omega
          have hq1 : (q : Int) < (l.length : Int) := by omega
          have hp0 : (0 : Int) ≤ (p : Int) := by omega
          have hp2 : (p : Int) < (l.length : Int) := by have := HQ.out; omega
          have hg0 : decide (0 < q) = true := by have := HQ.out; simp; omega
          go_upto_region 4 with fail
          go_region_held3 (fun wx => wx.cell? ⟨g, q, none⟩ = some (.int .i64 A) ∧ wx.cell? ⟨g, p, none⟩ = some (.int .i64 B)) (first | go_keep | exact ⟨c0, d0⟩)
            (first | (go_at_call 177; refine (hC _).mono ?_; rintro e w1 ⟨rfl, rfl⟩))
          rename_i hh
          obtain ⟨c0', d0'⟩ := hh
          have hR1 := HRow.out.1.later (w' := wr.drew) (show Below wr.heap.size wr wr.drew from (Below.refl _ wr).drew)
          have hB1 : ButB g w wr.drew := HRow.out.2.trans (ButB.of_below (show Below wr.heap.size wr wr.drew from (Below.refl _ wr).drew))
          generalize wr.drew = w1 at *
          have HR1 := hide hR1
          have HB1 := hide hB1
          have f0 := hR1.free q
          have f2 := hR1.free p
          clear hR1 hB1 c0 d0 HRow hC
          by_cases hr : A < B
          · have hd : decide (A < B) = true := by simpa using hr
            rw [hd]
            have hqp := HQ.out
            have n1 : ¬ p = q := by omega
            have n2 : ¬ q = p := by omega
            clear hqp
            go_upto_region 6 with fail
            go_region
            have hsw : (l'.set q B).set p A = swI l' p := by rw [swI, HQ.out, HA.out, HB.out]
            have HR2 : Hid (RowI (((w1.setCell ⟨g, q, none⟩ (.int .i64 B)).setCell ⟨g, p, none⟩ (.int .i64 A)).drew) g (swI l' p)) := by
              rw [← hsw]
              exact (HR1.out.put hp1 B).put (by simp; omega) A
            have HB2 : Hid (ButB g w (((w1.setCell ⟨g, q, none⟩ (.int .i64 B)).setCell ⟨g, p, none⟩ (.int .i64 A)).drew)) := ((HB1.out.set _ _).set _ _).drew
            have HE : Hid (insI (m + 1) (srtI l m) = insI p (swI l' p)) := by rw [HI1.out]; exact if_pos hr
            clear hsw
            generalize ((w1.setCell ⟨g, q, none⟩ (.int .i64 B)).setCell ⟨g, p, none⟩ (.int .i64 A)).drew = w2 at *
            go_wp2
            go_roundw
            case rel => exact ⟨p, swI l' p, rfl, by have := HQ.out; omega, (by rw [swI_length]; exact hl'), HE.out, HR2.out, HB2.out⟩
            case measure => have := HQ.out; simp [intOf]; omega
          · have hd : decide (A < B) = false := by simpa using hr
            rw [hd]
            have HE : Hid (insI (m + 1) (srtI l m) = l') := by rw [HI1.out]; exact if_neg hr
            go_wp2
            go_roundw
            case rel => exact ⟨m + 1, by go_num, .inl (by omega), (by rw [srtI, HE.out]; exact HR1.out), HB1.out⟩
            case measure => simp [intOf]; omega
    · have hE : isrtI l = srtI l m := by
        unfold isrtI
        rcases hm with h | rfl
        · rw [show l.length - 1 = m by omega]
        · rcases (show l.length = 0 ∨ l.length = 1 by omega) with h | h <;> rw [h]
      have HE := hide hE
      clear hE
      go_wp2
      go_end0
      exact ⟨rfl, by rw [HE.out]; exact HR.out.1, HR.out.2⟩
set_option maxHeartbeats 4000000 in
theorem pdqI_any (g cap : Nat) (lim : Int) (l : List Int) (w : World) (h : RowI w g l) (hn : l.length ≤ 12) :
    Calls Tryz.prog 170 #[.slice (some ⟨g, 0, none⟩) l.length cap, .int .i64 0, .int .i64 (l.length : Int), .int .i64 lim] w fun e w' => e = .returned (.tuple #[]) ∧ RowI w' g (isrtI l) ∧ ButB g w w' := by
  have hI := insI_any g cap l w h hn
  have hn' : (l.length : Int) ≤ 12 := by omega
  clear h
  go_enter Tryz.func170, Tryz.ntmps170
  go_wp2_with fail
  go_loopw [1, 2] (fun a b wl => a = .int .i64 0 ∧ b = .int .i64 (l.length : Int) ∧ Hid (wl = w)) (fun _ _ _ => 0)
  case atStart => exact ⟨rfl, rfl, rfl⟩
  case round =>
    obtain ⟨rfl, rfl, HW⟩ := hrel
    have e := HW.out
    subst e
    clear HW
    go_wp2_with (go_at_call 171; refine hI.mono ?_; rintro e w1 ⟨rfl, h1⟩; have H1 := hide h1; clear h1)
    exact bodyPost_ret (v := .tuple #[]) (by simp [results, Tryz.results170]) rfl ⟨rfl, H1.out⟩
theorem bitslen_I (n : Nat) (hn : n ≤ 12) (w : World) : Calls Tryz.prog 87 #[.int .u64 (n : Int)] w fun e w' => (∃ k, e = .returned (.int .i64 k)) ∧ w = w' := by
  have hL := Ra.len64 n (by omega)
  go_enter Tryz.func87, Tryz.ntmps87
  go_wp2_with (go_at_call 135; refine (hL _).mono ?_; rintro e w1 ⟨rfl, rfl⟩)
  go_ret
  exact ⟨⟨_, rfl⟩, rfl⟩
set_option maxHeartbeats 1000000 in
theorem sortI_any (g cap : Nat) (l : List Int) (w : World) (h : RowI w g l) (hn : l.length ≤ 12) :
    Calls Tryz.prog 163 #[.slice (some ⟨g, 0, none⟩) l.length cap] w fun e w' => e = .returned (.tuple #[]) ∧ RowI w' g (isrtI l) ∧ ButB g w w' := by
  have hP := fun lim => pdqI_any g cap lim l w h hn
  have hL := bitslen_I l.length hn w
  clear h
  go_enter Tryz.func163, Tryz.ntmps163
  go_wp2_with (first
    | (go_at_call 87; refine hL.mono ?_; rintro e w1 ⟨⟨k, rfl⟩, rfl⟩)
    | (go_at_call 170; refine (hP _).mono ?_; rintro e w2 ⟨rfl, h1⟩; have H1 := hide h1; clear h1))
  go_end0
  exact ⟨rfl, H1.out⟩
end Go.Proofs.YtjghbciepinofaaGreat.Pv

set_option maxRecDepth 100000
namespace Go.Proofs.YtjghbciepinofaaGreat
theorem swap_perm : ∀ (l : List Pw) (p : Nat), p + 1 < l.length → (swapAt l p).Perm l
  | [], _, h => by simp at h
  | [_], _, h => by simp at h
  | a :: b :: t, 0, _ => by
    have e : swapAt (a :: b :: t) 0 = b :: a :: t := by simp [swapAt]
    rw [e]
    exact List.Perm.swap a b t
  | a :: b :: t, p + 1, h => by
    have e : swapAt (a :: b :: t) (p + 1) = a :: swapAt (b :: t) p := by simp [swapAt]
    rw [e]
    exact (swap_perm (b :: t) p (by simp at h ⊢; omega)).cons a
theorem swap_getD (l : List Pw) (p : Nat) (h : p + 1 < l.length) (i : Nat) : (swapAt l p).getD i pz = if i = p then l.getD (p + 1) pz else if i = p + 1 then l.getD p pz else l.getD i pz := by
  unfold swapAt
  simp only [List.getD_eq_getElem?_getD, List.getElem?_set, List.length_set]
  by_cases h1 : i = p
  · subst h1; simp [show i < l.length by omega]
  · by_cases h2 : i = p + 1
    · subst h2; simp [h]
    · rw [if_neg (by omega), if_neg (by omega), if_neg h1, if_neg h2]
/-- no element of the first is less than one ahead of it -/
def Srt (lt : Pw → Pw → Bool) (l : List Pw) (m : Nat) : Prop := ∀ i j, i < j → j < m → lt (l.getD j pz) (l.getD i pz) = false
structure Ord (lt : Pw → Pw → Bool) : Prop where
  asym : ∀ a b, lt a b = true → lt b a = false
  trans : ∀ a b c, lt b a = false → lt c b = false → lt c a = false
theorem ins_srt {lt : Pw → Pw → Bool} (o : Ord lt) : ∀ (p : Nat) (l : List Pw) (m : Nat), p < m → m ≤ l.length → (∀ i j, i < j → j < m → j ≠ p → lt (l.getD j pz) (l.getD i pz) = false) → Srt lt (insG lt p l) m
  | 0, l, m, _, _, h => fun i j hij hj => h i j hij hj (by omega)
  | p + 1, l, m, hp, hm, h => by
    rw [insG]
    split
    · rename_i hlt
      refine ins_srt o p _ m (by omega) (by rw [swap_length]; exact hm) fun i j hij hj hjp => ?_
      have hs := swap_getD l p (by omega)
      rw [hs j, hs i]
      by_cases h1 : j = p + 1
      · subst h1
        rw [if_neg (by omega), if_pos rfl]
        by_cases h2 : i = p
        · subst h2; rw [if_pos rfl]; exact o.asym _ _ hlt
        · rw [if_neg h2, if_neg (by omega)]; exact h i p (by omega) (by omega) (by omega)
      · rw [if_neg hjp, if_neg h1]
        by_cases h2 : i = p
        · subst h2; rw [if_pos rfl]; exact h _ j (by omega) hj h1
        · rw [if_neg h2]
          by_cases h3 : i = p + 1
          · subst h3; rw [if_pos rfl]; exact h p j (by omega) hj h1
          · rw [if_neg h3]; exact h i j hij hj h1
    · rename_i hlt
      have hlt' : lt (l.getD (p + 1) pz) (l.getD p pz) = false := by simpa using hlt
      intro i j hij hj
      by_cases h1 : j = p + 1
      · subst h1
        by_cases h2 : i = p
        · subst h2; exact hlt'
        · exact o.trans _ _ _ (h i p (by omega) (by omega) (by omega)) hlt'
      · exact h i j hij hj h1
theorem ins_perm (lt : Pw → Pw → Bool) : ∀ (p : Nat) (l : List Pw), p < l.length → (insG lt p l).Perm l
  | 0, _, _ => List.Perm.refl _
  | p + 1, l, h => by
    rw [insG]
    split
    · exact (ins_perm lt p _ (by rw [swap_length]; omega)).trans (swap_perm l p h)
    · exact List.Perm.refl _
theorem sortTo_srt {lt : Pw → Pw → Bool} (o : Ord lt) (l : List Pw) : ∀ k, k < l.length → Srt lt (sortTo lt l k) (k + 1)
  | 0, _ => fun i j hij hj => by omega
  | k + 1, h => by
    rw [sortTo]
    exact ins_srt o (k + 1) _ (k + 2) (by omega) (by rw [sortTo_length]; omega) fun i j hij hj hk => sortTo_srt o l k (by omega) i j hij (by omega)
theorem sortTo_perm (lt : Pw → Pw → Bool) (l : List Pw) : ∀ k, k < l.length → (sortTo lt l k).Perm l
  | 0, _ => List.Perm.refl _
  | k + 1, h => by
    rw [sortTo]
    exact (ins_perm lt (k + 1) _ (by rw [sortTo_length]; exact h)).trans (sortTo_perm lt l k (by omega))
theorem isort_perm (lt : Pw → Pw → Bool) (l : List Pw) : (isort lt l).Perm l := by
  unfold isort
  rcases Nat.eq_zero_or_pos l.length with h | h
  · rw [h]; exact List.Perm.refl _
  · exact sortTo_perm lt l _ (by omega)
theorem isort_srt {lt : Pw → Pw → Bool} (o : Ord lt) (l : List Pw) : Srt lt (isort lt l) l.length := by
  unfold isort
  rcases Nat.eq_zero_or_pos l.length with h | h
  · intro i j hij hj; omega
  · have := sortTo_srt o l (l.length - 1) (by omega)
    rwa [show l.length - 1 + 1 = l.length by omega] at this
theorem ltV_iff (a b : Pw) : ltV a b = true ↔ a.1 < b.1 := by
  unfold ltV cmpV cmpI
  rw [decide_eq_true_eq]
  split
  · simp_all
  · split <;> simp_all <;> omega
theorem ltV_no (a b : Pw) : ltV a b = false ↔ ¬ a.1 < b.1 := by rw [← ltV_iff, Bool.not_eq_true]
theorem ordV : Ord ltV := ⟨fun a b h => by rw [ltV_no]; rw [ltV_iff] at h; omega, fun a b c h1 h2 => by rw [ltV_no] at *; omega⟩
theorem mem_cand (V : Nat → Vd) (x : Pw) : ∀ k, x ∈ cand V k ↔ ∃ i : Nat, i < k ∧ x = ((i : Int), pwr (V i)) ∧ 0 < pwr (V i) ∧ (V i).jail = false
  | 0 => by simp [cand]
  | k + 1 => by
    rw [cand]
    have ih := mem_cand V x k
    split
    · rename_i h
      simp only [Bool.and_eq_true, decide_eq_true_eq, Bool.not_eq_true'] at h
      rw [List.mem_append, ih, List.mem_singleton]
      constructor
      · rintro (⟨i, hi, h1⟩ | rfl)
        · exact ⟨i, by omega, h1⟩
        · exact ⟨k, by omega, rfl, h.1, h.2⟩
      · rintro ⟨i, hi, h1⟩
        rcases Nat.lt_or_ge i k with h2 | h2
        · exact .inl ⟨i, h2, h1⟩
        · obtain rfl : i = k := by omega
          exact .inr h1.1
    · rename_i h
      simp only [Bool.and_eq_true, decide_eq_true_eq, Bool.not_eq_true'] at h
      rw [ih]
      constructor
      · rintro ⟨i, hi, h1⟩
        exact ⟨i, by omega, h1⟩
      · rintro ⟨i, hi, h1⟩
        rcases Nat.lt_or_ge i k with h2 | h2
        · exact ⟨i, h2, h1⟩
        · obtain rfl : i = k := by omega
          exact absurd h1.2 h
theorem cand_nodup (V : Nat → Vd) : ∀ k, (cand V k).Pairwise (fun a b => a.1 ≠ b.1)
  | 0 => List.Pairwise.nil
  | k + 1 => by
    rw [cand]
    split
    · rw [List.pairwise_append]
      refine ⟨cand_nodup V k, List.pairwise_singleton _ _, fun a ha b hb => ?_⟩
      rw [mem_cand] at ha
      obtain ⟨i, hi, rfl, _⟩ := ha
      rw [List.mem_singleton] at hb
      subst hb
      show (i : Int) ≠ (k : Int)
      omega
    · exact cand_nodup V k
theorem set_mem (V : Nat → Vd) (x : Pw) : x ∈ setS V ↔ x ∈ (isort ltP (cand V 6)).take 4 := (isort_perm _ _).mem_iff
theorem set_in (V : Nat → Vd) (x : Pw) (h : x ∈ setS V) : ∃ i : Nat, i < 6 ∧ x = ((i : Int), pwr (V i)) ∧ 0 < pwr (V i) ∧ (V i).jail = false := by
  rw [set_mem] at h
  exact (mem_cand V x 6).1 ((isort_perm _ _).mem_iff.1 (List.mem_of_mem_take h))
end Go.Proofs.YtjghbciepinofaaGreat

