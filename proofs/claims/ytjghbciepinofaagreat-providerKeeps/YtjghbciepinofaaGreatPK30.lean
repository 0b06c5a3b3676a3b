/- Parts of the proof: PFN PON. -/
import Derived.Test.YtjghbciepinofaaGreatRows
import Derived.Test.YtjghbciepinofaaGreatPK12
import Derived.Test.YtjghbciepinofaaGreatPK24
import Derived.Test.YtjghbciepinofaaGreatPK27
import Derived.Test.YtjghbciepinofaaGreatPK29
import Derived.Test.YtjghbciepinofaaGreatPK37
set_option maxRecDepth 100000
namespace Go.Proofs.YtjghbciepinofaaGreat.Pv
open Go.RowKit
/-- what dealing with a packet keeps -/
def InvQ (p : Pr) : Prop := goodS p.s = true ∧ ∀ c, c < 2 → riseB (-1) (p.L c).done = true
/-- a packet that may lie in a queue -/
def okPk (x : Pkt) : Prop := (x.k = 2 ∨ x.k = 3 ∨ x.k = 4) ∧ ((x.k = 3 ∨ x.k = 4) → 0 ≤ x.v ∧ x.v < 6)
theorem inv_done {p : Pr} (h : ∀ c, c < 2 → riseB (-1) (p.L c).done = true) (k : Nat) (v : Int) : ∀ c, c < 2 → riseB (-1) (updL p.L k { p.L k with done := doneL (p.L k).done v } c).done = true := fun c hc => by
  unfold updL
  by_cases e : c = k
  · rw [if_pos e]; exact done_rise _ _
  · rw [if_neg e]; exact h c hc
theorem inv_deal {p : Pr} (h : InvQ p) (c : Nat) {x : Pkt} (hx : okPk x) : InvQ (dealP p c x).1 := by
  obtain ⟨hg, hr⟩ := h
  obtain ⟨hk, hv⟩ := hx
  unfold dealP
  by_cases h2 : x.k = 2
  · rw [if_pos h2]
    exact ⟨(kp_rel hg c x.i).good, hr⟩
  · rw [if_neg h2]
    have hv' := hv (by omega)
    have h6 : x.v.toNat < 6 := by omega
    by_cases h4 : x.k = 4
    · rw [if_pos h4]
      by_cases hd : (p.s.V x.v.toNat).dead = true
      · rw [if_pos hd]; exact ⟨hg, hr⟩
      · rw [if_neg hd]
        exact ⟨setJ_good (slash_good hg h6 _ (by decide)) h6 (fun _ => rfl), hr⟩
    · rw [if_neg h4]
      by_cases hj : (p.s.V x.v.toNat).jail = true
      · rw [if_pos hj]; exact ⟨hg, inv_done hr c x.v⟩
      · rw [if_neg hj]
        by_cases hm : p.ml < 1
        · rw [if_pos hm]; exact ⟨hg, hr⟩
        · rw [if_neg hm]
          exact ⟨setJ_good hg h6 (fun _ => rfl), inv_done hr c x.v⟩
theorem pdeal_any (g : Nat) (p : Pr) (v : PrV) (P : Nat → Prop) (w : World) (c : Nat) (hc : c < 2) (x : Pkt) (y1 y2 : Value) (hC : CAt 47 w g (prC p v)) (hp : PIn P w p v) (hg : ¬ P g) (hi : InvQ p) (hx : okPk x) :
    Calls Tryz.prog 67 #[.pointer (some ⟨g, 0, none⟩), .agg #[.int .i64 (c : Int), .int .i64 x.k, .int .i64 x.i, .int .i64 x.v, .int .i64 x.n, y1, y2]] w (TurnsB w g P (dealP p c x)) := by
  rcases hx.1 with h | h | h
  · exact pdeal_matured g p v P w c hc x y1 y2 hC hp hg hi.1 h hx.2
  · exact pdeal_down g p v P w c hc x y1 y2 hC hp hg hi.1 h hx.2 fun hk wx v' P' hC' hp' hg' => pdown_any g p v' P' wx c hc x hC' hp' hg' hk (hi.2 c hc) hi.1 (hx.2 (.inl h)).1 (hx.2 (.inl h)).2
  · exact pdeal_double g p v P w c hc x y1 y2 hC hp hg hi.1 h hx.2
theorem good_kv {k i v n : Int} {S : List (Int × Int)} {D : List Int} (h : Cd.goodN k i v n S D = 0) : 1 ≤ k ∧ k ≤ 4 ∧ (Cd.accB k = true → Cd.isV v = true) := by
  unfold Cd.goodN at h
  by_cases h1 : k < 1 ∨ 4 < k
  · rw [if_pos h1] at h; omega
  rw [if_neg h1] at h
  by_cases h2 : i < 1 ∨ 1099511627776 < i
  · rw [if_pos h2] at h; omega
  rw [if_neg h2] at h
  by_cases h3 : Cd.accB k = true ∧ (Cd.isV v = false ∨ n < 1 ∨ 1125899906842624 < n)
  · rw [if_pos h3] at h; omega
  refine ⟨by omega, by omega, fun ha => ?_⟩
  cases hv : Cd.isV v
  · exact absurd ⟨ha, .inl hv⟩ h3
  · rfl
theorem okPk_of {L : Nat → Lk} {a : Int × Pkt} (h : goodQ L a = true) : (0 ≤ a.1 ∧ a.1 < 2) ∧ okPk a.2 := by
  unfold goodQ at h
  simp only [Bool.and_eq_true, decide_eq_true_eq] at h
  obtain ⟨⟨⟨⟨h0, h1⟩, -⟩, hk⟩, hn⟩ := h
  refine ⟨⟨h0, by omega⟩, ?_⟩
  obtain ⟨k1, k4, hv⟩ := good_kv hn
  refine ⟨by omega, fun h => ?_⟩
  have hv' := hv (by rcases h with h | h <;> rw [h] <;> rfl)
  unfold Cd.isV at hv'
  simp at hv'
  omega
theorem pqueue_any (g : Nat) (p : Pr) (v : PrV) (P : Nat → Prop) (w : World) (hC : CAt 47 w g (prC p v)) (hp : PIn P w p v) (hg : ¬ P g) (h0 : InvQ p) (hq88 : p.q.length * 88 ≤ 140737488355328) (hq : ∀ a ∈ p.q, (0 ≤ a.1 ∧ a.1 < 2) ∧ okPk a.2) :
    Calls Tryz.prog 30 #[.pointer (some ⟨g, 0, none⟩)] w (Turns w g P (queueP p)) :=
  pqueue_of InvQ g p v P w hC hp hg h0 hq88 (fun a ha => (hq a ha).1) (fun a ha p' v' P' wx y1 y2 hi hC' hp' hg' => by
    obtain ⟨⟨h0, h1⟩, hx⟩ := hq a ha
    have e : a.1 = (a.1.toNat : Int) := by omega
    rw [e]
    have := pdeal_any g p' v' P' wx a.1.toNat (by omega) a.2 y1 y2 hC' hp' hg' hi hx
    rw [Int.toNat_natCast]
    exact this) (fun a ha p' hi => inv_deal hi _ (hq a ha).2)
theorem inv_steps : ∀ (l : List (Int × Pkt)) (z : QS), (∀ a ∈ l, okPk a.2) → InvQ z.p → InvQ (l.foldl stepQ z).p
  | [], z, _, h => h
  | a :: l, z, ho, h => by
    rw [List.foldl_cons]
    refine inv_steps l _ (fun b hb => ho b (List.mem_cons_of_mem _ hb)) ?_
    unfold stepQ
    split
    · exact h
    · split
      · exact inv_deal h _ (ho a List.mem_cons_self)
      · exact h
theorem inv_tick {p : Pr} (hg : goodP p = true) (now : Int) : InvQ (tickP p now) := by
  unfold goodP at hg
  simp only [Bool.and_eq_true, goodLk] at hg
  obtain ⟨⟨⟨⟨⟨⟨⟨h, -⟩, -⟩, -⟩, -⟩, -⟩, ⟨⟨r0, -⟩, ⟨r1, -⟩⟩⟩, -⟩ := hg
  refine ⟨h, fun c hc => ?_⟩
  rcases (show c = 0 ∨ c = 1 by omega) with rfl | rfl
  · exact r0
  · exact r1
theorem ok_queue {p : Pr} (hg : goodP p = true) : ∀ a ∈ p.q, (0 ≤ a.1 ∧ a.1 < 2) ∧ okPk a.2 := fun a ha => by
  unfold goodP at hg
  simp only [Bool.and_eq_true] at hg
  exact okPk_of (List.all_eq_true.1 hg.2 a ha)
theorem inv_queue {p : Pr} (hg : goodP p = true) (now : Int) : InvQ (goQ (tickP p now)).p := inv_steps p.q _ (fun a ha => (ok_queue hg a ha).2) (inv_tick hg now)
theorem steps_t : ∀ (l : List (Int × Pkt)) (z : QS), (l.foldl stepQ z).p.t = z.p.t ∧ (l.foldl stepQ z).p.h = z.p.h
  | [], z => ⟨rfl, rfl⟩
  | a :: l, z => by
    rw [List.foldl_cons]
    have h := steps_t l (stepQ z a)
    have e : (stepQ z a).p.t = z.p.t ∧ (stepQ z a).p.h = z.p.h := by
      unfold stepQ
      split
      · exact ⟨rfl, rfl⟩
      · split
        · show (dealP z.p a.1.toNat a.2).1.t = z.p.t ∧ (dealP z.p a.1.toNat a.2).1.h = z.p.h
          unfold dealP
          repeat' split
          all_goals exact ⟨rfl, rfl⟩
        · exact ⟨rfl, rfl⟩
    exact ⟨h.1.trans e.1, h.2.trans e.2⟩
theorem tell_t (p : Pr) (c : Nat) : (tellP p c).t = p.t := by
  unfold tellP
  repeat' split
  all_goals rfl
/-- P7.8 -/
theorem pend_any (p : Pr) (v : PrV) (P : Nat → Prop) (w : World) (now : Int) (hp : PIn P w p v) (hq88 : p.q.length * 88 ≤ 140737488355328) :
    Calls Tryz.prog 9 #[.agg (prC p v), .int .i64 now] w (AnsE P w (endP p now)) := by
  have ht : (paidP (queueP (tickP p now)) now).t = now := (steps_t p.q ⟨tickP p now, fun _ => false, []⟩).1
  refine pend_of p v P w now hp _ _ _ (fun hg hi hn g v' wx P' hC' hp' hg' => ?_) (fun hg => (inv_queue hg now).1) (fun hg hi hn c hc g v' wx P' hC' hp' hg' => ?_) rfl rfl rfl
  · exact pqueue_any g (tickP p now) v' P' wx hC' hp' hg' (inv_tick hg now) hq88 (fun a ha => ok_queue hg a ha)
  · have hb : 0 ≤ now ∧ now ≤ 1099511627776 := by
      unfold isT at hi
      simpa using hi
    rcases (show c = 0 ∨ c = 1 by omega) with rfl | rfl
    · exact ptell_any g _ v' P' wx 0 (by omega) hC' hp' hg' (by rw [ht]; exact hb.1) (by rw [ht]; exact hb.2)
    · exact ptell_any g _ v' P' wx 1 (by omega) hC' hp' hg' (by rw [tell_t, ht]; exact hb.1) (by rw [tell_t, ht]; exact hb.2)
end Go.Proofs.YtjghbciepinofaaGreat.Pv

set_option maxRecDepth 100000
namespace Go.Proofs.YtjghbciepinofaaGreat.Pv
open Go.RowKit
theorem bs_encP {k i v n : Int} {S : List (Int × Int)} {D : List Int} (h : Cd.goodN k i v n S D = 0) : Cd.bs (Cd.encS k i v n S D) = Cd.enc k i v n S D := by
  rw [Cd.encS, if_pos h]
  show ((Cd.enc k i v n S D).map (fun n => UInt8.ofNat n.toNat)).map (fun u => (u.toNat : Int)) = _
  rw [List.map_map]
  conv => rhs; rw [← List.map_id (Cd.enc k i v n S D)]
  refine List.map_congr_left fun c hc => ?_
  have := Cd.enc_byte _ _ _ _ _ _ c hc
  simp only [Function.comp, id, UInt8.toNat_ofNat']
  omega
theorem dec_encP {k i v n : Int} {S : List (Int × Int)} {D : List Int} (h : Cd.goodN k i v n S D = 0) : Cd.decE (Cd.bs (Cd.encS k i v n S D)) = 0 ∧ Cd.decP (Cd.bs (Cd.encS k i v n S D)) = (k, i, v, n, S, D) := by
  rw [bs_encP h]
  exact Cd.dec_enc h
theorem encP_size {k i v n : Int} {S : List (Int × Int)} {D : List Int} (h : Cd.goodN k i v n S D = 0) : (Cd.encS k i v n S D).size = 17 + 8 * S.length + D.length := by
  rw [← Cd.bs_length, bs_encP h, Cd.enc_length]
theorem end_code (p : Pr) (now : Int) : (endP p now).2.2 = 0 ∧ (goodP p = true ∧ isT now = true ∧ p.t ≤ now) ∨ (endP p now).2.2 = 2 := by
  unfold endP
  split
  · rename_i h
    exact .inl ⟨rfl, h⟩
  · exact .inr rfl
end Go.Proofs.YtjghbciepinofaaGreat.Pv

