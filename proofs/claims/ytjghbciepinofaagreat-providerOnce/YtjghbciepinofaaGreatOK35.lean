/- Parts of the proof: PON PLO. -/
import Derived.Test.YtjghbciepinofaaGreatRows
import Derived.Test.YtjghbciepinofaaGreatOK28
import Derived.Test.YtjghbciepinofaaGreatOK34
import Derived.Test.YtjghbciepinofaaGreatOK36
import Derived.Test.YtjghbciepinofaaGreatOK46
import Derived.Test.YtjghbciepinofaaGreatOK52
set_option maxRecDepth 100000
namespace Go.Proofs.YtjghbciepinofaaGreat.Pv
open Go.RowKit
theorem tell_keeps (p : Pr) (c : Nat) : (tellP p c).s = p.s ∧ (tellP p c).q = p.q ∧ ∀ k, ((tellP p c).L k).on = (p.L k).on := by
  unfold tellP
  split
  · exact ⟨rfl, rfl, fun _ => rfl⟩
  · split
    · split
      · refine ⟨rfl, rfl, fun k => ?_⟩
        show (updL p.L c _ k).on = _
        unfold updL
        by_cases e : k = c
        · subst e; rw [if_pos rfl]
        · rw [if_neg e]
      · exact ⟨rfl, rfl, fun _ => rfl⟩
    · exact ⟨rfl, rfl, fun _ => rfl⟩
theorem pun_dead (s : St) (v : Nat) (h : Int) : ((punS s v h).V v).dead = true := by
  show (setV (slashS s v h 50).V v _ v).dead = true
  rw [setV_at]
/-- what the end of a block leaves of a queue of one Double -/
structure OnceE (r e : Pr) (v : Nat) : Prop where
  dead : (e.s.V v).dead = true
  q : e.q = []
  on : ∀ k, (e.L k).on = (r.L k).on
  same : (r.s.V v).dead = true → e.s.V = r.s.V
theorem once_end {r : Pr} {now : Int} {c : Nat} {x : Pkt} (hk : x.k = 4) (hq : r.q = [((c : Int), x)]) (hok : goodP r = true ∧ isT now = true ∧ r.t ≤ now) : OnceE r (endP r now).1 x.v.toNat := by
  have hE : (endP r now).1 = tellP (tellP (paidP (queueP (tickP r now)) now) 0) 1 := by unfold endP; rw [if_pos hok]
  rw [hE]
  have hD : dealP (tickP r now) c x = if (r.s.V x.v.toNat).dead = true then (tickP r now, true) else ({ tickP r now with s := punS r.s x.v.toNat (maxI x.i (r.L c).base) }, true) := by
    unfold dealP
    rw [if_neg (by omega), if_pos hk]
    rfl
  have hQ : goQ (tickP r now) = ⟨(dealP (tickP r now) c x).1, fun _ => false, []⟩ := by
    unfold goQ
    rw [show (tickP r now).q = [((c : Int), x)] from hq, List.foldl_cons, List.foldl_nil]
    unfold stepQ
    rw [if_neg (by simp), Int.toNat_natCast, if_pos (by rw [hD]; split <;> rfl)]
  have hP : queueP (tickP r now) = { (dealP (tickP r now) c x).1 with q := [] } := by unfold queueP; rw [hQ]
  rw [hP]
  obtain ⟨a1, a2, a3⟩ := tell_keeps (tellP (paidP { (dealP (tickP r now) c x).1 with q := [] } now) 0) 1
  obtain ⟨b1, b2, b3⟩ := tell_keeps (paidP { (dealP (tickP r now) c x).1 with q := [] } now) 0
  have hS : (tellP (tellP (paidP { (dealP (tickP r now) c x).1 with q := [] } now) 0) 1).s.V = (dealP (tickP r now) c x).1.s.V := by rw [a1, b1]; rfl
  refine ⟨?_, by rw [a2, b2]; rfl, fun k => ?_, fun hd => ?_⟩
  · rw [hS, hD]
    by_cases hd : (r.s.V x.v.toNat).dead = true
    · rw [if_pos hd]; exact hd
    · rw [if_neg hd]; exact pun_dead _ _ _
  · rw [a3, b3, hD]
    split <;> rfl
  · rw [hS, hD, if_pos hd]
    rfl
theorem bs_encP {k i v n : Int} {S : List (Int × Int)} {D : List Int} (h : Cd.goodN k i v n S D = 0) : Cd.bs (Cd.encS k i v n S D) = Cd.enc k i v n S D := by
  rw [Cd.encS, if_pos h]
  show ((Cd.enc k i v n S D).map (fun n => UInt8.ofNat n.toNat)).map (fun u => (u.toNat : Int)) = _
  rw [List.map_map]
  conv => rhs; rw [← List.map_id (Cd.enc k i v n S D)]
  refine List.map_congr_left fun c hc => ?_
  have := Cd.enc_byte _ _ _ _ _ _ c hc
  simp only [Function.comp, id, UInt8.toNat_ofNat']
  omega
theorem dec_encP {k i v n : Int} {S : List (Int × Int)} {D : List Int} (h : Cd.goodN k i v n S D = 0) : Cd.decE (Cd.bs (Cd.encS k i v n S D)) = 0 ∧ Cd.decP (Cd.bs (Cd.encS k i v n S D)) = (k, i, v, n, S, D) := by
  rw [bs_encP h]
  exact Cd.dec_enc h
theorem encP_size {k i v n : Int} {S : List (Int × Int)} {D : List Int} (h : Cd.goodN k i v n S D = 0) : (Cd.encS k i v n S D).size = 17 + 8 * S.length + D.length := by
  rw [← Cd.bs_length, bs_encP h, Cd.enc_length]
theorem pktOf_encP {k i v n : Int} {S : List (Int × Int)} {D : List Int} (h : Cd.goodN k i v n S D = 0) : pktOf (Cd.bs (Cd.encS k i v n S D)) = ⟨k, i, v, n, S, D⟩ := by
  unfold pktOf
  rw [(dec_encP h).2]
/-- who is told twice to have signed twice: what is heard -/
theorem once_hear {p : Pr} {k : Nat} (hk : k < 2) {i v n : Int} {S : List (Int × Int)} {D : List Int} (hE : Cd.goodN 4 i v n S D = 0) (hg : goodP p = true) (ho : (p.L k).on = true) : hearP p (k : Int) (Cd.bs (Cd.encS 4 i v n S D)) = ({ p with q := p.q ++ [((k : Int), ⟨4, i, v, n, S, D⟩)] }, 0) := by
  have hon : isOn p (k : Int) = true := by
    unfold isOn isC
    simp [ho]
    omega
  unfold hearP
  rw [if_pos hg, if_pos hon, if_pos (dec_encP hE).1, pktOf_encP hE, if_neg (by simp)]
theorem hear_no {p : Pr} {c : Int} {l : List Int} (h : (hearP p c l).2 = 0) : goodP p = true ∧ ∃ k : Nat, c = (k : Int) ∧ k < 2 ∧ (p.L k).on = true := by
  unfold hearP at h
  split at h
  · rename_i hg
    split at h
    · rename_i ho
      refine ⟨hg, c.toNat, ?_⟩
      unfold isOn isC at ho
      simp only [Bool.and_eq_true, decide_eq_true_eq] at ho
      exact ⟨by omega, by omega, ho.2⟩
    · simp at h
  · simp at h
theorem hear_bad {p : Pr} {c : Int} {l : List Int} (h : goodP p = false) : hearP p c l = (p, 2) := by
  unfold hearP
  rw [if_neg (by simp [h])]
theorem end_code (p : Pr) (now : Int) : (endP p now).2.2 = 0 ∧ (goodP p = true ∧ isT now = true ∧ p.t ≤ now) ∨ (endP p now).2.2 = 2 := by
  unfold endP
  split
  · rename_i h
    exact .inl ⟨rfl, h⟩
  · exact .inr rfl
/-- all that the law asks -/
structure OnceL (p a b : Pr) (f h : Int) (g : Int) (v : Nat) : Prop where
  cf : f = 0 ∨ f = 2
  cg : f = 0 → g = 0 ∨ g = 2
  ch : f = 0 → g = 0 → h = 2 ∨ (h = 0 ∧ b.s.V v = a.s.V v)
  dead : f = 0 → (a.s.V v).dead = true
theorem once_all {p : Pr} {c : Int} {i v n : Int} {S : List (Int × Int)} {D : List Int} {now : Int} (hE : Cd.goodN 4 i v n S D = 0) (hq : p.q = []) (hf : (hearP p c (Cd.bs (Cd.encS 4 i v n S D))).2 = 0) {a0 a b0 b : Pr} (ha0 : a0 = (hearP p c (Cd.bs (Cd.encS 4 i v n S D))).1) (ha : a = (endP a0 now).1) (hb0 : b0 = (hearP a c (Cd.bs (Cd.encS 4 i v n S D))).1) (hb : b = (endP b0 now).1) :
    OnceL p a b (endP a0 now).2.2 (endP b0 now).2.2 (hearP a c (Cd.bs (Cd.encS 4 i v n S D))).2 v.toNat ∧ a0.q.length = 1 ∧ ((endP a0 now).2.2 = 0 → a.q.length = 0 ∧ b0.q.length ≤ 1) := by
  obtain ⟨hg, k, rfl, hk, ho⟩ := hear_no hf
  rw [once_hear hk hE hg ho, hq] at ha0
  have h0q : a0.q = [((k : Int), ⟨4, i, v, n, S, D⟩)] := by rw [ha0]; rfl
  have h0on : (a0.L k).on = true := by rw [ha0]; exact ho
  rcases end_code a0 now with ⟨e0, hok⟩ | e2
  · have O := once_end (x := ⟨4, i, v, n, S, D⟩) rfl h0q hok
    rw [← ha] at O
    have haon : (a.L k).on = true := (O.on k).trans h0on
    cases hga : goodP a
    · have hh := hear_bad (c := (k : Int)) (l := Cd.bs (Cd.encS 4 i v n S D)) hga
      refine ⟨⟨.inl e0, fun _ => .inr (by rw [hh]), fun _ h => ?_, fun _ => O.dead⟩, by rw [h0q]; rfl, fun _ => ⟨by rw [O.q]; rfl, ?_⟩⟩
      · rw [hh] at h; simp at h
      · rw [hb0, hh]; show a.q.length ≤ 1; rw [O.q]; simp
    · have hh := once_hear hk hE hga haon
      rw [hh, O.q] at hb0
      have hbq : b0.q = [((k : Int), ⟨4, i, v, n, S, D⟩)] := by rw [hb0]; rfl
      refine ⟨⟨.inl e0, fun _ => .inl (by rw [hh]), fun _ _ => ?_, fun _ => O.dead⟩, by rw [h0q]; rfl, fun _ => ⟨by rw [O.q]; rfl, by rw [hbq]; simp⟩⟩
      rcases end_code b0 now with ⟨f0, hok2⟩ | f2
      · have O2 := once_end (x := ⟨4, i, v, n, S, D⟩) rfl hbq hok2
        rw [← hb] at O2
        have hbs : b0.s = a.s := by rw [hb0]
        refine .inr ⟨f0, ?_⟩
        rw [O2.same (by rw [hbs]; exact O.dead), hbs]
      · exact .inl f2
  · have hne : (endP a0 now).2.2 ≠ 0 := by rw [e2]; simp
    exact ⟨⟨.inr e2, fun h => absurd h hne, fun h => absurd h hne, fun h => absurd h hne⟩, by rw [h0q]; rfl, fun h => absurd h hne⟩
end Go.Proofs.YtjghbciepinofaaGreat.Pv

set_option maxRecDepth 100000
namespace Go.Proofs.YtjghbciepinofaaGreat.Pv
open Go.RowKit
theorem enc4_size (i v n : Int) (S : List (Int × Int)) (D : List Int) : (Cd.encS 4 i v n S D).size ≤ maxLen := by
  by_cases h : Cd.goodN 4 i v n S D = 0
  · rw [encP_size h]
    have hf : Cd.forB 4 v n S.length D.length = false := by
      unfold Cd.goodN at h
      repeat' split at h
      all_goals first | omega | (rename_i hh _; simpa using hh)
    unfold Cd.forB at hf
    simp at hf
    unfold maxLen
    have h1 : S.length = 0 := by have := hf.2.1; simp [this]
    have h2 : D.length = 0 := by have := hf.2.2; simp [this]
    omega
  · rw [Cd.encS, if_neg h]
    exact Nat.zero_le _
/-- a provider laid into a new block -/
theorem pr_laid {P : Nat → Prop} {w2 : World} {r : Pr} {v2 : PrV} (P2 : PIn P w2 r v2) : ∃ w3, (storeP (.pointer (some ⟨w2.heap.size, 0, none⟩)) (.agg (prC r v2))).run Tryz.prog (w2.alloc (.cells Tryz.zeroCells47 47)) = .ok () w3 ∧ CAt 47 w3 w2.heap.size (prC r v2) ∧ PIn (fun b => b ≠ w2.heap.size) w3 r v2 ∧ Below w2.heap.size w2 w3 := by
  have bS : Below w2.heap.size w2 ((w2.alloc (.cells Tryz.zeroCells47 47)).setCells w2.heap.size 0 (prC r v2).toList) := below_sets (Nat.le_refl _) _ _ _ ((Below.refl _ w2).alloc (Nat.le_refl _) _)
  exact ⟨_, pr_storeP (CAt.new 47 w2 Tryz.zeroCells47) Z97_size (prC_size r v2) (pr_one P2), (CAt.new 47 w2 Tryz.zeroCells47).setAll (by rw [Z97_size]; rfl), (P2.mono fun b hl _ => (by omega : b ≠ w2.heap.size)).over bS, bS⟩
/-- a provider stored over another -/
theorem pr_over {P : Nat → Prop} {w2 : World} {g : Nat} {r r' : Pr} {v v2 : PrV} (hC : CAt 47 w2 g (prC r' v)) (P2 : PIn P w2 r v2) (hg : ¬ P g) : ∃ w3, (storeP (.pointer (some ⟨g, 0, none⟩)) (.agg (prC r v2))).run Tryz.prog w2 = .ok () w3 ∧ CAt 47 w3 g (prC r v2) ∧ PIn P w3 r v2 ∧ (∀ b, b ≠ g → w3.heap[b]? = w2.heap[b]?) ∧ ∀ B, B ≤ g → ∀ w0, Below B w0 w2 → Below B w0 w3 :=
  ⟨_, pr_storeP hC (prC_size _ _) (prC_size r v2) (pr_one P2), hC.setAll (by rw [prC_size, prC_size]), P2.sets hg _ _, fun b hb => heap_sets hb _ _ _, fun _ hB _ h => below_sets hB _ _ _ h⟩
theorem pr_val5 {w : World} {g : Nat} {p : Pr} {v : PrV} (h : CAt 47 w g (prC p v)) {y : Nat} (hy : y < 6) : w.cell? ⟨g, 9 + y * 5, none⟩ = some (.int .i64 (p.s.V y).tok) ∧ w.cell? ⟨g, 9 + y * 5 + 1, none⟩ = some (.int .i64 (p.s.V y).sh) ∧ w.cell? ⟨g, 9 + y * 5 + 2, none⟩ = some (.int .i64 (p.s.V y).lost) ∧ w.cell? ⟨g, 9 + y * 5 + 3, none⟩ = some (.bool (p.s.V y).jail) ∧ w.cell? ⟨g, 9 + y * 5 + 4, none⟩ = some (.bool (p.s.V y).dead) := by
  rcases (show y = 0 ∨ y = 1 ∨ y = 2 ∨ y = 3 ∨ y = 4 ∨ y = 5 by omega) with rfl | rfl | rfl | rfl | rfl | rfl <;> exact ⟨h.cell _, h.cell _, h.cell _, h.cell _, h.cell _⟩
attribute [local go_sem ↓] loadS_eq loadP_eq storeP_eq storeS_eq
set_option maxRecDepth 1000000 in
set_option maxHeartbeats 16000000 in
theorem kponce_walk (p : Pr) (v : PrV) (x : Pkt) (y1 y2 : Value) (w : World) (c now : Int) (hp : PIn (fun _ => True) w p v) (hq88 : p.q.length * 88 ≤ 140737488351232) (h1 : Rep (fun _ => True) w y1 2 16 (pwC x.S)) (h2 : Rep (fun _ => True) w y2 1 8 (inC x.D)) :
    Calls Tryz.prog 3 #[.agg (prC p v), .int .i64 c, .agg #[.int .i64 x.k, .int .i64 x.i, .int .i64 x.v, .int .i64 x.n, y1, y2], .int .i64 now] w fun e w' => e = .returned (.bool true) ∧ Below w.heap.size w w' := by
  have HEN : Hid (∀ wx, Below w.heap.size w wx → Calls Tryz.prog 6 #[.agg #[.int .i64 4, .int .i64 x.i, .int .i64 x.v, .int .i64 x.n, y1, y2]] wx fun e w' => e = .returned (.tuple #[.string (Cd.encS 4 x.i x.v x.n x.S x.D), .int .i64 (Cd.goodN 4 x.i x.v x.n x.S x.D)]) ∧ Below wx.heap.size wx w') := fun wx hb => by
    obtain ⟨A1, C1, A2, C2, sb, so, db, dO, rfl, rfl, hL⟩ := Rep.lies (h1.over hb) (h2.over hb)
    exact Cd.encode_any 4 x.i x.v x.n x.S x.D A1 A2 C1 C2 sb so db dO wx hL
  have HHE : Hid (∀ (wx : World) (r : Pr) (u : PrV) (P : Nat → Prop), PIn P wx r u → r.q.length * 88 ≤ 140737488351232 → Calls Tryz.prog 7 #[.agg (prC r u), .int .i64 c, .string (Cd.encS 4 x.i x.v x.n x.S x.D)] wx (AnsP P wx (hearP r c (Cd.bs (Cd.encS 4 x.i x.v x.n x.S x.D))))) := fun wx r u P hr hl => phear_any r u P wx c _ hr (enc4_size _ _ _ _ _) hl
  have HED : Hid (∀ (wx : World) (r : Pr) (u : PrV) (P : Nat → Prop), PIn P wx r u → r.q.length ≤ 1 → Calls Tryz.prog 9 #[.agg (prC r u), .int .i64 now] wx (AnsE P wx (endP r now))) := fun wx r u P hr hl => pend_any r u P wx now hr (by omega)
  have HAL := hide (fun (hE : Cd.goodN 4 x.i x.v x.n x.S x.D = 0) (hq : p.q = []) (hf : (hearP p c (Cd.bs (Cd.encS 4 x.i x.v x.n x.S x.D))).2 = 0) => once_all (now := now) hE hq hf rfl rfl rfl rfl)
  have HQ88 := hide hq88
  have HP := hide hp
  obtain ⟨Aq, nq, Cq, eq, hnq⟩ : ∃ A n C, v.q = .slice A n C ∧ n = p.q.length := by
    obtain ⟨z, hzl, hzr, -⟩ := id hp.q
    obtain ⟨A, C, e, -⟩ := hzr.open (quL_length _ _ hzl) (by decide)
    exact ⟨A, _, C, e, rfl⟩
  obtain ⟨B1, m1, D1, rfl⟩ := h1.one'
  obtain ⟨B2, m2, D2, rfl⟩ := h2.one'
  have HKV : Hid (Cd.goodN 4 x.i x.v x.n x.S x.D = 0 → 0 ≤ x.v ∧ x.v < 6) := fun h => by
    have := (good_kv h).2.2 rfl
    unfold Cd.isV at this
    simpa using this
  generalize Cd.encS 4 x.i x.v x.n x.S x.D = es at *
  generalize Cd.goodN 4 x.i x.v x.n x.S x.D = E0 at *
  clear h1 h2 hp hq88
  go_enter Tryz.func3, Tryz.ntmps3
  go_upto_region 2 with fail
  have C0 : CAt 47 ((w.alloc (.cells (prC p v) 47)).alloc (.cells #[.int .i64 4, .int .i64 x.i, .int .i64 x.v, .int .i64 x.n, .slice B1 m1 D1, .slice B2 m2 D2] 49)) w.heap.size (prC p v) := (CAt.new _ w _).alloc _
  have K0 : CAt 49 ((w.alloc (.cells (prC p v) 47)).alloc (.cells #[.int .i64 4, .int .i64 x.i, .int .i64 x.v, .int .i64 x.n, .slice B1 m1 D1, .slice B2 m2 D2] 49)) (w.heap.size + 1) #[.int .i64 4, .int .i64 x.i, .int .i64 x.v, .int .i64 x.n, .slice B1 m1 D1, .slice B2 m2 D2] := CAt.new2 _ w _ _
  have B0 : Below w.heap.size w ((w.alloc (.cells (prC p v) 47)).alloc (.cells #[.int .i64 4, .int .i64 x.i, .int .i64 x.v, .int .i64 x.n, .slice B1 m1 D1, .slice B2 m2 D2] 49)) := ((Below.refl _ w).alloc (Nat.le_refl _) _).alloc (by simp) _
  generalize (w.alloc (.cells (prC p v) 47)).alloc (.cells #[.int .i64 4, .int .i64 x.i, .int .i64 x.v, .int .i64 x.n, .slice B1 m1 D1, .slice B2 m2 D2] 49) = w0 at *
  have k0 : w0.cell? ⟨w.heap.size + 1, 0, none⟩ = some (.int .i64 4) := K0.cell 0
  have k1 : w0.cell? ⟨w.heap.size + 1, 0 + 1, none⟩ = some (.int .i64 x.i) := K0.cell 1
  have k2 : w0.cell? ⟨w.heap.size + 1, 0 + 2, none⟩ = some (.int .i64 x.v) := K0.cell 2
  have k3 : w0.cell? ⟨w.heap.size + 1, 0 + 3, none⟩ = some (.int .i64 x.n) := K0.cell 3
  have k4 : w0.cell? ⟨w.heap.size + 1, 0 + 4, none⟩ = some (.slice B1 m1 D1) := K0.cell 4
  have k5 : w0.cell? ⟨w.heap.size + 1, 0 + 5, none⟩ = some (.slice B2 m2 D2) := K0.cell 5
  have H0 := hide (show _ ∧ _ ∧ _ from ⟨C0, K0, B0⟩)
  have HE0 := hide (HEN.out _ B0)
  clear C0 K0 B0 HEN
  go_upto_region 3 with (go_at_call 6; refine HE0.out.mono ?_; rintro e w1 ⟨rfl, hb1⟩; clear k0 k1 k2 k3 k4 k5)
  have C1 := H0.out.1.over hb1
  have K1 := H0.out.2.1.over hb1
  have B1' := H0.out.2.2.trans (hb1.mono H0.out.2.2.size)
  have l1 := pr_loadP C1 (prC_size _ _)
  have hh0 := HHE.out w1 p v _ (HP.out.over B1') HQ88.out
  have H1 := hide (show _ ∧ _ ∧ _ from ⟨C1, K1, B1'⟩)
  clear C1 K1 B1' hb1 H0 HE0
  generalize hearP p c (Cd.bs es) = R0 at *
  obtain ⟨a0, f0⟩ := R0
  dsimp only at HAL
  have HH0 := hide hh0
  clear hh0
  go_upto_region 4 with (go_at_call 7; refine HH0.out.mono ?_; rintro e w2 ⟨v2, rfl, P2, hb2⟩; clear l1; dsimp only at P2; dsimp only; obtain ⟨w3, s2, D3, Q3, bS⟩ := pr_laid P2; have HL3 := hide (show _ ∧ _ ∧ _ ∧ _ from ⟨D3, Q3, bS, hb2⟩); clear D3 Q3 bS hb2 P2)
  have b3 := HL3.out.2.2.2.trans (HL3.out.2.2.1.mono HL3.out.2.2.2.size)
  have C3 := H1.out.1.over b3
  have K3 := H1.out.2.1.over b3
  have B3 := H1.out.2.2.trans (b3.mono H1.out.2.2.size)
  have D3 := HL3.out.1
  have Q3 := HL3.out.2.1
  have hgw : w.heap.size + 1 < w2.heap.size := Nat.lt_of_lt_of_le H1.out.2.1.lt HL3.out.2.2.2.size
  have h3s := HL3.out.2.2.1.size
  clear s2 b3 HL3 H1 HH0
  generalize w2.heap.size = g7 at *
  have H3 := hide (show _ ∧ _ ∧ _ ∧ _ ∧ _ from ⟨C3, K3, D3, B3, Q3⟩)
  have q96 : w3.cell? ⟨w.heap.size, 96, none⟩ = some (.slice Aq nq Cq) := by rw [← eq]; exact C3.cell 96
  have hlt3 := D3.lt
  clear C3 K3 D3 B3 Q3
  have HPV := hide (fun (wx : World) => kprovides_any wx)
  by_cases hall : E0 = 0 ∧ f0 = 0 ∧ nq = 0
  rotate_left
  · have hcs : E0 ≠ 0 ∨ (E0 = 0 ∧ f0 ≠ 0) ∨ (E0 = 0 ∧ f0 = 0 ∧ 0 < (nq : Int)) := by
      by_cases a : E0 = 0
      · by_cases b : f0 = 0
        · exact .inr (.inr ⟨a, b, by omega⟩)
        · exact .inr (.inl ⟨a, b⟩)
      · exact .inl a
    have hn0 : (nq : Int) ≤ 1599289640354 := by have := HQ88.out; omega
    clear HAL HED HHE hall HKV
    rcases hcs with h | ⟨rfl, h⟩ | ⟨rfl, rfl, h⟩
    · have h' : (E0 != 0) = true := by simpa using h
      go_wp2_with (go_at_call 8; refine (HPV.out _).mono ?_; rintro e w5 ⟨rfl, hb5⟩; have HB5 := hide hb5; clear hb5)
      go_ret
      exact ⟨rfl, H3.out.2.2.2.1.trans (HB5.out.mono H3.out.2.2.2.1.size)⟩
    · have h' : (f0 != 0) = true := by simpa using h
      go_wp2_with (go_at_call 8; refine (HPV.out _).mono ?_; rintro e w5 ⟨rfl, hb5⟩; have HB5 := hide hb5; clear hb5)
      go_ret
      exact ⟨rfl, H3.out.2.2.2.1.trans (HB5.out.mono H3.out.2.2.2.1.size)⟩
    · have hN : 0 < nq := by omega
      clear hnq
      go_wp2_with (go_at_call 8; refine (HPV.out _).mono ?_; rintro e w5 ⟨rfl, hb5⟩; have HB5 := hide hb5; clear hb5)
      go_ret
      exact ⟨rfl, H3.out.2.2.2.1.trans (HB5.out.mono H3.out.2.2.2.1.size)⟩
  obtain ⟨rfl, rfl, rfl⟩ := hall
  have hv := HKV.out rfl
  obtain ⟨n, hn, hn6⟩ : ∃ n : Nat, x.v = (n : Int) ∧ n < 6 := ⟨x.v.toNat, by omega, by omega⟩
  have hal := HAL.out rfl (List.length_eq_zero_iff.1 hnq.symm) rfl
  rw [hn, Int.toNat_natCast] at hal
  have hEa := fun (wx : World) (u : PrV) (P : Nat → Prop) (h : PIn P wx a0 u) (hl : a0.q.length ≤ 1) => HED.out wx a0 u P h hl
  generalize hA : endP a0 now = A at *
  obtain ⟨a, pd, f⟩ := A
  dsimp only at hal
  generalize hR1 : hearP a c (Cd.bs es) = R1 at *
  obtain ⟨b0, fg⟩ := R1
  dsimp only at hal
  generalize hB : endP b0 now = B at *
  obtain ⟨b, pd2, fh⟩ := B
  dsimp only at hal
  obtain ⟨hL, ha1, ha2⟩ := hal
  have HEA := hide (fun (wx : World) (u : PrV) (P : Nat → Prop) (h : PIn P wx a0 u) => hEa wx u P h (by omega))
  have HHA := hide (fun (h : f = 0) (wx : World) (u : PrV) (P : Nat → Prop) (hP : PIn P wx a u) => HHE.out wx a u P hP (by have := (ha2 h).1; omega))
  have HHX : Hid (∀ (wx : World) (u : PrV) (P : Nat → Prop), PIn P wx a u → a.q.length * 88 ≤ 140737488351232 → Calls Tryz.prog 7 #[.agg (prC a u), .int .i64 c, .string es] wx (AnsP P wx (b0, fg))) := fun wx u P hP hl => by rw [← hR1]; exact HHE.out wx a u P hP hl
  have HEB : Hid (f = 0 → ∀ (wx : World) (u : PrV) (P : Nat → Prop), PIn P wx b0 u → Calls Tryz.prog 9 #[.agg (prC b0 u), .int .i64 now] wx (AnsE P wx (b, pd2, fh))) := fun h wx u P hP => by rw [← hB]; exact HED.out wx b0 u P hP (ha2 h).2
  have HA1 := hide (show _ ∧ _ from ⟨ha1, ha2⟩)
  have HLL := hide hL
  have HNV := hide hn
  have HAX : Hid (f ≠ 0 → a = a0) := fun h => by
    have := hA
    unfold endP at this
    split at this
    · cases this; exact absurd rfl h
    · cases this; rfl
  clear HAL HKV hv eq hnq hEa hA hR1 hB hL ha1 ha2 HHE HED HHA hn
  go_upto_region 6 with (go_at_call 8; refine (HPV.out _).mono ?_; rintro e w5 ⟨rfl, hb5⟩; clear q96)
  have K5 := H3.out.2.1.over hb5
  have D5 := H3.out.2.2.1.over hb5
  have B5 := H3.out.2.2.2.1.trans (hb5.mono H3.out.2.2.2.1.size)
  have Q5 := H3.out.2.2.2.2.over hb5
  have l5 := pr_loadP D5 (prC_size _ _)
  have hlt5 := D5.lt
  have hea := HEA.out w5 v2 _ Q5
  have HE5 := hide hea
  have H5 := hide (show _ ∧ _ ∧ _ ∧ _ from ⟨K5, D5, B5, Q5⟩)
  clear K5 D5 B5 Q5 hb5 H3 hea HEA
  have hng : ¬ New (fun b => b ≠ g7) w5 2 g7 := fun h => by
    rcases h with ⟨h, _⟩ | h
    · exact h rfl
    · omega
  go_upto_region 7 with (go_at_call 9; refine HE5.out.mono ?_; rintro e w6 ⟨v6, u6, rfl, P6, U6, hb6⟩; clear l5; dsimp only at P6; obtain ⟨w7, s6, hw7⟩ := pr_over (H5.out.2.1.over hb6) P6 hng; obtain ⟨Au, nu, Cu, rfl⟩ := U6.one'; dsimp only; have HW7 := hide (show _ ∧ _ from ⟨hb6, hw7⟩); clear hb6 hw7 P6 U6)
  have D7 := HW7.out.2.1
  have Q7 : PIn (fun b => b ≠ g7) w7 a v6 := HW7.out.2.2.1.mono fun b _ h => by
    rcases h with ⟨h, _⟩ | h
    · exact h
    · omega
  have K7 : CAt 49 w7 (w.heap.size + 1) _ := (H5.out.1.over HW7.out.1).keep (HW7.out.2.2.2.1 _ (by omega))
  have B7 := HW7.out.2.2.2.2 w.heap.size (by omega) w (H5.out.2.2.1.trans (HW7.out.1.mono H5.out.2.2.1.size))
  have l7 := pr_loadP D7 (prC_size _ _)
  have hlt7 := D7.lt
  have hlen : a.q.length * 88 ≤ 140737488351232 := by
    by_cases h : f = 0
    · have := (HA1.out.2 h).1; omega
    · rw [HAX.out h]; have := HA1.out.1; omega
  have hhx := HHX.out w7 v6 _ Q7 hlen
  have HX7 := hide hhx
  have H7 := hide (show _ ∧ _ ∧ _ ∧ _ from ⟨K7, D7, B7, Q7⟩)
  clear K7 D7 B7 Q7 HW7 H5 HE5 hhx HHX HAX HA1 hng s6 hlen
  go_upto_region 8 with (go_at_call 7; refine HX7.out.mono ?_; rintro e w8 ⟨v8, rfl, P8, hb8⟩; clear l7; dsimp only at P8; dsimp only; obtain ⟨w9, s8, D9, Q9, bS⟩ := pr_laid P8; have HL9 := hide (show _ ∧ _ ∧ _ ∧ _ from ⟨D9, Q9, bS, hb8⟩); clear D9 Q9 bS hb8 P8)
  have b9 := HL9.out.2.2.2.trans (HL9.out.2.2.1.mono HL9.out.2.2.2.size)
  have K9 := H7.out.1.over b9
  have A9 := H7.out.2.1.over b9
  have B9 := H7.out.2.2.1.trans (b9.mono H7.out.2.2.1.size)
  have D9 := HL9.out.1
  have Q9 := HL9.out.2.1
  have hg8 : g7 < w8.heap.size := Nat.lt_of_lt_of_le H7.out.2.1.lt HL9.out.2.2.2.size
  clear s8 b9 HL9 H7 HX7
  generalize w8.heap.size = g8 at *
  have hlt9 := D9.lt
  have hlt9' := A9.lt
  have H9 := hide (show _ ∧ _ ∧ _ ∧ _ ∧ _ from ⟨K9, A9, D9, B9, Q9⟩)
  have l9 := pr_loadP D9 (prC_size _ _)
  clear K9 A9 D9 B9 Q9
  rcases HLL.out.cf with rfl | rfl
  rotate_left
  · clear HLL HEB
    go_wp2
    go_ret
    exact ⟨rfl, H9.out.2.2.2.1⟩
  rcases HLL.out.cg rfl with rfl | rfl
  rotate_left
  · clear HLL HEB
    go_wp2
    go_ret
    exact ⟨rfl, H9.out.2.2.2.1⟩
  have heb := HEB.out rfl w9 v8 _ H9.out.2.2.2.2
  have HE9 := hide heb
  have hng : ¬ New (fun b => b ≠ g8) w9 2 g8 := fun h => by
    rcases h with ⟨h, _⟩ | h
    · exact h rfl
    · omega
  clear heb HEB
  go_upto_region 13 with (go_at_call 9; refine HE9.out.mono ?_; rintro e w10 ⟨v10, u10, rfl, P10, U10, hb10⟩; clear l9; dsimp only at P10; obtain ⟨w11, s10, hw11⟩ := pr_over (H9.out.2.2.1.over hb10) P10 hng; obtain ⟨Av, nv, Cv, rfl⟩ := U10.one'; dsimp only; have HW11 := hide (show _ ∧ _ from ⟨hb10, hw11⟩); clear hb10 hw11 P10 U10)
  have D11 := HW11.out.2.1
  have A11 : CAt 47 w11 g7 _ := (H9.out.2.1.over HW11.out.1).keep (HW11.out.2.2.2.1 _ (by omega))
  have K11 : CAt 49 w11 (w.heap.size + 1) _ := (H9.out.1.over HW11.out.1).keep (HW11.out.2.2.2.1 _ (by omega))
  have HB11 := hide (HW11.out.2.2.2.2 w.heap.size (by omega) w (H9.out.2.2.2.1.trans (HW11.out.1.mono H9.out.2.2.2.1.size)))
  have hvx : w11.cell? ⟨w.heap.size + 1, 2, none⟩ = some (.int .i64 (n : Int)) := by rw [← HNV.out]; exact K11.cell 2
  obtain ⟨a0', a1, a2, a3, a4⟩ := pr_val5 A11 hn6
  obtain ⟨d0, d1, d2, d3, d4⟩ := pr_val5 D11 hn6
  have hdead := HLL.out.dead rfl
  rw [hdead] at a4
  have hnn : (n : Int) < 6 := by omega
  have hnz : (0 : Int) ≤ (n : Int) := by omega
  rcases HLL.out.ch rfl rfl with rfl | ⟨rfl, hV⟩
  · clear HLL HW11 H9 HE9 A11 D11 K11 s10 hng hdead d0 d1 d2 d3 d4 a0' a1 a2 a3
    go_quiet (fail)
    go_wp2
    go_ret
    exact ⟨rfl, below_drewN HB11.out _⟩
  · rw [hV] at d0 d1 d2 d3 d4
    rw [hdead] at d4
    clear HLL HW11 H9 HE9 A11 D11 K11 s10 hng hdead hV
    generalize (a.s.V n).tok = t0 at *
    generalize (a.s.V n).sh = t1 at *
    generalize (a.s.V n).lost = t2 at *
    generalize (a.s.V n).jail = t3 at *
    go_quiet (fail)
    go_wp2
    go_ret
    exact ⟨rfl, below_drewN HB11.out _⟩
end Go.Proofs.YtjghbciepinofaaGreat.Pv

