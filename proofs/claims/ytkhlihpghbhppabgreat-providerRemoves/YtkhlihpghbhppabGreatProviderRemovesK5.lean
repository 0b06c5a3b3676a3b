/- Parts of the proof: PDC. -/
import Derived.Test.YtkhlihpghbhppabGreatRows
import Derived.Test.YtkhlihpghbhppabGreatProviderRemovesK30
import Derived.Test.YtkhlihpghbhppabGreatProviderRemovesK44
import Derived.Test.YtkhlihpghbhppabGreatProviderRemovesK50
set_option maxRecDepth 100000
namespace Go.Proofs.YtkhlihpghbhppabGreat.Pv
open Go.RowKit
/-- one element is put behind a list that has no room: a new block -/
theorem apR {P : Nat → Prop} (t e : TypeId) (i0 : TypeInfo) (z : Value) (hu : Tryz.prog.underlying t = some (.slice e)) (hi : Tryz.prog.info? e = some i0) (hz0 : i0.zero = some z) (w : World) (A : Option Addr) (n y bt : Nat) (cs news : List Value) (hr : Rep P w (.slice A n n) i0.size bt cs) (hb : n * i0.bytes ≤ 140737488351232) (hb1 : 0 < i0.bytes) (hb2 : i0.bytes ≤ 1000) (hl : news.length = i0.size) (hy : ∀ j v, news[j]? = some v → w.cell? ⟨y, j, none⟩ = some v) :
    ∃ C w', (Builtin.append_ #[t, t] t #[.slice A n n, .slice (some ⟨y, 0, none⟩) 1 1]).run Tryz.prog w = .ok (.slice (some ⟨w.heap.size, 0, none⟩) (n + 1) C) w' ∧ n + 1 ≤ C ∧ (∀ j u, (cs ++ news)[j]? = some u → w'.cell? ⟨w.heap.size, j, none⟩ = some u) ∧ Below w.heap.size w w' ∧ w.heap.size < w'.heap.size := by
  have hnews : ∀ j v, news[j]? = some v → w.cell? ((⟨y, 0, none⟩ : Addr).add j) = some v := fun j v hv => by rw [Addr.add_lit, Nat.zero_add]; exact hy j v hv
  have hn63 : n ≤ 140737488351232 := by
    have := Nat.le_mul_of_pos_right n hb1
    omega
  obtain ⟨A', n', C', h1, h2, h3, h4, h5⟩ := hr
  cases h1
  have new : ∀ (arr tail : Array Value), arr.toList = cs ++ news → ∀ j u, (cs ++ news)[j]? = some u → (w.drew.alloc (.cells (arr ++ tail) e)).cell? ⟨w.heap.size, j, none⟩ = some u := fun arr tail ha j u hj => by
    have hj' : arr[j]? = some u := by rw [← ha] at hj; simpa using hj
    have hlt := (Array.getElem?_eq_some_iff.1 hj').1
    have h : (w.drew.alloc (.cells (arr ++ tail) e)).heap[w.heap.size]? = some (.cells (arr ++ tail) e) := heap_alloc_new w.drew _
    simp only [World.cell?, h]
    rw [Array.getElem?_append_left hlt]
    simp [hj']
  cases A with
  | none =>
    have h0 : n = 0 := by
      rcases Nat.eq_zero_or_pos n with h | h
      · exact h
      · obtain ⟨b, off, e, _⟩ := h5 h; cases e
    subst h0
    have hc0 : cs = [] := List.length_eq_zero_iff.1 (by rw [h2, Nat.zero_mul])
    subst hc0
    refine ⟨_, _, run_append_nil (P := Tryz.prog) w t t e i0 z hu hi hz0 ⟨y, 0, none⟩ 1 1 news (by rw [hl, Nat.one_mul]) hnews (by omega) (by omega) (by omega), grownCap_ge _ _ _ _, ?_, (Below.refl _ w).drew.alloc (Nat.le_refl _) _, by simp⟩
    exact new _ _ (by simp)
  | some a =>
    have hold : ∀ j v, cs[j]? = some v → w.cell? (a.add j) = some v := fun j v hv => by
      have h0 : 0 < n := by
        rcases Nat.eq_zero_or_pos n with h | h
        · subst h
          have := (List.getElem?_eq_some_iff.1 hv).1
          rw [h2, Nat.zero_mul] at this
          omega
        · exact h
      obtain ⟨b, off, e, _, _, hc⟩ := h5 h0
      cases e
      rw [Addr.add_lit]
      exact hc j v hv
    have hcap : Builtin.nextslicecap (n + 1) n * i0.bytes ≤ 281474976710656 := by
      rcases Nat.eq_zero_or_pos n with rfl | hp
      · rw [nextslicecap_zero (by omega)]; omega
      · have := Nat.mul_le_mul_right i0.bytes (nextslicecap_succ hp)
        rw [Nat.mul_assoc] at this
        omega
    refine ⟨_, _, run_append_grow (P := Tryz.prog) w t t e i0 z hu hi hz0 a n n cs h2 hold ⟨y, 0, none⟩ 1 1 news (by rw [hl, Nat.one_mul]) hnews (by omega) (by omega) hcap, grownCap_ge _ _ _ _, ?_, (Below.refl _ w).drew.alloc (Nat.le_refl _) _, by simp⟩
    exact new _ _ (by simp)
theorem clipA_any (ao : Option Addr) (n c : Nat) (hn : n ≤ c) (h0 : ao = none → n = 0) (hc : (n : Int) < 4611686018427387904) (w : World) : Calls Tryz.prog 26 #[.slice ao n c] w fun e w' => e = .returned (.slice ao n n) ∧ w = w' := by
  have h1 : (n : Int) ≤ (c : Int) := by omega
  have h2 : (0 : Int) ≤ (n : Int) := by omega
  go_enter Tryz.func26, Tryz.ntmps26
  cases ao
  · obtain rfl := h0 rfl
    go_wp2
    go_ret
    exact ⟨rfl, rfl⟩
  · clear h0
    go_wp2
    go_ret
    exact ⟨rfl, rfl⟩
theorem Rep.clip {P : Nat → Prop} {w : World} {A : Option Addr} {n C sz bts : Nat} {cs : List Value} (h : Rep P w (.slice A n C) sz bts cs) : Rep P w (.slice A n n) sz bts cs := by
  obtain ⟨A', n', C', h1, h2, h3, h4, h5⟩ := h
  cases h1
  refine ⟨A, n, n, rfl, h2, h3, ⟨fun e => ?_, Nat.le_refl _⟩, h5⟩
  have := h4.1 e
  omega
theorem step_apA {P : Nat → Prop} {ops : Array Oper} {o : Oper} {a : Act} {w : World} {K : Act → World → Prop} {Q : Exit → Act → World → Prop} {E : Prop} (hg : o.guard = none) (hty : o.type = 45) (p q : Operand)
    (hop : o.op = Op.call { callee := Callee.builtin Builtin.append, args := #[p, q], argTypes := #[45, 45] }) (A : Option Addr) (n y bt : Nat) (cs news : List Value) (hs : a.eval p = .slice A n n) (hx : a.eval q = .slice (some ⟨y, 0, none⟩) 1 1)
    (hr : Rep P w (.slice A n n) 7 bt cs) (hb : n * 88 ≤ 140737488351232) (hl : news.length = 7) (hy : ∀ j v, news[j]? = some v → w.cell? ⟨y, j, none⟩ = some v)
    (hK : ∀ g C w', g = w.heap.size → n + 1 ≤ C → (∀ j u, (cs ++ news)[j]? = some u → w'.cell? ⟨g, j, none⟩ = some u) → Below w.heap.size w w' → g < w'.heap.size → K (a.put o.dst (.slice (some ⟨g, 0, none⟩) (n + 1) C)) w') :
    if Region.wanted o (yielded ops a.tmps) = true then Oper.wp Tryz.prog o a w K Q else E := by
  obtain ⟨i0, hi, hz0, hz1, hz2⟩ := info_parts infoAs
  have hw : Region.wanted o (yielded ops a.tmps) = true := by simp [Region.wanted, hg]
  rw [if_pos hw]
  unfold Oper.wp
  obtain ⟨C, w', hr, hC, hWs, hB, hlt⟩ := apR 45 57 i0 _ Tryz.underlying45 hi hz0 w A n y bt cs news (by rw [hz1]; exact hr) (by rw [hz2]; exact hb) (by rw [hz2]; omega) (by rw [hz2]; omega) (by rw [hz1]; exact hl) hy
  simp [execOp, hop, resolve, invoke, builtin, hs, hx, hty, hr, Result.andThen]
  exact hK _ _ _ rfl hC hWs hB hlt
/-- a queue with one more behind, in a new block -/
theorem QRep.app {P P' : Nat → Prop} {w w' : World} {q : List (Int × Pkt)} {z : List (Value × Value)} {x : Int × Pkt} {y : Value × Value} (hl : z.length = q.length) (hz : ∀ (i : Nat) (x : Int × Pkt) (y : Value × Value), q[i]? = some x → z[i]? = some y → Rep P w y.1 2 16 (pwC x.2.S) ∧ Rep P w y.2 1 8 (inC x.2.D)) (hP : ∀ b, b < w.heap.size → P b → P' b) (hb : Below w.heap.size w w') (hy : Rep P' w' y.1 2 16 (pwC x.2.S) ∧ Rep P' w' y.2 1 8 (inC x.2.D)) (hb88 : q.length * 88 ≤ 140737488351232) {g C : Nat} (hC : q.length + 1 ≤ C) (hg : P' g) (hlt : g < w'.heap.size) (hc : ∀ j u, (quL q z ++ akL x y)[j]? = some u → w'.cell? ⟨g, j, none⟩ = some u) : QRep P' w' (.slice (some ⟨g, 0, none⟩) (q.length + 1) C) (q ++ [x]) := by
  refine ⟨z ++ [y], by simp [hl], ⟨_, q.length + 1, C, rfl, ?_, by omega, ⟨fun h => (by cases h), hC⟩, fun _ => ⟨g, 0, rfl, hg, hlt, fun j u hu => ?_⟩⟩, fun i a b ha hb' => ?_⟩
  · rw [quL_length _ _ (by simp [hl])]; simp
  · rw [quL_app q z x y hl] at hu
    rw [Nat.zero_add]
    exact hc j u hu
  · by_cases hi : i < q.length
    · rw [List.getElem?_append_left hi] at ha
      rw [List.getElem?_append_left (by omega)] at hb'
      have := hz i a b ha hb'
      exact ⟨(this.1.mono hP).over hb, (this.2.mono hP).over hb⟩
    · rw [List.getElem?_append_right (by omega)] at ha hb'
      have e1 := (List.getElem?_eq_some_iff.1 ha).1
      have e2 : i - q.length = 0 := by simpa using e1
      rw [e2] at ha
      rw [hl, e2] at hb'
      cases ha
      cases hb'
      exact hy
theorem rep_empty {P : Nat → Prop} {w : World} {A : Option Addr} {C sz bts : Nat} (h : A = none → C = 0) : Rep P w (.slice A 0 C) sz bts [] := ⟨A, 0, C, rfl, by simp, by simp, ⟨h, Nat.zero_le _⟩, fun h => absurd h (by omega)⟩
/-- what a good packet is -/
theorem good_pkt {k i v n : Int} {S : List (Int × Int)} {D : List Int} (h : Cd.goodN k i v n S D = 0) : (1 ≤ k ∧ k ≤ 4) ∧ (1 ≤ i ∧ i ≤ 1099511627776) ∧ (k = 3 ∨ k = 4 → 0 ≤ v ∧ v < 6) ∧ (k ≠ 1 → S = [] ∧ D = []) := by
  unfold Cd.goodN at h
  by_cases h1 : k < 1 ∨ 4 < k
  · rw [if_pos h1] at h; exact absurd h (by decide)
  rw [if_neg h1] at h
  by_cases h2 : i < 1 ∨ 1099511627776 < i
  · rw [if_pos h2] at h; exact absurd h (by decide)
  rw [if_neg h2] at h
  by_cases h3 : Cd.accB k = true ∧ (Cd.isV v = false ∨ n < 1 ∨ 1125899906842624 < n)
  · rw [if_pos h3] at h; exact absurd h (by decide)
  rw [if_neg h3] at h
  by_cases h4 : Cd.forB k v n S.length D.length = true
  · rw [if_pos h4] at h; exact absurd h (by decide)
  refine ⟨by omega, by omega, fun hk => ?_, fun hk => ?_⟩
  · have ha : Cd.accB k = true := by
      unfold Cd.accB
      rcases hk with rfl | rfl <;> rfl
    by_cases hv : Cd.isV v = false
    · exact absurd ⟨ha, .inl hv⟩ h3
    · unfold Cd.isV at hv; simpa using hv
  · have h5 : (k != 1 && ((S.length : Int) != 0 || (D.length : Int) != 0)) = false := by
      have : Cd.forB k v n S.length D.length = false := by simpa using h4
      unfold Cd.forB at this
      simp only [Bool.or_eq_false_iff] at this
      simpa using this.2
    have hk' : (k != 1) = true := by simpa using hk
    rw [hk', Bool.true_and, Bool.or_eq_false_iff] at h5
    have e1 : S.length = 0 := by have := h5.1; simp at this; simp [this]
    have e2 : D.length = 0 := by have := h5.2; simp at this; simp [this]
    exact ⟨List.length_eq_zero_iff.1 e1, List.length_eq_zero_iff.1 e2⟩
theorem ak_new (w : World) (x : Int × Pkt) (y : Value × Value) (j : Nat) (v : Value) (hj : (akL x y)[j]? = some v) : (w.alloc (.cells #[.int .i64 x.1, .int .i64 x.2.k, .int .i64 x.2.i, .int .i64 x.2.v, .int .i64 x.2.n, y.1, y.2] 57)).drew.cell? ⟨w.heap.size, j, none⟩ = some v := by
  have h := ((CAt.new 57 w #[.int .i64 x.1, .int .i64 x.2.k, .int .i64 x.2.i, .int .i64 x.2.v, .int .i64 x.2.n, y.1, y.2]).over (Below.refl _ _).drew).cell j
  rw [h]
  simpa [akL] using hj
attribute [local go_sem ↓] loadS_eq loadP_eq storeP_eq storeS_eq
set_option maxHeartbeats 8000000 in
theorem phear_any (p : Pr) (v : PrV) (P : Nat → Prop) (w : World) (c : Int) (s : ByteArray) (hp : PIn P w p v) (hs : s.size ≤ maxLen) (hq88 : p.q.length * 88 ≤ 140737488351232) :
    Calls Tryz.prog 9 #[.agg (prC p v), .int .i64 c, .string s] w (AnsP P w (hearP p c (Cd.bs s))) := by
  have hD : hearP p c (Cd.bs s) = if goodP p = true then if isOn p c = true then if Cd.decE (Cd.bs s) = 0 then if (pktOf (Cd.bs s)).k = 1 then (p, 3) else ({ p with q := p.q ++ [(c, pktOf (Cd.bs s))] }, 0) else (p, Cd.decE (Cd.bs s)) else (p, 4) else (p, 2) := by unfold hearP; rfl
  have hpk : pktOf (Cd.bs s) = ⟨(Cd.decP (Cd.bs s)).1, (Cd.decP (Cd.bs s)).2.1, (Cd.decP (Cd.bs s)).2.2.1, (Cd.decP (Cd.bs s)).2.2.2.1, (Cd.decP (Cd.bs s)).2.2.2.2.1, (Cd.decP (Cd.bs s)).2.2.2.2.2⟩ := by unfold pktOf; rfl
  rw [hpk] at hD
  have HDC := hide (fun (wx : World) => Cd.decode_any s wx hs)
  have HQ88 := hide hq88
  clear hs hq88
  have HRD : Hid (Cd.decE (Cd.bs s) = 0 → Cd.goodN (Cd.decP (Cd.bs s)).1 (Cd.decP (Cd.bs s)).2.1 (Cd.decP (Cd.bs s)).2.2.1 (Cd.decP (Cd.bs s)).2.2.2.1 (Cd.decP (Cd.bs s)).2.2.2.2.1 (Cd.decP (Cd.bs s)).2.2.2.2.2 = 0) := fun h => (Cd.decE_read (Cd.bs_byte s) h).1
  clear hpk
  generalize hearP p c (Cd.bs s) = D at *
  generalize Cd.decE (Cd.bs s) = E at *
  generalize Cd.decP (Cd.bs s) = R at *
  obtain ⟨k, i, vv, nn, S, Dn⟩ := R
  dsimp only at hD HDC HRD
  have HD := hide hD
  clear hD
  have hone := pr_one hp
  have HGD := hide (fun (wx : World) (hb : Below w.heap.size w wx) => pgood_any p v P wx (hp.over hb))
  have HN := hide (fun (wx : World) (hb : Below w.heap.size w wx) => hp.ofNew hb 2)
  have HP := hide hp
  clear hp
  generalize goodP p = G at *
  go_enter Tryz.func9, Tryz.ntmps9
  go_upto_region 1 with fail
  change Code.wp Tryz.prog _ _ _ ((w.alloc (.cells (prC p v) 47)).alloc (.cells Tryz.zeroCells47 47))
  have C0 : CAt 47 ((w.alloc (.cells (prC p v) 47)).alloc (.cells Tryz.zeroCells47 47)) w.heap.size (prC p v) := (CAt.new _ w _).alloc _
  have R0 : CAt 47 ((w.alloc (.cells (prC p v) 47)).alloc (.cells Tryz.zeroCells47 47)) (w.heap.size + 1) Tryz.zeroCells47 := CAt.new2 _ w _ _
  have B0 : Below w.heap.size w ((w.alloc (.cells (prC p v) 47)).alloc (.cells Tryz.zeroCells47 47)) := ((Below.refl _ w).alloc (Nat.le_refl _) _).alloc (by simp) _
  generalize (w.alloc (.cells (prC p v) 47)).alloc (.cells Tryz.zeroCells47 47) = w0 at *
  have l0 := pr_loadP C0 (prC_size _ _)
  have H0 := hide (show _ ∧ _ ∧ _ from ⟨C0, R0, B0⟩)
  clear C0 R0 B0
  have HV : Hid (∀ er, D = (p, er) → ∀ (f : Func) (act : Act) (wq : World), CAt 47 wq (w.heap.size + 1) Tryz.zeroCells47 → Below w.heap.size w wq → f.results = #[.cell 6 47, .tmp 7] → act.tmps.getD 6 undef = .pointer (some ⟨w.heap.size + 1, 0, none⟩) → act.tmps.getD 7 undef = .int .i64 er → act.defers = [] → bodyPost Tryz.prog f (AnsP P w D) Exit.ret act (wq.setCells (w.heap.size + 1) 0 (prC p v).toList)) := fun er he f act wq R B h1 h2 h3 h4 => prov_end2 h1 R Z97_size B p v er D he (HN.out _ B) act h2 h3 h4
  cases G
  · have HR := hide (HD.out.trans (if_neg (by simp)))
    clear HD
    go_upto_region 2 with (go_at_call 6; refine (HGD.out _ H0.out.2.2).mono ?_; rintro e w1 ⟨rfl, hb1⟩; clear l0)
    have R1 := H0.out.2.1.over hb1
    have l1 := pr_loadP (H0.out.1.over hb1) (prC_size _ _)
    have s1 := pr_storeP R1 Z97_size (prC_size p v) hone
    have B1 := H0.out.2.2.trans (hb1.mono H0.out.2.2.size)
    have HZ := hide (show _ ∧ _ from ⟨R1, B1⟩)
    clear R1 B1 hb1 hone
    go_wp2
    exact HV.out 2 HR.out _ _ _ HZ.out.1 HZ.out.2 Tryz.results9 rfl rfl rfl
  · have HR := hide (HD.out.trans (if_pos rfl))
    clear HD
    go_upto_region 3 with (go_at_call 6; refine (HGD.out _ H0.out.2.2).mono ?_; rintro e w1 ⟨rfl, hb1⟩; clear l0)
    have C1 := H0.out.1.over hb1
    have R1 := H0.out.2.1.over hb1
    have B1 := H0.out.2.2.trans (hb1.mono H0.out.2.2.size)
    have l1 := pr_loadP C1 (prC_size _ _)
    have s1 := pr_storeP R1 Z97_size (prC_size p v) hone
    have HON := hide (pison_any w.heap.size p v c w1 C1)
    have H1 := hide (show _ ∧ _ ∧ _ from ⟨C1, R1, B1⟩)
    clear C1 R1 B1 hb1 H0 HGD
    generalize isOn p c = io at *
    cases io
    · replace HR := hide (HR.out.trans (if_neg (by simp)))
      go_wp2_with (go_at_call 12; refine HON.out.mono ?_; rintro e w' ⟨rfl, rfl⟩)
      exact HV.out 4 HR.out _ _ _ H1.out.2.1 H1.out.2.2 Tryz.results9 rfl rfl rfl
    · replace HR := hide (HR.out.trans (if_pos rfl))
      go_upto_region 6 with (first
        | (go_at_call 12; refine HON.out.mono ?_; rintro e w' ⟨rfl, rfl⟩)
        | (go_at_call 25; refine (HDC.out _).mono ?_; rintro e w2 ⟨sa, da, cs, cd, sb, so, db, dO, rfl, hL, hRm, hb2⟩))
      have C3 := (H1.out.1.over hb2).alloc (.cells #[.int .i64 k, .int .i64 i, .int .i64 vv, .int .i64 nn, .slice sa S.length cs, .slice da Dn.length cd] 55)
      have R3 := (H1.out.2.1.over hb2).alloc (.cells #[.int .i64 k, .int .i64 i, .int .i64 vv, .int .i64 nn, .slice sa S.length cs, .slice da Dn.length cd] 55)
      have B3 := (H1.out.2.2.trans (hb2.mono H1.out.2.2.size)).alloc (Nat.le_trans H1.out.2.2.size hb2.size) (.cells #[.int .i64 k, .int .i64 i, .int .i64 vv, .int .i64 nn, .slice sa S.length cs, .slice da Dn.length cd] 55)
      have K3 := CAt.new 55 w2 #[.int .i64 k, .int .i64 i, .int .i64 vv, .int .i64 nn, .slice sa S.length cs, .slice da Dn.length cd]
      have hk2 : w.heap.size + 1 < w2.heap.size := (H1.out.2.1.over hb2).lt
      clear l1 s1 hb2 hL HON HDC
      generalize w2.alloc (.cells #[.int .i64 k, .int .i64 i, .int .i64 vv, .int .i64 nn, .slice sa S.length cs, .slice da Dn.length cd] 55) = w3 at *
      have hk3 : w2.heap.size < w3.heap.size := K3.lt
      by_cases hE : E = 0
      · subst hE
        have hgp := good_pkt (HRD.out rfl)
        replace HR := hide (HR.out.trans (if_pos rfl))
        have k0 : w3.cell? ⟨w2.heap.size, 0, none⟩ = some (.int .i64 k) := K3.cell 0
        by_cases hk : k = 1
        · subst hk
          replace HR := hide (HR.out.trans (if_pos rfl))
          have l3 := pr_loadP C3 (prC_size _ _)
          have s3 := pr_storeP R3 Z97_size (prC_size p v) hone
          have HZ := hide (show _ ∧ _ from ⟨R3, B3⟩)
          clear C3 R3 B3 K3 hone
          go_wp2
          exact HV.out 3 HR.out _ _ _ HZ.out.1 HZ.out.2 Tryz.results9 rfl rfl rfl
        · obtain ⟨eS, eD⟩ := hgp.2.2.2 hk
          subst eS eD
          replace HR := hide (HR.out.trans (if_neg hk))
          have hkb : (k == 1) = false := by simpa using hk
          obtain ⟨z, hzl, hzr, hzi⟩ := HP.out.q
          obtain ⟨Aq, Cq, eq, -, hq0, -, -⟩ := hzr.open (quL_length _ _ hzl) (by decide)
          have hroom := (hzr.room eq).1
          have HQR : Hid (∀ wx, Below w.heap.size w wx → Rep P wx (.slice Aq p.q.length p.q.length) 7 80 (quL p.q z)) := fun wx hb => by
            rw [eq] at hzr
            exact (hzr.over hb).clip
          have HZI := hide (show _ ∧ _ from ⟨hzl, hzi⟩)
          have hnil : Aq = none → p.q.length = 0 := fun h => (hq0 h).1
          have hlen : (p.q.length : Int) < 4611686018427387904 := by have := HQ88.out; omega
          have a96 : w3.cell? ⟨w.heap.size, 96, none⟩ = some (.slice Aq p.q.length Cq) := by rw [← eq]; exact C3.cell 96
          have k1 : w3.cell? ⟨w2.heap.size, 1, none⟩ = some (.int .i64 i) := K3.cell 1
          have k2 : w3.cell? ⟨w2.heap.size, 2, none⟩ = some (.int .i64 vv) := K3.cell 2
          have k3 : w3.cell? ⟨w2.heap.size, 3, none⟩ = some (.int .i64 nn) := K3.cell 3
          have k4 : w3.cell? ⟨w2.heap.size, 4, none⟩ = some (.slice sa 0 cs) := K3.cell 4
          have k5 : w3.cell? ⟨w2.heap.size, 5, none⟩ = some (.slice da 0 cd) := K3.cell 5
          have H3 := hide (show _ ∧ _ ∧ _ from ⟨C3, R3, B3⟩)
          have hgz : w.heap.size < w3.heap.size := C3.lt
          have HRM := hide hRm
          clear hzl hzr hzi hq0 C3 R3 B3 K3 hRm hgp HRD HV hone
          go_upto_region 10 with fail
          go_region_law (first
            | (refine step_wanted rfl ?_; go_simp; go_at_call 26; refine (clipA_any Aq p.q.length Cq hroom hnil hlen _).mono ?_; rintro e we ⟨rfl, rfl⟩)
            | (refine step_apA rfl rfl _ _ rfl Aq p.q.length _ 80 (quL p.q z) (akL (c, ⟨k, i, vv, nn, [], []⟩) (.slice sa 0 cs, .slice da 0 cd)) rfl rfl (HQR.out _ (by exact (H3.out.2.2.alloc H3.out.2.2.size _).drew)) HQ88.out rfl (fun j v hj => ak_new w3 (c, ⟨k, i, vv, nn, [], []⟩) (.slice sa 0 cs, .slice da 0 cd) j v hj) ?_; intro g C w9 hgq hC9 hcl9 hB9 hlt9; have C9 := ((H3.out.1.alloc (.cells #[.int .i64 c, .int .i64 k, .int .i64 i, .int .i64 vv, .int .i64 nn, .slice sa 0 cs, .slice da 0 cd] 57)).over (Below.refl _ _).drew).over hB9; have z96 : w9.cell? ⟨w.heap.size, 96, none⟩ = some v.q := C9.cell 96; have f96 := C9.free 96; have hz9 := C9.lt; have HX := hide (show _ ∧ _ ∧ _ ∧ _ ∧ _ from ⟨hgq, hC9, hcl9, hB9, hlt9⟩); have HC9 := hide C9; clear C9 hgq hC9 hcl9 hB9 hlt9))
          all_goals
            obtain ⟨hgq, hC9, hcl9, hB9, hlt9⟩ := HX.out
            have hgg : g = w3.heap.size + 1 := by rw [hgq]; show (w3.alloc _).heap.size = _; simp
            have bX : Below w3.heap.size w3 (w3.alloc (.cells #[.int .i64 c, .int .i64 k, .int .i64 i, .int .i64 vv, .int .i64 nn, .slice sa 0 cs, .slice da 0 cd] 57)).drew := ((Below.refl _ w3).alloc (Nat.le_refl _) _).drew
            have bY := bX.trans (hB9.mono bX.size)
            have C10 := HC9.out.set 96 (.slice (some ⟨g, 0, none⟩) (p.q.length + 1) C)
            have R10 := (H3.out.2.1.over bY).other (c := w.heap.size) (o := 96) (by omega) (.slice (some ⟨g, 0, none⟩) (p.q.length + 1) C)
            have B9 := H3.out.2.2.trans (bY.mono H3.out.2.2.size)
            have B10 := B9.setCell (p := ⟨w.heap.size, 96, none⟩) (Nat.le_refl _) (.slice (some ⟨g, 0, none⟩) (p.q.length + 1) C)
            have N10 : PIn (New P w 2) (w9.setCell ⟨w.heap.size, 96, none⟩ (.slice (some ⟨g, 0, none⟩) (p.q.length + 1) C)) { p with q := p.q ++ [(c, ⟨k, i, vv, nn, [], []⟩)] } { v with q := .slice (some ⟨g, 0, none⟩) (p.q.length + 1) C } := by
              have n9 := HN.out _ B10
              refine ⟨n9.ws, n9.set, n9.lk, QRep.app (P := P) (w := w) (y := (.slice sa 0 cs, .slice da 0 cd)) HZI.out.1 HZI.out.2 (fun b hb hp => .inl ⟨hp, hb⟩) B10 ⟨rep_empty HRM.out.1.1, rep_empty HRM.out.2.1⟩ HQ88.out hC9 (.inr (by omega)) (by simpa [World.setCell] using hlt9) (fun j u hu => ?_)⟩
              rw [World.cell?_of_block (w := w9) (a := ⟨g, j, none⟩) (Below.heap_setCell w9 ⟨w.heap.size, 96, none⟩ _ g (by show g ≠ w.heap.size; omega))]
              exact hcl9 j u hu
            have one10 := pr_one N10
            change (prC p { v with q := .slice (some ⟨g, 0, none⟩) (p.q.length + 1) C }).all _ = true at one10
            have l10 := pr_loadP C10 (by simp [prC_size])
            rw [pr_q] at l10
            have s10 := pr_storeP R10 Z97_size (prC_size p { v with q := .slice (some ⟨g, 0, none⟩) (p.q.length + 1) C }) one10
            have HZ := hide (show _ ∧ _ ∧ _ from ⟨R10, B10, N10⟩)
            clear C10 R10 B10 B9 N10 bX bY hcl9 hB9 hlt9 hC9 hgg hgq HX HC9 H3 HQR HZI z96 f96 hz9
            generalize w9.setCell ⟨w.heap.size, 96, none⟩ (.slice (some ⟨g, 0, none⟩) (p.q.length + 1) C) = w10 at *
            simp only [Exit.then]
            apply_assumption
            go_wp2
            exact prov_end2 Tryz.results9 HZ.out.1 Z97_size HZ.out.2.1 { p with q := p.q ++ [(c, ⟨k, i, vv, nn, [], []⟩)] } _ 0 D HR.out HZ.out.2.2 _ rfl rfl rfl
      · replace HR := hide (HR.out.trans (if_neg hE))
        have l3 := pr_loadP C3 (prC_size _ _)
        have s3 := pr_storeP R3 Z97_size (prC_size p v) hone
        have heb : (E != 0) = true := by simpa using hE
        have HZ := hide (show _ ∧ _ from ⟨R3, B3⟩)
        clear C3 R3 B3 K3 hone
        go_wp2
        exact HV.out E HR.out _ _ _ HZ.out.1 HZ.out.2 Tryz.results9 rfl rfl rfl
end Go.Proofs.YtkhlihpghbhppabGreat.Pv

