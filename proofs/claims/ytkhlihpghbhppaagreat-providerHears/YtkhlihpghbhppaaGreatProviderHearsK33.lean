/- Parts of the proof: PRH OS1. -/
import Derived.Test.YtkhlihpghbhppaaGreatRows
import Derived.Test.YtkhlihpghbhppaaGreatProviderHearsK18
import Derived.Test.YtkhlihpghbhppaaGreatProviderHearsK19
import Derived.Test.YtkhlihpghbhppaaGreatProviderHearsK39
import Derived.Test.YtkhlihpghbhppaaGreatProviderHearsK41
import Derived.WalkKit
import Derived.ProofKit
import Derived.OpenShut
import Derived.Deep.Slices
import Derived.SizedLaws
import Derived.Laws.IdiomArrays
set_option maxRecDepth 100000
namespace Go.Proofs.YtkhlihpghbhppaaGreat.Pv
open Go.RowKit
theorem QRep.app2 {P' : Nat → Prop} {w' : World} {q : List (Int × Pkt)} {z : List (Value × Value)} {x : Int × Pkt} {y : Value × Value} (hl : z.length = q.length) (hz : ∀ (i : Nat) (x : Int × Pkt) (y : Value × Value), q[i]? = some x → z[i]? = some y → Rep P' w' y.1 2 16 (pwC x.2.S) ∧ Rep P' w' y.2 1 8 (inC x.2.D)) (hy : Rep P' w' y.1 2 16 (pwC x.2.S) ∧ Rep P' w' y.2 1 8 (inC x.2.D)) {v : Value} (hr : Rep P' w' v 7 80 (quL q z ++ akL x y)) : QRep P' w' v (q ++ [x]) := by
  refine ⟨z ++ [y], by simp [hl], by rw [quL_app q z x y hl]; exact hr, fun i a b ha hb' => ?_⟩
  by_cases hi : i < q.length
  · rw [List.getElem?_append_left hi] at ha
    rw [List.getElem?_append_left (by omega)] at hb'
    exact hz i a b ha hb'
  · rw [List.getElem?_append_right (by omega)] at ha hb'
    have e1 := (List.getElem?_eq_some_iff.1 ha).1
    have e2 : i - q.length = 0 := by simpa using e1
    rw [e2] at ha
    rw [hl, e2] at hb'
    cases ha
    cases hb'
    exact hy
theorem wpList_lies {ops : Array Oper} {rest : List Oper} {o : Oper} {a : Act} {w : World} {Q : Exit → Act → World → Prop} (hgd : o.guard = none) (s x : Operand) (t : TypeId)
    (ho : o.op = .call { callee := .builtin .append, args := #[s, x], argTypes := #[t, t] })
    (base : Nat) (e : TypeId) (i : TypeInfo) (z : Value) (size bytes : Nat) (ht : Tryz.prog.underlying t = some (.slice e)) (hi : Tryz.prog.info? e = some i) (hz : i.zero = some z)
    (hsize : i.size = size) (hby : i.bytes = bytes) (hzs : z.cells.size = size) (hsz : 0 < size)
    (v : Value) (n : Nat) (xs : List Value) (hs : a.eval s = v) (hown : w.ownsRow base e size v n xs)
    (ad : Addr) (m c : Nat) (news : List Value) (hx : a.eval x = .slice (some ad) m c) (hl : news.length = m * size) (hnews : ∀ j u, news[j]? = some u → w.cell? (ad.add j) = some u) (h1 : ∀ u ∈ news, u.oneCell' = true)
    (hm : 0 < m) (h63 : n + m ≤ maxLen) (hbytes : (n + m) * bytes ≤ 140737488355328) (hbase : base ≤ w.heap.size)
    (h : ∀ g cap w', w'.ownsRow base e size (.slice (some ⟨g, 0, none⟩) (n + m) cap) (n + m) (xs ++ news) → w.grownBy w' v.ownBlock → (v.ownBlock = some g ∨ g = w.heap.size) → g < w'.heap.size → wpList Tryz.prog ops Q rest (a.put o.dst (.slice (some ⟨g, 0, none⟩) (n + m) cap)) w') : wpList Tryz.prog ops Q (o :: rest) a w := by
  refine wpList_plain hgd fun K hK' => ?_
  have := step_append_lies (P := Tryz.prog) (ops := ops) (o := o) (a := a) (w := w) (K := K) (Q := Q) (E := False) hgd s x t ho base e i z size bytes ht hi hz hsize hby hzs hsz v n xs hs hown ad m c news hx hl hnews h1 hm h63 hbytes hbase w.heap.size rfl (fun g cap w' r1 r2 r3 r4 => hK' _ _ (h g cap w' r1 r2 r3 r4))
  have hw : Region.wanted o (yielded ops a.tmps) = true := by simp [Region.wanted, hgd]
  rwa [if_pos hw] at this
theorem ak_cell (w : World) (x : Int × Pkt) (y : Value × Value) (j : Nat) (v : Value) (hj : (akL x y)[j]? = some v) : (w.alloc (.cells #[.int .i64 x.1, .int .i64 x.2.k, .int .i64 x.2.i, .int .i64 x.2.v, .int .i64 x.2.n, y.1, y.2] 82)).cell? ((⟨w.heap.size, 0, none⟩ : Addr).add j) = some v := by
  rw [Addr.add_lit, Nat.zero_add, (CAt.new 82 w #[.int .i64 x.1, .int .i64 x.2.k, .int .i64 x.2.i, .int .i64 x.2.v, .int .i64 x.2.n, y.1, y.2]).cell j]
  simpa [akL] using hj
attribute [local go_sem ↓] loadS_eq loadP_eq storeP_eq storeS_eq
set_option maxHeartbeats 8000000 in
theorem rhear_any (p : Pr) (v : PrV) (P : Nat → Prop) (w : World) (c : Int) (s : ByteArray) (hp : PIn P w p v) (hs : s.size ≤ maxLen) (hq88 : p.q.length * 88 ≤ 140737488351232) :
    Calls Tryz.prog 25 #[.agg (prC p v), .int .i64 c, .string s] w (AnsP P w (hearP p c (Cd.bs s))) := by
  have hD : hearP p c (Cd.bs s) = if goodP p = true then if isOn p c = true then if Cd.decE (Cd.bs s) = 0 then if (pktOf (Cd.bs s)).k = 1 then (p, 3) else ({ p with q := p.q ++ [(c, pktOf (Cd.bs s))] }, 0) else (p, Cd.decE (Cd.bs s)) else (p, 4) else (p, 2) := by unfold hearP; rfl
  have hpk : pktOf (Cd.bs s) = ⟨(Cd.decP (Cd.bs s)).1, (Cd.decP (Cd.bs s)).2.1, (Cd.decP (Cd.bs s)).2.2.1, (Cd.decP (Cd.bs s)).2.2.2.1, (Cd.decP (Cd.bs s)).2.2.2.2.1, (Cd.decP (Cd.bs s)).2.2.2.2.2⟩ := by unfold pktOf; rfl
  rw [hpk] at hD
  have HDC := hide (fun (wx : World) => Cd.dp_any s wx hs)
  have HQ88 := hide hq88
  clear hs hq88
  have HRD : Hid (Cd.decE (Cd.bs s) = 0 → Cd.goodN (Cd.decP (Cd.bs s)).1 (Cd.decP (Cd.bs s)).2.1 (Cd.decP (Cd.bs s)).2.2.1 (Cd.decP (Cd.bs s)).2.2.2.1 (Cd.decP (Cd.bs s)).2.2.2.2.1 (Cd.decP (Cd.bs s)).2.2.2.2.2 = 0) := fun h => (Cd.decE_read (Cd.bs_byte s) h).1
  clear hpk
  generalize hearP p c (Cd.bs s) = D at *
  generalize Cd.decE (Cd.bs s) = E at *
  generalize Cd.decP (Cd.bs s) = R at *
  obtain ⟨k, i, vv, nn, S, Dn⟩ := R
  dsimp only at hD HDC HRD
  have HD := hide hD
  clear hD
  have hone := pr_one hp
  have HGD := hide (fun (wx : World) (hb : Below w.heap.size w wx) => goodp_any p v P wx (hp.over hb))
  have HN := hide (fun (wx : World) (hb : Below w.heap.size w wx) => hp.ofNew hb 2)
  have HP := hide hp
  clear hp
  generalize goodP p = G at *
  go_enter Tryz.func25, Tryz.ntmps25
  go_upto_region 1 with fail
  change Code.wp Tryz.prog _ _ _ ((w.alloc (.cells (prC p v) 47)).alloc (.cells Tryz.zeroCells47 47))
  have C0 : CAt 47 ((w.alloc (.cells (prC p v) 47)).alloc (.cells Tryz.zeroCells47 47)) w.heap.size (prC p v) := (CAt.new _ w _).alloc _
  have R0 : CAt 47 ((w.alloc (.cells (prC p v) 47)).alloc (.cells Tryz.zeroCells47 47)) (w.heap.size + 1) Tryz.zeroCells47 := CAt.new2 _ w _ _
  have B0 : Below w.heap.size w ((w.alloc (.cells (prC p v) 47)).alloc (.cells Tryz.zeroCells47 47)) := ((Below.refl _ w).alloc (Nat.le_refl _) _).alloc (by simp) _
  generalize (w.alloc (.cells (prC p v) 47)).alloc (.cells Tryz.zeroCells47 47) = w0 at *
  have l0 := pr_loadP C0 (prC_size _ _)
  have H0 := hide (show _ ∧ _ ∧ _ from ⟨C0, R0, B0⟩)
  clear C0 R0 B0
  have HV : Hid (∀ er, D = (p, er) → ∀ (f : Func) (act : Act) (wq : World), CAt 47 wq (w.heap.size + 1) Tryz.zeroCells47 → Below w.heap.size w wq → f.results = #[.cell 6 47, .tmp 7] → act.tmps.getD 6 undef = .pointer (some ⟨w.heap.size + 1, 0, none⟩) → act.tmps.getD 7 undef = .int .i64 er → act.defers = [] → bodyPost Tryz.prog f (AnsP P w D) Exit.ret act (wq.setCells (w.heap.size + 1) 0 (prC p v).toList)) := fun er he f act wq R B h1 h2 h3 h4 => prov_end2 h1 R Z97_size B p v er D he (HN.out _ B) act h2 h3 h4
  cases G
  · have HR := hide (HD.out.trans (if_neg (by simp)))
    clear HD
    go_upto_region 2 with (go_at_call 14; refine (HGD.out _ H0.out.2.2).mono ?_; rintro e w1 ⟨rfl, hb1⟩; clear l0)
    have R1 := H0.out.2.1.over hb1
    have l1 := pr_loadP (H0.out.1.over hb1) (prC_size _ _)
    have s1 := pr_storeP R1 Z97_size (prC_size p v) hone
    have B1 := H0.out.2.2.trans (hb1.mono H0.out.2.2.size)
    have HZ := hide (show _ ∧ _ from ⟨R1, B1⟩)
    clear R1 B1 hb1 hone
    go_wp2
    exact HV.out 2 HR.out _ _ _ HZ.out.1 HZ.out.2 Tryz.results25 rfl rfl rfl
  · have HR := hide (HD.out.trans (if_pos rfl))
    clear HD
    go_upto_region 3 with (go_at_call 14; refine (HGD.out _ H0.out.2.2).mono ?_; rintro e w1 ⟨rfl, hb1⟩; clear l0)
    have C1 := H0.out.1.over hb1
    have R1 := H0.out.2.1.over hb1
    have B1 := H0.out.2.2.trans (hb1.mono H0.out.2.2.size)
    have l1 := pr_loadP C1 (prC_size _ _)
    have s1 := pr_storeP R1 Z97_size (prC_size p v) hone
    have H1 := hide (show _ ∧ _ ∧ _ from ⟨C1, R1, B1⟩)
    clear C1 R1 B1 hb1 H0 HGD
    have hio : isOn p c = (isC c && (p.L c.toNat).on) := rfl
    have hcs : (c < 0 ∨ (0 ≤ c ∧ 1 < c)) ∨ ∃ m : Nat, c = (m : Int) ∧ m < 2 := by
      by_cases h0 : 0 ≤ c ∧ c ≤ 1
      · exact .inr ⟨c.toNat, by omega, by omega⟩
      · exact .inl (by omega)
    rcases hcs with hcs | ⟨m, rfl, hm⟩
    · have hf : isOn p c = false := by
        rw [hio]
        have : isC c = false := by unfold isC; simp; omega
        rw [this, Bool.false_and]
      replace HR := hide (HR.out.trans (if_neg (by rw [hf]; simp)))
      clear hio hf
      rcases hcs with h1 | ⟨h1, h2⟩
      all_goals
        go_wp2
        exact HV.out 4 HR.out _ _ _ H1.out.2.1 H1.out.2.2 Tryz.results25 rfl rfl rfl
    rw [isC_at hm, Bool.true_and, Int.toNat_natCast] at hio
    have o1 : w1.cell? ⟨w.heap.size, 66 + m * 14, none⟩ = some (.bool (p.L m).on) := (CAt.lk H1.out.1 hm).facts.1
    have m0 : (0 : Int) ≤ (m : Int) := by omega
    have m1 : (m : Int) ≤ 1 := by omega
    have m2 : (m : Int) < 2 := by omega
    rw [hio] at HR
    clear hio
    generalize (p.L m).on = io at *
    cases io
    · replace HR := hide (HR.out.trans (if_neg (by simp)))
      go_wp2
      exact HV.out 4 HR.out _ _ _ H1.out.2.1 H1.out.2.2 Tryz.results25 rfl rfl rfl
    · replace HR := hide (HR.out.trans (if_pos rfl))
      go_upto_region 6 with (go_at_call 70; refine (HDC.out _).mono ?_; rintro e w2 ⟨sa, da, cs, cd, sb, so, db, dO, rfl, hL, hRm, hb2⟩)
      clear o1
      have C3 := (H1.out.1.over hb2).alloc (.cells #[.int .i64 k, .int .i64 i, .int .i64 vv, .int .i64 nn, .slice sa S.length cs, .slice da Dn.length cd] 72)
      have R3 := (H1.out.2.1.over hb2).alloc (.cells #[.int .i64 k, .int .i64 i, .int .i64 vv, .int .i64 nn, .slice sa S.length cs, .slice da Dn.length cd] 72)
      have B3 := (H1.out.2.2.trans (hb2.mono H1.out.2.2.size)).alloc (Nat.le_trans H1.out.2.2.size hb2.size) (.cells #[.int .i64 k, .int .i64 i, .int .i64 vv, .int .i64 nn, .slice sa S.length cs, .slice da Dn.length cd] 72)
      have K3 := CAt.new 72 w2 #[.int .i64 k, .int .i64 i, .int .i64 vv, .int .i64 nn, .slice sa S.length cs, .slice da Dn.length cd]
      have hk2 : w.heap.size + 1 < w2.heap.size := (H1.out.2.1.over hb2).lt
      clear l1 s1 hb2 hL HDC
      generalize w2.alloc (.cells #[.int .i64 k, .int .i64 i, .int .i64 vv, .int .i64 nn, .slice sa S.length cs, .slice da Dn.length cd] 72) = w3 at *
      have hk3 : w2.heap.size < w3.heap.size := K3.lt
      by_cases hE : E = 0
      · subst hE
        have hgp := good_pkt (HRD.out rfl)
        replace HR := hide (HR.out.trans (if_pos rfl))
        have k0 : w3.cell? ⟨w2.heap.size, 0, none⟩ = some (.int .i64 k) := K3.cell 0
        by_cases hk : k = 1
        · subst hk
          replace HR := hide (HR.out.trans (if_pos rfl))
          have l3 := pr_loadP C3 (prC_size _ _)
          have s3 := pr_storeP R3 Z97_size (prC_size p v) hone
          have HZ := hide (show _ ∧ _ from ⟨R3, B3⟩)
          clear C3 R3 B3 K3 hone
          go_wp2
          exact HV.out 3 HR.out _ _ _ HZ.out.1 HZ.out.2 Tryz.results25 rfl rfl rfl
        · obtain ⟨eS, eD⟩ := hgp.2.2.2 hk
          subst eS eD
          replace HR := hide (HR.out.trans (if_neg hk))
          have hkb : (k == 1) = false := by simpa using hk
          have l3 := pr_loadP C3 (prC_size _ _)
          have HCP := hide (copyp_any p v P w3 (HP.out.over B3) HQ88.out)
          have H3 := hide (show _ ∧ _ ∧ _ ∧ _ from ⟨C3, R3, B3, K3⟩)
          have HRM := hide hRm
          clear C3 R3 B3 K3 hRm hgp HRD HV hone
          go_upto_region 11 with (go_at_call 10; refine HCP.out.mono ?_; rintro e w4 ⟨v4, rfl, P4, hb4⟩; clear l3; have s4 := pr_storeP (CAt.new 47 w4 Tryz.zeroCells47) Z97_size (prC_size p v4) (pr_one P4.pin))
          obtain ⟨i0, hi, hz0, hz1, hz2⟩ := info_parts infoAs
          have bS : Below w4.heap.size w4 ((w4.alloc (.cells Tryz.zeroCells47 47)).setCells w4.heap.size 0 (prC p v4).toList) := below_sets (Nat.le_refl _) _ _ _ ((Below.refl _ w4).alloc (Nat.le_refl _) _)
          have C5 : CAt 47 ((w4.alloc (.cells Tryz.zeroCells47 47)).setCells w4.heap.size 0 (prC p v4).toList) w4.heap.size (prC p v4) := (CAt.new 47 w4 Tryz.zeroCells47).setAll (by rw [Z97_size]; rfl)
          have R5 := (H3.out.2.1.over hb4).over bS
          have B5 := (H3.out.2.2.1.trans (hb4.mono H3.out.2.2.1.size)).trans (bS.mono (Nat.le_trans H3.out.2.2.1.size hb4.size))
          have K5 := (H3.out.2.2.2.over hb4).over bS
          obtain ⟨z, hQO⟩ := P4.q
          obtain ⟨Aq, Cq, eqq⟩ := Ln.own_form hQO.own
          have O5 := Ln.own_over hQO.own bS
          have HP4 := hide P4
          have hs4 := hb4.size
          clear s4 hb4 P4 HCP
          generalize (w4.alloc (.cells Tryz.zeroCells47 47)).setCells w4.heap.size 0 (prC p v4).toList = w5 at *
          have HBS := hide bS
          have hg5 := C5.lt
          have k0 : w5.cell? ⟨w2.heap.size, 0, none⟩ = some (.int .i64 k) := K5.cell 0
          have k1 : w5.cell? ⟨w2.heap.size, 1, none⟩ = some (.int .i64 i) := K5.cell 1
          have k2 : w5.cell? ⟨w2.heap.size, 2, none⟩ = some (.int .i64 vv) := K5.cell 2
          have k3 : w5.cell? ⟨w2.heap.size, 3, none⟩ = some (.int .i64 nn) := K5.cell 3
          have k4 : w5.cell? ⟨w2.heap.size, 4, none⟩ = some (.slice sa 0 cs) := K5.cell 4
          have k5 : w5.cell? ⟨w2.heap.size, 5, none⟩ = some (.slice da 0 cd) := K5.cell 5
          have a96 : w5.cell? ⟨w4.heap.size, 96, none⟩ = some (.slice Aq p.q.length Cq) := by rw [← eqq]; exact C5.cell 96
          rw [eqq] at O5
          have hb88 := HQ88.out
          apply wp_region_lit
          iterate 18 go_step
          refine wpList_lies rfl _ _ 45 rfl (w3.heap.size + 2) 82 i0 _ 7 88 Tryz.underlying45 hi hz0 hz1 hz2 rfl (by decide) (.slice Aq p.q.length Cq) p.q.length (quL p.q z) rfl (Ln.own_over O5 ((Below.refl _ w5).alloc (Nat.le_refl _) _)) ⟨w5.heap.size, 0, none⟩ 1 1 (akL ((m : Int), ⟨k, i, vv, nn, [], []⟩) (.slice sa 0 cs, .slice da 0 cd)) rfl rfl (fun j u hu => ak_cell w5 ((m : Int), ⟨k, i, vv, nn, [], []⟩) (.slice sa 0 cs, .slice da 0 cd) j u hu) (fun u hu => by simp only [akL, List.mem_cons, List.not_mem_nil, or_false] at hu; rcases hu with rfl | rfl | rfl | rfl | rfl | rfl | rfl <;> rfl) (by decide) (by unfold maxLen; omega) (by omega) (by simp; omega) ?_
          intro g cap w7 ho7 hg7 hat hlt7
          have b6 : Below w5.heap.size w5 (w5.alloc (.cells #[.int .i64 (m : Int), .int .i64 k, .int .i64 i, .int .i64 vv, .int .i64 nn, .slice sa 0 cs, .slice da 0 cd] 82)) := (Below.refl _ w5).alloc (Nat.le_refl _) _
          have hown : ∀ x, (Value.slice Aq p.q.length Cq).ownBlock = some x → w3.heap.size + 2 ≤ x ∧ x < w4.heap.size := fun x hx => World.ownsRow.lt hQO.own x (by rw [eqq]; exact hx)
          have hz6 : (w5.alloc (.cells #[.int .i64 (m : Int), .int .i64 k, .int .i64 i, .int .i64 vv, .int .i64 nn, .slice sa 0 cs, .slice da 0 cd] 82)).heap.size = w5.heap.size + 1 := by simp
          have hgn : g ≠ w4.heap.size := by
            rcases hat with h | h
            · have := (hown g h).2; omega
            · rw [hz6] at h; omega
          have hgw : w3.heap.size + 2 ≤ g := by
            rcases hat with h | h
            · exact (hown g h).1
            · rw [hz6] at h; omega
          have hkeep : ∀ b, b < w5.heap.size → some b ≠ (Value.slice Aq p.q.length Cq).ownBlock → w7.heap[b]? = w5.heap[b]? := fun b hb hn => (hg7.block b (by rw [hz6]; omega) hn).trans (b6.block b hb)
          have C7 : CAt 47 w7 w4.heap.size (prC p v4) := C5.keep (hkeep _ hg5 fun e => by have := (hown _ e.symm).2; omega)
          have R7 : CAt 47 w7 (w.heap.size + 1) Tryz.zeroCells47 := R5.keep (hkeep _ R5.lt fun e => by have := (hown _ e.symm).1; omega)
          have B7 : Below w.heap.size w w7 := (B5.trans (b6.mono B5.size)).grown hg7 (by rw [hz6]; have := B5.size; omega) (fun x hx => by have := (hown x hx).1; omega)
          have z96 : w7.cell? ⟨w4.heap.size, 96, none⟩ = some v4.q := C7.cell 96
          rw [eqq] at z96
          have f96 := C7.free 96
          have hz7 := C7.lt
          have key : ∀ {u : Value} {s t : Nat} {cs' : List Value}, Rep (fun b => w3.heap.size + 2 ≤ b ∧ some b ≠ v4.q.ownBlock) w4 u s t cs' → Rep (New P w 2) (w7.setCell ⟨w4.heap.size, 96, none⟩ (.slice (some ⟨g, 0, none⟩) (p.q.length + 1) cap)) u s t cs' := fun hr => by
            have h1 : Rep (fun b => (w3.heap.size + 2 ≤ b ∧ some b ≠ v4.q.ownBlock) ∧ b < w4.heap.size) w4 _ _ _ _ := hr.mono fun b hlt hb => ⟨hb, hlt⟩
            have h2 := h1.over HBS.out
            have h3 := h2.keep (w' := w7) fun b hb hlt => hkeep b hlt (by rw [← eqq]; exact hb.1.2)
            have h4 := h3.keep (w' := w7.setCell ⟨w4.heap.size, 96, none⟩ (.slice (some ⟨g, 0, none⟩) (p.q.length + 1) cap)) fun b hb _ => Below.heap_setCell w7 ⟨w4.heap.size, 96, none⟩ _ b (by show b ≠ w4.heap.size; have := hb.2; omega)
            exact h4.mono fun b _ hb => .inr (by have := hb.1.1; omega)
          have C8 := C7.set 96 (.slice (some ⟨g, 0, none⟩) (p.q.length + 1) cap)
          have R8 := R7.other (c := w4.heap.size) (o := 96) (by omega) (.slice (some ⟨g, 0, none⟩) (p.q.length + 1) cap)
          have B8 := B7.setCell (p := ⟨w4.heap.size, 96, none⟩) (by show _ ≤ w4.heap.size; omega) (.slice (some ⟨g, 0, none⟩) (p.q.length + 1) cap)
          have N8 : PIn (New P w 2) (w7.setCell ⟨w4.heap.size, 96, none⟩ (.slice (some ⟨g, 0, none⟩) (p.q.length + 1) cap)) { p with q := p.q ++ [((m : Int), ⟨k, i, vv, nn, [], []⟩)] } { v4 with q := .slice (some ⟨g, 0, none⟩) (p.q.length + 1) cap } := by
            refine ⟨key HP4.out.oth.1, key HP4.out.oth.2.1, fun c hc => ⟨key (HP4.out.oth.2.2 c hc).told, key (HP4.out.oth.2.2 c hc).done, key (HP4.out.oth.2.2 c hc).said, key (HP4.out.oth.2.2 c hc).due⟩, ?_⟩
            refine QRep.app2 (y := (.slice sa 0 cs, .slice da 0 cd)) hQO.len (fun i x y hx hy => ⟨key (hQO.ins i x y hx hy).1, key (hQO.ins i x y hx hy).2⟩) ⟨rep_empty HRM.out.1.1, rep_empty HRM.out.2.1⟩ ?_
            have ho8 : Rep (fun b => w3.heap.size + 2 ≤ b ∧ b ≠ w4.heap.size) w7 (.slice (some ⟨g, 0, none⟩) (p.q.length + 1) cap) 7 80 (quL p.q z ++ akL ((m : Int), ⟨k, i, vv, nn, [], []⟩) (.slice sa 0 cs, .slice da 0 cd)) := by
              obtain ⟨A', n', C', h1, h2, h3, h4, h5⟩ := Rep.own (bts := 80) ho7 (by omega)
              cases h1
              refine ⟨_, _, _, rfl, h2, h3, h4, fun h0 => ?_⟩
              obtain ⟨b, off, e1, e2, e3, e4⟩ := h5 h0
              cases e1
              exact ⟨g, 0, rfl, ⟨hgw, hgn⟩, e3, e4⟩
            exact (ho8.keep fun b hb _ => Below.heap_setCell w7 ⟨w4.heap.size, 96, none⟩ _ b (by show b ≠ w4.heap.size; exact hb.2)).mono fun b _ hb => .inr (by have := hb.1; omega)
          have one8 := pr_one N8
          change (prC p { v4 with q := .slice (some ⟨g, 0, none⟩) (p.q.length + 1) cap }).all _ = true at one8
          have l8 := pr_loadP C8 (by simp [prC_size])
          rw [pr_q] at l8
          have s8 := pr_storeP R8 Z97_size (prC_size p { v4 with q := .slice (some ⟨g, 0, none⟩) (p.q.length + 1) cap }) one8
          have HZ := hide (show _ ∧ _ ∧ _ from ⟨R8, B8, N8⟩)
          clear C8 R8 B8 N8 key hkeep C7 R7 B7 ho7 hg7 hat hlt7 hown b6 hz6 HP4 hQO O5 HBS k0 k1 k2 k3 k4 k5 a96 K5 C5 R5 B5 hi hz0 hz1 hz2 one8
          go_simp
          go_upto_region 12 with fail
          clear z96 f96
          generalize w7.setCell ⟨w4.heap.size, 96, none⟩ (.slice (some ⟨g, 0, none⟩) (p.q.length + 1) cap) = w8 at *
          go_wp2
          exact prov_end2 Tryz.results25 HZ.out.1 Z97_size HZ.out.2.1 { p with q := p.q ++ [((m : Int), ⟨k, i, vv, nn, [], []⟩)] } _ 0 D HR.out HZ.out.2.2 _ rfl rfl rfl
      · replace HR := hide (HR.out.trans (if_neg hE))
        have l3 := pr_loadP C3 (prC_size _ _)
        have s3 := pr_storeP R3 Z97_size (prC_size p v) hone
        have heb : (E != 0) = true := by simpa using hE
        have HZ := hide (show _ ∧ _ from ⟨R3, B3⟩)
        clear C3 R3 B3 K3 hone
        go_wp2
        exact HV.out E HR.out _ _ _ HZ.out.1 HZ.out.2 Tryz.results25 rfl rfl rfl
end Go.Proofs.YtkhlihpghbhppaaGreat.Pv

set_option maxRecDepth 100000
namespace Go.Proofs.YtkhlihpghbhppaaGreat
open Go.ChangeShapes Go.WideShapes Go.ChangeAt Go.RowKit Go.Deep
theorem chunks {α : Type} (k : Nat) : ∀ (n : Nat) (l : List α), l.length = n * k → l = (List.range n).flatMap fun i => (l.drop (i * k)).take k
  | 0, l, h => by simp at h; subst h; rfl
  | n + 1, l, h => by
    rw [List.range_succ, List.flatMap_append]
    have hm : (n + 1) * k = n * k + k := Nat.succ_mul n k
    have h1 := chunks k n (l.take (n * k)) (by rw [List.length_take]; omega)
    have h2 : ((List.range n).flatMap fun i => ((l.take (n * k)).drop (i * k)).take k) = (List.range n).flatMap fun i => (l.drop (i * k)).take k := by
      refine flatMap_congr_range fun i hi => ?_
      have hik : i * k + k ≤ n * k := by rw [← Nat.succ_mul]; exact Nat.mul_le_mul_right k hi
      rw [List.drop_take, List.take_take, Nat.min_eq_left (by omega)]
    rw [← h2, ← h1]
    simp only [List.flatMap_cons, List.flatMap_nil, List.append_nil]
    rw [List.take_of_length_le (l := l.drop (n * k)) (by rw [List.length_drop]; omega), List.take_append_drop]
theorem pick_all {β : Type} {p : Nat → β → Prop} (d : β) {n : Nat} (h : ∀ i, i < n → ∃ y, p i y) : ∃ f : Nat → β, ∀ i, i < n → p i (f i) := by
  refine ⟨fun i => if hi : i < n then Classical.choose (h i hi) else d, fun i hi => ?_⟩
  simp only [dif_pos hi]
  exact Classical.choose_spec (h i hi)
section
variable {H : Type} {enc : TypeId × Value → H} {W : World}
theorem open_arr {β : Type} (d : β) (f : β → List Value) {t e : TypeId} {n fuel : Nat} {cs : List Value} {x : DataW H × List MemPlace} (ht : Tryz.prog.underlying t = some (.array n e)) (hc : Tryz.prog.cellsOf t = n * Tryz.prog.cellsOf e)
    (h : DataW.trod enc Tryz.prog W 0 (fun _ => true) true fuel t cs = some x)
    (he : ∀ {m : Nat} {l : List Value} {y : DataW H × List MemPlace}, DataW.trod enc Tryz.prog W 0 (fun _ => true) true m e l = some y → ∃ b, l = f b) : ∃ g : Nat → β, cs = (List.range n).flatMap fun i => f (g i) := by
  obtain ⟨xs, m, _, _, hl, hxl, hx⟩ := DataW.trod_array ht h
  obtain ⟨g, hg⟩ := pick_all (n := n) (p := fun i b => (cs.drop (i * Tryz.prog.cellsOf e)).take (Tryz.prog.cellsOf e) = f b) d (fun i hi => by
    have := hx i hi
    rw [List.getElem?_eq_getElem (by omega)] at this
    exact he this)
  refine ⟨g, ?_⟩
  rw [chunks (Tryz.prog.cellsOf e) n cs (by rw [hl, hc])]
  exact flatMap_congr_range hg
theorem open_i {m : Nat} {l : List Value} {y : DataW H × List MemPlace} (h : DataW.trod enc Tryz.prog W 0 (fun _ => true) true m 3 l = some y) : ∃ b : Int, l = [.int .i64 b] := by
  obtain ⟨q, e, _⟩ := DataW.trod_int Tryz.underlying3 h
  exact ⟨q, e⟩
theorem open_t {m : Nat} {l : List Value} {y : DataW H × List MemPlace} (h : DataW.trod enc Tryz.prog W 0 (fun _ => true) true m 4 l = some y) : ∃ b : Bool, l = [.bool b] := by
  obtain ⟨q, e, _⟩ := DataW.trod_bool Tryz.underlying4 h
  exact ⟨q, e⟩
theorem cI : Tryz.prog.cellsOf 3 = 1 := by kernel_rfl
theorem cT : Tryz.prog.cellsOf 4 = 1 := by kernel_rfl
theorem cA : Tryz.prog.cellsOf 22 = 4 := by kernel_rfl
theorem cB : Tryz.prog.cellsOf 24 = 7 := by kernel_rfl
theorem cV : Tryz.prog.cellsOf 26 = 5 := by kernel_rfl
theorem cVs : Tryz.prog.cellsOf 27 = 30 := by kernel_rfl
theorem cRow : Tryz.prog.cellsOf 28 = 6 := by kernel_rfl
theorem cSh : Tryz.prog.cellsOf 29 = 24 := by kernel_rfl
theorem cWs : Tryz.prog.cellsOf 30 = 1 := by kernel_rfl
theorem cS : Tryz.prog.cellsOf 32 = 63 := by kernel_rfl
theorem cW : Tryz.prog.cellsOf 98 = 8 := by kernel_rfl
theorem cH : Tryz.prog.cellsOf 96 = 2 := by kernel_rfl
theorem open_row {m : Nat} {l : List Value} {y : DataW H × List MemPlace} (h : DataW.trod enc Tryz.prog W 0 (fun _ => true) true m 28 l = some y) : ∃ r : Nat → Int, l = (rowC r).toList := by
  obtain ⟨g, rfl⟩ := open_arr 0 (fun b : Int => [.int .i64 b]) Tryz.underlying28 (by rw [cRow, cI]) h open_i
  exact ⟨g, rfl⟩
theorem open_shs {m : Nat} {l : List Value} {y : DataW H × List MemPlace} (h : DataW.trod enc Tryz.prog W 0 (fun _ => true) true m 29 l = some y) : ∃ S : Nat → Nat → Int, l = (shC S).toList := by
  obtain ⟨g, rfl⟩ := open_arr (fun _ => 0) (fun r : Nat → Int => (rowC r).toList) Tryz.underlying29 (by rw [cSh, cRow]) h open_row
  exact ⟨g, rfl⟩
theorem open_hs {m : Nat} {l : List Value} {y : DataW H × List MemPlace} (h : DataW.trod enc Tryz.prog W 0 (fun _ => true) true m 96 l = some y) : ∃ a b : Int, l = [.int .i64 a, .int .i64 b] := by
  obtain ⟨g, rfl⟩ := open_arr 0 (fun b : Int => [.int .i64 b]) Tryz.underlying96 (by rw [cH, cI]) h open_i
  exact ⟨g 0, g 1, rfl⟩
theorem open_fr {m : Nat} {l : List Value} {y : DataW H × List MemPlace} (h : DataW.trod enc Tryz.prog W 0 (fun _ => true) true m 22 l = some y) : ∃ g : Nat → Int, l = [.int .i64 (g 0), .int .i64 (g 1), .int .i64 (g 2), .int .i64 (g 3)] := by
  obtain ⟨g, rfl⟩ := open_arr 0 (fun b : Int => [.int .i64 b]) Tryz.underlying22 (by rw [cA, cI]) h open_i
  exact ⟨g, rfl⟩
theorem parts {α : Type} {l : List α} {o n : Nat} : l.drop o = (l.drop o).take n ++ l.drop (o + n) := by
  rw [← List.drop_drop, List.take_append_drop]
theorem open_vd {m : Nat} {l : List Value} {y : DataW H × List MemPlace} (h : DataW.trod enc Tryz.prog W 0 (fun _ => true) true m 26 l = some y) : ∃ x : Vd, l = (vdC x).toList := by
  obtain ⟨xs, n, _, _, hl, hxl, hx⟩ := DataW.trod_struct Tryz.underlying26 h
  rw [cV] at hl
  match l, hl with
  | [a0, a1, a2, a3, a4], _ =>
    match xs, hxl with
    | [y0, y1, y2, y3, y4], _ =>
      have t0 := hx 0 _ rfl
      have t1 := hx 1 _ rfl
      have t2 := hx 2 _ rfl
      have t3 := hx 3 _ rfl
      have t4 := hx 4 _ rfl
      simp [cI, cT] at t0 t1 t2 t3 t4
      obtain ⟨q0, e0⟩ := open_i t0
      obtain ⟨q1, e1⟩ := open_i t1
      obtain ⟨q2, e2⟩ := open_i t2
      obtain ⟨q3, e3⟩ := open_t t3
      obtain ⟨q4, e4⟩ := open_t t4
      simp at e0 e1 e2 e3 e4
      subst e0 e1 e2 e3 e4
      exact ⟨⟨q0, q1, q2, q3, q4⟩, rfl⟩
theorem open_vds {m : Nat} {l : List Value} {y : DataW H × List MemPlace} (h : DataW.trod enc Tryz.prog W 0 (fun _ => true) true m 27 l = some y) : ∃ V : Nat → Vd, l = (vsC V).toList := by
  obtain ⟨g, rfl⟩ := open_arr ⟨0, 0, 0, false, false⟩ (fun x : Vd => (vdC x).toList) Tryz.underlying27 (by rw [cVs, cV]) h open_vd
  exact ⟨g, rfl⟩
theorem open_bk {m : Nat} {l : List Value} {y : DataW H × List MemPlace} (h : DataW.trod enc Tryz.prog W 0 (fun _ => true) true m 24 l = some y) : ∃ b : Bk, l = (bkC b).toList := by
  obtain ⟨xs, n, _, _, hl, hxl, hx⟩ := DataW.trod_struct Tryz.underlying24 h
  rw [cB] at hl
  match l, hl with
  | [a0, a1, a2, a3, a4, a5, a6], _ =>
    match xs, hxl with
    | [y0, y1, y2, y3], _ =>
      have t0 := hx 0 _ rfl
      have t1 := hx 1 _ rfl
      have t2 := hx 2 _ rfl
      have t3 := hx 3 _ rfl
      simp [cI, cA] at t0 t1 t2 t3
      obtain ⟨g, e0⟩ := open_fr t0
      obtain ⟨q1, e1⟩ := open_i t1
      obtain ⟨q2, e2⟩ := open_i t2
      obtain ⟨q3, e3⟩ := open_i t3
      simp at e0 e1 e2 e3
      obtain ⟨e01, e02, e03, e04⟩ := e0
      subst e01 e02 e03 e04 e1 e2 e3
      exact ⟨⟨g 0, g 1, g 2, g 3, q1, q2, q3⟩, rfl⟩
theorem open_wt {m : Nat} {l : List Value} {y : DataW H × List MemPlace} (h : DataW.trod enc Tryz.prog W 0 (fun _ => true) true m 98 l = some y) : ∃ x : Wt, l = (wtC x).toList := by
  obtain ⟨xs, n, _, _, hl, hxl, hx⟩ := DataW.trod_struct Tryz.underlying98 h
  rw [cW] at hl
  match l, hl with
  | [a0, a1, a2, a3, a4, a5, a6, a7], _ =>
    match xs, hxl with
    | [y0, y1, y2, y3, y4, y5, y6], _ =>
      have t0 := hx 0 _ rfl
      have t1 := hx 1 _ rfl
      have t2 := hx 2 _ rfl
      have t3 := hx 3 _ rfl
      have t4 := hx 4 _ rfl
      have t5 := hx 5 _ rfl
      have t6 := hx 6 _ rfl
      simp [cI, cH] at t0 t1 t2 t3 t4 t5 t6
      obtain ⟨q0, e0⟩ := open_i t0
      obtain ⟨q1, e1⟩ := open_i t1
      obtain ⟨q2, e2⟩ := open_i t2
      obtain ⟨q3, e3⟩ := open_i t3
      obtain ⟨q4, e4⟩ := open_i t4
      obtain ⟨q5, e5⟩ := open_i t5
      obtain ⟨q6, q7, e6⟩ := open_hs t6
      simp at e0 e1 e2 e3 e4 e5 e6
      obtain ⟨e6, e7⟩ := e6
      subst e0 e1 e2 e3 e4 e5 e6 e7
      exact ⟨⟨q0, q1, q2, q3, q4, q5, q6, q7⟩, rfl⟩
theorem bytesW : Tryz.prog.bytesOf 98 = 64 := by kernel_rfl
theorem open_num {r : Reach} {b0 : Nat} {v : Value} {d : DataW H} {p : List MemPlace} (hv : Value.okWide Tryz.prog W r b0 3 v) (h : DataW.Trod enc Tryz.prog W 0 (fun _ => true) true 3 v d p) : ∃ n : Int, v = .int .i64 n := by
  obtain ⟨n, e, _⟩ := open_int Tryz.underlying3 hv h
  exact ⟨n, e⟩
end
end Go.Proofs.YtkhlihpghbhppaaGreat

