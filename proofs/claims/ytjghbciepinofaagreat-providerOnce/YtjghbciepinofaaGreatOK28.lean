/- Parts of the proof: PDC PWS. -/
import Derived.Test.YtjghbciepinofaaGreatRows
import Derived.Test.YtjghbciepinofaaGreatOK11
import Derived.Test.YtjghbciepinofaaGreatOK18
import Derived.Test.YtjghbciepinofaaGreatOK29
import Derived.Test.YtjghbciepinofaaGreatOK31
import Derived.Test.YtjghbciepinofaaGreatOK41
import Derived.Test.YtjghbciepinofaaGreatOK46
import Derived.BigQuiet
import Derived.Deep.QuietTactic
import Derived.Deep.RegionHeld3
import Derived.Deep.RegionWith
import Derived.Deep.DeepCutAuto
set_option maxRecDepth 100000
namespace Go.Proofs.YtjghbciepinofaaGreat.Pv
open Go.RowKit
theorem clipA_any (ao : Option Addr) (n c : Nat) (hn : n ≤ c) (h0 : ao = none → n = 0) (hc : (n : Int) < 4611686018427387904) (w : World) : Calls Tryz.prog 24 #[.slice ao n c] w fun e w' => e = .returned (.slice ao n n) ∧ w = w' := by
  have h1 : (n : Int) ≤ (c : Int) := by omega
  have h2 : (0 : Int) ≤ (n : Int) := by omega
  go_enter Tryz.func24, Tryz.ntmps24
  cases ao
  · obtain rfl := h0 rfl
    go_wp2
    go_ret
    exact ⟨rfl, rfl⟩
  · clear h0
    go_wp2
    go_ret
    exact ⟨rfl, rfl⟩
theorem step_apA {P : Nat → Prop} {ops : Array Oper} {o : Oper} {a : Act} {w : World} {K : Act → World → Prop} {Q : Exit → Act → World → Prop} {E : Prop} (hg : o.guard = none) (hty : o.type = 45) (p q : Operand)
    (hop : o.op = Op.call { callee := Callee.builtin Builtin.append, args := #[p, q], argTypes := #[45, 45] }) (A : Option Addr) (n y bt : Nat) (cs news : List Value) (hs : a.eval p = .slice A n n) (hx : a.eval q = .slice (some ⟨y, 0, none⟩) 1 1)
    (hr : Rep P w (.slice A n n) 7 bt cs) (hb : n * 88 ≤ 140737488351232) (hl : news.length = 7) (hy : ∀ j v, news[j]? = some v → w.cell? ⟨y, j, none⟩ = some v)
    (hK : ∀ g C w', g = w.heap.size → n + 1 ≤ C → (∀ j u, (cs ++ news)[j]? = some u → w'.cell? ⟨g, j, none⟩ = some u) → Below w.heap.size w w' → g < w'.heap.size → K (a.put o.dst (.slice (some ⟨g, 0, none⟩) (n + 1) C)) w') :
    if Region.wanted o (yielded ops a.tmps) = true then Oper.wp Tryz.prog o a w K Q else E := by
  obtain ⟨i0, hi, hz0, hz1, hz2⟩ := info_parts infoAs
  have hw : Region.wanted o (yielded ops a.tmps) = true := by simp [Region.wanted, hg]
  rw [if_pos hw]
  unfold Oper.wp
  obtain ⟨C, w', hr, hC, hWs, hB, hlt⟩ := apR 45 79 i0 _ Tryz.underlying45 hi hz0 w A n y bt cs news (by rw [hz1]; exact hr) (by rw [hz2]; exact hb) (by rw [hz2]; omega) (by rw [hz2]; omega) (by rw [hz1]; exact hl) hy
  simp [execOp, hop, resolve, invoke, builtin, hs, hx, hty, hr, Result.andThen]
  exact hK _ _ _ rfl hC hWs hB hlt
/-- a queue with one more behind, in a new block -/
theorem QRep.app {P P' : Nat → Prop} {w w' : World} {q : List (Int × Pkt)} {z : List (Value × Value)} {x : Int × Pkt} {y : Value × Value} (hl : z.length = q.length) (hz : ∀ (i : Nat) (x : Int × Pkt) (y : Value × Value), q[i]? = some x → z[i]? = some y → Rep P w y.1 2 16 (pwC x.2.S) ∧ Rep P w y.2 1 8 (inC x.2.D)) (hP : ∀ b, b < w.heap.size → P b → P' b) (hb : Below w.heap.size w w') (hy : Rep P' w' y.1 2 16 (pwC x.2.S) ∧ Rep P' w' y.2 1 8 (inC x.2.D)) (hb88 : q.length * 88 ≤ 140737488351232) {g C : Nat} (hC : q.length + 1 ≤ C) (hg : P' g) (hlt : g < w'.heap.size) (hc : ∀ j u, (quL q z ++ akL x y)[j]? = some u → w'.cell? ⟨g, j, none⟩ = some u) : QRep P' w' (.slice (some ⟨g, 0, none⟩) (q.length + 1) C) (q ++ [x]) := by
  refine ⟨z ++ [y], by simp [hl], ⟨_, q.length + 1, C, rfl, ?_, by omega, ⟨fun h => (by cases h), hC⟩, fun _ => ⟨g, 0, rfl, hg, hlt, fun j u hu => ?_⟩⟩, fun i a b ha hb' => ?_⟩
  · rw [quL_length _ _ (by simp [hl])]; simp
  · rw [quL_app q z x y hl] at hu
    rw [Nat.zero_add]
    exact hc j u hu
  · by_cases hi : i < q.length
    · rw [List.getElem?_append_left hi] at ha
      rw [List.getElem?_append_left (by omega)] at hb'
      have := hz i a b ha hb'
      exact ⟨(this.1.mono hP).over hb, (this.2.mono hP).over hb⟩
    · rw [List.getElem?_append_right (by omega)] at ha hb'
      have e1 := (List.getElem?_eq_some_iff.1 ha).1
      have e2 : i - q.length = 0 := by simpa using e1
      rw [e2] at ha
      rw [hl, e2] at hb'
      cases ha
      cases hb'
      exact hy
theorem ak_new (w : World) (x : Int × Pkt) (y : Value × Value) (j : Nat) (v : Value) (hj : (akL x y)[j]? = some v) : (w.alloc (.cells #[.int .i64 x.1, .int .i64 x.2.k, .int .i64 x.2.i, .int .i64 x.2.v, .int .i64 x.2.n, y.1, y.2] 79)).drew.cell? ⟨w.heap.size, j, none⟩ = some v := by
  have h := ((CAt.new 79 w #[.int .i64 x.1, .int .i64 x.2.k, .int .i64 x.2.i, .int .i64 x.2.v, .int .i64 x.2.n, y.1, y.2]).over (Below.refl _ _).drew).cell j
  rw [h]
  simpa [akL] using hj
attribute [local go_sem ↓] loadS_eq loadP_eq storeP_eq storeS_eq
set_option maxHeartbeats 8000000 in
theorem phear_any (p : Pr) (v : PrV) (P : Nat → Prop) (w : World) (c : Int) (s : ByteArray) (hp : PIn P w p v) (hs : s.size ≤ maxLen) (hq88 : p.q.length * 88 ≤ 140737488351232) :
    Calls Tryz.prog 7 #[.agg (prC p v), .int .i64 c, .string s] w (AnsP P w (hearP p c (Cd.bs s))) := by
  have hD : hearP p c (Cd.bs s) = if goodP p = true then if isOn p c = true then if Cd.decE (Cd.bs s) = 0 then if (pktOf (Cd.bs s)).k = 1 then (p, 3) else ({ p with q := p.q ++ [(c, pktOf (Cd.bs s))] }, 0) else (p, Cd.decE (Cd.bs s)) else (p, 4) else (p, 2) := by unfold hearP; rfl
  have hpk : pktOf (Cd.bs s) = ⟨(Cd.decP (Cd.bs s)).1, (Cd.decP (Cd.bs s)).2.1, (Cd.decP (Cd.bs s)).2.2.1, (Cd.decP (Cd.bs s)).2.2.2.1, (Cd.decP (Cd.bs s)).2.2.2.2.1, (Cd.decP (Cd.bs s)).2.2.2.2.2⟩ := by unfold pktOf; rfl
  rw [hpk] at hD
  have HDC := hide (fun (wx : World) => Cd.decode_any s wx hs)
  have HQ88 := hide hq88
  clear hs hq88
  have HRD : Hid (Cd.decE (Cd.bs s) = 0 → Cd.goodN (Cd.decP (Cd.bs s)).1 (Cd.decP (Cd.bs s)).2.1 (Cd.decP (Cd.bs s)).2.2.1 (Cd.decP (Cd.bs s)).2.2.2.1 (Cd.decP (Cd.bs s)).2.2.2.2.1 (Cd.decP (Cd.bs s)).2.2.2.2.2 = 0) := fun h => (Cd.decE_read (Cd.bs_byte s) h).1
  clear hpk
  generalize hearP p c (Cd.bs s) = D at *
  generalize Cd.decE (Cd.bs s) = E at *
  generalize Cd.decP (Cd.bs s) = R at *
  obtain ⟨k, i, vv, nn, S, Dn⟩ := R
  dsimp only at hD HDC HRD
  have HD := hide hD
  clear hD
  have hone := pr_one hp
  have HGD := hide (fun (wx : World) (hb : Below w.heap.size w wx) => pgood_any p v P wx (hp.over hb))
  have HN := hide (fun (wx : World) (hb : Below w.heap.size w wx) => hp.ofNew hb 2)
  have HP := hide hp
  clear hp
  generalize goodP p = G at *
  go_enter Tryz.func7, Tryz.ntmps7
  go_upto_region 1 with fail
  change Code.wp Tryz.prog _ _ _ ((w.alloc (.cells (prC p v) 47)).alloc (.cells Tryz.zeroCells47 47))
  have C0 : CAt 47 ((w.alloc (.cells (prC p v) 47)).alloc (.cells Tryz.zeroCells47 47)) w.heap.size (prC p v) := (CAt.new _ w _).alloc _
  have R0 : CAt 47 ((w.alloc (.cells (prC p v) 47)).alloc (.cells Tryz.zeroCells47 47)) (w.heap.size + 1) Tryz.zeroCells47 := CAt.new2 _ w _ _
  have B0 : Below w.heap.size w ((w.alloc (.cells (prC p v) 47)).alloc (.cells Tryz.zeroCells47 47)) := ((Below.refl _ w).alloc (Nat.le_refl _) _).alloc (by simp) _
  generalize (w.alloc (.cells (prC p v) 47)).alloc (.cells Tryz.zeroCells47 47) = w0 at *
  have l0 := pr_loadP C0 (prC_size _ _)
  have H0 := hide (show _ ∧ _ ∧ _ from ⟨C0, R0, B0⟩)
  clear C0 R0 B0
  have HV : Hid (∀ er, D = (p, er) → ∀ (f : Func) (act : Act) (wq : World), CAt 47 wq (w.heap.size + 1) Tryz.zeroCells47 → Below w.heap.size w wq → f.results = #[.cell 6 47, .tmp 7] → act.tmps.getD 6 undef = .pointer (some ⟨w.heap.size + 1, 0, none⟩) → act.tmps.getD 7 undef = .int .i64 er → act.defers = [] → bodyPost Tryz.prog f (AnsP P w D) Exit.ret act (wq.setCells (w.heap.size + 1) 0 (prC p v).toList)) := fun er he f act wq R B h1 h2 h3 h4 => prov_end2 h1 R Z97_size B p v er D he (HN.out _ B) act h2 h3 h4
  cases G
  · have HR := hide (HD.out.trans (if_neg (by simp)))
    clear HD
    go_upto_region 2 with (go_at_call 10; refine (HGD.out _ H0.out.2.2).mono ?_; rintro e w1 ⟨rfl, hb1⟩; clear l0)
    have R1 := H0.out.2.1.over hb1
    have l1 := pr_loadP (H0.out.1.over hb1) (prC_size _ _)
    have s1 := pr_storeP R1 Z97_size (prC_size p v) hone
    have B1 := H0.out.2.2.trans (hb1.mono H0.out.2.2.size)
    have HZ := hide (show _ ∧ _ from ⟨R1, B1⟩)
    clear R1 B1 hb1 hone
    go_wp2
    exact HV.out 2 HR.out _ _ _ HZ.out.1 HZ.out.2 Tryz.results7 rfl rfl rfl
  · have HR := hide (HD.out.trans (if_pos rfl))
    clear HD
    go_upto_region 3 with (go_at_call 10; refine (HGD.out _ H0.out.2.2).mono ?_; rintro e w1 ⟨rfl, hb1⟩; clear l0)
    have C1 := H0.out.1.over hb1
    have R1 := H0.out.2.1.over hb1
    have B1 := H0.out.2.2.trans (hb1.mono H0.out.2.2.size)
    have l1 := pr_loadP C1 (prC_size _ _)
    have s1 := pr_storeP R1 Z97_size (prC_size p v) hone
    have HON := hide (pison_any w.heap.size p v c w1 C1)
    have H1 := hide (show _ ∧ _ ∧ _ from ⟨C1, R1, B1⟩)
    clear C1 R1 B1 hb1 H0 HGD
    generalize isOn p c = io at *
    cases io
    · replace HR := hide (HR.out.trans (if_neg (by simp)))
      go_wp2_with (go_at_call 23; refine HON.out.mono ?_; rintro e w' ⟨rfl, rfl⟩)
      exact HV.out 4 HR.out _ _ _ H1.out.2.1 H1.out.2.2 Tryz.results7 rfl rfl rfl
    · replace HR := hide (HR.out.trans (if_pos rfl))
      go_upto_region 6 with (first
        | (go_at_call 23; refine HON.out.mono ?_; rintro e w' ⟨rfl, rfl⟩)
        | (go_at_call 14; refine (HDC.out _).mono ?_; rintro e w2 ⟨sa, da, cs, cd, sb, so, db, dO, rfl, hL, hRm, hb2⟩))
      have C3 := (H1.out.1.over hb2).alloc (.cells #[.int .i64 k, .int .i64 i, .int .i64 vv, .int .i64 nn, .slice sa S.length cs, .slice da Dn.length cd] 49)
      have R3 := (H1.out.2.1.over hb2).alloc (.cells #[.int .i64 k, .int .i64 i, .int .i64 vv, .int .i64 nn, .slice sa S.length cs, .slice da Dn.length cd] 49)
      have B3 := (H1.out.2.2.trans (hb2.mono H1.out.2.2.size)).alloc (Nat.le_trans H1.out.2.2.size hb2.size) (.cells #[.int .i64 k, .int .i64 i, .int .i64 vv, .int .i64 nn, .slice sa S.length cs, .slice da Dn.length cd] 49)
      have K3 := CAt.new 49 w2 #[.int .i64 k, .int .i64 i, .int .i64 vv, .int .i64 nn, .slice sa S.length cs, .slice da Dn.length cd]
      have hk2 : w.heap.size + 1 < w2.heap.size := (H1.out.2.1.over hb2).lt
      clear l1 s1 hb2 hL HON HDC
      generalize w2.alloc (.cells #[.int .i64 k, .int .i64 i, .int .i64 vv, .int .i64 nn, .slice sa S.length cs, .slice da Dn.length cd] 49) = w3 at *
      have hk3 : w2.heap.size < w3.heap.size := K3.lt
      by_cases hE : E = 0
      · subst hE
        have hgp := good_pkt (HRD.out rfl)
        replace HR := hide (HR.out.trans (if_pos rfl))
        have k0 : w3.cell? ⟨w2.heap.size, 0, none⟩ = some (.int .i64 k) := K3.cell 0
        by_cases hk : k = 1
        · subst hk
          replace HR := hide (HR.out.trans (if_pos rfl))
          have l3 := pr_loadP C3 (prC_size _ _)
          have s3 := pr_storeP R3 Z97_size (prC_size p v) hone
          have HZ := hide (show _ ∧ _ from ⟨R3, B3⟩)
          clear C3 R3 B3 K3 hone
          go_wp2
          exact HV.out 3 HR.out _ _ _ HZ.out.1 HZ.out.2 Tryz.results7 rfl rfl rfl
        · obtain ⟨eS, eD⟩ := hgp.2.2.2 hk
          subst eS eD
          replace HR := hide (HR.out.trans (if_neg hk))
          have hkb : (k == 1) = false := by simpa using hk
          obtain ⟨z, hzl, hzr, hzi⟩ := HP.out.q
          obtain ⟨Aq, Cq, eq, -, hq0, -, -⟩ := hzr.open (quL_length _ _ hzl) (by decide)
          have hroom := (hzr.room eq).1
          have HQR : Hid (∀ wx, Below w.heap.size w wx → Rep P wx (.slice Aq p.q.length p.q.length) 7 80 (quL p.q z)) := fun wx hb => by
            rw [eq] at hzr
            exact (hzr.over hb).clip
          have HZI := hide (show _ ∧ _ from ⟨hzl, hzi⟩)
          have hnil : Aq = none → p.q.length = 0 := fun h => (hq0 h).1
          have hlen : (p.q.length : Int) < 4611686018427387904 := by have := HQ88.out; omega
          have a96 : w3.cell? ⟨w.heap.size, 96, none⟩ = some (.slice Aq p.q.length Cq) := by rw [← eq]; exact C3.cell 96
          have k1 : w3.cell? ⟨w2.heap.size, 1, none⟩ = some (.int .i64 i) := K3.cell 1
          have k2 : w3.cell? ⟨w2.heap.size, 2, none⟩ = some (.int .i64 vv) := K3.cell 2
          have k3 : w3.cell? ⟨w2.heap.size, 3, none⟩ = some (.int .i64 nn) := K3.cell 3
          have k4 : w3.cell? ⟨w2.heap.size, 4, none⟩ = some (.slice sa 0 cs) := K3.cell 4
          have k5 : w3.cell? ⟨w2.heap.size, 5, none⟩ = some (.slice da 0 cd) := K3.cell 5
          have H3 := hide (show _ ∧ _ ∧ _ from ⟨C3, R3, B3⟩)
          have hgz : w.heap.size < w3.heap.size := C3.lt
          have HRM := hide hRm
          clear hzl hzr hzi hq0 C3 R3 B3 K3 hRm hgp HRD HV hone
          go_upto_region 10 with fail
          go_region_law (first
            | (refine step_wanted rfl ?_; go_simp; go_at_call 24; refine (clipA_any Aq p.q.length Cq hroom hnil hlen _).mono ?_; rintro e we ⟨rfl, rfl⟩)
            | (refine step_apA rfl rfl _ _ rfl Aq p.q.length _ 80 (quL p.q z) (akL (c, ⟨k, i, vv, nn, [], []⟩) (.slice sa 0 cs, .slice da 0 cd)) rfl rfl (HQR.out _ (by exact (H3.out.2.2.alloc H3.out.2.2.size _).drew)) HQ88.out rfl (fun j v hj => ak_new w3 (c, ⟨k, i, vv, nn, [], []⟩) (.slice sa 0 cs, .slice da 0 cd) j v hj) ?_; intro g C w9 hgq hC9 hcl9 hB9 hlt9; have C9 := ((H3.out.1.alloc (.cells #[.int .i64 c, .int .i64 k, .int .i64 i, .int .i64 vv, .int .i64 nn, .slice sa 0 cs, .slice da 0 cd] 79)).over (Below.refl _ _).drew).over hB9; have z96 : w9.cell? ⟨w.heap.size, 96, none⟩ = some v.q := C9.cell 96; have f96 := C9.free 96; have hz9 := C9.lt; have HX := hide (show _ ∧ _ ∧ _ ∧ _ ∧ _ from ⟨hgq, hC9, hcl9, hB9, hlt9⟩); have HC9 := hide C9; clear C9 hgq hC9 hcl9 hB9 hlt9))
          all_goals
            obtain ⟨hgq, hC9, hcl9, hB9, hlt9⟩ := HX.out
            have hgg : g = w3.heap.size + 1 := by rw [hgq]; show (w3.alloc _).heap.size = _; simp
            have bX : Below w3.heap.size w3 (w3.alloc (.cells #[.int .i64 c, .int .i64 k, .int .i64 i, .int .i64 vv, .int .i64 nn, .slice sa 0 cs, .slice da 0 cd] 79)).drew := ((Below.refl _ w3).alloc (Nat.le_refl _) _).drew
            have bY := bX.trans (hB9.mono bX.size)
            have C10 := HC9.out.set 96 (.slice (some ⟨g, 0, none⟩) (p.q.length + 1) C)
            have R10 := (H3.out.2.1.over bY).other (c := w.heap.size) (o := 96) (by omega) (.slice (some ⟨g, 0, none⟩) (p.q.length + 1) C)
            have B9 := H3.out.2.2.trans (bY.mono H3.out.2.2.size)
            have B10 := B9.setCell (p := ⟨w.heap.size, 96, none⟩) (Nat.le_refl _) (.slice (some ⟨g, 0, none⟩) (p.q.length + 1) C)
            have N10 : PIn (New P w 2) (w9.setCell ⟨w.heap.size, 96, none⟩ (.slice (some ⟨g, 0, none⟩) (p.q.length + 1) C)) { p with q := p.q ++ [(c, ⟨k, i, vv, nn, [], []⟩)] } { v with q := .slice (some ⟨g, 0, none⟩) (p.q.length + 1) C } := by
              have n9 := HN.out _ B10
              refine ⟨n9.ws, n9.set, n9.lk, QRep.app (P := P) (w := w) (y := (.slice sa 0 cs, .slice da 0 cd)) HZI.out.1 HZI.out.2 (fun b hb hp => .inl ⟨hp, hb⟩) B10 ⟨rep_empty HRM.out.1.1, rep_empty HRM.out.2.1⟩ HQ88.out hC9 (.inr (by omega)) (by simpa [World.setCell] using hlt9) (fun j u hu => ?_)⟩
              rw [World.cell?_of_block (w := w9) (a := ⟨g, j, none⟩) (Below.heap_setCell w9 ⟨w.heap.size, 96, none⟩ _ g (by show g ≠ w.heap.size; omega))]
              exact hcl9 j u hu
            have one10 := pr_one N10
            change (prC p { v with q := .slice (some ⟨g, 0, none⟩) (p.q.length + 1) C }).all _ = true at one10
            have l10 := pr_loadP C10 (by simp [prC_size])
            rw [pr_q] at l10
            have s10 := pr_storeP R10 Z97_size (prC_size p { v with q := .slice (some ⟨g, 0, none⟩) (p.q.length + 1) C }) one10
            have HZ := hide (show _ ∧ _ ∧ _ from ⟨R10, B10, N10⟩)
            clear C10 R10 B10 B9 N10 bX bY hcl9 hB9 hlt9 hC9 hgg hgq HX HC9 H3 HQR HZI z96 f96 hz9
            generalize w9.setCell ⟨w.heap.size, 96, none⟩ (.slice (some ⟨g, 0, none⟩) (p.q.length + 1) C) = w10 at *
            simp only [Exit.then]
            apply_assumption
            go_wp2
            exact prov_end2 Tryz.results7 HZ.out.1 Z97_size HZ.out.2.1 { p with q := p.q ++ [(c, ⟨k, i, vv, nn, [], []⟩)] } _ 0 D HR.out HZ.out.2.2 _ rfl rfl rfl
      · replace HR := hide (HR.out.trans (if_neg hE))
        have l3 := pr_loadP C3 (prC_size _ _)
        have s3 := pr_storeP R3 Z97_size (prC_size p v) hone
        have heb : (E != 0) = true := by simpa using hE
        have HZ := hide (show _ ∧ _ from ⟨R3, B3⟩)
        clear C3 R3 B3 K3 hone
        go_wp2
        exact HV.out E HR.out _ _ _ HZ.out.1 HZ.out.2 Tryz.results7 rfl rfl rfl
end Go.Proofs.YtjghbciepinofaaGreat.Pv

set_option maxRecDepth 100000
namespace Go.Proofs.YtjghbciepinofaaGreat.Pv
open Go.RowKit
set_option maxHeartbeats 4000000 in
theorem indexI_any (l : List Int) (u : Value) (P : Nat → Prop) (w : World) (v : Int) (hu : Rep P w u 1 8 (inC l)) :
    Calls Tryz.prog 169 #[u, .int .i64 v] w fun e w' => (∃ r : Int, e = .returned (.int .i64 r) ∧ decide (0 ≤ r) = decide (v ∈ l)) ∧ w = w' := by
  obtain ⟨A, C, rfl, hs, -, hc, -⟩ := hu.open (inC_length _) (by decide)
  have HC := hide hc
  have hla : l.length ≤ 17592186044405 := by omega
  obtain ⟨G, hG⟩ : ∃ G, decide (v ∈ l) = G := ⟨_, rfl⟩
  have HG := hide hG
  rw [hG]
  clear hc hu hs hG
  go_enter Tryz.func169, Tryz.ntmps169
  go_wp2
  go_loop [8] (fun i => ∃ (k : Nat), k ≤ l.length ∧ i = .int .i64 (k : Int) ∧ Hid (G = decide (v ∈ l.drop k))) (fun i => l.length - (intOf i).toNat)
  case atStart => exact ⟨0, Nat.zero_le _, rfl, by rw [List.drop_zero]; exact HG.out.symm⟩
  case round =>
    obtain ⟨k, hk, rfl, HR⟩ := hrel
    by_cases hlt : k < l.length
    · have hkI : (k : Int) < (l.length : Int) := by omega
      obtain ⟨x, hx, hd⟩ := drop_at2 hlt
      obtain ⟨ba, oa, rfl, -, hbl, hcell⟩ := HC.out (by omega)
      have gx : l.getD k 0 = x := by simp [List.getD, hx]
      have p0 := inC_get l k hlt
      rw [gx] at p0
      have c0 : w.cell? ⟨ba, oa + k, none⟩ = some (.int .i64 x) := hcell _ _ p0
      have HE : Hid (G = decide (v ∈ x :: l.drop (k + 1))) := by have := HR.out; rw [hd] at this; exact this
      clear HR hd hx gx p0 hcell
      by_cases h1 : v = x
      · subst h1
        have e : G = true := by rw [HE.out]; simp
        subst e
        clear HE HG
        go_wp2
        go_ret
        exact ⟨⟨_, rfl, by simp⟩, rfl⟩
      · have HE2 : Hid (G = decide (v ∈ l.drop (k + 1))) := by rw [Hid, HE.out]; simp [h1]
        clear HE
        go_wp2
        go_round
        case rel => exact ⟨k + 1, by omega, by go_num, HE2⟩
        case measure => simp [intOf]; omega
    · obtain rfl : k = l.length := by omega
      have e : G = false := by have := HR.out; rw [List.drop_length] at this; simpa using this
      subst e
      go_wp2
      go_ret
      exact ⟨⟨_, rfl, by decide⟩, rfl⟩
theorem containsI_any (l : List Int) (u : Value) (P : Nat → Prop) (w : World) (v : Int) (hu : Rep P w u 1 8 (inC l)) :
    Calls Tryz.prog 161 #[u, .int .i64 v] w fun e w' => e = .returned (.bool (decide (v ∈ l))) ∧ w = w' := by
  have HI := hide (indexI_any l u P w v hu)
  generalize decide (v ∈ l) = G at *
  clear hu
  go_enter Tryz.func161, Tryz.ntmps161
  go_wp2_with (go_at_call 169; refine HI.out.mono ?_; rintro e w1 ⟨⟨r, rfl, hr⟩, rfl⟩)
  go_ret
  subst hr
  exact ⟨rfl, rfl⟩
theorem clipI_any (ao : Option Addr) (n c : Nat) (hn : n ≤ c) (h0 : ao = none → n = 0) (hc : (n : Int) < 4611686018427387904) (w : World) : Calls Tryz.prog 162 #[.slice ao n c] w fun e w' => e = .returned (.slice ao n n) ∧ w = w' := by
  have h1 : (n : Int) ≤ (c : Int) := by omega
  have h2 : (0 : Int) ≤ (n : Int) := by omega
  go_enter Tryz.func162, Tryz.ntmps162
  cases ao
  · obtain rfl := h0 rfl
    go_wp2
    go_ret
    exact ⟨rfl, rfl⟩
  · clear h0
    go_wp2
    go_ret
    exact ⟨rfl, rfl⟩
/-- a row of numbers lies at a block's beginning -/
def RowI (w : World) (g : Nat) (l : List Int) : Prop := ∃ cur : Array Value, w.heap[g]? = some (.cells cur 3 (0, 0)) ∧ ∀ (i : Nat) (x : Int), l[i]? = some x → cur[i]? = some (Value.int .i64 x)
theorem RowI.later {w w' : World} {g : Nat} {l : List Int} (h : RowI w g l) (hb : Below w.heap.size w w') : RowI w' g l := by
  obtain ⟨cur, hc, hx⟩ := h
  exact ⟨cur, (hb.block g (Array.getElem?_eq_some_iff.1 hc).1).trans hc, hx⟩
theorem RowI.cell {w : World} {g : Nat} {l : List Int} (h : RowI w g l) {i : Nat} (hi : i < l.length) : w.cell? ⟨g, i, none⟩ = some (.int .i64 (l.getD i 0)) := by
  obtain ⟨cur, hc, hx⟩ := h
  have e : l[i]? = some (l.getD i 0) := by simp [List.getD, hi]
  have h1 := hx i _ e
  simp only [World.cell?, hc]
  simp [h1]
theorem RowI.free {w : World} {g : Nat} {l : List Int} (h : RowI w g l) (o : Nat) : w.frozen? ⟨g, o, none⟩ = false := by
  obtain ⟨cur, hc, _⟩ := h
  simp [World.frozen?, hc]
theorem RowI.lt {w : World} {g : Nat} {l : List Int} (h : RowI w g l) : g < w.heap.size := by
  obtain ⟨cur, hc, _⟩ := h
  exact (Array.getElem?_eq_some_iff.1 hc).1
theorem RowI.put {w : World} {g : Nat} {l : List Int} (h : RowI w g l) {i : Nat} (hi : i < l.length) (x : Int) : RowI (w.setCell ⟨g, i, none⟩ (.int .i64 x)) g (l.set i x) := by
  obtain ⟨cur, hc, hx⟩ := h
  have s1 : i < cur.size := (Array.getElem?_eq_some_iff.1 (hx i _ (List.getElem?_eq_getElem hi))).1
  refine ⟨cur.setIfInBounds i (.int .i64 x), ?_, fun j y hy => ?_⟩
  · simp [World.setCell, Array.getElem?_modify, hc]
  · rw [List.getElem?_set] at hy
    by_cases hj : i = j
    · subst hj
      rw [if_pos rfl, if_pos hi] at hy
      simp at hy
      subst hy
      simp [s1]
    · rw [if_neg hj] at hy
      have h1 := hx j y hy
      simp only [Array.getElem?_setIfInBounds]
      rw [if_neg hj]
      exact h1
theorem RowI.rep {w : World} {g C : Nat} {l : List Int} (h : RowI w g l) (hC : l.length ≤ C) (hl : l.length * 8 ≤ 140737488351232) : Rep (fun b => b = g) w (.slice (some ⟨g, 0, none⟩) l.length C) 1 8 (inC l) := by
  refine ⟨_, l.length, C, rfl, by simp [inC], hl, ⟨fun e => (by cases e), hC⟩, fun h0 => ⟨g, 0, rfl, rfl, h.lt, fun j u hu => ?_⟩⟩
  have hj : j < l.length := by have := (List.getElem?_eq_some_iff.1 hu).1; rw [inC_length] at this; omega
  rw [Nat.zero_add, h.cell hj, ← hu, inC_get l j hj]
theorem lessI_any (x y : Int) (w : World) : Calls Tryz.prog 177 #[.int .i64 x, .int .i64 y] w fun e w' => e = .returned (.bool (decide (x < y))) ∧ w = w' := by
  go_enter Tryz.func177, Tryz.ntmps177
  by_cases h : x < y
  · go_wp2_with (go_at_call 136; refine (isnan_any _ _).mono ?_; rintro e w1 ⟨rfl, rfl⟩)
    all_goals (go_ret; exact ⟨by simp [h], rfl⟩)
  · go_wp2_with (go_at_call 136; refine (isnan_any _ _).mono ?_; rintro e w1 ⟨rfl, rfl⟩)
    all_goals (go_ret; exact ⟨by simp, rfl⟩)
set_option maxHeartbeats 4000000 in
theorem insI_any (g cap : Nat) (l : List Int) (w : World) (h : RowI w g l) (hn : l.length ≤ 12) :
    Calls Tryz.prog 171 #[.slice (some ⟨g, 0, none⟩) l.length cap, .int .i64 0, .int .i64 (l.length : Int)] w fun e w' => e = .returned (.tuple #[]) ∧ RowI w' g (isrtI l) ∧ ButB g w w' := by
  have HR0 := hide h
  clear h
  go_enter Tryz.func171, Tryz.ntmps171
  go_wp2
  go_loopw [6] (fun i wl => ∃ m : Nat, i = .int .i64 ((m : Int) + 1) ∧ (m + 1 ≤ l.length ∨ m = 0) ∧ Hid (RowI wl g (srtI l m) ∧ ButB g w wl)) (fun i _ => l.length - (intOf i).toNat)
  case atStart => exact ⟨0, rfl, .inr rfl, HR0.out, ButB.refl _ _⟩
  case round =>
    obtain ⟨m, rfl, hm, HR⟩ := hrel
    by_cases hlt : m + 1 < l.length
    · rename World => wo
      have hlt' : (m : Int) + 1 < (l.length : Int) := by omega
      go_wp2_with fail
      go_loopw [7] (fun j wl => ∃ (p : Nat) (l' : List Int), j = .int .i64 (p : Int) ∧ p ≤ m + 1 ∧ l'.length = l.length ∧ Hid (insI (m + 1) (srtI l m) = insI p l' ∧ RowI wl g l' ∧ ButB g w wl)) (fun j _ => (intOf j).toNat)
      case atStart => exact ⟨m + 1, srtI l m, by go_num, Nat.le_refl _, srtI_length _ _, rfl, HR.out⟩
      case round =>
        obtain ⟨p, l', rfl, hp, hl', HI⟩ := hrel
        have hsz : w.heap.size ≤ wr.heap.size := HI.out.2.2.size
        cases p with
        | zero =>
          have hg0 : decide ((0 : Int) < 0) = false := by decide
          go_upto_region 4 with fail
          go_quiet (fail)
          go_wp2
          go_roundw
          case rel => exact ⟨m + 1, by go_num, .inl (by omega), (by rw [srtI, HI.out.1]; exact HI.out.2.1), (show ButB g w (wr.drewN nq) from HI.out.2.2.drewN nq)⟩
          case measure => simp [intOf]; omega
        | succ p =>
          have hp1 : p + 1 < l'.length := by omega
          have c0 := HI.out.2.1.cell (i := p + 1) hp1
          have d0 := HI.out.2.1.cell (i := p) (by omega)
          have hC := lessI_any (l'.getD (p + 1) 0) (l'.getD p 0)
          have hgl := HI.out.2.1.lt
          have HI1 : Hid (insI (m + 1) (srtI l m) = if l'.getD (p + 1) 0 < l'.getD p 0 then insI p (swI l' p) else l') := HI.out.1
          have HRow := hide HI.out.2
          clear HI
          generalize hA : l'.getD (p + 1) 0 = A at *
          generalize hB : l'.getD p 0 = B at *
          have HA := hide hA
          have HB := hide hB
          clear hA hB
          have hw1 : IntKind.i64.wrap (((p + 1 : Nat) : Int) - 1) = (p : Int) := by rw [show ((p + 1 : Nat) : Int) - 1 = (p : Int) by omega]; exact wrapI (by omega) (by omega)
          generalize hq : p + 1 = q at *
          have HQ := hide hq
          clear hq
          have hq0 : (0 : Int) ≤ (q : Int) := by omega
          have hq1 : (q : Int) < (l.length : Int) := by omega
          have hp0 : (0 : Int) ≤ (p : Int) := by omega
          have hp2 : (p : Int) < (l.length : Int) := by have := HQ.out; omega
          have hg0 : decide (0 < q) = true := by have := HQ.out; simp; omega
          go_upto_region 4 with fail
          go_region_held3 (fun wx => wx.cell? ⟨g, q, none⟩ = some (.int .i64 A) ∧ wx.cell? ⟨g, p, none⟩ = some (.int .i64 B)) (first | go_keep | exact ⟨c0, d0⟩)
            (first | (go_at_call 177; refine (hC _).mono ?_; rintro e w1 ⟨rfl, rfl⟩))
          rename_i hh
          obtain ⟨c0', d0'⟩ := hh
          have hR1 := HRow.out.1.later (w' := wr.drew) (show Below wr.heap.size wr wr.drew from (Below.refl _ wr).drew)
          have hB1 : ButB g w wr.drew := HRow.out.2.trans (ButB.of_below (show Below wr.heap.size wr wr.drew from (Below.refl _ wr).drew))
          generalize wr.drew = w1 at *
          have HR1 := hide hR1
          have HB1 := hide hB1
          have f0 := hR1.free q
          have f2 := hR1.free p
          clear hR1 hB1 c0 d0 HRow hC
          by_cases hr : A < B
          · have hd : decide (A < B) = true := by simpa using hr
            rw [hd]
            have hqp := HQ.out
            have n1 : ¬ p = q := by omega
            have n2 : ¬ q = p := by omega
            clear hqp
            go_upto_region 6 with fail
            go_region
            have hsw : (l'.set q B).set p A = swI l' p := by rw [swI, HQ.out, HA.out, HB.out]
            have HR2 : Hid (RowI (((w1.setCell ⟨g, q, none⟩ (.int .i64 B)).setCell ⟨g, p, none⟩ (.int .i64 A)).drew) g (swI l' p)) := by
              rw [← hsw]
              exact (HR1.out.put hp1 B).put (by simp; omega) A
            have HB2 : Hid (ButB g w (((w1.setCell ⟨g, q, none⟩ (.int .i64 B)).setCell ⟨g, p, none⟩ (.int .i64 A)).drew)) := ((HB1.out.set _ _).set _ _).drew
            have HE : Hid (insI (m + 1) (srtI l m) = insI p (swI l' p)) := by rw [HI1.out]; exact if_pos hr
            clear hsw
            generalize ((w1.setCell ⟨g, q, none⟩ (.int .i64 B)).setCell ⟨g, p, none⟩ (.int .i64 A)).drew = w2 at *
            go_wp2
            go_roundw
            case rel => exact ⟨p, swI l' p, rfl, by have := HQ.out; omega, (by rw [swI_length]; exact hl'), HE.out, HR2.out, HB2.out⟩
            case measure => have := HQ.out; simp [intOf]; omega
          · have hd : decide (A < B) = false := by simpa using hr
            rw [hd]
            have HE : Hid (insI (m + 1) (srtI l m) = l') := by rw [HI1.out]; exact if_neg hr
            go_wp2
            go_roundw
            case rel => exact ⟨m + 1, by go_num, .inl (by omega), (by rw [srtI, HE.out]; exact HR1.out), HB1.out⟩
            case measure => simp [intOf]; omega
    · have hE : isrtI l = srtI l m := by
        unfold isrtI
        rcases hm with h | rfl
        · rw [show l.length - 1 = m by omega]
        · rcases (show l.length = 0 ∨ l.length = 1 by omega) with h | h <;> rw [h]
      have HE := hide hE
      clear hE
      go_wp2
      go_end0
      exact ⟨rfl, by rw [HE.out]; exact HR.out.1, HR.out.2⟩
set_option maxHeartbeats 4000000 in
theorem pdqI_any (g cap : Nat) (lim : Int) (l : List Int) (w : World) (h : RowI w g l) (hn : l.length ≤ 12) :
    Calls Tryz.prog 170 #[.slice (some ⟨g, 0, none⟩) l.length cap, .int .i64 0, .int .i64 (l.length : Int), .int .i64 lim] w fun e w' => e = .returned (.tuple #[]) ∧ RowI w' g (isrtI l) ∧ ButB g w w' := by
  have hI := insI_any g cap l w h hn
  have hn' : (l.length : Int) ≤ 12 := by omega
  clear h
  go_enter Tryz.func170, Tryz.ntmps170
  go_wp2_with fail
  go_loopw [1, 2] (fun a b wl => a = .int .i64 0 ∧ b = .int .i64 (l.length : Int) ∧ Hid (wl = w)) (fun _ _ _ => 0)
  case atStart => exact ⟨rfl, rfl, rfl⟩
  case round =>
    obtain ⟨rfl, rfl, HW⟩ := hrel
    have e := HW.out
    subst e
    clear HW
    go_wp2_with (go_at_call 171; refine hI.mono ?_; rintro e w1 ⟨rfl, h1⟩; have H1 := hide h1; clear h1)
    exact bodyPost_ret (v := .tuple #[]) (by simp [results, Tryz.results170]) rfl ⟨rfl, H1.out⟩
theorem bitslen_I (n : Nat) (hn : n ≤ 12) (w : World) : Calls Tryz.prog 87 #[.int .u64 (n : Int)] w fun e w' => (∃ k, e = .returned (.int .i64 k)) ∧ w = w' := by
  have hL := Ra.len64 n (by omega)
  go_enter Tryz.func87, Tryz.ntmps87
  go_wp2_with (go_at_call 135; refine (hL _).mono ?_; rintro e w1 ⟨rfl, rfl⟩)
  go_ret
  exact ⟨⟨_, rfl⟩, rfl⟩
set_option maxHeartbeats 1000000 in
theorem sortI_any (g cap : Nat) (l : List Int) (w : World) (h : RowI w g l) (hn : l.length ≤ 12) :
    Calls Tryz.prog 163 #[.slice (some ⟨g, 0, none⟩) l.length cap] w fun e w' => e = .returned (.tuple #[]) ∧ RowI w' g (isrtI l) ∧ ButB g w w' := by
  have hP := fun lim => pdqI_any g cap lim l w h hn
  have hL := bitslen_I l.length hn w
  clear h
  go_enter Tryz.func163, Tryz.ntmps163
  go_wp2_with (first
    | (go_at_call 87; refine hL.mono ?_; rintro e w1 ⟨⟨k, rfl⟩, rfl⟩)
    | (go_at_call 170; refine (hP _).mono ?_; rintro e w2 ⟨rfl, h1⟩; have H1 := hide h1; clear h1))
  go_end0
  exact ⟨rfl, H1.out⟩
end Go.Proofs.YtjghbciepinofaaGreat.Pv

