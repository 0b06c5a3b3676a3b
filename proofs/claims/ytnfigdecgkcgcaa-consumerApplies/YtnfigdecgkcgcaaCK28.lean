/- Parts of the proof: KHA. -/
import Derived.Test.YtnfigdecgkcgcaaRows
import Derived.Test.YtnfigdecgkcgcaaCK15
import Derived.Test.YtnfigdecgkcgcaaCK27
set_option maxRecDepth 100000
namespace Go.Proofs.Ytnfigdecgkcgcaa.Kc
open Go.RowKit Pv
theorem prises_len : ∀ (l : List (Int × Int)) (last : Int), -1 ≤ last → last ≤ 5 → Cd.prisesFrom last l = true → (l.length : Int) ≤ 5 - last
  | [], last, _, h, _ => by simp; omega
  | x :: l, last, h0, h1, h => by
    unfold Cd.prisesFrom Cd.isV at h
    simp only [Bool.and_eq_true, decide_eq_true_eq] at h
    have := prises_len l x.1 (by omega) (by omega) h.2
    simp only [List.length_cons]
    omega
theorem rises_len : ∀ (l : List Int) (last : Int), -1 ≤ last → last ≤ 5 → Cd.risesFrom last l = true → (l.length : Int) ≤ 5 - last
  | [], last, _, h, _ => by simp; omega
  | x :: l, last, h0, h1, h => by
    unfold Cd.risesFrom Cd.isV at h
    simp only [Bool.and_eq_true, decide_eq_true_eq] at h
    have := rises_len l x (by omega) (by omega) h.2
    simp only [List.length_cons]
    omega
theorem good_rises {k i v n : Int} {S : List (Int × Int)} {D : List Int} (h : Cd.goodN k i v n S D = 0) : Cd.prisesFrom (-1) S = true ∧ Cd.risesFrom (-1) D = true := by
  unfold Cd.goodN at h
  by_cases h1 : k < 1 ∨ 4 < k
  · rw [if_pos h1] at h; exact absurd h (by decide)
  rw [if_neg h1] at h
  by_cases h2 : i < 1 ∨ 1099511627776 < i
  · rw [if_pos h2] at h; exact absurd h (by decide)
  rw [if_neg h2] at h
  by_cases h3 : Cd.accB k = true ∧ (Cd.isV v = false ∨ n < 1 ∨ 1125899906842624 < n)
  · rw [if_pos h3] at h; exact absurd h (by decide)
  rw [if_neg h3] at h
  by_cases h4 : Cd.forB k v n S.length D.length = true
  · rw [if_pos h4] at h; exact absurd h (by decide)
  rw [if_neg h4] at h
  by_cases h5 : Cd.prisesFrom (-1) S = false ∨ Cd.risesFrom (-1) D = false
  · rw [if_pos h5] at h; exact absurd h (by decide)
  · cases a : Cd.prisesFrom (-1) S
    · exact absurd (.inl a) h5
    · cases b : Cd.risesFrom (-1) D
      · exact absurd (.inr b) h5
      · exact ⟨rfl, rfl⟩
theorem good_lens {k i v n : Int} {S : List (Int × Int)} {D : List Int} (h : Cd.goodN k i v n S D = 0) : S.length ≤ 6 ∧ D.length ≤ 6 := by
  have h1 := prises_len S (-1) (by omega) (by omega) (good_rises h).1
  have h2 := rises_len D (-1) (by omega) (by omega) (good_rises h).2
  omega
/-- a packet's lists that Decode made -/
theorem lies_rep {w : World} {B : Nat} {S : List (Int × Int)} {D : List Int} {sa da : Option Addr} {cs cd sb so db dO : Nat} (L : Cd.Lies w S D sa da sb so db dO) (r1 : Cd.Rm B sa S.length cs sb) (r2 : Cd.Rm B da D.length cd db) (hS : S.length ≤ 6) (hD : D.length ≤ 6) :
    Rep (fun b => B ≤ b) w (.slice sa S.length cs) 2 16 (pwC S) ∧ Rep (fun b => B ≤ b) w (.slice da D.length cd) 1 8 (inC D) := by
  refine ⟨⟨sa, S.length, cs, rfl, pwC_length _, by omega, ⟨r1.1, r1.2.1⟩, fun h0 => ⟨sb, so, L.hsa h0, r1.2.2 h0, World.block_lt_of_cell? w _ (L.PS 0 h0).1, fun j u hu => ?_⟩⟩, ⟨da, D.length, cd, rfl, inC_length _, by omega, ⟨r2.1, r2.2.1⟩, fun h0 => ⟨db, dO, L.hda h0, r2.2.2 h0, World.block_lt_of_cell? w _ (L.PD 0 h0), fun j u hu => ?_⟩⟩⟩
  · have hj : j < S.length * 2 := by have := (List.getElem?_eq_some_iff.1 hu).1; rwa [pwC_length] at this
    have hi : j / 2 < S.length := by omega
    have hp := L.PS (j / 2) hi
    have hg := pwC_get S (j / 2) hi
    rcases (show j % 2 = 0 ∨ j % 2 = 1 by omega) with h | h
    · have e : j / 2 * 2 = j := by omega
      rw [e] at hg hp
      rw [hp.1, ← hg.1, hu]
    · have e : j / 2 * 2 + 1 = j := by omega
      have h2 := hp.2
      rw [Nat.add_assoc, e] at h2
      rw [h2, ← hg.2, e, hu]
  · have hj : j < D.length := by have := (List.getElem?_eq_some_iff.1 hu).1; rw [inC_length] at this; omega
    rw [L.PD j hj, ← hu, inC_get _ j hj]
theorem clipK_any (ao : Option Addr) (n c : Nat) (hn : n ≤ c) (h0 : ao = none → n = 0) (hc : (n : Int) < 4611686018427387904) (w : World) : Calls Try.prog 35 #[.slice ao n c] w fun e w' => e = .returned (.slice ao n n) ∧ w = w' := by
  have h1 : (n : Int) ≤ (c : Int) := by omega
  have h2 : (0 : Int) ≤ (n : Int) := by omega
  go_enter Try.func35, Try.ntmps35
  cases ao
  · obtain rfl := h0 rfl
    go_wp2
    go_ret
    exact ⟨rfl, rfl⟩
  · clear h0
    go_wp2
    go_ret
    exact ⟨rfl, rfl⟩
theorem infoPk : (Try.prog.info? 57).map (fun i => (i.zero, i.size, i.bytes)) = some (some (.agg #[.int .i64 0, .int .i64 0, .int .i64 0, .int .i64 0, .slice none 0 0, .slice none 0 0]), 6, 80) := by kernel_rfl
theorem step_apK {P : Nat → Prop} {ops : Array Oper} {o : Oper} {a : Act} {w : World} {K : Act → World → Prop} {Q : Exit → Act → World → Prop} {E : Prop} (hg : o.guard = none) (hty : o.type = 23) (p q : Operand)
    (hop : o.op = Op.call { callee := Callee.builtin Builtin.append, args := #[p, q], argTypes := #[23, 23] }) (A : Option Addr) (n y bt : Nat) (cs news : List Value) (hs : a.eval p = .slice A n n) (hx : a.eval q = .slice (some ⟨y, 0, none⟩) 1 1)
    (hr : Rep P w (.slice A n n) 6 bt cs) (hb : n * 80 ≤ 140737488351232) (hl : news.length = 6) (hy : ∀ j v, news[j]? = some v → w.cell? ⟨y, j, none⟩ = some v)
    (hK : ∀ g C w', g = w.heap.size → n + 1 ≤ C → (∀ j u, (cs ++ news)[j]? = some u → w'.cell? ⟨g, j, none⟩ = some u) → Below w.heap.size w w' → g < w'.heap.size → K (a.put o.dst (.slice (some ⟨g, 0, none⟩) (n + 1) C)) w') :
    if Region.wanted o (yielded ops a.tmps) = true then Oper.wp Try.prog o a w K Q else E := by
  obtain ⟨i0, hi, hz0, hz1, hz2⟩ := info_parts infoPk
  have hw : Region.wanted o (yielded ops a.tmps) = true := by simp [Region.wanted, hg]
  rw [if_pos hw]
  unfold Oper.wp
  obtain ⟨C, w', hr, hC, hWs, hB, hlt⟩ := apR 23 57 i0 _ Try.underlying23 hi hz0 w A n y bt cs news (by rw [hz1]; exact hr) (by rw [hz2]; exact hb) (by rw [hz2]; omega) (by rw [hz2]; omega) (by rw [hz1]; exact hl) hy
  simp [execOp, hop, resolve, invoke, builtin, hs, hx, hty, hr, Result.andThen]
  exact hK _ _ _ rfl hC hWs hB hlt
/-- packets with one more behind, in a new block -/
theorem KRep.app {P P' : Nat → Prop} {w w' : World} {q : List Pkt} {z : List (Value × Value)} {x : Pkt} {y : Value × Value} (hl : z.length = q.length) (hz : ∀ (i : Nat) (x : Pkt) (y : Value × Value), q[i]? = some x → z[i]? = some y → Rep P w y.1 2 16 (pwC x.S) ∧ Rep P w y.2 1 8 (inC x.D)) (hP : ∀ b, b < w.heap.size → P b → P' b) (hb : Below w.heap.size w w') (hy : Rep P' w' y.1 2 16 (pwC x.S) ∧ Rep P' w' y.2 1 8 (inC x.D)) (hb80 : q.length * 80 ≤ 140737488351232) {g C : Nat} (hC : q.length + 1 ≤ C) (hg : P' g) (hlt : g < w'.heap.size) (hc : ∀ j u, (pdL q z ++ pkL x y)[j]? = some u → w'.cell? ⟨g, j, none⟩ = some u) : KRep P' w' (.slice (some ⟨g, 0, none⟩) (q.length + 1) C) (q ++ [x]) := by
  refine ⟨z ++ [y], by simp [hl], ⟨_, q.length + 1, C, rfl, ?_, by omega, ⟨fun h => (by cases h), hC⟩, fun _ => ⟨g, 0, rfl, hg, hlt, fun j u hu => ?_⟩⟩, fun i a b ha hb' => ?_⟩
  · rw [pdL_length _ _ (by simp [hl])]; simp
  · rw [pdL_app q z x y hl] at hu
    rw [Nat.zero_add]
    exact hc j u hu
  · by_cases hi : i < q.length
    · rw [List.getElem?_append_left hi] at ha
      rw [List.getElem?_append_left (by omega)] at hb'
      have := hz i a b ha hb'
      exact ⟨(this.1.mono hP).over hb, (this.2.mono hP).over hb⟩
    · rw [List.getElem?_append_right (by omega)] at ha hb'
      have e1 := (List.getElem?_eq_some_iff.1 ha).1
      have e2 : i - q.length = 0 := by simpa using e1
      rw [e2] at ha
      rw [hl, e2] at hb'
      cases ha
      cases hb'
      exact hy
theorem pk_new (w : World) (x : Pkt) (y : Value × Value) (j : Nat) (v : Value) (hj : (pkL x y)[j]? = some v) : (w.alloc (.cells #[.int .i64 x.k, .int .i64 x.i, .int .i64 x.v, .int .i64 x.n, y.1, y.2] 57)).drew.cell? ⟨w.heap.size, j, none⟩ = some v := by
  have h := ((CAt.new 57 w #[.int .i64 x.k, .int .i64 x.i, .int .i64 x.v, .int .i64 x.n, y.1, y.2]).over (Below.refl _ _).drew).cell j
  rw [h]
  simpa [pkL] using hj
attribute [local go_sem ↓] loadC_eq storeC_eq
set_option maxHeartbeats 8000000 in
theorem chear_any (c : Cs) (v : CsV) (P : Nat → Prop) (w : World) (s : ByteArray) (hp : CIn P w c v) (hs : s.size ≤ maxLen) (h80 : c.pd.length * 80 ≤ 140737488351232) :
    Calls Try.prog 9 #[.agg (csC c v), .string s] w (AnsC P w (hearC c (Cd.bs s))) := by
  have hD : hearC c (Cd.bs s) = if refC c = 0 then if Cd.decE (Cd.bs s) = 0 then if (pktOf (Cd.bs s)).k = 1 then ({ c with pd := c.pd ++ [pktOf (Cd.bs s)] }, 0) else (c, 3) else (c, Cd.decE (Cd.bs s)) else (c, refC c) := by unfold hearC; rfl
  have hpk : pktOf (Cd.bs s) = ⟨(Cd.decP (Cd.bs s)).1, (Cd.decP (Cd.bs s)).2.1, (Cd.decP (Cd.bs s)).2.2.1, (Cd.decP (Cd.bs s)).2.2.2.1, (Cd.decP (Cd.bs s)).2.2.2.2.1, (Cd.decP (Cd.bs s)).2.2.2.2.2⟩ := by unfold pktOf; rfl
  rw [hpk] at hD
  have HDC := hide (fun (wx : World) => Cd.decode_any s wx hs)
  have H80 := hide h80
  clear hs h80
  have HRD : Hid (Cd.decE (Cd.bs s) = 0 → Cd.goodN (Cd.decP (Cd.bs s)).1 (Cd.decP (Cd.bs s)).2.1 (Cd.decP (Cd.bs s)).2.2.1 (Cd.decP (Cd.bs s)).2.2.2.1 (Cd.decP (Cd.bs s)).2.2.2.2.1 (Cd.decP (Cd.bs s)).2.2.2.2.2 = 0) := fun h => (Cd.decE_read (Cd.bs_byte s) h).1
  clear hpk
  generalize hearC c (Cd.bs s) = D at *
  generalize Cd.decE (Cd.bs s) = E at *
  generalize Cd.decP (Cd.bs s) = R at *
  obtain ⟨k, i, vv, nn, S, Dn⟩ := R
  dsimp only at hD HDC HRD
  have HD := hide hD
  clear hD
  have HB := hide (begC hp)
  have HRF := hide (fun (wx : World) (h : BegC P w wx c v) => crefused_any w.heap.size c v P wx h.C0 h.I0)
  have HP := hide hp
  clear hp
  generalize refC c = RC at *
  go_enter Try.func9, Try.ntmps9
  go_upto_region 1 with fail
  change Code.wp Try.prog _ _ _ ((w.alloc (.cells (csC c v) 33)).alloc (.cells Z22 33))
  generalize (w.alloc (.cells (csC c v) 33)).alloc (.cells Z22 33) = w0 at *
  by_cases hRC : RC = 0
  rotate_left
  · have HR := hide (HD.out.trans (if_neg hRC))
    have hRC' : (RC != 0) = true := by simpa using hRC
    go_upto_region 3 with (go_at_call 34; refine (HRF.out _ HB.out).mono ?_; rintro e w1 ⟨rfl, hb1⟩; have HB1 := hide (HB.out.over hb1); clear hb1; obtain ⟨l1, s1⟩ := HB1.out.facts)
    go_wp2
    exact HB1.out.asItWas Try.results9 _ _ HR.out _ rfl rfl rfl
  subst hRC
  have HR := hide (HD.out.trans (if_pos rfl))
  clear HD
  go_upto_region 5 with (first
    | (go_at_call 34; refine (HRF.out _ HB.out).mono ?_; rintro e w1 ⟨rfl, hb1⟩; have HB1 := hide (HB.out.over hb1); clear hb1)
    | (go_at_call 33; refine (HDC.out _).mono ?_; rintro e w2 ⟨sa, da, cs, cd, sb, so, db, dO, rfl, hL, hRm, hb2⟩))
  have bA : Below w2.heap.size w2 (w2.alloc (.cells #[.int .i64 k, .int .i64 i, .int .i64 vv, .int .i64 nn, .slice sa S.length cs, .slice da Dn.length cd] 57)) := (Below.refl _ w2).alloc (Nat.le_refl _) _
  have HB3 := hide ((HB1.out.over hb2).over bA)
  have K3 := CAt.new 57 w2 #[.int .i64 k, .int .i64 i, .int .i64 vv, .int .i64 nn, .slice sa S.length cs, .slice da Dn.length cd]
  have hk2 : w.heap.size + 1 < w2.heap.size := (HB1.out.over hb2).R0.lt
  have hz1 : w.heap.size + 2 ≤ w1.heap.size := HB1.out.R0.lt
  have hL' := hL.later bA
  clear hb2 hL HDC bA
  generalize w2.alloc (.cells #[.int .i64 k, .int .i64 i, .int .i64 vv, .int .i64 nn, .slice sa S.length cs, .slice da Dn.length cd] 57) = w3 at *
  have hk3 : w2.heap.size < w3.heap.size := K3.lt
  by_cases hE : E = 0
  rotate_left
  · replace HR := hide (HR.out.trans (if_neg hE))
    have heb : (E != 0) = true := by simpa using hE
    obtain ⟨l3, s3⟩ := HB3.out.facts
    clear K3 hL' hRm
    go_wp2
    exact HB3.out.asItWas Try.results9 _ _ HR.out _ rfl rfl rfl
  subst hE
  replace HR := hide (HR.out.trans (if_pos rfl))
  have hlen := good_lens (HRD.out rfl)
  have k0 : w3.cell? ⟨w2.heap.size, 0, none⟩ = some (.int .i64 k) := K3.cell 0
  by_cases hk : k = 1
  rotate_left
  · replace HR := hide (HR.out.trans (if_neg hk))
    have hkb : (k != 1) = true := by simpa using hk
    obtain ⟨l3, s3⟩ := HB3.out.facts
    clear K3 hL' hRm
    go_wp2
    exact HB3.out.asItWas Try.results9 _ _ HR.out _ rfl rfl rfl
  subst hk
  replace HR := hide (HR.out.trans (if_pos rfl))
  have HRP := hide (lies_rep hL' hRm.1 hRm.2 hlen.1 hlen.2)
  obtain ⟨z, hzl, hzr, hzi⟩ := HP.out.pd
  obtain ⟨Aq, Cq, eq, -, hq0, -, -⟩ := hzr.open (pdL_length _ _ hzl) (by decide)
  have hroom := (hzr.room eq).1
  have HQR : Hid (∀ wx, Below w.heap.size w wx → Rep P wx (.slice Aq c.pd.length c.pd.length) 6 40 (pdL c.pd z)) := fun wx hb => by
    rw [eq] at hzr
    exact (hzr.over hb).clip
  have HZI := hide (show _ ∧ _ from ⟨hzl, hzi⟩)
  have hnil : Aq = none → c.pd.length = 0 := fun h => (hq0 h).1
  have hlenI : (c.pd.length : Int) < 4611686018427387904 := by have := H80.out; omega
  have a6 : w3.cell? ⟨w.heap.size, 6, none⟩ = some (.slice Aq c.pd.length Cq) := by rw [← eq]; exact HB3.out.C0.cell 6
  have k1 : w3.cell? ⟨w2.heap.size, 1, none⟩ = some (.int .i64 i) := K3.cell 1
  have k2 : w3.cell? ⟨w2.heap.size, 2, none⟩ = some (.int .i64 vv) := K3.cell 2
  have k3 : w3.cell? ⟨w2.heap.size, 3, none⟩ = some (.int .i64 nn) := K3.cell 3
  have k4 : w3.cell? ⟨w2.heap.size, 4, none⟩ = some (.slice sa S.length cs) := K3.cell 4
  have k5 : w3.cell? ⟨w2.heap.size, 5, none⟩ = some (.slice da Dn.length cd) := K3.cell 5
  have hgz : w.heap.size < w3.heap.size := HB3.out.C0.lt
  clear hzl hzr hzi hq0 K3 hRm HRD hL' hlen
  go_upto_region 9 with fail
  go_region_law (first
    | (refine Cd.step_wanted rfl ?_; go_simp; go_at_call 35; refine (clipK_any Aq c.pd.length Cq hroom hnil hlenI _).mono ?_; rintro e we ⟨rfl, rfl⟩)
    | (refine step_apK rfl rfl _ _ rfl Aq c.pd.length _ 40 (pdL c.pd z) (pkL ⟨1, i, vv, nn, S, Dn⟩ (.slice sa S.length cs, .slice da Dn.length cd)) rfl rfl (HQR.out _ (by exact (HB3.out.B0.alloc HB3.out.B0.size _).drew)) H80.out rfl (fun j v hj => pk_new w3 ⟨1, i, vv, nn, S, Dn⟩ (.slice sa S.length cs, .slice da Dn.length cd) j v hj) ?_; intro g C w9 hgq hC9 hcl9 hB9 hlt9; have C9 := ((HB3.out.C0.alloc (.cells #[.int .i64 1, .int .i64 i, .int .i64 vv, .int .i64 nn, .slice sa S.length cs, .slice da Dn.length cd] 57)).over (Below.refl _ _).drew).over hB9; have z6 : w9.cell? ⟨w.heap.size, 6, none⟩ = some v.pd := C9.cell 6; have f6 := C9.free 6; have hz9 := C9.lt; have HX := hide (show _ ∧ _ ∧ _ ∧ _ ∧ _ from ⟨hgq, hC9, hcl9, hB9, hlt9⟩); have HC9 := hide C9; clear C9 hgq hC9 hcl9 hB9 hlt9))
  all_goals
    obtain ⟨hgq, hC9, hcl9, hB9, hlt9⟩ := HX.out
    have hgg : g = w3.heap.size + 1 := by rw [hgq]; show (w3.alloc _).heap.size = _; simp
    have bX : Below w3.heap.size w3 (w3.alloc (.cells #[.int .i64 1, .int .i64 i, .int .i64 vv, .int .i64 nn, .slice sa S.length cs, .slice da Dn.length cd] 57)).drew := ((Below.refl _ w3).alloc (Nat.le_refl _) _).drew
    have bY := bX.trans (hB9.mono bX.size)
    have C10 := HC9.out.set 6 (.slice (some ⟨g, 0, none⟩) (c.pd.length + 1) C)
    have R10 := (HB3.out.R0.over bY).other (c := w.heap.size) (o := 6) (by omega) (.slice (some ⟨g, 0, none⟩) (c.pd.length + 1) C)
    have B9 := HB3.out.B0.trans (bY.mono HB3.out.B0.size)
    have B10 := B9.setCell (p := ⟨w.heap.size, 6, none⟩) (Nat.le_refl _) (.slice (some ⟨g, 0, none⟩) (c.pd.length + 1) C)
    have key : ∀ {u : Value} {s t : Nat} {cs' : List Value}, Rep (fun b => w1.heap.size ≤ b) w3 u s t cs' → Rep (New P w 2) (w9.setCell ⟨w.heap.size, 6, none⟩ (.slice (some ⟨g, 0, none⟩) (c.pd.length + 1) C)) u s t cs' := fun hr => by
      have h1 : Rep (New P w 2) w3 _ _ _ _ := hr.mono fun b _ hb => .inr (by omega)
      exact (h1.over bY).keep fun b hb _ => Below.heap_setCell w9 ⟨w.heap.size, 6, none⟩ _ b (show b ≠ w.heap.size from fun e => lt2_no P w (by rw [← e]; exact hb))
    have N10 : CIn (New P w 2) (w9.setCell ⟨w.heap.size, 6, none⟩ (.slice (some ⟨g, 0, none⟩) (c.pd.length + 1) C)) { c with pd := c.pd ++ [⟨1, i, vv, nn, S, Dn⟩] } { v with pd := .slice (some ⟨g, 0, none⟩) (c.pd.length + 1) C } := by
      have n9 := HP.out.ofNew B10 2
      refine ⟨n9.set, KRep.app (P := P) (w := w) (y := (.slice sa S.length cs, .slice da Dn.length cd)) HZI.out.1 HZI.out.2 (fun b hb hp => .inl ⟨hp, hb⟩) B10 ⟨key HRP.out.1, key HRP.out.2⟩ H80.out hC9 (.inr (by omega)) (by simpa [World.setCell] using hlt9) (fun j u hu => ?_), n9.rp, n9.said, n9.due⟩
      rw [World.cell?_of_block (w := w9) (a := ⟨g, j, none⟩) (Below.heap_setCell w9 ⟨w.heap.size, 6, none⟩ _ g (by show g ≠ w.heap.size; omega))]
      exact hcl9 j u hu
    have one10 := cs_one N10
    have l10 := cs_load C10 (by simp [csC_size])
    rw [set_pd c v (c.pd ++ [⟨1, i, vv, nn, S, Dn⟩])] at l10
    have s10 := cs_store R10 Z22_size (csC_size { c with pd := c.pd ++ [⟨1, i, vv, nn, S, Dn⟩] } { v with pd := .slice (some ⟨g, 0, none⟩) (c.pd.length + 1) C }) one10
    have HZ := hide (show _ ∧ _ ∧ _ from ⟨R10, B10, N10⟩)
    clear C10 R10 B10 B9 N10 bX bY hcl9 hB9 hlt9 hC9 hgg hgq HX HC9 HQR HZI z6 f6 hz9 key
    generalize w9.setCell ⟨w.heap.size, 6, none⟩ (.slice (some ⟨g, 0, none⟩) (c.pd.length + 1) C) = w10 at *
    simp only [Exit.then]
    apply_assumption
    go_wp2
    exact cs_end2 Try.results9 HZ.out.1 Z22_size HZ.out.2.1 _ _ 0 D HR.out HZ.out.2.2 _ rfl rfl rfl
end Go.Proofs.Ytnfigdecgkcgcaa.Kc

