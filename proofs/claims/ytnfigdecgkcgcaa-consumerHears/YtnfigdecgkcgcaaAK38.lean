/- Parts of the proof: KRH. -/
import Derived.Test.YtnfigdecgkcgcaaRows
import Derived.Test.YtnfigdecgkcgcaaAK30
import Derived.Test.YtnfigdecgkcgcaaAK31
import Derived.Test.YtnfigdecgkcgcaaAK37
set_option maxRecDepth 100000
namespace Go.Proofs.Ytnfigdecgkcgcaa.Kc
open Go.RowKit Pv
theorem KRep.app2 {P : Nat → Prop} {w : World} {q : List Pkt} {z : List (Value × Value)} {x : Pkt} {y : Value × Value} {v : Value} (hl : z.length = q.length) (hz : ∀ (i : Nat) (x : Pkt) (y : Value × Value), q[i]? = some x → z[i]? = some y → Rep P w y.1 2 16 (pwC x.S) ∧ Rep P w y.2 1 8 (inC x.D)) (hy : Rep P w y.1 2 16 (pwC x.S) ∧ Rep P w y.2 1 8 (inC x.D)) (hr : Rep P w v 6 40 (pdL q z ++ pkL x y)) : KRep P w v (q ++ [x]) := by
  refine ⟨z ++ [y], by simp [hl], by rw [pdL_app q z x y hl]; exact hr, fun i a b ha hb' => ?_⟩
  by_cases hi : i < q.length
  · rw [List.getElem?_append_left hi] at ha
    rw [List.getElem?_append_left (by omega)] at hb'
    exact hz i a b ha hb'
  · rw [List.getElem?_append_right (by omega)] at ha hb'
    have e1 := (List.getElem?_eq_some_iff.1 ha).1
    have e2 : i - q.length = 0 := by simpa using e1
    rw [e2] at ha
    rw [hl, e2] at hb'
    cases ha
    cases hb'
    exact hy
attribute [local go_sem ↓] loadC_eq storeC_eq
set_option maxHeartbeats 8000000 in
theorem rchear_any (c : Cs) (v : CsV) (P : Nat → Prop) (w : World) (s : ByteArray) (hp : CIn P w c v) (hs : s.size ≤ maxLen) (h80 : c.pd.length * 80 ≤ 140737488351232) (h16 : c.rp.length * 16 ≤ 168884986026393) :
    Calls Try.prog 11 #[.agg (csC c v), .string s] w (AnsC P w (hearC c (Cd.bs s))) := by
  obtain ⟨j0, hj, hy0, hy1, hy2⟩ := info_parts infoPk
  have hD : hearC c (Cd.bs s) = if refC c = 0 then if Cd.decE (Cd.bs s) = 0 then if (pktOf (Cd.bs s)).k = 1 then ({ c with pd := c.pd ++ [pktOf (Cd.bs s)] }, 0) else (c, 3) else (c, Cd.decE (Cd.bs s)) else (c, refC c) := by unfold hearC; rfl
  have hpk : pktOf (Cd.bs s) = ⟨(Cd.decP (Cd.bs s)).1, (Cd.decP (Cd.bs s)).2.1, (Cd.decP (Cd.bs s)).2.2.1, (Cd.decP (Cd.bs s)).2.2.2.1, (Cd.decP (Cd.bs s)).2.2.2.2.1, (Cd.decP (Cd.bs s)).2.2.2.2.2⟩ := by unfold pktOf; rfl
  rw [hpk] at hD
  have HRC : Hid (refC c = if goodC c = true then (if c.on = true then 0 else 4) else 2) := rfl
  have HDC := hide (fun (wx : World) => Cd.dp_any s wx hs)
  have H80 := hide h80
  have H16 := hide h16
  clear hs h80 h16
  have HRD : Hid (Cd.decE (Cd.bs s) = 0 → Cd.goodN (Cd.decP (Cd.bs s)).1 (Cd.decP (Cd.bs s)).2.1 (Cd.decP (Cd.bs s)).2.2.1 (Cd.decP (Cd.bs s)).2.2.2.1 (Cd.decP (Cd.bs s)).2.2.2.2.1 (Cd.decP (Cd.bs s)).2.2.2.2.2 = 0) := fun h => (Cd.decE_read (Cd.bs_byte s) h).1
  clear hpk
  generalize hearC c (Cd.bs s) = D at *
  generalize Cd.decE (Cd.bs s) = E at *
  generalize Cd.decP (Cd.bs s) = R at *
  obtain ⟨k, i, vv, nn, S, Dn⟩ := R
  dsimp only at hD HDC HRD
  have HD := hide hD
  clear hD
  have HB := hide (begC hp)
  have HGD := hide (fun (wx : World) (h : BegC P w wx c v) => rgoodc_any c v P wx h.I0)
  have HP := hide hp
  clear hp
  generalize refC c = RC at *
  generalize goodC c = G at *
  go_enter Try.func11, Try.ntmps11
  go_upto_region 1 with fail
  change Code.wp Try.prog _ _ _ ((w.alloc (.cells (csC c v) 33)).alloc (.cells Z22 33))
  generalize (w.alloc (.cells (csC c v) 33)).alloc (.cells Z22 33) = w0 at *
  obtain ⟨l0, -⟩ := HB.out.facts
  cases G
  · have e : RC = 2 := by rw [HRC.out]; simp
    subst e
    have HR := hide (HD.out.trans (if_neg (by decide)))
    clear HD HRC
    go_upto_region 2 with (go_at_call 14; refine (HGD.out _ HB.out).mono ?_; rintro e w1 ⟨rfl, hb1⟩; have HB1 := hide (HB.out.over hb1); clear hb1 l0; obtain ⟨l1, s1⟩ := HB1.out.facts)
    go_wp2
    exact HB1.out.asItWas Try.results11 _ _ HR.out _ rfl rfl rfl
  go_upto_region 3 with (go_at_call 14; refine (HGD.out _ HB.out).mono ?_; rintro e w1 ⟨rfl, hb1⟩; have HB1 := hide (HB.out.over hb1); clear hb1 l0)
  have a0 := (cs_facts HB1.out.C0).1.1
  cases hon : c.on
  · have e : RC = 4 := by rw [HRC.out, hon]; simp
    subst e
    have HR := hide (HD.out.trans (if_neg (by decide)))
    clear HD HRC
    rw [hon] at a0
    obtain ⟨l1, s1⟩ := HB1.out.facts
    go_wp2
    exact HB1.out.asItWas Try.results11 _ _ HR.out _ rfl rfl rfl
  have e : RC = 0 := by rw [HRC.out, hon]; simp
  subst e
  have HR := hide (HD.out.trans (if_pos rfl))
  clear HD HRC
  rw [hon] at a0
  go_upto_region 6 with (go_at_call 38; refine (HDC.out _).mono ?_; rintro e w2 ⟨sa, da, cs, cd, sb, so, db, dO, rfl, hL, hRm, hb2⟩)
  clear a0
  have bA : Below w2.heap.size w2 (w2.alloc (.cells #[.int .i64 k, .int .i64 i, .int .i64 vv, .int .i64 nn, .slice sa S.length cs, .slice da Dn.length cd] 57)) := (Below.refl _ w2).alloc (Nat.le_refl _) _
  have HB3 := hide ((HB1.out.over hb2).over bA)
  have K3 := CAt.new 57 w2 #[.int .i64 k, .int .i64 i, .int .i64 vv, .int .i64 nn, .slice sa S.length cs, .slice da Dn.length cd]
  have hk2 : w.heap.size + 1 < w2.heap.size := (HB1.out.over hb2).R0.lt
  have hz1 : w.heap.size + 2 ≤ w1.heap.size := HB1.out.R0.lt
  have hL' := hL.later bA
  have hw12 := hb2.size
  clear hb2 hL HDC bA hon
  generalize w2.alloc (.cells #[.int .i64 k, .int .i64 i, .int .i64 vv, .int .i64 nn, .slice sa S.length cs, .slice da Dn.length cd] 57) = w3 at *
  have hk3 : w2.heap.size < w3.heap.size := K3.lt
  by_cases hE : E = 0
  rotate_left
  · replace HR := hide (HR.out.trans (if_neg hE))
    have heb : (E != 0) = true := by simpa using hE
    obtain ⟨l3, s3⟩ := HB3.out.facts
    clear K3 hL' hRm
    go_wp2
    exact HB3.out.asItWas Try.results11 _ _ HR.out _ rfl rfl rfl
  subst hE
  replace HR := hide (HR.out.trans (if_pos rfl))
  have hlen := good_lens (HRD.out rfl)
  have k0 : w3.cell? ⟨w2.heap.size, 0, none⟩ = some (.int .i64 k) := K3.cell 0
  by_cases hk : k = 1
  rotate_left
  · replace HR := hide (HR.out.trans (if_neg hk))
    have hkb : (k != 1) = true := by simpa using hk
    obtain ⟨l3, s3⟩ := HB3.out.facts
    clear K3 hL' hRm
    go_wp2
    exact HB3.out.asItWas Try.results11 _ _ HR.out _ rfl rfl rfl
  subst hk
  replace HR := hide (HR.out.trans (if_pos rfl))
  have HRP := hide (lies_rep hL' hRm.1 hRm.2 hlen.1 hlen.2)
  have HCP := hide (rcopyc_any c v P w3 HB3.out.I0 H80.out H16.out)
  obtain ⟨l3, -⟩ := HB3.out.facts
  have HK3 := hide K3
  clear hRm HRD hL' hlen K3 HGD
  go_upto_region 10 with fail
  clear k0
  have HSV : Hid (∀ (w4 : World) (v4 : CsV), Below w3.heap.size w3 w4 → CIn (fun b => w3.heap.size + 2 ≤ b) w4 c v4 → (storeC (.pointer (some ⟨w.heap.size, 0, none⟩)) (.agg (csC c v4))).run Try.prog w4 = .ok () (w4.setCells w.heap.size 0 (csC c v4).toList)) := fun w4 v4 hb h4 => cs_store (HB3.out.C0.over hb) (csC_size _ _) (csC_size c v4) (cs_one h4)
  go_upto_region 11 with (go_at_call 10; refine HCP.out.mono ?_; rintro e w4 ⟨v4, L, rfl, N4, hb4⟩; have I4 := N4.cin H80.out H16.out; have s4 := HSV.out w4 v4 hb4 I4; clear l3)
  have hz3 : w.heap.size + 2 ≤ w3.heap.size := HB3.out.R0.lt
  have hzw4 := hb4.size
  have C5 : CAt 33 (w4.setCells w.heap.size 0 (csC c v4).toList) w.heap.size (csC c v4) := (HB3.out.C0.over hb4).setAll rfl
  have R5 : CAt 33 (w4.setCells w.heap.size 0 (csC c v4).toList) (w.heap.size + 1) Z22 := (HB3.out.R0.over hb4).others (by omega) _
  have B5 : Below w.heap.size w (w4.setCells w.heap.size 0 (csC c v4).toList) := below_sets (Nat.le_refl _) _ _ _ (HB3.out.B0.trans (hb4.mono HB3.out.B0.size))
  have N5 : CCp (w3.heap.size + 2) L (w4.setCells w.heap.size 0 (csC c v4).toList) c v4 := N4.sets1 (by omega) _ _
  have K5 := (HK3.out.over hb4).others (c := w.heap.size) (o := 0) (by omega) (csC c v4).toList
  have hrp5 : ∀ {u : Value} {s t : Nat} {cs' : List Value}, Rep (fun b => w1.heap.size ≤ b) w3 u s t cs' → Rep (fun b => w1.heap.size ≤ b ∧ b < w3.heap.size) (w4.setCells w.heap.size 0 (csC c v4).toList) u s t cs' := fun h => ((h.mono (P' := fun b => w1.heap.size ≤ b ∧ b < w3.heap.size) fun b hl hb => ⟨hb, hl⟩).over hb4).keep fun b hb _ => heap_sets (by omega) _ _ _
  have P5 := And.intro (hrp5 HRP.out.1) (hrp5 HRP.out.2)
  have HN4 := hide N4
  clear hrp5 N4 I4 s4 HSV HCP HK3 hb4
  generalize w4.setCells w.heap.size 0 (csC c v4).toList = w5 at *
  obtain ⟨z, hz⟩ := N5.pd
  obtain ⟨Aq, Cq, eq⟩ := Ln.own_form hz.own
  have a6 : w5.cell? ⟨w.heap.size, 6, none⟩ = some (.slice Aq c.pd.length Cq) := by rw [← eq]; exact C5.cell 6
  have f6 := C5.free 6
  have k0 : w5.cell? ⟨w2.heap.size, 0, none⟩ = some (.int .i64 1) := K5.cell 0
  have k1 : w5.cell? ⟨w2.heap.size, 1, none⟩ = some (.int .i64 i) := K5.cell 1
  have k2 : w5.cell? ⟨w2.heap.size, 2, none⟩ = some (.int .i64 vv) := K5.cell 2
  have k3 : w5.cell? ⟨w2.heap.size, 3, none⟩ = some (.int .i64 nn) := K5.cell 3
  have k4 : w5.cell? ⟨w2.heap.size, 4, none⟩ = some (.slice sa S.length cs) := K5.cell 4
  have k5 : w5.cell? ⟨w2.heap.size, 5, none⟩ = some (.slice da Dn.length cd) := K5.cell 5
  have h80 := H80.out
  have hle := N5.le
  have hown : w5.ownsRow L 57 6 (.slice Aq c.pd.length Cq) c.pd.length (pdL c.pd z) := by rw [← eq]; exact hz.own
  have bX : Below w5.heap.size w5 (w5.alloc (.cells #[.int .i64 1, .int .i64 i, .int .i64 vv, .int .i64 nn, .slice sa S.length cs, .slice da Dn.length cd] 57)) := (Below.refl _ w5).alloc (Nat.le_refl _) _
  have hz6' : (w5.alloc (.cells #[.int .i64 1, .int .i64 i, .int .i64 vv, .int .i64 nn, .slice sa S.length cs, .slice da Dn.length cd] 57)).heap.size = w5.heap.size + 1 := by simp
  have HZ6 := hide hz6'
  have HOX := hide (show _ ∧ _ from ⟨Ln.own_over hown bX, hown⟩)
  have HXX := hide (show _ ∧ _ ∧ _ ∧ _ ∧ _ ∧ _ from ⟨C5, R5, B5, N5, hz, P5⟩)
  have HFX : Hid (∀ w7 : World, (w5.alloc (.cells #[.int .i64 1, .int .i64 i, .int .i64 vv, .int .i64 nn, .slice sa S.length cs, .slice da Dn.length cd] 57)).grownBy w7 (Value.slice Aq c.pd.length Cq).ownBlock → w7.heap[w.heap.size]? = w5.heap[w.heap.size]?) := fun w7 hg7 => by
    have hl := C5.lt
    exact (hg7.block w.heap.size (by rw [HZ6.out]; omega) (fun e => by have := (World.ownsRow.lt hown _ e.symm).1; omega)).trans (bX.block _ hl)
  clear C5 R5 B5 N5 hz P5 K5 hown hz6'
  go_upto_region 12 with (at_builtin; refine wpList_liesK rfl _ _ 23 rfl L 57 j0 _ 6 80 Try.underlying23 hj hy0 hy1 hy2 rfl (by decide) (.slice Aq c.pd.length Cq) c.pd.length (pdL c.pd z) rfl HOX.out.1 ⟨w5.heap.size, 0, none⟩ 1 1 (pkL ⟨1, i, vv, nn, S, Dn⟩ (.slice sa S.length cs, .slice da Dn.length cd)) rfl rfl (fun j u hu => pk_cell w5 ⟨1, i, vv, nn, S, Dn⟩ (.slice sa S.length cs, .slice da Dn.length cd) j u hu) (fun u hu => by simp only [pkL, List.mem_cons, List.not_mem_nil, or_false] at hu; rcases hu with rfl | rfl | rfl | rfl | rfl | rfl <;> rfl) (by decide) (by unfold maxLen; omega) (by omega) (by rw [HZ6.out]; omega) ?_; intro g cap w7 ho7 hg7 hat hlt7; have C7 := HXX.out.1.keep (HFX.out w7 hg7); have z6 : w7.cell? ⟨w.heap.size, 6, none⟩ = some v4.pd := C7.cell 6; rw [eq] at z6; have zf6 := C7.free 6; have hz7 := C7.lt; have HO := hide (show _ ∧ _ ∧ _ ∧ _ ∧ _ from ⟨ho7, hg7, hat, hlt7, C7⟩); clear a6 f6 C7 ho7 hg7 hat hlt7 k0 k1 k2 k3 k4 k5)
  obtain ⟨ho7, hg7, hat, hlt7, C7⟩ := HO.out
  obtain ⟨-, R5, B5, N5, hz, P5⟩ := HXX.out
  have hB : w3.heap.size + 2 ≤ L := hle.1
  have hown : ∀ j, (Value.slice Aq c.pd.length Cq).ownBlock = some j → L ≤ j ∧ j < w5.heap.size := fun j hj' => World.ownsRow.lt HOX.out.2 j hj'
  have hgL : L ≤ g := by
    rcases hat with e | e
    · exact (hown g e).1
    · rw [HZ6.out] at e; omega
  have kp : ∀ b, b < w5.heap.size → some b ≠ (Value.slice Aq c.pd.length Cq).ownBlock → b ≠ w.heap.size → (w7.setCell ⟨w.heap.size, 6, none⟩ (.slice (some ⟨g, 0, none⟩) (c.pd.length + 1) cap)).heap[b]? = w5.heap[b]? := fun b hb hn hne =>
    (Below.heap_setCell w7 ⟨w.heap.size, 6, none⟩ _ b hne).trans ((hg7.block b (by rw [HZ6.out]; omega) hn).trans (bX.block b hb))
  have kpL : ∀ {Q : Nat → Prop} {u : Value} {s t : Nat} {cs' : List Value}, (∀ b, Q b → w1.heap.size ≤ b ∧ b < L) → Rep Q w5 u s t cs' → Rep (New P w 2) (w7.setCell ⟨w.heap.size, 6, none⟩ (.slice (some ⟨g, 0, none⟩) (c.pd.length + 1) cap)) u s t cs' := fun hq hr => (hr.keep fun b hb hl => kp b hl (fun e => by have := (hown b e.symm).1; have := hq b hb; omega) (by have := hq b hb; omega)).mono fun b _ hb => .inr (by have := hq b hb; omega)
  have kpC : ∀ {Q : Nat → Prop} {u : Value} {s t : Nat} {cs' : List Value}, (∀ b, Q b → w1.heap.size ≤ b ∧ b < L) → RepC Q w5 u s t cs' → RepC (New P w 2) (w7.setCell ⟨w.heap.size, 6, none⟩ (.slice (some ⟨g, 0, none⟩) (c.pd.length + 1) cap)) u s t cs' := fun hq hr => (hr.keep fun b hb hl => kp b hl (fun e => by have := (hown b e.symm).1; have := hq b hb; omega) (by have := hq b hb; omega)).mono fun b _ hb => .inr (by have := hq b hb; omega)
  have hw13 : w1.heap.size ≤ w3.heap.size := by omega
  have kpO : ∀ {u : Value} {s t : Nat} {cs' : List Value}, Rep (fun b => L ≤ b ∧ some b ≠ v4.pd.ownBlock) w5 u s t cs' → Rep (New P w 2) (w7.setCell ⟨w.heap.size, 6, none⟩ (.slice (some ⟨g, 0, none⟩) (c.pd.length + 1) cap)) u s t cs' := fun hr => (hr.keep fun b hb hl => kp b hl (by rw [← eq]; exact hb.2) (by omega)).mono fun b _ hb => .inr (by omega)
  have C8 := C7.set 6 (.slice (some ⟨g, 0, none⟩) (c.pd.length + 1) cap)
  rw [set_pd c v4 (c.pd ++ [⟨1, i, vv, nn, S, Dn⟩])] at C8
  have R8 := R5.keep (kp _ R5.lt (fun e => by have := (hown _ e.symm).1; omega) (by omega))
  have B8 : Below w.heap.size w (w7.setCell ⟨w.heap.size, 6, none⟩ (.slice (some ⟨g, 0, none⟩) (c.pd.length + 1) cap)) := (((B5.trans (bX.mono B5.size)).grown hg7 (by rw [HZ6.out]; have := B5.size; omega) (fun j hj' => by have := (hown j hj').1; omega))).setCell (p := ⟨w.heap.size, 6, none⟩) (Nat.le_refl _) _
  have hrow : Rep (New P w 2) (w7.setCell ⟨w.heap.size, 6, none⟩ (.slice (some ⟨g, 0, none⟩) (c.pd.length + 1) cap)) (.slice (some ⟨g, 0, none⟩) (c.pd.length + 1) cap) 6 40 (pdL c.pd z ++ pkL ⟨1, i, vv, nn, S, Dn⟩ (.slice sa S.length cs, .slice da Dn.length cd)) := by
    have h1 : Rep (fun b => L ≤ b) w7 (.slice (some ⟨g, 0, none⟩) (c.pd.length + 1) cap) 6 40 _ := Rep.own ho7 (by omega)
    exact (h1.keep fun b hb _ => Below.heap_setCell w7 ⟨w.heap.size, 6, none⟩ _ b (show b ≠ w.heap.size by omega)).mono fun b _ hb => .inr (by omega)
  have N8 : CIn (New P w 2) (w7.setCell ⟨w.heap.size, 6, none⟩ (.slice (some ⟨g, 0, none⟩) (c.pd.length + 1) cap)) { c with pd := c.pd ++ [⟨1, i, vv, nn, S, Dn⟩] } { v4 with pd := .slice (some ⟨g, 0, none⟩) (c.pd.length + 1) cap } :=
    ⟨kpL (fun b hb => ⟨by omega, hb.2.1⟩) N5.set, KRep.app2 (y := (.slice sa S.length cs, .slice da Dn.length cd)) hz.len (fun i' x y hx hy => ⟨kpO (hz.ins i' x y hx hy).1, kpO (hz.ins i' x y hx hy).2⟩) ⟨kpL (fun b hb => ⟨hb.1, by omega⟩) P5.1, kpL (fun b hb => ⟨hb.1, by omega⟩) P5.2⟩ hrow, kpL (fun b hb => ⟨by omega, hb.2⟩) (N5.rpRep H16.out), kpC (fun b hb => ⟨by omega, hb.2.1⟩) N5.said, kpC (fun b hb => ⟨by omega, hb.2.1⟩) N5.due⟩
  have l8 := cs_load C8 (csC_size _ _)
  have s8 := cs_store R8 Z22_size (csC_size { c with pd := c.pd ++ [⟨1, i, vv, nn, S, Dn⟩] } { v4 with pd := .slice (some ⟨g, 0, none⟩) (c.pd.length + 1) cap }) (cs_one N8)
  have HZ := hide (show _ ∧ _ ∧ _ from ⟨R8, B8, N8⟩)
  clear C8 R8 B8 N8 hrow kpO kpC kpL kp hown ho7 hg7 hat hlt7 C7 R5 B5 N5 hz P5 HO HXX HOX HFX bX z6 zf6 hj hy0 hy1 hy2 eq
  generalize w7.setCell ⟨w.heap.size, 6, none⟩ (.slice (some ⟨g, 0, none⟩) (c.pd.length + 1) cap) = w8 at *
  go_wp2
  exact cs_end2 Try.results11 HZ.out.1 Z22_size HZ.out.2.1 _ _ 0 D HR.out HZ.out.2.2 _ rfl rfl rfl
end Go.Proofs.Ytnfigdecgkcgcaa.Kc

