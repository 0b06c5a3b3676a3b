/- Parts of the proof: KEC. -/
import Derived.Test.YtdkalcnlncjgiaaRows
import Derived.Test.YtdkalcnlncjgiaaBK26
import Derived.Test.YtdkalcnlncjgiaaBK28
import Derived.Test.YtdkalcnlncjgiaaBK29
set_option maxRecDepth 100000
namespace Go.Proofs.Ytdkalcnlncjgiaa.Kc
open Go.RowKit Pv
/-- one ripe more, in a region whose order is fixed -/
theorem wpList_apT {P : Nat → Prop} {ops : Array Oper} {rest : List Oper} {oo : Oper} {a : Act} {w : World} {Q : Exit → Act → World → Prop} (hg : oo.guard = none) (hty : oo.type = 24) (p q : Operand)
    (hop : oo.op = Op.call { callee := Callee.builtin Builtin.append, args := #[p, q], argTypes := #[24, 24] }) {B : Nat} {o : Option Nat} {v : Value} {l : List (Int × Int)} (hs : a.eval p = v) (x : Int × Int) (y : Nat) (hx : a.eval q = .slice (some ⟨y, 0, none⟩) 1 1)
    (h : RR P B o w v l) (hB : B ≤ w.heap.size) (hl : l.length * 16 ≤ 168884986026393) (hy : ∀ j u, ([.int .i64 x.1, .int .i64 x.2] : List Value)[j]? = some u → w.cell? ⟨y, j, none⟩ = some u)
    (hK : ∀ g C w', RR P B (some g) w' (.slice (some ⟨g, 0, none⟩) (l.length + 1) C) (l ++ [x]) → w.grownBy w' o → (o = some g ∨ g = w.heap.size) → wpList Try.prog ops Q rest (a.put oo.dst (.slice (some ⟨g, 0, none⟩) (l.length + 1) C)) w') : wpList Try.prog ops Q (oo :: rest) a w := by
  refine wpList_plain hg fun K hK' => ?_
  have := step_apT (P := P) (ops := ops) (oo := oo) (a := a) (w := w) (K := K) (Q := Q) (E := False) hg hty p q hop hs x y hx h hB hl hy (fun g C w' r1 r2 r3 => hK' _ _ (hK g C w' r1 r2 r3))
  have hw : Region.wanted oo (yielded ops a.tmps) = true := by simp [Region.wanted, hg]
  rwa [if_pos hw] at this
/-- a copy, as changes are taken in -/
theorem CCp.tk {B L : Nat} {w w' : World} {c : Cs} {v : CsV} {g : Nat} (h : CCp B L w c v) (h80 : c.pd.length * 80 ≤ 140737488351232) (hb : Below w.heap.size w w') (hg : w.heap.size ≤ g) (hc : CAt 33 w' g (csC c v)) :
    TkIn (fun b => B ≤ b ∧ b < w.heap.size ∧ some b ≠ v.rp.ownBlock) B v.rp.ownBlock w' g c v := by
  have hw : B ≤ w.heap.size := Nat.le_trans h.le.1 h.le.2
  have h' := h.over hb
  obtain ⟨z, hz⟩ := h.pd
  have hown : ∀ r, v.rp.ownBlock = some r → B ≤ r ∧ r < w.heap.size := fun r e => World.ownsRow.lt h.rp r e
  refine ⟨hc, (h.set.mono fun b hl hb => ⟨hb.1, hl, hb.2.2⟩).over hb, ((hz.rep h80).mono fun b hl hb => ⟨by have := h.le.1; omega, hl, fun e => by have := h.rpL b e.symm; omega⟩).over hb, ?_, (h.said.mono fun b hl hb => ⟨hb.1, hl, hb.2.2⟩).over hb, (h.due.mono fun b hl hb => ⟨hb.1, hl, hb.2.2⟩).over hb, fun e => by omega, fun r e => ⟨fun h => h.2.2 e.symm, by have := hown r e; omega⟩, Nat.le_trans hw hb.size⟩
  rcases id h'.rp.2 with ⟨hv, hn⟩ | ⟨g', cap, cur, hv, -⟩
  · have e : c.rp = [] := List.length_eq_zero_iff.1 hn
    refine .inl ⟨by rw [hv]; rfl, ⟨none, by rw [hv, e]; rfl⟩, ?_⟩
    rw [hv, e]
    exact Rep.nil _ _ _ _
  · refine .inr ⟨g', cap, by rw [hv]; rfl, hv, h'.rp⟩
/-- while changes are taken in: what is written lies behind w1 -/
structure EcR (w1 : World) (g : Nat) (d : Cs) (wl : World) : Prop where
  st : ∃ (u : CsV) (o : Option Nat) (Q : Nat → Prop), TkIn Q (w1.heap.size + 2) o wl g d u ∧ (∀ b, Q b → w1.heap.size + 2 ≤ b) ∧ (∀ r, o = some r → w1.heap.size + 2 ≤ r)
  B : Below w1.heap.size w1 wl
attribute [local go_sem ↓] loadC_eq storeC_eq
set_option maxHeartbeats 8000000 in
theorem rcend_lt (c : Cs) (v : CsV) (P : Nat → Prop) (w : World) (now : Int) (hp : CIn P w c v) (hP : ∀ b, P b → b < w.heap.size) (h80 : c.pd.length * 80 ≤ 140737488351232) (hsz : (c.rp.length + c.pd.length) * 16 ≤ 168884986026393) :
    Calls Try.prog 7 #[.agg (csC c v), .int .i64 now] w (AnsC P w (endC c now)) := by
  have hD : endC c now = if refC c = 0 then (if isT now = true ∧ c.t ≤ now then (doneC { c with h := c.h + 1, t := now }, 0) else (c, 2)) else (c, refC c) := rfl
  have HDN : Hid (doneC { c with h := c.h + 1, t := now } = ripeC { takesC { c with h := c.h + 1, t := now } with pd := [] } (takesC { c with h := c.h + 1, t := now }).rp) := rfl
  have HTK : Hid (takesC { c with h := c.h + 1, t := now } = c.pd.foldl takeC { c with h := c.h + 1, t := now }) := rfl
  have HRC : Hid (refC c = if goodC c = true then (if c.on = true then 0 else 4) else 2) := rfl
  have HIT : Hid (isT now = (decide (0 ≤ now) && decide (now ≤ 1099511627776))) := rfl
  have HB := hide (begC hp)
  have HGD := hide (fun (wx : World) (h : BegC P w wx c v) => rgoodc_any c v P wx h.I0)
  have HCP := hide (fun (wx : World) (h : BegC P w wx c v) => rcopyc_any c v P wx h.I0 h80 (by omega))
  have HD := hide hD
  have HSZ := hide hsz
  have H80 := hide h80
  have HGP : Hid (goodC c = true → (0 ≤ c.h ∧ c.h < 1099511627776) ∧ (0 ≤ c.t ∧ c.t ≤ 1099511627776) ∧ c.pd.all goodK = true ∧ upB (-1) c.set = true) := fun h => by
    have := good_parts h
    exact ⟨⟨this.1.2.1, this.1.2.2⟩, this.2.1, this.2.2.2.2.1, up_set _ _ this.2.2.2.1⟩
  clear hp hD hsz h80
  generalize endC c now = D at *
  generalize doneC { c with h := c.h + 1, t := now } = DN at *
  generalize takesC { c with h := c.h + 1, t := now } = TK at *
  generalize refC c = RC at *
  generalize goodC c = G at *
  go_enter Try.func7, Try.ntmps7
  go_upto_region 1 with fail
  change Code.wp Try.prog _ _ _ ((w.alloc (.cells (csC c v) 33)).alloc (.cells Z22 33))
  generalize (w.alloc (.cells (csC c v) 33)).alloc (.cells Z22 33) = w0 at *
  obtain ⟨l0, -⟩ := HB.out.facts
  cases G
  · have HR : Hid (D = (c, 2)) := by rw [Hid, HD.out, HRC.out]; simp
    go_upto_region 2 with (go_at_call 23; refine (HGD.out _ HB.out).mono ?_; rintro e w1 ⟨rfl, hb1⟩; have HB1 := hide (HB.out.over hb1); clear hb1 l0; obtain ⟨l1, s1⟩ := HB1.out.facts)
    go_wp2
    exact HB1.out.asItWas Try.results7 _ _ HR.out _ rfl rfl rfl
  go_upto_region 3 with (go_at_call 23; refine (HGD.out _ HB.out).mono ?_; rintro e w1 ⟨rfl, hb1⟩; have HB1 := hide (HB.out.over hb1); clear hb1 l0)
  obtain ⟨⟨a0, -, a2, a3, -⟩, ⟨-, a6, a7⟩, -⟩ := cs_facts HB1.out.C0
  cases hon : c.on
  · have HR : Hid (D = (c, 4)) := by rw [Hid, HD.out, HRC.out, hon]; simp
    rw [hon] at a0
    obtain ⟨l1, s1⟩ := HB1.out.facts
    go_wp2
    exact HB1.out.asItWas Try.results7 _ _ HR.out _ rfl rfl rfl
  rw [hon] at a0
  have HR := hide (HD.out.trans (if_pos (by rw [HRC.out, hon]; rfl)))
  obtain ⟨⟨hh0, hh1⟩, ⟨ht0, ht1⟩, hgk, hup⟩ := HGP.out (by first | rfl | trivial)
  have HGK := hide hgk
  have HUP := hide hup
  clear HGP hgk hup HD HRC HB HGD
  have hcs : (now < c.t ∨ (c.t ≤ now ∧ 1099511627776 < now)) ∨ (c.t ≤ now ∧ now ≤ 1099511627776) := by omega
  rcases hcs with hcs | ⟨hnt, hn1⟩
  · replace HR := hide (HR.out.trans (if_neg (by rw [HIT.out]; simp only [Bool.and_eq_true, decide_eq_true_eq]; omega)))
    obtain ⟨l1, s1⟩ := HB1.out.facts
    rcases hcs with h1 | ⟨h1, h2⟩
    all_goals
      go_wp2
      exact HB1.out.asItWas Try.results7 _ _ HR.out _ rfl rfl rfl
  have hn0 : 0 ≤ now := by omega
  replace HR := hide (HR.out.trans (if_pos ⟨by rw [HIT.out]; simp only [Bool.and_eq_true, decide_eq_true_eq]; omega, hnt⟩))
  obtain ⟨l1, -⟩ := HB1.out.facts
  go_upto_region 8 with (go_at_call 5; refine (HCP.out _ HB1.out).mono ?_; rintro e w2 ⟨v2, L, rfl, N2, hb2⟩; have sA := laid_store (N2.cin H80.out (by have := HSZ.out; omega)); unfold Z22 at sA; have HN2 := hide N2; have HB2 := hide hb2; clear N2 hb2 l1)
  clear sA
  have C3 := laid_cat w2 c v2
  have b3 := laid_below w2 c v2
  have T3 := HN2.out.tk H80.out b3 (Nat.le_refl _) C3
  have hz2 : w1.heap.size + 2 ≤ w2.heap.size := Nat.le_trans HN2.out.le.1 HN2.out.le.2
  have hown2 : ∀ r, v2.rp.ownBlock = some r → w1.heap.size + 2 ≤ r := fun r e => (World.ownsRow.lt HN2.out.rp r e).1
  have B3 := HB2.out.trans (b3.mono HB2.out.size)
  generalize laidW w2 c v2 = w3 at *
  obtain ⟨g, eg⟩ : ∃ g, g = w2.heap.size := ⟨_, rfl⟩
  rw [← eg] at C3 T3 hz2
  rw [← eg]
  have a2 : w3.cell? ⟨g, 2, none⟩ = some (.int .i64 c.h) := C3.cell 2
  have a3' : w3.cell? ⟨g, 3, none⟩ = some (.int .i64 c.t) := C3.cell 3
  have f2 := C3.free 2
  have f3 := C3.free 3
  have hlt := C3.lt
  have hw1 : IntKind.i64.wrap (c.h + 1) = c.h + 1 := by simp [IntKind.wrap, IntKind.bits, IntKind.signed]; omega
  have T4 := (T3.put 2 (.int .i64 (c.h + 1)) { c with h := c.h + 1 } (set_h _ _ _) rfl rfl rfl rfl).put 3 (.int .i64 now) { c with h := c.h + 1, t := now } (set_t _ _ _) rfl rfl rfl rfl
  have B4 := (B3.setCell (p := ⟨g, 2, none⟩) (by show w1.heap.size ≤ g; omega) (.int .i64 (c.h + 1))).setCell (p := ⟨g, 3, none⟩) (by show w1.heap.size ≤ g; omega) (.int .i64 now)
  have HE4 : Hid (EcR w1 g { c with h := c.h + 1, t := now } ((w3.setCell ⟨g, 2, none⟩ (.int .i64 (c.h + 1))).setCell ⟨g, 3, none⟩ (.int .i64 now))) := ⟨⟨v2, _, _, T4, fun b hb => hb.1, hown2⟩, B4⟩
  have hz1 : w.heap.size + 2 ≤ w1.heap.size := HB1.out.R0.lt
  clear C3 b3 T3 hown2 B3 T4 B4 eg HN2 HB2 HCP
  go_upto_region 10 with fail
  clear a2 a3' f2 f3 hlt hw1
  generalize (w3.setCell ⟨g, 2, none⟩ (.int .i64 (c.h + 1))).setCell ⟨g, 3, none⟩ (.int .i64 now) = w4 at *
  obtain ⟨Ap, Cp, ep⟩ : ∃ Ap Cp, v.pd = .slice Ap c.pd.length Cp := by
    obtain ⟨z, hz, hr, -⟩ := HB1.out.I0.pd
    obtain ⟨A, C, e, -⟩ := hr.open (pdL_length _ _ hz) (by decide)
    exact ⟨A, C, e⟩
  have a6' : w4.cell? ⟨w.heap.size, 6, none⟩ = some (.slice Ap c.pd.length Cp) := by rw [← ep]; exact (HB1.out.C0.over HE4.out.B).cell 6
  have hplen : (c.pd.length : Int) < 4611686018427387904 := by have := HSZ.out; omega
  have HPV := hide ep
  clear ep a0 a2 a3 a6 a7
  go_upto_region 11 with fail
  clear a6'
  go_loopw [41] (fun i wl => ∃ (k : Nat), k ≤ c.pd.length ∧ i = .int .i64 (k : Int) ∧ Hid (EcR w1 g ((c.pd.take k).foldl takeC { c with h := c.h + 1, t := now }) wl) ∧ Hid (upB (-1) ((c.pd.take k).foldl takeC { c with h := c.h + 1, t := now }).set = true)) (fun i _ => c.pd.length - (intOf i).toNat)
  case atStart => exact ⟨0, Nat.zero_le _, rfl, HE4.out, HUP.out⟩
  case round =>
    obtain ⟨k, hk, rfl, HK, HU⟩ := hrel
    by_cases hlt : k < c.pd.length
    · have hkI : (k : Int) < (c.pd.length : Int) := by omega
      have hk0 : (0 : Int) ≤ (k : Int) := by omega
      have tf := takes_facts (c.pd.take k) { c with h := c.h + 1, t := now }
      have htk : c.pd.take (k + 1) = c.pd.take k ++ [c.pd[k]] := List.take_succ_eq_append_getElem hlt
      have hfold : (c.pd.take (k + 1)).foldl takeC { c with h := c.h + 1, t := now } = takeC ((c.pd.take k).foldl takeC { c with h := c.h + 1, t := now }) c.pd[k] := by rw [htk, List.foldl_append]; rfl
      have hgx : goodK c.pd[k] = true := (List.all_eq_true.1 HGK.out) _ (List.getElem_mem hlt)
      have hx : c.pd[k]? = some c.pd[k] := List.getElem?_eq_getElem hlt
      have hlk : ((c.pd.take k).foldl takeC { c with h := c.h + 1, t := now }).rp.length = c.rp.length + k := by rw [tf.2.2]; simp; omega
      have HFO := hide hfold
      generalize (c.pd.take k).foldl takeC { c with h := c.h + 1, t := now } = d at *
      generalize c.pd[k] = x at *
      obtain ⟨-, hdt, -⟩ := tf
      dsimp only at hdt
      have hl16 : d.rp.length * 16 ≤ 168884986026393 := by rw [hlk]; have := HSZ.out; omega
      obtain ⟨z, hz, hr, hin⟩ := (HB1.out.over HK.out.B).I0.pd
      obtain ⟨A', C', e', -, -, hc', -⟩ := hr.open (pdL_length _ _ hz) (by decide)
      rw [HPV.out] at e'
      cases e'
      obtain ⟨b, off, rfl, -, hbl, hcell⟩ := hc' (by omega)
      have hy : z[k]? = some z[k] := List.getElem?_eq_getElem (by omega)
      obtain ⟨r1, r2⟩ := hin k x _ hx hy
      have cl : ∀ j, j < 6 → ∀ u', (pkL x z[k])[j]? = some u' → wr.cell? ⟨b, off + k * 6 + j, none⟩ = some u' := fun j hj u' hu => by
        rw [Nat.add_assoc]
        exact hcell _ _ ((pdL_get c.pd z k x _ j hx hy hj).trans hu)
      have c0 := cl 0 (by omega) _ rfl
      have c1 := cl 1 (by omega) _ rfl
      have c2 := cl 2 (by omega) _ rfl
      have c3 := cl 3 (by omega) _ rfl
      have c4 := cl 4 (by omega) _ rfl
      have c5 := cl 5 (by omega) _ rfl
      rw [Nat.add_zero] at c0
      have hgn : Cd.goodN x.k x.i x.v x.n x.S x.D = 0 := by
        unfold goodK at hgx
        simp only [Bool.and_eq_true, decide_eq_true_eq] at hgx
        exact hgx.2
      have hD := rises_mem x.D (-1) (good_rises hgn).2
      generalize z[k] = y at *
      obtain ⟨y1, y2⟩ := y
      dsimp only at c4 c5 r1 r2
      obtain ⟨A1, n1, C1, e1, -⟩ := id r1
      obtain ⟨A2, C2, e2, s2, -, hc2, -⟩ := r2.open (inC_length _) (by decide)
      have HC2 := hide hc2
      have hlen2 : x.D.length ≤ 17592186044405 := by omega
      subst e1 e2
      have HD2 := hide hD
      have HR1 := hide r1
      obtain ⟨xk, xi, xv, xn, xS, xD⟩ := x
      dsimp only at c0 c1 c2 c3 HR1 HD2 HC2 hlen2 HFO
      obtain ⟨⟨u, o, Q, T, hq1, hq2⟩, BK⟩ := HK.out
      have K5 := CAt.new 46 wr #[.int .i64 xk, .int .i64 xi, .int .i64 xv, .int .i64 xn, .slice A1 n1 C1, .slice A2 xD.length C2]
      have bA : Below wr.heap.size wr (wr.alloc (.cells #[.int .i64 xk, .int .i64 xi, .int .i64 xv, .int .i64 xn, .slice A1 n1 C1, .slice A2 xD.length C2] 46)) := (Below.refl _ wr).alloc (Nat.le_refl _) _
      have hgl := T.cat.lt
      have HC2' : Hid (0 < xD.length → ∃ b off, A2 = some ⟨b, off, none⟩ ∧ b < w1.heap.size ∧ ∀ j u', (inC xD)[j]? = some u' → w1.cell? ⟨b, off + j, none⟩ = some u') := fun h0 => by
        obtain ⟨b', off', e', hPb, hbl', hcell'⟩ := HC2.out h0
        have hlt' : b' < w1.heap.size := by have := hP b' hPb; omega
        exact ⟨b', off', e', hlt', fun j u' hu => (BK.cell (p := ⟨b', off' + j, none⟩) hlt').symm.trans (hcell' j u' hu)⟩
      clear hin hr hz hc' hcell cl r1 r2 hD hgn hgx hx hy hbl hfold htk hc2 s2 hlk HC2
      go_upto_region 13 with fail
      clear c0 c1 c2 c3 c4 c5
      obtain ⟨w5, ew5⟩ : ∃ w5, w5 = wr.alloc (.cells #[.int .i64 xk, .int .i64 xi, .int .i64 xv, .int .i64 xn, .slice A1 n1 C1, .slice A2 xD.length C2] 46) := ⟨_, rfl⟩
      rw [← ew5] at K5 bA
      rw [← ew5]
      have hz5 : w5.heap.size = wr.heap.size + 1 := by rw [ew5]; simp
      clear ew5
      have T5 := T.later bA
      have B5 := BK.trans (bA.mono BK.size)
      have HAP := hide (fun (wx : World) (hb : Below w5.heap.size w5 wx) => rapply_rep d.set xS u.set (.slice A1 n1 C1) Q P wx (T5.set.over hb) ((HR1.out.over bA).over hb))
      have hgne : g ≠ wr.heap.size := by omega
      have hgne' : wr.heap.size ≠ g := by omega
      have HF : Hid (∀ wx, Below w5.heap.size w5 wx → wx.cell? ⟨g, 5, none⟩ = some u.set ∧ wx.frozen? ⟨g, 5, none⟩ = false ∧ wx.cell? ⟨wr.heap.size, 1, none⟩ = some (.int .i64 xi) ∧ wx.cell? ⟨g, 4, none⟩ = some (.int .i64 d.id) ∧ wx.frozen? ⟨g, 4, none⟩ = false) := fun wx b1 => by
        have c1 := T5.cat.over b1
        exact ⟨c1.cell 5, c1.free 5, (K5.over b1).cell 1, c1.cell 4, c1.free 4⟩
      have a5 : w5.cell? ⟨g, 5, none⟩ = some u.set := T5.cat.cell 5
      have k4 : w5.cell? ⟨wr.heap.size, 4, none⟩ = some (.slice A1 n1 C1) := K5.cell 4
      have k1 : w5.cell? ⟨wr.heap.size, 1, none⟩ = some (.int .i64 xi) := K5.cell 1
      have HT5 := hide (show _ ∧ _ ∧ _ ∧ _ ∧ _ from ⟨T5, K5, B5, hq1, hq2⟩)
      have hgl5 := T5.cat.lt
      clear T5 K5 B5 hq1 hq2 T BK bA HK HR1
      apply wp_joins (fun A n C w7 => ∃ w6, w7 = (w6.setCell ⟨g, 5, none⟩ (.slice A n C)).setCell ⟨g, 4, none⟩ (.int .i64 xi) ∧ Rep (fun b => w5.heap.size ≤ b) w6 (.slice A n C) 2 16 (pwC (applyF d.set xS)) ∧ Below w5.heap.size w5 w6)
      · refine wp_region_noPanic ?_
        go_region_with (go_at_call 24; refine (HAP.out _ (by exact (Below.refl _ w5).drew)).mono ?_; rintro e w6 ⟨A, n, C, rfl, hr, hb1⟩; have b1 := (Below.refl w5.heap.size w5).drew.trans hb1; obtain ⟨y5, yf5, y1, y4, yf4⟩ := HF.out w6 b1; have HR1 := hide hr; have HB1' := hide b1; clear hr hb1 b1)
        all_goals exact NoPanic.normal ⟨A, n, C, rfl, rfl, w6, rfl, HR1.out, HB1'.out⟩
      rintro A n C w7 ⟨w6, rfl, hr6, hb6⟩
      rw [applyF_set HU.out] at hr6
      clear a5 k4 k1 HF HAP
      obtain ⟨T5, K5, B5, hq1, hq2⟩ := HT5.out
      clear HT5
      have hnQ : ¬ (Q g ∨ w5.heap.size ≤ g) := fun h => h.elim T5.notg (by omega)
      have hnO : ∀ r, o = some r → ¬ (Q r ∨ w5.heap.size ≤ r) := fun r e h => h.elim (T5.noto r e).1 (by have := (T5.rp.lt e).2; omega)
      have T6 := ((T5.mono (P' := fun b => Q b ∨ w5.heap.size ≤ b) (fun b _ hb => .inl hb) hnQ hnO).later hb6).newSet (.slice A n C) (Df.applyL d.set xS) (hr6.mono fun b _ hb => .inr hb)
      have T7 := T6.put 4 (.int .i64 xi) { d with set := Df.applyL d.set xS, id := xi } (set_id _ _ _) rfl rfl rfl rfl
      have K7 := ((K5.over hb6).other (c := g) (o := 5) hgne' (.slice A n C)).other (c := g) (o := 4) hgne' (.int .i64 xi)
      have hgB : w1.heap.size ≤ g := by omega
      have B7 := ((B5.trans (hb6.mono B5.size)).setCell (p := ⟨g, 5, none⟩) hgB (.slice A n C)).setCell (p := ⟨g, 4, none⟩) hgB (.int .i64 xi)
      obtain ⟨Q7, eQ7⟩ : ∃ Q7 : Nat → Prop, Q7 = fun b => Q b ∨ w5.heap.size ≤ b := ⟨_, rfl⟩
      have hq1' : ∀ b, Q7 b → w1.heap.size + 2 ≤ b := fun b h => by rw [eQ7] at h; exact h.elim (hq1 b) (by have := B5.size; omega)
      rw [← eQ7] at T7
      have HY := hide (show _ ∧ _ ∧ _ ∧ _ ∧ _ from ⟨T7, K7, B7, hq1', hq2⟩)
      clear T5 K5 B5 T6 T7 K7 B7 hq1' eQ7 hq2 hr6 hb6 hnQ hnO hq1
      generalize (w6.setCell ⟨g, 5, none⟩ (.slice A n C)).setCell ⟨g, 4, none⟩ (.int .i64 xi) = w7 at *
      simp only [Exit.then]
      apply_assumption
      have k5 : w7.cell? ⟨wr.heap.size, 5, none⟩ = some (.slice A2 xD.length C2) := HY.out.2.1.cell 5
      go_upto_region 15 with fail
      clear k5
      obtain ⟨p8, ep8⟩ : ∃ p8, p8 = wr.heap.size := ⟨_, rfl⟩
      rw [← ep8] at HY hgne hgne' hz5
      rw [← ep8]
      clear ep8 hgl hgl5 hz5
      go_loopw [57] (fun i wl => ∃ (k : Nat), k ≤ xD.length ∧ i = .int .i64 (k : Int) ∧ Hid (TkIn Q7 (w1.heap.size + 2) o wl g { d with set := Df.applyL d.set xS, id := xi, fl := flagsOff d.fl (xD.take k) } { u with set := .slice A n C }) ∧ Hid (CAt 46 wl p8 #[.int .i64 xk, .int .i64 xi, .int .i64 xv, .int .i64 xn, .slice A1 n1 C1, .slice A2 xD.length C2]) ∧ Hid (Below w1.heap.size w1 wl)) (fun i _ => xD.length - (intOf i).toNat)
      case atStart => exact ⟨0, Nat.zero_le _, rfl, HY.out.1, HY.out.2.1, HY.out.2.2.1⟩
      case round =>
        obtain ⟨k', hk', rfl, HT4, HK4, HA4⟩ := hrel
        by_cases hlt' : k' < xD.length
        · have hkI' : (k' : Int) < (xD.length : Int) := by omega
          obtain ⟨b', off', rfl, hbl, hcell⟩ := HC2'.out (by omega)
          have hg0 : xD.getD k' 0 = xD[k'] := by simp [List.getD, hlt']
          have hu := HD2.out xD[k'] (List.getElem_mem hlt')
          have htk : xD.take (k' + 1) = xD.take k' ++ [xD[k']] := List.take_succ_eq_append_getElem hlt'
          obtain ⟨m, hm⟩ : ∃ m : Nat, xD[k'] = (m : Int) := ⟨xD[k'].toNat, by omega⟩
          have cD : wr.cell? ⟨b', off' + k', none⟩ = some (.int .i64 (m : Int)) := by
            rw [HA4.out.cell (p := ⟨b', off' + k', none⟩) hbl, hcell k' _ (inC_get _ k' hlt'), hg0, hm]
          have hm6 : m < 6 := by omega
          have hmI : (m : Int) < 6 := by omega
          have hm0 : (0 : Int) ≤ (m : Int) := by omega
          have aF : wr.cell? ⟨g, 8 + m, none⟩ = some (.bool (flagsOff d.fl (xD.take k') m)) := (HT4.out.cat.cell _).trans (get_fl _ _ hm6)
          have fF := HT4.out.cat.free (8 + m)
          have hltg := HT4.out.cat.lt
          have T5 := HT4.out.put (8 + m) (.bool false) { d with set := Df.applyL d.set xS, id := xi, fl := flagsOff d.fl (xD.take (k' + 1)) } (by rw [set_fl _ _ hm6, htk, flagsOff_app, hm, Int.toNat_natCast]) rfl rfl rfl rfl
          have K5 := HK4.out.other (c := g) (o := 8 + m) hgne' (.bool false)
          have A5 := HA4.out.setCell (p := ⟨g, 8 + m, none⟩) hgB (.bool false)
          have HZ := hide (show _ ∧ _ ∧ _ from ⟨T5, K5, A5⟩)
          clear T5 K5 A5 hcell hu hg0 hm htk HT4 HK4 HA4
          go_upto_region 18 with fail
          clear cD aF fF
          generalize wr.setCell ⟨g, 8 + m, none⟩ (.bool false) = w8 at *
          go_wp2
          first | exact ⟨⟨k' + 1, by omega, by go_num, HZ.out.1, HZ.out.2.1, HZ.out.2.2⟩, by simp [intOf]; omega⟩ | ((repeat apply Exists.intro); exact ⟨⟨k' + 1, by omega, by go_num, HZ.out.1, HZ.out.2.1, HZ.out.2.2⟩, rfl⟩)
        · obtain rfl : k' = xD.length := by omega
          rw [List.take_length] at HT4
          obtain ⟨Ar, Cr, er⟩ := HT4.out.rp.slice
          have er' : u.rp = .slice Ar d.rp.length Cr := er
          have a7 : wr.cell? ⟨g, 7, none⟩ = some (.slice Ar d.rp.length Cr) := by rw [← er']; exact HT4.out.cat.cell 7
          have k1 : wr.cell? ⟨p8, 1, none⟩ = some (.int .i64 xi) := HK4.out.cell 1
          have HRR : Hid (∀ wx, Below wr.heap.size wr wx → RR Q7 (w1.heap.size + 2) o wx (.slice Ar d.rp.length Cr) d.rp ∧ w1.heap.size + 2 ≤ wx.heap.size) := fun wx hb => by
            have t := HT4.out.later hb
            have := t.rp
            rw [er] at this
            exact ⟨this, t.base⟩
          have hog : some g ≠ o := fun e => (HT4.out.noto g e.symm).2 rfl
          have hgr : g < wr.heap.size := HT4.out.cat.lt
          have HCT := hide HT4.out.cat
          have HF : Hid (∀ (w8 w9 : World), Below wr.heap.size wr w8 → w8.grownBy w9 o → w9.cell? ⟨g, 7, none⟩ = some (.slice Ar d.rp.length Cr) ∧ w9.frozen? ⟨g, 7, none⟩ = false) := fun w8 w9 hb hg9 => by
            have c8 := HCT.out.over hb
            have c9 := c8.keep (hg9.block g c8.lt hog)
            exact ⟨by rw [← er']; exact c9.cell 7, c9.free 7⟩
          have hw15 : IntKind.i64.wrap (now + 15) = now + 15 := by simp [IntKind.wrap, IntKind.bits, IntKind.signed]; omega
          clear er er'
          go_upto_region 20 with (at_builtin; refine wpList_apT rfl rfl _ _ rfl (v := .slice Ar d.rp.length Cr) (B := w1.heap.size + 2) (o := o) rfl (xi, now + 15) wr.heap.size rfl (HRR.out _ (by exact (Below.refl _ wr).alloc (Nat.le_refl _) _)).1 (HRR.out _ (by exact (Below.refl _ wr).alloc (Nat.le_refl _) _)).2 hl16 (fun j u' hj => rp_cell wr (xi, now + 15) j u' hj) ?_; intro r C9 w9 hr9 hg9 hat9; obtain ⟨y7, yf7⟩ := HF.out _ w9 (by exact (Below.refl _ wr).alloc (Nat.le_refl _) (.cells #[.int .i64 xi, .int .i64 (now + 15)] 53)) hg9; have HW := hide (show _ ∧ _ ∧ _ from ⟨hr9, hg9, hat9⟩); clear hr9 hg9 hat9)
          obtain ⟨hr9, hg9, hat9⟩ := HW.out
          have b8 : Below wr.heap.size wr (wr.alloc (.cells #[.int .i64 xi, .int .i64 (now + 15)] 53)) := (Below.refl _ wr).alloc (Nat.le_refl _) _
          have T9 := (HT4.out.later b8).app hr9 hg9 hat9
          have B8 := HA4.out.trans (b8.mono HA4.out.size)
          have B9 := (B8.grown hg9 B8.size (fun r' e => by have := HY.out.2.2.2.2 r' e; omega)).setCell (p := ⟨g, 7, none⟩) hgB (.slice (some ⟨r, 0, none⟩) (d.rp.length + 1) C9)
          have ho9 : ∀ r', some r = some r' → w1.heap.size + 2 ≤ r' := fun r' e => by
            cases e
            rcases hat9 with e' | e'
            · exact HY.out.2.2.2.2 r e'
            · have := HT4.out.base; have := b8.size; omega
          have etk : takeC d ⟨xk, xi, xv, xn, xS, xD⟩ = { d with set := Df.applyL d.set xS, id := xi, fl := flagsOff d.fl xD, rp := d.rp ++ [(xi, now + 15)] } := by unfold takeC; rw [hdt]
          have HEC : Hid (EcR w1 g (takeC d ⟨xk, xi, xv, xn, xS, xD⟩) (w9.setCell ⟨g, 7, none⟩ (.slice (some ⟨r, 0, none⟩) (d.rp.length + 1) C9))) := by
            rw [etk]
            exact ⟨⟨_, some r, _, T9, fun b hb => HY.out.2.2.2.1 b hb.1, ho9⟩, B9⟩
          clear T9 B8 B9 ho9 etk hr9 hg9 hat9 HW b8 y7 yf7 a7 k1 HT4 HK4 HA4 HRR HCT HF HY
          generalize w9.setCell ⟨g, 7, none⟩ (.slice (some ⟨r, 0, none⟩) (d.rp.length + 1) C9) = w10 at *
          go_wp2
          first | exact ⟨⟨k + 1, by omega, by go_num, by rw [HFO.out]; exact HEC.out, by rw [HFO.out]; exact up_apply _ _⟩, by simp [intOf]; omega⟩ | ((repeat apply Exists.intro); exact ⟨⟨k + 1, by omega, by go_num, by rw [HFO.out]; exact HEC.out, by rw [HFO.out]; exact up_apply _ _⟩, rfl⟩)
    · obtain rfl : k = c.pd.length := by omega
      rw [List.take_length, ← HTK.out] at HK
      have tf := takes_facts c.pd { c with h := c.h + 1, t := now }
      rw [← HTK.out] at tf
      obtain ⟨-, hdt, hrl⟩ := tf
      dsimp only at hdt hrl
      obtain ⟨⟨u, o, Q, T, hq1, hq2⟩, BK⟩ := HK.out
      have a6 : wr.cell? ⟨g, 6, none⟩ = some u.pd := T.cat.cell 6
      have f6 := T.cat.free 6
      have hgl := T.cat.lt
      have hgB : w1.heap.size ≤ g := by omega
      have C5 := T.cat.set 6 (.slice none 0 0)
      rw [set_pd _ _ []] at C5
      have hq : ∀ b, b < wr.heap.size → Q b → w1.heap.size + 2 ≤ b ∧ b ≠ g := fun b _ hb => ⟨hq1 b hb, fun e => T.notg (e ▸ hb)⟩
      have I5 : CIn (fun b => w1.heap.size + 2 ≤ b ∧ b ≠ g) wr { TK with pd := [] } { u with pd := .slice none 0 0 } := ⟨T.set.mono hq, KRep.nil _ _, T.rp.rep (by rw [hrl]; exact HSZ.out) hq (fun b e => ⟨hq2 b e, (T.noto b e).2⟩), T.said.mono hq, T.due.mono hq⟩
      have I6 := I5.set1 (g := g) (fun h => h.2 rfl) 6 (.slice none 0 0)
      have B6 := BK.setCell (p := ⟨g, 6, none⟩) hgB (.slice none 0 0)
      have HX6 : Hid (CAt 33 (wr.setCell ⟨g, 6, none⟩ (.slice none 0 0)) g (csC { TK with pd := [] } { u with pd := .slice none 0 0 }) ∧ CIn (fun b => w1.heap.size + 2 ≤ b ∧ b ≠ g) (wr.setCell ⟨g, 6, none⟩ (.slice none 0 0)) { TK with pd := [] } { u with pd := .slice none 0 0 } ∧ ripeC { TK with pd := [] } TK.rp = DN) := ⟨C5, I6, HDN.out.symm⟩
      have HB6 := hide B6
      have HL6 : Hid (TK.rp.length * 16 ≤ 168884986026393) := by rw [Hid, hrl]; exact HSZ.out
      have HT6 := hide hdt
      clear C5 I5 I6 B6 T BK hq1 hq2 hq HK HU hdt hrl HTK HDN
      go_upto_region 22 with fail
      clear a6 f6 hgl
      generalize wr.setCell ⟨g, 6, none⟩ (.slice none 0 0) = w6 at *
      go_loopw [12] (fun _ wl => ∃ (d : Cs) (u : CsV), Hid (CAt 33 wl g (csC d u) ∧ CIn (fun b => w1.heap.size + 2 ≤ b ∧ b ≠ g) wl d u ∧ ripeC d d.rp = DN) ∧ Hid (Below w1.heap.size w1 wl) ∧ Hid (d.t = now ∧ d.pd = [] ∧ d.rp.length * 16 ≤ 168884986026393)) (fun _ wl => rpLen g wl)
      case atStart => exact ⟨_, _, HX6, HB6, HT6.out, rfl, HL6.out⟩
      case round =>
        obtain ⟨d, u', HX, HBl, HDT⟩ := hrel
        obtain ⟨Ar, Cr, er, -, hn0', hcr, -⟩ := HX.out.2.1.rp.open (pwC_length _) (by decide)
        have hroom := HX.out.2.1.rp.room er
        have a7 : wr.cell? ⟨g, 7, none⟩ = some (.slice Ar d.rp.length Cr) := by rw [← er]; exact HX.out.1.cell 7
        have HBB := hide (HB1.out.over HBl.out)
        have HND : Hid (CIn (New P w 2) wr d u') := HX.out.2.1.mono fun b _ hb => .inr (by omega)
        have lg := cs_load HX.out.1 (csC_size _ _)
        have sR := cs_store HBB.out.R0 Z22_size (csC_size d u') (cs_one HND.out)
        cases hrp : d.rp with
        | nil =>
          rw [hrp] at a7
          have HED : Hid (D = (d, 0)) := by rw [Hid, HR.out, ← HX.out.2.2, ripe_nil hrp]
          clear HDT
          go_wp2
          exact cs_end2 Try.results7 HBB.out.R0 Z22_size HBB.out.B0 _ _ 0 D HED.out HND.out _ rfl rfl rfl
        | cons x l =>
          have eD : DN = if x.2 ≤ d.t then (if (sayC d 2 x.1 0 0 d.t).2 = 0 then ripeC (sayC d 2 x.1 0 0 d.t).1 l else d) else d := by rw [← HX.out.2.2, ripe_cons hrp]
          rw [HDT.out.1] at eD
          have HED := hide eD
          clear eD
          have hlen : d.rp.length = l.length + 1 := by rw [hrp]; rfl
          have hpos : (0 : Int) < ((l.length : Int) + 1) := by omega
          obtain ⟨b, off, rfl, -, hbl, hcell⟩ := hcr (by omega)
          rw [hlen] at a7
          have c0 : wr.cell? ⟨b, off, none⟩ = some (.int .i64 x.1) := hcell 0 _ (by rw [hrp]; rfl)
          have c1 : wr.cell? ⟨b, off + 1, none⟩ = some (.int .i64 x.2) := hcell 1 _ (by rw [hrp]; rfl)
          obtain ⟨x1, x2⟩ := x
          dsimp only at c0 c1 HED
          have hrl := CAt.rpLen HX.out.1 er
          rw [hlen] at hrl er
          have HRL := hide hrl
          clear hcell hcr hn0' hrl
          by_cases hdue : x2 ≤ now
          rotate_left
          · replace HED := hide (HR.out.trans (by rw [HED.out, if_neg hdue] : _ = ((d, 0) : Cs × Int)))
            clear HDT
            go_wp2
            exact cs_end2 Try.results7 HBB.out.R0 Z22_size HBB.out.B0 _ _ 0 D HED.out HND.out _ rfl rfl rfl
          replace HED := hide (HED.out.trans (if_pos hdue))
          go_upto_region 23 with fail
          clear a7 c1 lg sR
          have hgw : g < wr.heap.size := HX.out.1.lt
          have hw1r : w1.heap.size ≤ wr.heap.size := HBl.out.size
          have HER := hide (fun h => say_er (c := d) (k := 2) (i := x1) (x := 0) (n := 0) (now := now) h)
          have HSP : Hid ((sayC d 2 x1 0 0 now).1.rp = d.rp ∧ (sayC d 2 x1 0 0 now).1.t = d.t ∧ (sayC d 2 x1 0 0 now).1.pd = d.pd) := by unfold sayC; split <;> exact ⟨rfl, rfl, rfl⟩
          have HSY := hide (fun (Q : Nat → Prop) (wx : World) (h : CIn Q wx d u') => rsaying_any d u' 2 x1 0 0 now Q wx h hn0 hn1 (by rw [HDT.out.2.1]; simp) HDT.out.2.2)
          generalize hSS : sayC d 2 x1 0 0 now = SS at *
          clear hSS
          obtain ⟨d2, e2⟩ := SS
          dsimp only at HSY HED HSP HER
          have HLF : Hid (∀ wx, Below wr.heap.size wr wx → (loadC (.pointer (some ⟨g, 0, none⟩))).run Try.prog wx = .ok (.agg (csC d u')) wx ∧ wx.cell? ⟨g, 7, none⟩ = some (.slice (some ⟨b, off, none⟩) (l.length + 1) Cr) ∧ wx.cell? ⟨b, off, none⟩ = some (.int .i64 x1)) := fun wx hb => ⟨cs_load (HX.out.1.over hb) (csC_size _ _), by rw [← er]; exact (HX.out.1.over hb).cell 7, (hb.cell (p := ⟨b, off, none⟩) hbl).trans c0⟩
          have HNW : Hid (∀ wx, Below wr.heap.size wr wx → CIn (fun b => (w1.heap.size + 2 ≤ b ∧ b ≠ g) ∧ b < wr.heap.size) wx d u') := fun wx hb => (HX.out.2.1.mono (P' := fun b => (w1.heap.size + 2 ≤ b ∧ b ≠ g) ∧ b < wr.heap.size) fun b hl hp => ⟨hp, hl⟩).over hb
          have HOUT : Hid (∀ (gn : Nat) (ws wx : World) (uu : CsV), wr.heap.size ≤ ws.heap.size → CIn (New (fun b => (w1.heap.size + 2 ≤ b ∧ b ≠ g) ∧ b < wr.heap.size) ws 3) wx d2 uu → (wr.heap.size ≤ gn ∧ (gn < ws.heap.size ∨ wx.heap.size ≤ gn)) → CIn (fun b => (w1.heap.size + 2 ≤ b ∧ b ≠ g) ∧ b ≠ gn) wx d2 uu) := fun gn ws wx uu hs h hg => h.mono fun b hl hb => by
            rcases hb with ⟨hb, _⟩ | hb
            · exact ⟨hb.1, by omega⟩
            · exact ⟨⟨by omega, by omega⟩, by omega⟩
          have HAL' : Hid (Below wr.heap.size wr (wr.alloc (.cells Z22 33))) := (Below.refl _ wr).alloc (Nat.le_refl _) _
          have HALd := hide HAL'.out.drew
          have HACd : Hid (CAt 33 (wr.alloc (.cells Z22 33)).drew wr.heap.size Z22) := CAt.new 33 wr Z22
          have hsz' : wr.heap.size ≤ (wr.alloc (.cells Z22 33)).drew.heap.size := HALd.out.size
          have HGO := hide (fun (uu : CsV) (Q : Nat → Prop) (wx : World) (h : CIn Q wx d2 uu) => laid_store h)
          have HSZ' := hide hsz'
          clear hsz'
          unfold Z22 at HAL' HALd
          apply wp_joinu (fun uu gn w5 => Sits (fun b => w1.heap.size + 2 ≤ b ∧ b ≠ g) wr d2 uu gn w5)
          · refine wp_region_noPanic ?_
            have hb := Below.refl wr.heap.size wr
            go_region_held3 (fun wx => (loadC (.pointer (some ⟨g, 0, none⟩))).run Try.prog wx = .ok (.agg (csC d u')) wx ∧ wx.cell? ⟨g, 7, none⟩ = some (.slice (some ⟨b, off, none⟩) (l.length + 1) Cr) ∧ wx.cell? ⟨b, off, none⟩ = some (.int .i64 x1)) ((refine HLF.out _ ?_; first | with_reducible exact hb | with_reducible exact hb.drew | with_reducible exact hb.alloc hb.size _ | with_reducible exact (hb.alloc hb.size _).drew | with_reducible exact hb.drew.alloc hb.drew.size _ | with_reducible exact HST.out.bel)) (first
              | (go_at_call 25; refine (HSY.out _ _ (HNW.out _ (by with_reducible exact (Below.refl _ wr).drew))).mono ?_; rintro e wb ⟨vb, rfl, Ib, hbb⟩; dsimp only at Ib; dsimp only; have HIb1 := hide (HOUT.out wb.heap.size wr.drew wb vb (Nat.le_refl _) Ib ⟨hbb.size, .inr (Nat.le_refl _)⟩); have sA := HGO.out vb _ _ HIb1.out; unfold Z22 at sA; have hb := (Below.refl wr.heap.size wr).drew.trans hbb; have HBb := hide hb; have HST := hide (sits_new (HIb1.out.mono fun _ _ h => h.1) HBb.out); clear Ib hbb)
              | (go_at_call 25; refine (HSY.out _ _ (HNW.out _ (by with_reducible exact HALd.out))).mono ?_; rintro e wb ⟨vb, rfl, Ib, hbb⟩; dsimp only at Ib; dsimp only; have HIb := hide (HOUT.out wr.heap.size _ wb vb HSZ'.out Ib ⟨Nat.le_refl _, .inl HACd.out.lt⟩); have hb := HALd.out.trans (hbb.mono HALd.out.size); have HBb := hide hb; have HCb := hide (HACd.out.over hbb); have sC := cs_store HCb.out Z22_size (csC_size d2 vb) (cs_one HIb.out); have HST := hide (sits_old HIb.out HBb.out (Nat.le_refl _) HCb.out); clear Ib hbb))
            all_goals first
              | (have _m := HIb1; obtain ⟨gn, hg⟩ : ∃ gn, gn = wb.heap.size := ⟨_, rfl⟩; rw [← hg]; exact NoPanic.normal ⟨vb, gn, rfl, rfl, by subst hg; exact HST.out⟩)
              | (have _m := HIb; obtain ⟨gn, hg⟩ : ∃ gn, gn = wr.heap.size := ⟨_, rfl⟩; rw [← hg]; exact NoPanic.normal ⟨vb, gn, rfl, rfl, by subst hg; exact HST.out⟩)
          rintro u2 g3 w5 S5
          have hg3 := S5.le
          have hlt3 := S5.cat.lt
          have HS5 := hide S5
          have HB5 := hide S5.bel
          clear S5 HLF HNW HOUT HAL' HALd HACd HGO HSZ' HSY c0
          simp only [Exit.then]
          apply_assumption
          by_cases he : e2 = 0
          rotate_left
          · have he' : (e2 != 0) = true := by simpa using he
            replace HED := hide (HR.out.trans (by rw [HED.out, if_neg he] : _ = ((d, 0) : Cs × Int)))
            have lg := cs_load (HX.out.1.over HB5.out) (csC_size _ _)
            have HBC := hide (HBB.out.over HB5.out)
            have HNC := hide (HND.out.over HB5.out)
            have sR := cs_store HBC.out.R0 Z22_size (csC_size d u') (cs_one HNC.out)
            clear HS5 HDT
            go_wp2
            exact cs_end2 Try.results7 HBC.out.R0 Z22_size HBC.out.B0 _ _ 0 D HED.out HNC.out _ rfl rfl rfl
          subst he
          replace HED := hide (HED.out.trans (if_pos rfl))
          have I2 := HS5.out.cin
          have C2 := HS5.out.cat
          have hrp2 : d2.rp = (x1, x2) :: l := by rw [HSP.out.1, hrp]
          obtain ⟨A3, C3, e3, -, -, hc3, -⟩ := I2.rp.open (pwC_length _) (by decide)
          have hlen2 : d2.rp.length = l.length + 1 := by rw [hrp2]; rfl
          obtain ⟨b3, off3, rfl, -, -, -⟩ := hc3 (by omega)
          rw [hlen2] at e3
          have hroom3 := (I2.rp.room e3).1
          have hrI : (1 : Int) ≤ (l.length : Int) + 1 := by omega
          have hrI2 : (l.length : Int) + 1 ≤ (C3 : Int) := by omega
          have hrI3 : (1 : Int) ≤ (C3 : Int) := by omega
          have z7 : w5.cell? ⟨g3, 7, none⟩ = some (.slice (some ⟨b3, off3, none⟩) (l.length + 1) C3) := by rw [← e3]; exact C2.cell 7
          have f7 := C2.free 7
          have r4 : Rep (fun b => (w1.heap.size + 2 ≤ b ∧ b ≠ g) ∧ b ≠ g3) w5 (.slice (if C3 = 1 then some ⟨b3, off3, none⟩ else some ⟨b3, off3 + 2, none⟩) l.length (C3 - 1)) 2 8 (pwC l) := Rep.tail (x := (x1, x2)) (n := l.length + 1) (by have := I2.rp; rw [e3, hrp2] at this; exact this)
          have C4 := C2.set 7 (.slice (if C3 = 1 then some ⟨b3, off3, none⟩ else some ⟨b3, off3 + 2, none⟩) l.length (C3 - 1))
          rw [set_rp d2 u2 l] at C4
          have I4' : CIn (fun b => (w1.heap.size + 2 ≤ b ∧ b ≠ g) ∧ b ≠ g3) w5 { d2 with rp := l } { u2 with rp := .slice (if C3 = 1 then some ⟨b3, off3, none⟩ else some ⟨b3, off3 + 2, none⟩) l.length (C3 - 1) } := ⟨I2.set, I2.pd, r4, I2.said, I2.due⟩
          have I4 := I4'.set1 (g := g3) (fun h => h.2 rfl) 7 (.slice (if C3 = 1 then some ⟨b3, off3, none⟩ else some ⟨b3, off3 + 2, none⟩) l.length (C3 - 1))
          have G4 := (HX.out.1.over HB5.out).other (c := g3) (o := 7) (by omega) (.slice (if C3 = 1 then some ⟨b3, off3, none⟩ else some ⟨b3, off3 + 2, none⟩) l.length (C3 - 1))
          have B4 := (HBl.out.trans (HB5.out.mono HBl.out.size)).setCell (p := ⟨g3, 7, none⟩) (by show w1.heap.size ≤ g3; omega) (.slice (if C3 = 1 then some ⟨b3, off3, none⟩ else some ⟨b3, off3 + 2, none⟩) l.length (C3 - 1))
          have HZ := hide (show _ ∧ _ ∧ _ ∧ _ from ⟨C4, I4, G4, B4⟩)
          clear C4 I4 I4' G4 B4 r4 C2 I2 hc3 HS5 HB5
          go_upto_region 27 with fail
          clear z7 f7
          generalize hsl : Value.slice (if C3 = 1 then some ⟨b3, off3, none⟩ else some ⟨b3, off3 + 2, none⟩) l.length (C3 - 1) = sl at *
          generalize w5.setCell ⟨g3, 7, none⟩ sl = w6 at *
          have l6 := cs_load HZ.out.1 (csC_size _ _)
          have s6 := cs_store HZ.out.2.2.1 (csC_size _ _) (csC_size { d2 with rp := l } { u2 with rp := sl }) (cs_one HZ.out.2.1)
          have C7 := HZ.out.2.2.1.setAll (ds := csC { d2 with rp := l } { u2 with rp := sl }) rfl
          have I7 := (HZ.out.2.1.mono (P' := fun b => w1.heap.size + 2 ≤ b ∧ b ≠ g) fun b _ h => h.1).sets (g := g) (fun h => h.2 rfl) 0 (csC { d2 with rp := l } { u2 with rp := sl }).toList
          have B7 := below_sets (B := w1.heap.size) (b := g) (by omega) (csC { d2 with rp := l } { u2 with rp := sl }).toList 0 w6 HZ.out.2.2.2
          have hrl7 := CAt.rpLen C7 (A := if C3 = 1 then some ⟨b3, off3, none⟩ else some ⟨b3, off3 + 2, none⟩) (n := l.length) (C := C3 - 1) hsl.symm
          have HTL := hide (ripe_tail d2 l l)
          have HW := hide (show _ ∧ _ ∧ _ ∧ _ from ⟨C7, I7, B7, hrl7⟩)
          have HL7 : Hid (l.length * 16 ≤ 168884986026393) := by have h1 := HDT.out.2.2; rw [hrp, List.length_cons] at h1; show l.length * 16 ≤ _; omega
          clear C7 I7 B7 hrl7 HZ
          go_wp2
          exact ⟨⟨_, _, ⟨HW.out.1, HW.out.2.1, by rw [HTL.out]; exact HED.out.symm⟩, HW.out.2.2.1, HSP.out.2.1.trans HDT.out.1, HSP.out.2.2.trans HDT.out.2.1, HL7.out⟩, by rw [HW.out.2.2.2, HRL.out]; omega⟩
theorem rcend_any (c : Cs) (v : CsV) (P : Nat → Prop) (w : World) (now : Int) (hp : CIn P w c v) (h80 : c.pd.length * 80 ≤ 140737488351232) (hsz : (c.rp.length + c.pd.length) * 16 ≤ 168884986026393) :
    Calls Try.prog 7 #[.agg (csC c v), .int .i64 now] w (AnsC P w (endC c now)) := by
  refine (rcend_lt c v (fun b => P b ∧ b < w.heap.size) w now (hp.mono fun b hl h => ⟨h, hl⟩) (fun b h => h.2) h80 hsz).mono ?_
  rintro e w' ⟨v', e1, h1, h2⟩
  exact ⟨v', e1, h1.mono fun b _ h => by
    rcases h with ⟨h, hl⟩ | h
    · exact .inl ⟨h.1, hl⟩
    · exact .inr h, h2⟩
end Go.Proofs.Ytdkalcnlncjgiaa.Kc

