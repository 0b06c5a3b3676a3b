/- Parts of the proof: KRC. -/
import Derived.Test.YtdkalcnlncjgiaaRows
import Derived.Test.YtdkalcnlncjgiaaBK17
import Derived.Deep.AppendLies
import Derived.Deep.RegionHeld3
set_option maxRecDepth 100000
namespace Go.Proofs.Ytdkalcnlncjgiaa.Kc
open Go.RowKit Pv
/-- ripes copied: a row of the call's own -/
theorem ap_copyR {P : Nat → Prop} {w : World} {A : Option Addr} {C : Nat} {l : List (Int × Int)} (h : Rep P w (.slice A l.length C) 2 8 (pwC l)) (hl : l.length * 16 ≤ 168884986026393) :
    ∃ A1 C1 w1, (Builtin.append_ #[24, 24] 24 #[.slice none 0 0, .slice A l.length C]).run Try.prog w = .ok (.slice A1 l.length C1) w1 ∧ w1.ownsRow w.heap.size 53 2 (.slice A1 l.length C1) l.length (pwC l) ∧ Below w.heap.size w w1 := by
  obtain ⟨i0, hi, hz0, hz1, hz2⟩ := info_parts infoRp
  obtain ⟨A', C', e1, -, hn0, hc, hcl⟩ := h.open (pwC_length _) (by decide)
  cases e1
  cases A with
  | none =>
    obtain ⟨h0, h1⟩ := hn0 rfl
    obtain rfl : l = [] := List.length_eq_zero_iff.1 h0
    have hr := run_append_owned_none (P := Try.prog) w w.heap.size 24 24 53 i0 2 Try.underlying24 hi (.slice none 0 0) 0 [] (World.ownsRow_nil _ _ _ _)
    exact ⟨none, 0, w, by rw [h1]; exact hr, World.ownsRow_nil _ _ _ _, Below.refl _ _⟩
  | some a =>
    rcases Nat.eq_zero_or_pos l.length with h0 | h0
    · obtain rfl : l = [] := List.length_eq_zero_iff.1 h0
      obtain ⟨v', w', hr, ho, hg, -, -⟩ := run_append_own_at (P := Try.prog) w w.heap.size 24 24 53 i0 _ 2 16 Try.underlying24 hi hz0 hz1 hz2 rfl (by omega) (.slice none 0 0) 0 [] (World.ownsRow_nil _ _ _ _) a 0 C [] rfl (fun j u hj => by simp at hj) (fun u hu => by simp at hu) (by unfold maxLen; omega) (by omega) (Nat.le_refl _)
      obtain ⟨A1, C1, rfl⟩ := Ln.own_form ho
      exact ⟨A1, C1, w', hr, ho, (Below.refl _ w).grown hg (Nat.le_refl _) (fun k hk => by cases hk)⟩
    · have hr := run_append_nil (P := Try.prog) w 24 24 53 i0 _ Try.underlying24 hi hz0 a l.length C (pwC l) (by rw [hz1, pwC_length]) (hcl a rfl) h0 (by omega) (by rw [hz2]; omega)
      refine ⟨_, _, _, hr, ⟨pwC_length _, .inr ⟨w.heap.size, _, _, rfl, Nat.le_refl _, heap_alloc_new w.drew _, grownCap_ge _ _ _ _, grownCap_le_maxLen _ _ _ _ (by unfold maxLen; omega), ?_, ?_⟩⟩, (Below.refl _ w).drew.alloc (Nat.le_refl _) _⟩
      · have := grownCap_ge w l.length 0 53
        simp only [Array.size_append, List.size_toArray, size_zeroCells, pwC_length]
        simp only [Value.cells, List.size_toArray, List.length_cons, List.length_nil]
        omega
      · simp only [Array.toList_append]
        exact List.take_left' (pwC_length _)
theorem step_cpR {P : Nat → Prop} {ops : Array Oper} {oo : Oper} {a : Act} {w : World} {K : Act → World → Prop} {Q : Exit → Act → World → Prop} {E : Prop} (hg : oo.guard = none) (hty : oo.type = 24) (p q : Operand)
    (hop : oo.op = Op.call { callee := Callee.builtin Builtin.append, args := #[p, q], argTypes := #[24, 24] }) {A : Option Addr} {C : Nat} {l : List (Int × Int)} (hs : a.eval p = .slice none 0 0) (hx : a.eval q = .slice A l.length C) (h : Rep P w (.slice A l.length C) 2 8 (pwC l)) (hl : l.length * 16 ≤ 168884986026393)
    (hK : ∀ A1 C1 w1, w1.ownsRow w.heap.size 53 2 (.slice A1 l.length C1) l.length (pwC l) → Below w.heap.size w w1 → K (a.put oo.dst (.slice A1 l.length C1)) w1) :
    if Region.wanted oo (yielded ops a.tmps) = true then Oper.wp Try.prog oo a w K Q else E := by
  have hw : Region.wanted oo (yielded ops a.tmps) = true := by simp [Region.wanted, hg]
  rw [if_pos hw]
  unfold Oper.wp
  obtain ⟨A1, C1, w1, hr, h1, h2⟩ := ap_copyR h hl
  simp [execOp, hop, resolve, invoke, builtin, hs, hx, hty, hr, Result.andThen]
  exact hK _ _ _ h1 h2
/-- packets in a row of the call's own, their lists elsewhere -/
structure KOwn (B : Nat) (w : World) (v : Value) (q : List Pkt) (z : List (Value × Value)) : Prop where
  len : z.length = q.length
  own : w.ownsRow B 46 6 v q.length (pdL q z)
  ins : ∀ (i : Nat) (x : Pkt) (y : Value × Value), q[i]? = some x → z[i]? = some y → Rep (fun b => B ≤ b ∧ some b ≠ v.ownBlock) w y.1 2 16 (pwC x.S) ∧ Rep (fun b => B ≤ b ∧ some b ≠ v.ownBlock) w y.2 1 8 (inC x.D)
theorem KOwn.nil (B : Nat) (w : World) : KOwn B w (.slice none 0 0) [] [] := ⟨rfl, World.ownsRow_nil _ _ _ _, fun i x y h => by simp at h⟩
theorem KOwn.over {B : Nat} {w w' : World} {v : Value} {q : List Pkt} {z : List (Value × Value)} (h : KOwn B w v q z) (hb : Below w.heap.size w w') : KOwn B w' v q z :=
  ⟨h.len, Ln.own_over h.own hb, fun i x y hx hy => ⟨(h.ins i x y hx hy).1.over hb, (h.ins i x y hx hy).2.over hb⟩⟩
theorem KOwn.keep {B : Nat} {w w' : World} {v : Value} {q : List Pkt} {z : List (Value × Value)} (h : KOwn B w v q z) (hk : ∀ b, B ≤ b → b < w.heap.size → w'.heap[b]? = w.heap[b]?) : KOwn B w' v q z :=
  ⟨h.len, Ln.own_of h.own fun k hk' => hk k (World.ownsRow.lt h.own k hk').1 (World.ownsRow.lt h.own k hk').2, fun i x y hx hy => ⟨(h.ins i x y hx hy).1.keep fun b hb hl => hk b hb.1 hl, (h.ins i x y hx hy).2.keep fun b hb hl => hk b hb.1 hl⟩⟩
theorem KOwn.rep {B : Nat} {w : World} {v : Value} {q : List Pkt} {z : List (Value × Value)} (h : KOwn B w v q z) (hl : q.length * 80 ≤ 140737488351232) : KRep (fun b => B ≤ b) w v q :=
  ⟨z, h.len, Rep.own h.own (by omega), fun i x y hx hy => ⟨(h.ins i x y hx hy).1.mono fun _ _ hb => hb.1, (h.ins i x y hx hy).2.mono fun _ _ hb => hb.1⟩⟩
/-- one more is put behind -/
theorem KOwn.app {B : Nat} {w w' : World} {v : Value} {q : List Pkt} {z : List (Value × Value)} (h : KOwn B w v q z) {x : Pkt} {y : Value × Value} (hy : Rep (fun b => B ≤ b ∧ some b ≠ v.ownBlock) w y.1 2 16 (pwC x.S) ∧ Rep (fun b => B ≤ b ∧ some b ≠ v.ownBlock) w y.2 1 8 (inC x.D))
    {g cap : Nat} (ho : w'.ownsRow B 46 6 (.slice (some ⟨g, 0, none⟩) (q.length + 1) cap) (q.length + 1) (pdL q z ++ pkL x y)) (hg : w.grownBy w' v.ownBlock) (hat : v.ownBlock = some g ∨ g = w.heap.size) :
    KOwn B w' (.slice (some ⟨g, 0, none⟩) (q.length + 1) cap) (q ++ [x]) (z ++ [y]) := by
  have key : ∀ {u : Value} {s t : Nat} {cs : List Value}, Rep (fun b => B ≤ b ∧ some b ≠ v.ownBlock) w u s t cs → Rep (fun b => B ≤ b ∧ some b ≠ (Value.slice (some ⟨g, 0, none⟩) (q.length + 1) cap).ownBlock) w' u s t cs := fun hr => by
    have h2 : Rep (fun b => (B ≤ b ∧ some b ≠ v.ownBlock) ∧ b < w.heap.size) w _ _ _ _ := hr.mono fun b hlt hb => ⟨hb, hlt⟩
    have h3 := h2.keep (w' := w') fun b hb hlt => hg.block b hlt hb.1.2
    refine h3.mono fun b _ hb => ⟨hb.1.1, fun e => ?_⟩
    have e' : b = g := by simpa [Value.ownBlock] using e
    subst e'
    rcases hat with hat | hat
    · exact hb.1.2 hat.symm
    · have := hb.2; omega
  refine ⟨by simp [h.len], by rw [pdL_app q z x y h.len, List.length_append]; exact ho, fun i a b ha hb => ?_⟩
  by_cases hi : i < q.length
  · rw [List.getElem?_append_left hi] at ha
    rw [List.getElem?_append_left (by rw [h.len]; exact hi)] at hb
    exact ⟨key (h.ins i a b ha hb).1, key (h.ins i a b ha hb).2⟩
  · rw [List.getElem?_append_right (by omega)] at ha
    rw [List.getElem?_append_right (by rw [h.len]; omega), h.len] at hb
    rcases Nat.eq_zero_or_pos (i - q.length) with h0 | h0
    · rw [h0] at ha hb
      simp at ha hb
      subst ha hb
      exact ⟨key hy.1, key hy.2⟩
    · rw [List.getElem?_eq_none (by simp; omega)] at ha
      cases ha
/-- a consumer's copy: its lists in new memory, its packets behind L -/
structure CCp (B L : Nat) (w : World) (c : Cs) (v : CsV) : Prop where
  le : B ≤ L ∧ L ≤ w.heap.size
  set : Rep (fun b => B ≤ b ∧ b < L ∧ some b ≠ v.rp.ownBlock) w v.set 2 16 (pwC c.set)
  pd : ∃ z, KOwn L w v.pd c.pd z
  rp : w.ownsRow B 53 2 v.rp c.rp.length (pwC c.rp)
  rpL : ∀ k, v.rp.ownBlock = some k → k < L
  said : RepC (fun b => B ≤ b ∧ b < L ∧ some b ≠ v.rp.ownBlock) w v.said 1 16 (txC c.out.S)
  due : RepC (fun b => B ≤ b ∧ b < L ∧ some b ≠ v.rp.ownBlock) w v.due 1 8 (inC c.out.D)
theorem CCp.cin {B L : Nat} {w : World} {c : Cs} {v : CsV} (h : CCp B L w c v) (h80 : c.pd.length * 80 ≤ 140737488351232) (h16 : c.rp.length * 16 ≤ 168884986026393) : CIn (fun b => B ≤ b) w c v := by
  obtain ⟨z, hz⟩ := h.pd
  exact ⟨h.set.mono fun _ _ hb => hb.1, (hz.rep h80).mono fun b _ hb => by have := h.le.1; omega, Rep.own h.rp (by omega), h.said.mono fun _ _ hb => hb.1, h.due.mono fun _ _ hb => hb.1⟩
theorem CCp.rpRep {B L : Nat} {w : World} {c : Cs} {v : CsV} (h : CCp B L w c v) (h16 : c.rp.length * 16 ≤ 168884986026393) : Rep (fun b => B ≤ b ∧ b < L) w v.rp 2 8 (pwC c.rp) := by
  obtain ⟨A, n, C, a1, a2, a3, a4, a5⟩ := Rep.own (bts := 8) h.rp (by omega)
  refine ⟨A, n, C, a1, a2, a3, a4, fun h0 => ?_⟩
  obtain ⟨b, off, b1, b2, b3, b4⟩ := a5 h0
  exact ⟨b, off, b1, ⟨b2, h.rpL b (by rw [a1, b1]; rfl)⟩, b3, b4⟩
theorem CCp.keep {B L : Nat} {w w' : World} {c : Cs} {v : CsV} (h : CCp B L w c v) (hs : w.heap.size ≤ w'.heap.size) (hk : ∀ b, B ≤ b → b < w.heap.size → w'.heap[b]? = w.heap[b]?) : CCp B L w' c v := by
  obtain ⟨z, hz⟩ := h.pd
  exact ⟨⟨h.le.1, Nat.le_trans h.le.2 hs⟩, h.set.keep fun b hb hl => hk b hb.1 hl, ⟨z, hz.keep fun b hb hl => hk b (Nat.le_trans h.le.1 hb) hl⟩, Ln.own_of h.rp fun k hk' => hk k (World.ownsRow.lt h.rp k hk').1 (World.ownsRow.lt h.rp k hk').2, h.rpL, h.said.keep fun b hb hl => hk b hb.1 hl, h.due.keep fun b hb hl => hk b hb.1 hl⟩
theorem CCp.over {B L : Nat} {w w' : World} {c : Cs} {v : CsV} (h : CCp B L w c v) (hb : Below w.heap.size w w') : CCp B L w' c v := h.keep hb.size fun b _ hl => hb.block b hl
theorem sets_size {b : Nat} : ∀ (vs : List Value) (o : Nat) (w : World), (w.setCells b o vs).heap.size = w.heap.size
  | [], _, _ => rfl
  | v :: r, o, w => by rw [show w.setCells b o (v :: r) = (w.setCell ⟨b, o, none⟩ v).setCells b (o + 1) r from rfl, sets_size r]; simp [World.setCell]
theorem CCp.sets1 {B L g : Nat} {w : World} {c : Cs} {v : CsV} (h : CCp B L w c v) (hg : g < B) (o : Nat) (vs : List Value) : CCp B L (w.setCells g o vs) c v := h.keep (by rw [sets_size]; exact Nat.le_refl _) fun b hb _ => heap_sets (by omega) _ _ _
/-- all orders come to one frame, with four slices -/
def Join4 (F : Option Addr → Nat → Option Addr → Nat → Option Addr → Nat → Option Addr → Nat → Act) (R : Option Addr → Nat → Option Addr → Nat → Option Addr → Nat → Option Addr → Nat → World → Prop) (ex : Exit) (a : Act) (w : World) : Prop := ∃ A1 C1 A2 C2 A3 C3 A4 C4, ex = Exit.normal ∧ a = F A1 C1 A2 C2 A3 C3 A4 C4 ∧ R A1 C1 A2 C2 A3 C3 A4 C4 w
theorem wp_join4 {P : Program} {c : Code} {Q : Exit → Act → World → Prop} {a : Act} {w : World} (R : Option Addr → Nat → Option Addr → Nat → Option Addr → Nat → Option Addr → Nat → World → Prop) (F : Option Addr → Nat → Option Addr → Nat → Option Addr → Nat → Option Addr → Nat → Act) (h1 : Code.wp P c (Join4 F R) a w) (h2 : ∀ A1 C1 A2 C2 A3 C3 A4 C4 w', R A1 C1 A2 C2 A3 C3 A4 C4 w' → Q Exit.normal (F A1 C1 A2 C2 A3 C3 A4 C4) w') : Code.wp P c Q a w :=
  Code.wp_mono (fun e a' w' h => by obtain ⟨A1, C1, A2, C2, A3, C3, A4, C4, rfl, rfl, h⟩ := h; exact h2 _ _ _ _ _ _ _ _ w' h) h1
theorem rlcopy_sl (x : Ln.Line) (v1 v2 : Value) (P : Nat → Prop) (w : World) (h1 : RepC P w v1 1 16 (txC x.S)) (h2 : RepC P w v2 1 8 (inC x.D)) : Calls Try.prog 16 #[.agg #[v1, v2, .int .i64 x.g, .bool x.cl]] w fun e w' => ∃ A1 C1 A2 C2, e = .returned (.agg #[.slice A1 x.S.length C1, .slice A2 x.D.length C2, .int .i64 x.g, .bool x.cl]) ∧ RepC (fun b => w.heap.size ≤ b) w' (.slice A1 x.S.length C1) 1 16 (txC x.S) ∧ RepC (fun b => w.heap.size ≤ b) w' (.slice A2 x.D.length C2) 1 8 (inC x.D) ∧ Below w.heap.size w w' := by
  obtain ⟨A1, C1, A2, C2, sb, so, db, dO, rfl, rfl, L, -, -⟩ := RepC.line h1 h2
  refine (Ln.copy_any x A1 A2 C1 C2 sb so db dO w L).mono ?_
  rintro e w' ⟨B1, D1, B2, D2, rfl, O, hb⟩
  have s1 := L.hls
  have s2 := L.hld
  exact ⟨_, _, _, _, rfl, ((Rep.own (bts := 16) O.oS s1).mono fun b _ h => by omega).c, ((Rep.own (bts := 8) O.oD s2).mono fun b _ h => by omega).c, hb⟩
theorem wpList_liesK {ops : Array Oper} {rest : List Oper} {o : Oper} {a : Act} {w : World} {Q : Exit → Act → World → Prop} (hgd : o.guard = none) (s x : Operand) (t : TypeId)
    (ho : o.op = .call { callee := .builtin .append, args := #[s, x], argTypes := #[t, t] })
    (base : Nat) (e : TypeId) (i : TypeInfo) (z : Value) (size bytes : Nat) (ht : Try.prog.underlying t = some (.slice e)) (hi : Try.prog.info? e = some i) (hz : i.zero = some z)
    (hsize : i.size = size) (hby : i.bytes = bytes) (hzs : z.cells.size = size) (hsz : 0 < size)
    (v : Value) (n : Nat) (xs : List Value) (hs : a.eval s = v) (hown : w.ownsRow base e size v n xs)
    (ad : Addr) (m c : Nat) (news : List Value) (hx : a.eval x = .slice (some ad) m c) (hl : news.length = m * size) (hnews : ∀ j u, news[j]? = some u → w.cell? (ad.add j) = some u) (h1 : ∀ u ∈ news, u.oneCell' = true)
    (hm : 0 < m) (h63 : n + m ≤ maxLen) (hbytes : (n + m) * bytes ≤ 140737488355328) (hbase : base ≤ w.heap.size)
    (h : ∀ g cap w', w'.ownsRow base e size (.slice (some ⟨g, 0, none⟩) (n + m) cap) (n + m) (xs ++ news) → w.grownBy w' v.ownBlock → (v.ownBlock = some g ∨ g = w.heap.size) → g < w'.heap.size → wpList Try.prog ops Q rest (a.put o.dst (.slice (some ⟨g, 0, none⟩) (n + m) cap)) w') : wpList Try.prog ops Q (o :: rest) a w := by
  refine wpList_plain hgd fun K hK' => ?_
  have := step_append_lies (P := Try.prog) (ops := ops) (o := o) (a := a) (w := w) (K := K) (Q := Q) (E := False) hgd s x t ho base e i z size bytes ht hi hz hsize hby hzs hsz v n xs hs hown ad m c news hx hl hnews h1 hm h63 hbytes hbase w.heap.size rfl (fun g cap w' r1 r2 r3 r4 => hK' _ _ (h g cap w' r1 r2 r3 r4))
  have hw : Region.wanted o (yielded ops a.tmps) = true := by simp [Region.wanted, hgd]
  rwa [if_pos hw] at this
theorem pk_cell (w : World) (x : Pkt) (y : Value × Value) (j : Nat) (v : Value) (hj : (pkL x y)[j]? = some v) : (w.alloc (.cells #[.int .i64 x.k, .int .i64 x.i, .int .i64 x.v, .int .i64 x.n, y.1, y.2] 46)).cell? ((⟨w.heap.size, 0, none⟩ : Addr).add j) = some v := by
  rw [Addr.add_lit, Nat.zero_add]
  have h := (CAt.new 46 w #[.int .i64 x.k, .int .i64 x.i, .int .i64 x.v, .int .i64 x.n, y.1, y.2]).cell j
  rw [h]
  simpa [pkL] using hj
attribute [local go_sem ↓] loadC_eq storeC_eq
set_option maxHeartbeats 8000000 in
theorem rcopyc_any (c : Cs) (v : CsV) (P : Nat → Prop) (w : World) (hp : CIn P w c v) (h80 : c.pd.length * 80 ≤ 140737488351232) (h16 : c.rp.length * 16 ≤ 168884986026393) :
    Calls Try.prog 5 #[.agg (csC c v)] w fun e w' => ∃ v' L, e = .returned (.agg (csC c v')) ∧ CCp (w.heap.size + 2) L w' c v' ∧ Below w.heap.size w w' := by
  obtain ⟨i0, hi, hz0, hz1, hz2⟩ := info_parts infoPw2
  obtain ⟨j0, hj, hy0, hy1, hy2⟩ := info_parts infoPk
  have HP := hide hp
  have H80 := hide h80
  have H16 := hide h16
  have HB := hide (begC hp)
  clear hp h80 h16
  go_enter Try.func5, Try.ntmps5
  go_upto_region 1 with fail
  change Code.wp Try.prog _ _ _ ((w.alloc (.cells (csC c v) 33)).alloc (.cells Z22 33))
  generalize (w.alloc (.cells (csC c v) 33)).alloc (.cells Z22 33) = w0 at *
  obtain ⟨vs, vp, vr, v1, v2⟩ := v
  obtain ⟨As, Cs', es, ss, ns, -, -⟩ := HB.out.I0.set.open (pwC_length _) (by decide)
  obtain ⟨Ar, Cr, er, -, -, -, -⟩ := HB.out.I0.rp.open (pwC_length _) (by decide)
  obtain ⟨z, hzl, hzr, hzi⟩ := HP.out.pd
  obtain ⟨Aq, Cq, eq, sq, -, cq, -⟩ := hzr.open (pdL_length _ _ hzl) (by decide)
  obtain ⟨B1', D1', B2', D2', sb, so, db, dO, el1, el2, -, -, -⟩ := RepC.line HB.out.I0.said HB.out.I0.due
  dsimp only at es er eq el1 el2
  subst es er eq el1 el2
  have bS : 0 + c.set.length ≤ maxLen := by unfold maxLen; omega
  obtain ⟨-, ⟨a5, a6, a7⟩, ⟨a14, a15, a16, a17⟩⟩ := cs_facts HB.out.C0
  dsimp only at a5 a6 a7 a14 a15 a16 a17
  have HF : Hid (∀ wx, Below w0.heap.size w0 wx → (wx.cell? ⟨w.heap.size, 5, none⟩ = some (.slice As c.set.length Cs') ∧ wx.cell? ⟨w.heap.size, 7, none⟩ = some (.slice Ar c.rp.length Cr) ∧ wx.cell? ⟨w.heap.size, 14, none⟩ = some (.slice B1' c.out.S.length D1') ∧ wx.cell? ⟨w.heap.size, 15, none⟩ = some (.slice B2' c.out.D.length D2') ∧ wx.cell? ⟨w.heap.size, 16, none⟩ = some (.int .i64 c.out.g) ∧ wx.cell? ⟨w.heap.size, 17, none⟩ = some (.bool c.out.cl)) ∧ (∀ k, wx.frozen? ⟨w.heap.size, k, none⟩ = false)) := fun wx hb => by
    have C := HB.out.C0.over hb
    exact ⟨⟨C.cell 5, C.cell 7, C.cell 14, C.cell 15, C.cell 16, C.cell 17⟩, fun k => C.free k⟩
  have hsS := (HB.out.I0.set.over (Below.refl w0.heap.size w0).drew).cellsOf rfl
  have HBD := hide (Below.refl w0.heap.size w0).drew
  refine wp_join4 (fun A1 C1 A2 C2 A3 C3 A4 C4 w9 => ∃ (w4 : World) (M : Nat), w9 = (((((w4.setCell ⟨w.heap.size, 5, none⟩ (.slice A1 c.set.length C1)).setCell ⟨w.heap.size, 14, none⟩ (.slice A2 c.out.S.length C2)).setCell ⟨w.heap.size, 15, none⟩ (.slice A3 c.out.D.length C3)).setCell ⟨w.heap.size, 16, none⟩ (.int .i64 c.out.g)).setCell ⟨w.heap.size, 17, none⟩ (.bool c.out.cl)).setCell ⟨w.heap.size, 7, none⟩ (.slice A4 c.rp.length C4) ∧ Below w0.heap.size w0 w4 ∧ (w0.heap.size ≤ M ∧ M ≤ w4.heap.size) ∧ Rep (fun b => w0.heap.size ≤ b ∧ b < M) w4 (.slice A1 c.set.length C1) 2 16 (pwC c.set) ∧ RepC (fun b => w0.heap.size ≤ b ∧ b < M) w4 (.slice A2 c.out.S.length C2) 1 16 (txC c.out.S) ∧ RepC (fun b => w0.heap.size ≤ b ∧ b < M) w4 (.slice A3 c.out.D.length C3) 1 8 (inC c.out.D) ∧ w4.ownsRow M 53 2 (.slice A4 c.rp.length C4) c.rp.length (pwC c.rp)) (fun A1 C1 A2 C2 A3 C3 A4 C4 => ⟨List.toArray ((.agg (csC c ⟨.slice As c.set.length Cs', .slice Aq c.pd.length Cq, .slice Ar c.rp.length Cr, .slice B1' c.out.S.length D1', .slice B2' c.out.D.length D2'⟩)) :: (.pointer (some ⟨w.heap.size, 0, none⟩)) :: (.pointer (some ⟨w.heap.size + 1, 0, none⟩)) :: undef :: undef :: undef :: (.pointer (some ⟨w.heap.size, 5, none⟩)) :: (.slice As c.set.length Cs') :: (.slice A1 c.set.length C1) :: (.pointer (some ⟨w.heap.size, 14, none⟩)) :: (.agg #[.slice B1' c.out.S.length D1', .slice B2' c.out.D.length D2', .int .i64 c.out.g, .bool c.out.cl]) :: (.agg #[.slice A2 c.out.S.length C2, .slice A3 c.out.D.length C3, .int .i64 c.out.g, .bool c.out.cl]) :: (.pointer (some ⟨w.heap.size, 7, none⟩)) :: (.slice Ar c.rp.length Cr) :: (.slice A4 c.rp.length C4) :: (.pointer (some ⟨w.heap.size, 5, none⟩)) :: (.pointer (some ⟨w.heap.size, 14, none⟩)) :: (.pointer (some ⟨w.heap.size, 7, none⟩)) :: undef :: undef :: undef :: undef :: undef :: undef :: undef :: undef :: undef :: undef :: undef :: undef :: undef :: undef :: undef :: undef :: []), []⟩) ?_ ?_
  · refine wp_region_noPanic ?_
    go_region_law (first
      | (refine Ln.step_app rfl _ _ 22 rfl w0.heap.size 64 i0 _ 2 16 Try.underlying22 hi hz0 hz1 hz2 rfl (by decide) (.slice none 0 0) 0 [] rfl (World.ownsRow_nil _ _ _ _) As c.set.length Cs' (pwC c.set) rfl (pwC_length _) ns hsS (one_pws _) bS (by omega) (Nat.le_refl _) ?_; intro A1 C1 w1 ho1 hg1; rw [Nat.zero_add, List.nil_append] at ho1; rw [Nat.zero_add]; have b1 : Below w0.heap.size w0 w1 := (Below.refl _ w0).drew.grown hg1 (Nat.le_refl _) (fun k hk => by cases hk); have HR1 := hide (show Rep (fun b => w0.heap.size ≤ b) w1 (.slice A1 c.set.length C1) 2 16 (pwC c.set) from Rep.own ho1 ss); have HB1 := hide b1; clear a5 a7 a14 a15 a16 a17 ho1 hg1 b1 hsS; obtain ⟨⟨a5, a7, a14, a15, a16, a17⟩, -⟩ := HF.out w1 HB1.out)
      | (refine Cd.step_wanted rfl ?_; go_simp; go_at_call 16; refine (rlcopy_sl c.out _ _ P w1 (HB.out.I0.said.over HB1.out) (HB.out.I0.due.over HB1.out)).mono ?_; rintro e w2 ⟨A2, C2, A3, C3, rfl, r2, r3, b2⟩; have HR2 := hide (show _ ∧ _ ∧ _ from ⟨r2, r3, b2⟩); have HB2 := hide (HB1.out.trans (b2.mono HB1.out.size)); clear a5 a7 a14 a15 a16 a17 r2 r3 b2; obtain ⟨⟨a5, a7, a14, a15, a16, a17⟩, -⟩ := HF.out w2 HB2.out)
      | (refine step_cpR rfl rfl _ _ rfl (A := Ar) (C := Cr) (l := c.rp) rfl rfl (HB.out.I0.rp.over HB2.out) H16.out ?_; intro A4 C4 w3 ho3 b3; have HR3 := hide (show _ ∧ _ from ⟨ho3, b3⟩); have HB3 := hide (HB2.out.trans (b3.mono HB2.out.size)); clear a5 a7 a14 a15 a16 a17 ho3 b3; obtain ⟨⟨a5, a7, a14, a15, a16, a17⟩, fr⟩ := HF.out w3 HB3.out; have f5 := fr 5; have f7 := fr 7; have f14 := fr 14; have f15 := fr 15; have f16 := fr 16; have f17 := fr 17; clear fr))
    all_goals
      have s1 := HB1.out.size
      have s2 := HR2.out.2.2.size
      have s3 := HR3.out.2.size
      refine NoPanic.normal ⟨A1, C1, A2, C2, A3, C3, A4, C4, rfl, rfl, w3, w2.heap.size, rfl, HB3.out, ⟨HB2.out.size, s3⟩, ?_, ?_, ?_, HR3.out.1⟩
      · exact ((HR1.out.mono (P' := fun b => w0.heap.size ≤ b ∧ b < w2.heap.size) fun b hl hb => ⟨hb, by omega⟩).over HR2.out.2.2).over HR3.out.2
      · exact (HR2.out.1.mono (P' := fun b => w0.heap.size ≤ b ∧ b < w2.heap.size) fun b hl hb => ⟨by omega, hl⟩).over HR3.out.2
      · exact (HR2.out.2.1.mono (P' := fun b => w0.heap.size ≤ b ∧ b < w2.heap.size) fun b hl hb => ⟨by omega, hl⟩).over HR3.out.2
  rintro A1 C1 A2 C2 A3 C3 A4 C4 w9 ⟨w4, M, rfl, b4, hM, r1, r2, r3, r4⟩
  clear a5 a6 a7 a14 a15 a16 a17 hsS HF
  have CA4 := HB.out.C0.over b4
  have hz4 : w.heap.size + 2 ≤ w0.heap.size := HB.out.R0.lt
  have C9 : CAt 33 ((((((w4.setCell ⟨w.heap.size, 5, none⟩ (.slice A1 c.set.length C1)).setCell ⟨w.heap.size, 14, none⟩ (.slice A2 c.out.S.length C2)).setCell ⟨w.heap.size, 15, none⟩ (.slice A3 c.out.D.length C3)).setCell ⟨w.heap.size, 16, none⟩ (.int .i64 c.out.g)).setCell ⟨w.heap.size, 17, none⟩ (.bool c.out.cl)).setCell ⟨w.heap.size, 7, none⟩ (.slice A4 c.rp.length C4)) w.heap.size (csC c ⟨.slice A1 c.set.length C1, .slice Aq c.pd.length Cq, .slice A4 c.rp.length C4, .slice A2 c.out.S.length C2, .slice A3 c.out.D.length C3⟩) := (((((CA4.set 5 (.slice A1 c.set.length C1)).set 14 (.slice A2 c.out.S.length C2)).set 15 (.slice A3 c.out.D.length C3)).set 16 (.int .i64 c.out.g)).set 17 (.bool c.out.cl)).set 7 (.slice A4 c.rp.length C4)
  have hne : ∀ b, b ≠ w.heap.size → ((((((w4.setCell ⟨w.heap.size, 5, none⟩ (.slice A1 c.set.length C1)).setCell ⟨w.heap.size, 14, none⟩ (.slice A2 c.out.S.length C2)).setCell ⟨w.heap.size, 15, none⟩ (.slice A3 c.out.D.length C3)).setCell ⟨w.heap.size, 16, none⟩ (.int .i64 c.out.g)).setCell ⟨w.heap.size, 17, none⟩ (.bool c.out.cl)).setCell ⟨w.heap.size, 7, none⟩ (.slice A4 c.rp.length C4)).heap[b]? = w4.heap[b]? := fun b hb => by
    rw [Below.heap_setCell _ _ _ _ hb, Below.heap_setCell _ _ _ _ hb, Below.heap_setCell _ _ _ _ hb, Below.heap_setCell _ _ _ _ hb, Below.heap_setCell _ _ _ _ hb, Below.heap_setCell _ _ _ _ hb]
  have hsz9 : ((((((w4.setCell ⟨w.heap.size, 5, none⟩ (.slice A1 c.set.length C1)).setCell ⟨w.heap.size, 14, none⟩ (.slice A2 c.out.S.length C2)).setCell ⟨w.heap.size, 15, none⟩ (.slice A3 c.out.D.length C3)).setCell ⟨w.heap.size, 16, none⟩ (.int .i64 c.out.g)).setCell ⟨w.heap.size, 17, none⟩ (.bool c.out.cl)).setCell ⟨w.heap.size, 7, none⟩ (.slice A4 c.rp.length C4)).heap.size = w4.heap.size := by simp [World.setCell]
  have B9 : Below w.heap.size w ((((((w4.setCell ⟨w.heap.size, 5, none⟩ (.slice A1 c.set.length C1)).setCell ⟨w.heap.size, 14, none⟩ (.slice A2 c.out.S.length C2)).setCell ⟨w.heap.size, 15, none⟩ (.slice A3 c.out.D.length C3)).setCell ⟨w.heap.size, 16, none⟩ (.int .i64 c.out.g)).setCell ⟨w.heap.size, 17, none⟩ (.bool c.out.cl)).setCell ⟨w.heap.size, 7, none⟩ (.slice A4 c.rp.length C4)) := ((((((HB.out.B0.trans (b4.mono HB.out.B0.size)).setCell (p := ⟨w.heap.size, 5, none⟩) (Nat.le_refl _) _).setCell (p := ⟨w.heap.size, 14, none⟩) (Nat.le_refl _) _).setCell (p := ⟨w.heap.size, 15, none⟩) (Nat.le_refl _) _).setCell (p := ⟨w.heap.size, 16, none⟩) (Nat.le_refl _) _).setCell (p := ⟨w.heap.size, 17, none⟩) (Nat.le_refl _) _).setCell (p := ⟨w.heap.size, 7, none⟩) (Nat.le_refl _) _
  have R9 := (HB.out.R0.over b4).keep (hne _ (by omega))
  generalize (((((w4.setCell ⟨w.heap.size, 5, none⟩ (.slice A1 c.set.length C1)).setCell ⟨w.heap.size, 14, none⟩ (.slice A2 c.out.S.length C2)).setCell ⟨w.heap.size, 15, none⟩ (.slice A3 c.out.D.length C3)).setCell ⟨w.heap.size, 16, none⟩ (.int .i64 c.out.g)).setCell ⟨w.heap.size, 17, none⟩ (.bool c.out.cl)).setCell ⟨w.heap.size, 7, none⟩ (.slice A4 c.rp.length C4) = w9 at *
  have keep9 : ∀ {u : Value} {s t : Nat} {cs : List Value}, Rep (fun b => w0.heap.size ≤ b ∧ b < M) w4 u s t cs → Rep (fun b => w0.heap.size ≤ b ∧ b < M) w9 u s t cs := fun h => h.keep fun b hb _ => hne b (by omega)
  have keep9c : ∀ {u : Value} {s t : Nat} {cs : List Value}, RepC (fun b => w0.heap.size ≤ b ∧ b < M) w4 u s t cs → RepC (fun b => w0.heap.size ≤ b ∧ b < M) w9 u s t cs := fun h => h.keep fun b hb _ => hne b (by omega)
  have q1 := keep9 r1
  have q2 := keep9c r2
  have q3 := keep9c r3
  have q4 : w9.ownsRow M 53 2 (.slice A4 c.rp.length C4) c.rp.length (pwC c.rp) := Ln.own_of r4 fun k hk => hne k (by have := (World.ownsRow.lt r4 k hk).1; omega)
  have HL := hide (show _ ∧ _ ∧ _ ∧ _ from ⟨q1, q2, q3, q4⟩)
  have hzM : M ≤ w9.heap.size := by rw [hsz9]; exact hM.2
  have HZI := hide (show _ ∧ _ ∧ _ from ⟨hzl, hzi, cq⟩)
  have h80 := H80.out
  clear hzl hzi cq hzr
  have HX := hide (show _ ∧ _ ∧ _ from ⟨C9, R9, B9⟩)
  clear CA4 C9 R9 B9 q1 q2 q3 q4 r1 r2 r3 r4 keep9 keep9c b4
  have a6 := (cs_facts HX.out.1).2.1.2.1
  dsimp only at a6
  simp only [Exit.then]
  apply_assumption
  go_upto_region 4 with fail
  clear a6
  go_loopw [3, 21] (fun lv i wl => ∃ (k : Nat) (y : List (Value × Value)), k ≤ c.pd.length ∧ i = .int .i64 (k : Int) ∧ Hid (KOwn w9.heap.size wl lv (c.pd.take k) y) ∧ Hid (Below w9.heap.size w9 wl)) (fun _ i _ => c.pd.length - (intOf i).toNat)
  case atStart => exact ⟨0, [], Nat.zero_le _, rfl, KOwn.nil _ _, Below.refl _ _⟩
  case round =>
    obtain ⟨k, y, hk, rfl, HK, HBl⟩ := hrel
    by_cases hlt : k < c.pd.length
    · have hkI : (k : Int) < (c.pd.length : Int) := by omega
      have hx : c.pd[k]? = some c.pd[k] := List.getElem?_eq_getElem hlt
      have hyz : z[k]? = some (z[k]'(by rw [HZI.out.1]; exact hlt)) := List.getElem?_eq_getElem _
      have htk : c.pd.take (k + 1) = c.pd.take k ++ [c.pd[k]] := List.take_succ_eq_append_getElem hlt
      have hlk : (c.pd.take k).length = k := by simp; omega
      obtain ⟨r1, r2⟩ := HZI.out.2.1 k _ _ hx hyz
      obtain ⟨bq, oq, rfl, -, hbl, hcell⟩ := HZI.out.2.2 (by omega)
      have hBw : Below w.heap.size w wr := HX.out.2.2.trans (HBl.out.mono HX.out.2.2.size)
      generalize (z[k]'(by rw [HZI.out.1]; exact hlt)) = yy at *
      obtain ⟨y1, y2⟩ := yy
      generalize c.pd[k] = x at *
      have cl : ∀ j, j < 6 → ∀ u, (pkL x (y1, y2))[j]? = some u → wr.cell? ⟨bq, oq + k * 6 + j, none⟩ = some u := fun j hj u hu => by
        rw [Nat.add_assoc]
        exact (hBw.cell (p := ⟨bq, oq + (k * 6 + j), none⟩) hbl).trans (hcell _ _ ((pdL_get c.pd z k x _ j hx hyz hj).trans hu))
      have c0 := cl 0 (by omega) _ rfl
      have c1 := cl 1 (by omega) _ rfl
      have c2 := cl 2 (by omega) _ rfl
      have c3 := cl 3 (by omega) _ rfl
      have c4 := cl 4 (by omega) _ rfl
      have c5 := cl 5 (by omega) _ rfl
      rw [Nat.add_zero] at c0
      dsimp only at c4 c5 r1 r2
      obtain ⟨E1, m1, G1, e1, -⟩ := id r1
      obtain ⟨E2, m2, G2, e2, -⟩ := id r2
      subst e1 e2
      obtain ⟨AL, CL, eL⟩ := Ln.own_form HK.out.own
      rw [hlk] at eL
      subst eL
      have hsw := HBl.out.size
      have bA : Below wr.heap.size wr (wr.alloc (.cells #[.int .i64 x.k, .int .i64 x.i, .int .i64 x.v, .int .i64 x.n, .slice E1 m1 G1, .slice E2 m2 G2] 46)) := (Below.refl _ wr).alloc (Nat.le_refl _) _
      have K1 := CAt.new 46 wr #[.int .i64 x.k, .int .i64 x.i, .int .i64 x.v, .int .i64 x.n, .slice E1 m1 G1, .slice E2 m2 G2]
      have HCK := hide (copyk_rep x.k x.i x.v x.n x.S x.D (.slice E1 m1 G1) (.slice E2 m2 G2) P _ ((r1.over hBw).over bA) ((r2.over hBw).over bA))
      have HKA := hide (HK.out.over bA)
      have HBA := hide (HBl.out.trans (bA.mono HBl.out.size))
      clear r1 r2 cl hcell hx hyz hBw hbl HK HBl
      obtain ⟨xk, xi, xv, xn, xS, xD⟩ := x
      dsimp only at c0 c1 c2 c3 HCK K1 bA HKA HBA
      go_upto_region 6 with fail
      clear c0 c1 c2 c3 c4 c5
      have hs2 := bA.size
      generalize hw2 : wr.alloc (.cells #[.int .i64 xk, .int .i64 xi, .int .i64 xv, .int .i64 xn, .slice E1 m1 G1, .slice E2 m2 G2] 46) = w2 at *
      clear hw2 bA
      have t0 : w2.cell? ⟨wr.heap.size, 0, none⟩ = some (.int .i64 xk) := K1.cell 0
      have t1 : w2.cell? ⟨wr.heap.size, 1, none⟩ = some (.int .i64 xi) := K1.cell 1
      have t2 : w2.cell? ⟨wr.heap.size, 2, none⟩ = some (.int .i64 xv) := K1.cell 2
      have t3 : w2.cell? ⟨wr.heap.size, 3, none⟩ = some (.int .i64 xn) := K1.cell 3
      have t4 : w2.cell? ⟨wr.heap.size, 4, none⟩ = some (.slice E1 m1 G1) := K1.cell 4
      have t5 : w2.cell? ⟨wr.heap.size, 5, none⟩ = some (.slice E2 m2 G2) := K1.cell 5
      clear K1
      go_upto_region 7 with (first
        | (go_at_call 17; refine HCK.out.mono ?_; rintro e w3 ⟨z1, z2, rfl, q1, q2, hb3⟩; obtain ⟨F1, n1, H1, e1, -⟩ := id q1; obtain ⟨F2, n2, H2, e2, -⟩ := id q2; subst e1 e2; have bB : Below w3.heap.size w3 (w3.alloc (.cells #[.int .i64 xk, .int .i64 xi, .int .i64 xv, .int .i64 xn, .slice F1 n1 H1, .slice F2 n2 H2] 46)) := (Below.refl _ w3).alloc (Nat.le_refl _) _; have HK3 := hide ((HKA.out.over hb3).over bB); have HB3 := hide ((HBA.out.trans (hb3.mono HBA.out.size)).trans (bB.mono (Nat.le_trans HBA.out.size hb3.size))); have HQ3 := hide (show _ ∧ _ from ⟨q1.over bB, q2.over bB⟩); have hs3 := hb3.size; clear q1 q2 hb3 bB)
        | (at_builtin; refine wpList_liesK rfl _ _ 23 rfl w9.heap.size 46 j0 _ 6 80 Try.underlying23 hj hy0 hy1 hy2 rfl (by decide) (.slice AL k CL) k (pdL (c.pd.take k) y) rfl (by have := HK3.out.own; rw [hlk] at this; exact this) ⟨w3.heap.size, 0, none⟩ 1 1 (pkL ⟨xk, xi, xv, xn, xS, xD⟩ (.slice F1 n1 H1, .slice F2 n2 H2)) rfl rfl (fun j u hu => pk_cell w3 ⟨xk, xi, xv, xn, xS, xD⟩ (.slice F1 n1 H1, .slice F2 n2 H2) j u hu) (fun u hu => by simp only [pkL, List.mem_cons, List.not_mem_nil, or_false] at hu; rcases hu with rfl | rfl | rfl | rfl | rfl | rfl <;> rfl) (by decide) (by unfold maxLen; omega) (by omega) (by simp; omega) ?_; intro g cap w7 ho7 hg7 hat hlt7; have HO := hide (show _ ∧ _ ∧ _ from ⟨ho7, hg7, hat⟩); clear ho7 hg7 hat hlt7))
      obtain ⟨ho7, hg7, hat⟩ := HO.out
      have hown : ∀ j, (Value.slice AL k CL).ownBlock = some j → j < w2.heap.size := fun j hj' => (World.ownsRow.lt (by have := HKA.out.own; rw [hlk] at this; exact this) j hj').2
      have hs9 := HBA.out.size
      have key : ∀ {u : Value} {s t : Nat} {cs : List Value}, Rep (fun b => w2.heap.size ≤ b) (w3.alloc (.cells #[.int .i64 xk, .int .i64 xi, .int .i64 xv, .int .i64 xn, .slice F1 n1 H1, .slice F2 n2 H2] 46)) u s t cs → Rep (fun b => w9.heap.size ≤ b ∧ some b ≠ (Value.slice AL k CL).ownBlock) (w3.alloc (.cells #[.int .i64 xk, .int .i64 xi, .int .i64 xv, .int .i64 xn, .slice F1 n1 H1, .slice F2 n2 H2] 46)) u s t cs := fun hr => hr.mono fun b _ hb => ⟨by omega, fun e => by have := hown b e.symm; omega⟩
      have K7 := HK3.out.app (x := ⟨xk, xi, xv, xn, xS, xD⟩) (y := (.slice F1 n1 H1, .slice F2 n2 H2)) ⟨key HQ3.out.1, key HQ3.out.2⟩ (g := g) (cap := cap) (w' := w7) (by rw [hlk]; exact ho7) hg7 hat
      rw [hlk, ← htk] at K7
      have B7 : Below w9.heap.size w9 w7 := HB3.out.grown hg7 HB3.out.size (fun j hj' => (World.ownsRow.lt HK3.out.own j hj').1)
      have HF := hide (show _ ∧ _ from ⟨K7, B7⟩)
      clear K7 B7 key hown ho7 hg7 hat HO HQ3 HK3 HB3 HKA HBA HCK t0 t1 t2 t3 t4 t5 hj hy0 hy1 hy2 hi hz0 hz1 hz2 HZI HX HL
      go_wp2
      first | exact ⟨⟨k + 1, _, by omega, by go_num, HF.out.1, HF.out.2⟩, by simp [intOf]; omega⟩ | ((repeat apply Exists.intro); exact ⟨⟨k + 1, _, by omega, by go_num, HF.out.1, HF.out.2⟩, rfl⟩)
    · obtain rfl : k = c.pd.length := by omega
      rw [List.take_length] at HK
      obtain ⟨AL, CL, eL⟩ := Ln.own_form HK.out.own
      subst eL
      have C5 := HX.out.1.over HBl.out
      have R5 := HX.out.2.1.over HBl.out
      have B5 := HX.out.2.2.trans (HBl.out.mono HX.out.2.2.size)
      have hz5 := C5.lt
      have a6 := (cs_facts C5).2.1.2.1
      dsimp only at a6
      have f6 := C5.free 6
      have hs9 := HBl.out.size
      have C6 := C5.set 6 (.slice AL c.pd.length CL)
      rw [set_pd _ _ c.pd] at C6
      have R6 := R5.other (c := w.heap.size) (o := 6) (by omega) (.slice AL c.pd.length CL)
      have B6 := B5.setCell (p := ⟨w.heap.size, 6, none⟩) (Nat.le_refl _) (.slice AL c.pd.length CL)
      have kp : ∀ b, b ≠ w.heap.size → (wr.setCell ⟨w.heap.size, 6, none⟩ (.slice AL c.pd.length CL)).heap[b]? = wr.heap[b]? := fun b hb => Below.heap_setCell wr ⟨w.heap.size, 6, none⟩ _ b hb
      have hrb : ∀ k, (Value.slice A4 c.rp.length C4).ownBlock = some k → M ≤ k ∧ k < w9.heap.size := fun k hk' => World.ownsRow.lt HL.out.2.2.2 k hk'
      have N6 : CCp (w.heap.size + 2) w9.heap.size (wr.setCell ⟨w.heap.size, 6, none⟩ (.slice AL c.pd.length CL)) c ⟨.slice A1 c.set.length C1, .slice AL c.pd.length CL, .slice A4 c.rp.length C4, .slice A2 c.out.S.length C2, .slice A3 c.out.D.length C3⟩ := by
        refine ⟨⟨by omega, by simpa [World.setCell] using hs9⟩, ?_, ⟨y, HK.out.keep fun b hb _ => kp b (by omega)⟩, ?_, fun k hk' => (hrb k hk').2, ?_, ?_⟩
        · exact ((HL.out.1.mono (P' := fun b => w.heap.size + 2 ≤ b ∧ b < w9.heap.size ∧ some b ≠ (Value.slice A4 c.rp.length C4).ownBlock) fun b hl hb => ⟨by omega, hl, fun e => by have := (hrb b e.symm).1; omega⟩).over HBl.out).keep fun b hb _ => kp b (by omega)
        · exact Ln.own_base (Ln.own_of (Ln.own_over HL.out.2.2.2 HBl.out) fun k hk' => kp k (by have := (hrb k hk').1; omega)) (by omega)
        · exact ((HL.out.2.1.mono (P' := fun b => w.heap.size + 2 ≤ b ∧ b < w9.heap.size ∧ some b ≠ (Value.slice A4 c.rp.length C4).ownBlock) fun b hl hb => ⟨by omega, hl, fun e => by have := (hrb b e.symm).1; omega⟩).over HBl.out).keep fun b hb _ => kp b (by omega)
        · exact ((HL.out.2.2.1.mono (P' := fun b => w.heap.size + 2 ≤ b ∧ b < w9.heap.size ∧ some b ≠ (Value.slice A4 c.rp.length C4).ownBlock) fun b hl hb => ⟨by omega, hl, fun e => by have := (hrb b e.symm).1; omega⟩).over HBl.out).keep fun b hb _ => kp b (by omega)
      have I6 := N6.cin H80.out H16.out
      have l6 := cs_load C6 (csC_size _ _)
      have s6 := cs_store R6 Z22_size (csC_size c ⟨.slice A1 c.set.length C1, .slice AL c.pd.length CL, .slice A4 c.rp.length C4, .slice A2 c.out.S.length C2, .slice A3 c.out.D.length C3⟩) (cs_one I6)
      dsimp only at l6
      have HU := hide (show _ ∧ _ ∧ _ from ⟨R6, B6, N6⟩)
      clear C5 R5 B5 C6 R6 B6 N6 I6 kp hrb HK HBl HL HX HZI hi hz0 hz1 hz2 hj hy0 hy1 hy2
      go_upto_region 9 with fail
      clear a6 f6
      generalize wr.setCell ⟨w.heap.size, 6, none⟩ (.slice AL c.pd.length CL) = w6 at *
      go_wp2
      have R7 := HU.out.1.setAll (ds := csC c ⟨.slice A1 c.set.length C1, .slice AL c.pd.length CL, .slice A4 c.rp.length C4, .slice A2 c.out.S.length C2, .slice A3 c.out.D.length C3⟩) (by rw [Z22_size]; rfl)
      refine bodyPost_ret (v := .agg (csC c ⟨.slice A1 c.set.length C1, .slice AL c.pd.length CL, .slice A4 c.rp.length C4, .slice A2 c.out.S.length C2, .slice A3 c.out.D.length C3⟩)) (results_cs1 Try.results5 _ _ _ _ rfl R7 rfl) rfl ⟨_, w9.heap.size, rfl, HU.out.2.2.sets1 (by omega) _ _, below_sets (Nat.le_succ _) _ _ _ HU.out.2.1⟩
end Go.Proofs.Ytdkalcnlncjgiaa.Kc

