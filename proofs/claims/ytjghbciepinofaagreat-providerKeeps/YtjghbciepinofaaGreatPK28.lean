/- Parts of the proof: PTA PTD. -/
import Derived.Test.YtjghbciepinofaaGreatRows
import Derived.Test.YtjghbciepinofaaGreatPK23
import Derived.Test.YtjghbciepinofaaGreatPK25
import Derived.Test.YtjghbciepinofaaGreatPK27
import Derived.Test.YtjghbciepinofaaGreatPK48
import Derived.Test.YtjghbciepinofaaGreatPK49
import Derived.BigQuiet
import Derived.Deep.QuietTactic
import Derived.Deep.RegionHeld3
set_option maxRecDepth 100000
namespace Go.Proofs.YtjghbciepinofaaGreat.Pv
open Go.RowKit
/-- all orders come to one frame, with a slice and a block -/
def Joinv (F : Option Addr → Nat → Nat → Nat → Act) (R : Option Addr → Nat → Nat → Nat → World → Prop) (ex : Exit) (a : Act) (w : World) : Prop := ∃ A n C g, ex = Exit.normal ∧ a = F A n C g ∧ R A n C g w
theorem wp_joinv {P : Program} {c : Code} {Q : Exit → Act → World → Prop} {a : Act} {w : World} (R : Option Addr → Nat → Nat → Nat → World → Prop) (F : Option Addr → Nat → Nat → Nat → Act) (h1 : Code.wp P c (Joinv F R) a w) (h2 : ∀ A n C g w', R A n C g w' → Q Exit.normal (F A n C g) w') : Code.wp P c Q a w :=
  Code.wp_mono (fun e a' w' h => by obtain ⟨A, n, C, g, rfl, rfl, h⟩ := h; exact h2 A n C g w' h) h1
/-- a packet is stored; a line is stored -/
def storeK (a v : Value) : Sem Unit := Instr.storeAt 49 a v
theorem storeK_eq (a v : Value) : Instr.storeAt 49 a v = storeK a v := rfl
def storeN (a v : Value) : Sem Unit := Instr.storeAt 37 a v
theorem storeN_eq (a v : Value) : Instr.storeAt 37 a v = storeN a v := rfl
theorem infoPkS : (Tryz.prog.info? 49).map (·.size) = some 6 := by kernel_rfl
theorem infoLnS : (Tryz.prog.info? 37).map (·.size) = some 4 := by kernel_rfl
def Z6 : Array Value := #[.int .i64 0, .int .i64 0, .int .i64 0, .int .i64 0, .slice none 0 0, .slice none 0 0]
def Z4 : Array Value := #[.slice none 0 0, .slice none 0 0, .int .i64 0, .bool false]
theorem pk_store {w : World} {g : Nat} {zs cs : Array Value} (h : CAt 49 w g zs) (hz : zs.size = 6) (hs : cs.size = 6) (h1 : cs.all (·.oneCell') = true) : (storeK (.pointer (some ⟨g, 0, none⟩)) (.agg cs)).run Tryz.prog w = .ok () (w.setCells g 0 cs.toList) :=
  run_storeAt_mid (P := Tryz.prog) w g 0 49 cs (h.there 0 _ (by rw [hz, hs]; omega)) (by rw [infoPkS, hs]) h1
theorem ln_store {w : World} {g : Nat} {zs cs : Array Value} (h : CAt 37 w g zs) (hz : zs.size = 4) (hs : cs.size = 4) (h1 : cs.all (·.oneCell') = true) : (storeN (.pointer (some ⟨g, 0, none⟩)) (.agg cs)).run Tryz.prog w = .ok () (w.setCells g 0 cs.toList) :=
  run_storeAt_mid (P := Tryz.prog) w g 0 37 cs (h.there 0 _ (by rw [hz, hs]; omega)) (by rw [infoLnS, hs]) h1
/-- a packet in a block, its set elsewhere -/
structure Tds (w1 : World) (cs : Array Value) (dl : List (Int × Int)) (u : Value) (g4 : Nat) (w5 : World) : Prop where
  cat : CAt 49 w5 g4 cs
  rep : Rep (fun b => w1.heap.size ≤ b ∧ b ≠ g4) w5 u 2 16 (pwC dl)
  bel : Below w1.heap.size w1 w5
  le : w1.heap.size ≤ g4
theorem tds_new {w1 w0 wb : World} {cs : Array Value} {dl : List (Int × Int)} {u : Value} (hs : cs.size = 6) (U : Rep (fun b => w0.heap.size ≤ b) wb u 2 16 (pwC dl)) (h0 : w1.heap.size ≤ w0.heap.size) (hb : Below w1.heap.size w1 wb) : Tds w1 cs dl u wb.heap.size ((wb.alloc (.cells Z6 49)).setCells wb.heap.size 0 cs.toList) := by
  have bA : Below wb.heap.size wb (wb.alloc (.cells Z6 49)) := (Below.refl _ wb).alloc (Nat.le_refl _) _
  have U1 : Rep (fun b => w1.heap.size ≤ b ∧ b ≠ wb.heap.size) wb u 2 16 (pwC dl) := U.mono fun b hl h => ⟨Nat.le_trans h0 h, by omega⟩
  exact ⟨(CAt.new 49 wb Z6).setAll (by rw [hs]; rfl), (U1.over bA).sets (fun h => h.2 rfl) 0 _, below_sets hb.size _ _ _ (hb.alloc hb.size _), hb.size⟩
theorem tds_old {w1 ws wb : World} {cs : Array Value} {dl : List (Int × Int)} {u : Value} (hs : cs.size = 6) (U : Rep (fun b => ws.heap.size ≤ b) wb u 2 16 (pwC dl)) (h0 : w1.heap.size + 1 ≤ ws.heap.size) (hb : Below w1.heap.size w1 wb) (hc : CAt 49 wb w1.heap.size Z6) : Tds w1 cs dl u w1.heap.size (wb.setCells w1.heap.size 0 cs.toList) := by
  have U1 : Rep (fun b => w1.heap.size ≤ b ∧ b ≠ w1.heap.size) wb u 2 16 (pwC dl) := U.mono fun b hl h => by have h' : ws.heap.size ≤ b := h; exact ⟨by omega, by omega⟩
  exact ⟨hc.setAll (by rw [hs]; rfl), U1.sets (fun h => h.2 rfl) 0 _, below_sets (Nat.le_refl _) _ _ _ hb, Nat.le_refl _⟩
theorem pk_one (a b : Int) {u : Value} (h : ∃ A n C, u = .slice A n C) (A : Option Addr) (n C : Nat) : (#[.int .i64 a, .int .i64 b, .int .i64 0, .int .i64 0, u, .slice A n C] : Array Value).all (·.oneCell') = true := by
  obtain ⟨A', n', C', rfl⟩ := h
  first | (simp [Value.oneCell']; done) | (rw [Array.all_eq_true_iff_forall_mem]; intro x hx; simp at hx; rcases hx with rfl | rfl | rfl | rfl | rfl | rfl <;> rfl)
theorem tds_new2 {w1 w0 wb : World} {cs : Array Value} {dl : List (Int × Int)} {u : Value} (hs : cs.size = 6) (h1 : cs.all (·.oneCell') = true) (U : Rep (fun b => w0.heap.size ≤ b) wb u 2 16 (pwC dl)) (h0 : w1.heap.size ≤ w0.heap.size) (hb : Below w1.heap.size w1 wb) : ∃ wS, (storeK (.pointer (some ⟨wb.heap.size, 0, none⟩)) (.agg cs)).run Tryz.prog (wb.alloc (.cells Z6 49)) = .ok () wS ∧ Tds w1 cs dl u wb.heap.size wS :=
  ⟨_, pk_store (CAt.new 49 wb Z6) rfl hs h1, tds_new hs U h0 hb⟩
theorem tds_old2 {w1 ws wb : World} {cs : Array Value} {dl : List (Int × Int)} {u : Value} (hs : cs.size = 6) (h1 : cs.all (·.oneCell') = true) (U : Rep (fun b => ws.heap.size ≤ b) wb u 2 16 (pwC dl)) (h0 : w1.heap.size + 1 ≤ ws.heap.size) (hb : Below w1.heap.size w1 wb) (hc : CAt 49 wb w1.heap.size Z6) : ∃ wS, (storeK (.pointer (some ⟨w1.heap.size, 0, none⟩)) (.agg cs)).run Tryz.prog wb = .ok () wS ∧ Tds w1 cs dl u w1.heap.size wS :=
  ⟨_, pk_store hc rfl hs h1, tds_old hs U h0 hb hc⟩
theorem pr_split2 (p : Pr) (v : PrV) (k : Nat) (hk : k < 2) : ∃ a c : List Value, a.length = 66 + k * 14 ∧ prC p v = (a ++ (lkL (p.L k) (v.l k) ++ c)).toArray ∧ ∀ y x, prC { p with L := updL p.L k y } (v.upd k x) = (a ++ (lkL y x ++ c)).toArray := by
  have h0 : ([.int .i64 p.h, .int .i64 p.t] ++ ((stC p.s v.ws).toList ++ [v.set]) : List Value).length = 66 := by simp [stC_size]
  match k, hk with
  | 0, _ =>
    refine ⟨[.int .i64 p.h, .int .i64 p.t] ++ ((stC p.s v.ws).toList ++ [v.set]), lkL (p.L 1) (v.l 1) ++ [.int .i64 p.ml, .int .i64 p.mn, v.q], h0, ?_, fun y x => ?_⟩
    · simp [prC]
    · simp [prC, PrV.upd, updL]
  | 1, _ =>
    refine ⟨[.int .i64 p.h, .int .i64 p.t] ++ ((stC p.s v.ws).toList ++ [v.set]) ++ lkL (p.L 0) (v.l 0), [.int .i64 p.ml, .int .i64 p.mn, v.q], ?_, ?_, fun y x => ?_⟩
    · rw [List.length_append, h0]; rfl
    · simp [prC]
    · simp [prC, PrV.upd, updL]
theorem lk_told {p : Pr} {v : PrV} (k : Nat) (hk : k < 2) (x : Ln.Line) (l : List (Int × Int)) (T S U : Value) :
    (((((((prC p v).setIfInBounds (66 + k * 14 + 6) S).setIfInBounds (66 + k * 14 + 7) U).setIfInBounds (66 + k * 14 + 8) (.int .i64 x.g)).setIfInBounds (66 + k * 14 + 9) (.bool x.cl)).setIfInBounds (66 + k * 14 + 3) T).setIfInBounds (66 + k * 14 + 4) (.bool false)).setIfInBounds (66 + k * 14 + 5) (.slice none 0 0)
      = prC { p with L := updL p.L k { p.L k with out := x, told := l, fresh := false, done := [] } } (v.upd k ⟨T, .slice none 0 0, S, U⟩) := by
  obtain ⟨a, c, ha, h1, h2⟩ := pr_split2 p v k hk
  rw [h1, h2, set_mid _ _ _ _ _ _ ha (by show 6 < 14; omega), set_mid _ _ _ _ _ _ ha (by simp [lkL]), set_mid _ _ _ _ _ _ ha (by simp [lkL]), set_mid _ _ _ _ _ _ ha (by simp [lkL]), set_mid _ _ _ _ _ _ ha (by simp [lkL]), set_mid _ _ _ _ _ _ ha (by simp [lkL]), set_mid _ _ _ _ _ _ ha (by simp [lkL])]
  rfl
theorem told_in {P : Nat → Prop} {w : World} {p : Pr} {v : PrV} (h : PIn P w p v) (k : Nat) (x : Ln.Line) (T S U : Value) (h1 : Rep P w T 2 16 (pwC p.set)) (h2 : RepC P w S 1 16 (txC x.S)) (h3 : RepC P w U 1 8 (inC x.D)) :
    PIn P w { p with L := updL p.L k { p.L k with out := x, told := p.set, fresh := false, done := [] } } (v.upd k ⟨T, .slice none 0 0, S, U⟩) := by
  refine ⟨h.ws, h.set, fun c hc => ?_, h.q⟩
  show LkIn P w (if c = k then _ else p.L c) (if c = k then _ else v.l c)
  by_cases e : c = k
  · rw [if_pos e, if_pos e]
    exact ⟨h1, Rep.nil _ _ _ _, h2, h3⟩
  · rw [if_neg e, if_neg e]
    exact h.lk c hc
noncomputable def tell2C : Code := subC [1, 1] (Tryz.f32.body.getD .skip)
noncomputable def tell5C : Code := subC [1, 1, 1, 1, 1] (Tryz.f32.body.getD .skip)
end Go.Proofs.YtjghbciepinofaaGreat.Pv

set_option maxRecDepth 100000
namespace Go.Proofs.YtjghbciepinofaaGreat.Pv
open Go.RowKit
attribute [local go_sem ↓] storeK_eq storeN_eq
set_option maxRecDepth 1000000 in
set_option maxHeartbeats 8000000 in
theorem ptell_t5 (g : Nat) (p D : Pr) (v : PrV) (P : Nat → Prop) (w w5 : World) (c o g7 : Nat) (x : Ln.Line) (s1 s2 : Value) (E1 : Int) (hc : c < 2) (hC : CAt 47 w g (prC p v)) (hp : PIn P w p v) (hg : ¬ P g) (HO : Hid (o = 66 + c * 14)) (HB : Hid (Below w.heap.size w w5)) (hg7 : w.heap.size ≤ g7) (HL7 : Hid (CAt 37 w5 g7 #[s1, s2, .int .i64 x.g, .bool x.cl])) (HR1 : Hid (RepC (fun b => New P w 0 b ∧ b ≠ g7) w5 s1 1 16 (txC x.S))) (HR2 : Hid (RepC (fun b => New P w 0 b ∧ b ≠ g7) w5 s2 1 8 (inC x.D)))
    (HD : Hid (D = if E1 = 0 then { p with L := updL p.L c { p.L c with out := x, told := p.set, fresh := false, done := [] } } else p)) (v2 v3 v4 v5 v8 v9 v10 v11 v12 v13 v14 v15 v16 v17 v18 v19 v20 v21 v22 v23 v24 v25 v26 v27 v28 v29 v30 v31 v32 v33 v34 v35 v36 v37 v38 v39 v40 v41 v42 v43 v44 v45 v46 v47 v48 v49 v50 v51 v52 v53 v54 v55 v56 v57 v58 v59 v60 v61 v62 v63 v64 v65 v66 v67 v68 v69 v70 v71 v72 v73 v74 v75 v76 v77 v78 v79 v80 v81 v82 v83 v84 v85 v86 v87 v88 v89 v90 v91 v92 v93 v94 v95 v96 v97 : Value) :
    Code.wp Tryz.prog tell5C (bodyPost Tryz.prog Tryz.f32 (Turns w g P D)) ⟨List.toArray ((.pointer (some ⟨g, 0, none⟩)) :: (.pointer (some ⟨g, o, none⟩)) :: v2 :: v3 :: v4 :: v5 :: (.int .i64 E1) :: (.pointer (some ⟨g7, 0, none⟩)) :: v8 :: v9 :: v10 :: v11 :: v12 :: v13 :: v14 :: v15 :: v16 :: v17 :: v18 :: v19 :: v20 :: v21 :: v22 :: v23 :: v24 :: v25 :: v26 :: v27 :: v28 :: v29 :: v30 :: v31 :: v32 :: v33 :: v34 :: v35 :: v36 :: v37 :: v38 :: v39 :: v40 :: v41 :: v42 :: v43 :: v44 :: v45 :: v46 :: v47 :: v48 :: v49 :: v50 :: v51 :: v52 :: v53 :: v54 :: v55 :: v56 :: v57 :: v58 :: v59 :: v60 :: v61 :: v62 :: v63 :: v64 :: v65 :: v66 :: v67 :: v68 :: v69 :: v70 :: v71 :: v72 :: v73 :: v74 :: v75 :: v76 :: v77 :: v78 :: v79 :: v80 :: v81 :: v82 :: v83 :: v84 :: v85 :: v86 :: v87 :: v88 :: v89 :: v90 :: v91 :: v92 :: v93 :: v94 :: v95 :: v96 :: v97 :: []), []⟩ w5 := by
  conv => arg 2; whnf
  have HP := hide hp
  have HC := hide hC
  have hgl := hC.lt
  obtain ⟨A1, n1, K1, B1, rfl, -, -⟩ := id HR1.out
  obtain ⟨A2, n2, K2, B2, rfl, -, -⟩ := id HR2.out
  by_cases hE : E1 = 0
  rotate_left
  · have hq : Hid (D = p) := HD.out.trans (if_neg hE)
    have hE' : (E1 != 0) = true := by simpa using hE
    clear HD HR1 HR2 HL7 hC hp
    go_wp2
    go_end0
    rw [hq.out]
    exact ⟨v, rfl, HC.out.over HB.out, HP.out.ofNew HB.out 0, Alt.of HB.out⟩
  subst hE
  replace HD := hide (HD.out.trans (if_pos rfl))
  have C5 := HC.out.over HB.out
  have hgg : ¬ g7 = g := by omega
  have hf := (C5.lk hc).facts
  rw [← HO.out] at hf
  obtain ⟨-, -, -, f3, f4, f5, f6, f7, f8, f9⟩ := hf
  have k0 : w5.cell? ⟨g7, 0, none⟩ = _ := HL7.out.cell 0
  have k1 : w5.cell? ⟨g7, 0 + 1, none⟩ = _ := HL7.out.cell 1
  have k2 : w5.cell? ⟨g7, 0 + 2, none⟩ = _ := HL7.out.cell 2
  have k3 : w5.cell? ⟨g7, 0 + 3, none⟩ = _ := HL7.out.cell 3
  have z6 := C5.free (o + 6)
  have z7 := C5.free (o + 6 + 1)
  have z8 := C5.free (o + 6 + 2)
  have z9 := C5.free (o + 6 + 3)
  have HC5 := hide C5
  clear hC hp C5
  have sN : (storeN (.pointer (some ⟨g, o + 6, none⟩)) (.agg #[.slice A1 n1 K1, .slice A2 n2 K2, .int .i64 x.g, .bool x.cl])).run Tryz.prog w5 = .ok () (w5.setCells g (o + 6) [.slice A1 n1 K1, .slice A2 n2 K2, .int .i64 x.g, .bool x.cl]) :=
    run_storeAt_mid (P := Tryz.prog) w5 g (o + 6) 37 #[.slice A1 n1 K1, .slice A2 n2 K2, .int .i64 x.g, .bool x.cl] (HC5.out.there (o + 6) 4 (by rw [prC_size, HO.out]; omega)) (by rw [infoLnS]; rfl) (by simp [Value.oneCell'])
  go_upto_region 7 with fail
  have C6 : CAt 47 (w5.setCells g (o + 6) [.slice A1 n1 K1, .slice A2 n2 K2, .int .i64 x.g, .bool x.cl]) g (((((prC p v).setIfInBounds (o + 6) (.slice A1 n1 K1)).setIfInBounds (o + 7) (.slice A2 n2 K2)).setIfInBounds (o + 8) (.int .i64 x.g)).setIfInBounds (o + 9) (.bool x.cl)) := (((HC5.out.set (o + 6) _).set (o + 7) _).set (o + 8) _).set (o + 9) _
  have hn : ¬ New P w 0 g := new_not hg hgl
  have HA6 : Hid (Alt g w (w5.setCells g (o + 6) [.slice A1 n1 K1, .slice A2 n2 K2, .int .i64 x.g, .bool x.cl])) := (Alt.of HB.out).sets _ _
  have HK6 : Hid (∀ b, b ≠ g → (w5.setCells g (o + 6) [.slice A1 n1 K1, .slice A2 n2 K2, .int .i64 x.g, .bool x.cl]).heap[b]? = w5.heap[b]?) := fun b hb => heap_sets hb _ _ _
  have HS6 : Hid (w5.heap.size = (w5.setCells g (o + 6) [.slice A1 n1 K1, .slice A2 n2 K2, .int .i64 x.g, .bool x.cl]).heap.size) := by show _ = _; simp [World.setCells, World.setCell]
  clear f6 f7 f8 f9 k0 k1 k2 k3 z6 z7 z8 z9 sN f3 f4 f5
  generalize w5.setCells g (o + 6) [.slice A1 n1 K1, .slice A2 n2 K2, .int .i64 x.g, .bool x.cl] = w6 at *
  have hgl6 := C6.lt
  have P6 : PIn (New P w 0) w6 p v := (HP.out.ofNew HB.out 0).keep fun b hb _ => HK6.out b (fun e => hn (by rw [← e]; exact hb))
  have HCL := hide (cloneP_any p.set v.set (New P w 0) w6 P6.set)
  have e65 : w6.cell? ⟨g, 65, none⟩ = some v.set := by
    rw [C6.cell 65]
    simp only [Array.getElem?_setIfInBounds]
    have := HO.out
    rw [if_neg (by omega), if_neg (by omega), if_neg (by omega), if_neg (by omega)]
    rfl
  obtain ⟨At, nt, Ct, et⟩ := (HP.out.lk c hc).told.one'
  obtain ⟨Ad, nd, Cd0, ed⟩ := (HP.out.lk c hc).done.one'
  have HF6 : Hid (∀ wx, Below w6.heap.size w6 wx → wx.cell? ⟨g, o + 3, none⟩ = some (.slice At nt Ct) ∧ wx.cell? ⟨g, o + 4, none⟩ = some (.bool (p.L c).fresh) ∧ wx.cell? ⟨g, o + 5, none⟩ = some (.slice Ad nd Cd0) ∧ ∀ k, wx.frozen? ⟨g, k, none⟩ = false) := fun wx hb => by
    have C := C6.over hb
    have hl : ∀ j, j < 6 → ∀ z, (lkL (p.L c) (v.l c))[j]? = some z → wx.cell? ⟨g, o + j, none⟩ = some z := fun j hj z hz => by
      rw [C.cell (o + j)]
      simp only [Array.getElem?_setIfInBounds]
      rw [if_neg (by omega), if_neg (by omega), if_neg (by omega), if_neg (by omega), HO.out, pr_link c hc j (by omega), hz]
    exact ⟨hl 3 (by omega) _ (by rw [← et]; rfl), hl 4 (by omega) _ rfl, hl 5 (by omega) _ (by rw [← ed]; rfl), fun k => C.free k⟩
  have H6 := hide (show _ ∧ _ from ⟨C6, P6⟩)
  clear C6 P6 et ed
  obtain ⟨As, ns, Cs, es⟩ := HP.out.set.one'
  rw [es] at e65 HCL
  clear es
  go_upto_region 8 with (go_at_call 73; refine HCL.out.mono ?_; rintro e w7 ⟨u, rfl, U7, hb7⟩; obtain ⟨Au, nu, Cu, rfl⟩ := U7.one'; obtain ⟨q3, q4, q5, qz⟩ := HF6.out w7 hb7; have hgl7 : g < w7.heap.size := Nat.lt_of_lt_of_le hgl6 hb7.size; have qz3 := qz (o + 3); have HU := hide (show _ ∧ _ from ⟨U7, hb7⟩); have HQZ := hide qz; clear U7 hb7 qz)
  have qz4 := HQZ.out (o + 4)
  have qz5 := HQZ.out (o + 5)
  go_wp2
  go_end0
  have e := HO.out
  clear HO q3 q4 q5 qz3 qz4 qz5 HF6 HCL
  subst e
  rw [HD.out]
  have hk : ∀ b, New P w 0 b → b ≠ g := fun b hb e => hn (by rw [← e]; exact hb)
  have hks : ∀ b, New P w 0 b → (((w7.setCell ⟨g, 66 + c * 14 + 3, none⟩ (.slice Au nu Cu)).setCell ⟨g, 66 + c * 14 + 4, none⟩ (.bool false)).setCell ⟨g, 66 + c * 14 + 5, none⟩ (.slice none 0 0)).heap[b]? = w7.heap[b]? := fun b hb => (Below.heap_setCell _ _ _ _ (hk b hb)).trans ((Below.heap_setCell _ _ _ _ (hk b hb)).trans (Below.heap_setCell _ _ _ _ (hk b hb)))
  have C9 := (((H6.out.1.over HU.out.2).set (66 + c * 14 + 3) (.slice Au nu Cu)).set (66 + c * 14 + 4) (.bool false)).set (66 + c * 14 + 5) (.slice none 0 0)
  rw [lk_told c hc x p.set (.slice Au nu Cu) (.slice A1 n1 K1) (.slice A2 n2 K2)] at C9
  have hs6 := HA6.out.size
  have R1 := (((HR1.out.mono (P' := New P w 0) fun b _ h => h.1).keep (w' := w6) fun b hb _ => HK6.out b (hk b hb)).over HU.out.2).keep (w' := ((w7.setCell ⟨g, 66 + c * 14 + 3, none⟩ (.slice Au nu Cu)).setCell ⟨g, 66 + c * 14 + 4, none⟩ (.bool false)).setCell ⟨g, 66 + c * 14 + 5, none⟩ (.slice none 0 0)) fun b hb _ => hks b hb
  have R2 := (((HR2.out.mono (P' := New P w 0) fun b _ h => h.1).keep (w' := w6) fun b hb _ => HK6.out b (hk b hb)).over HU.out.2).keep (w' := ((w7.setCell ⟨g, 66 + c * 14 + 3, none⟩ (.slice Au nu Cu)).setCell ⟨g, 66 + c * 14 + 4, none⟩ (.bool false)).setCell ⟨g, 66 + c * 14 + 5, none⟩ (.slice none 0 0)) fun b hb _ => hks b hb
  have T9 := (HU.out.1.mono (P' := New P w 0) fun b _ h => .inr (by omega)).keep (w' := ((w7.setCell ⟨g, 66 + c * 14 + 3, none⟩ (.slice Au nu Cu)).setCell ⟨g, 66 + c * 14 + 4, none⟩ (.bool false)).setCell ⟨g, 66 + c * 14 + 5, none⟩ (.slice none 0 0)) fun b hb _ => hks b hb
  exact ⟨_, rfl, C9, told_in ((((H6.out.2.over HU.out.2).put hn _ _).put hn _ _).put hn _ _) c x _ _ _ T9 R1 R2, (((HA6.out.trans (Alt.of HU.out.2)).put _ _).put _ _).put _ _⟩
end Go.Proofs.YtjghbciepinofaaGreat.Pv

