/- Parts of the proof: PTD PTC PTL PFN. -/
import Derived.Test.YtjghbciepinofaaGreatRows
import Derived.Test.YtjghbciepinofaaGreatPEK0
import Derived.Test.YtjghbciepinofaaGreatPEK1
import Derived.Test.YtjghbciepinofaaGreatPEK31
import Derived.Test.YtjghbciepinofaaGreatPEK32
import Derived.Test.YtjghbciepinofaaGreatPEK39
import Derived.Test.YtjghbciepinofaaGreatPEK51
import Derived.Test.YtjghbciepinofaaGreatPEK52
import Derived.Test.YtjghbciepinofaaGreatPEK53
import Derived.BigQuiet
import Derived.Deep.QuietTactic
import Derived.Deep.RegionHeld3
set_option maxRecDepth 100000
namespace Go.Proofs.YtjghbciepinofaaGreat.Pv
open Go.RowKit
attribute [local go_sem ↓] storeK_eq storeN_eq
set_option maxRecDepth 1000000 in
set_option maxHeartbeats 8000000 in
theorem ptell_t5 (g : Nat) (p D : Pr) (v : PrV) (P : Nat → Prop) (w w5 : World) (c o g7 : Nat) (x : Ln.Line) (s1 s2 : Value) (E1 : Int) (hc : c < 2) (hC : CAt 47 w g (prC p v)) (hp : PIn P w p v) (hg : ¬ P g) (HO : Hid (o = 66 + c * 14)) (HB : Hid (Below w.heap.size w w5)) (hg7 : w.heap.size ≤ g7) (HL7 : Hid (CAt 37 w5 g7 #[s1, s2, .int .i64 x.g, .bool x.cl])) (HR1 : Hid (RepC (fun b => New P w 0 b ∧ b ≠ g7) w5 s1 1 16 (txC x.S))) (HR2 : Hid (RepC (fun b => New P w 0 b ∧ b ≠ g7) w5 s2 1 8 (inC x.D)))
    (HD : Hid (D = if E1 = 0 then { p with L := updL p.L c { p.L c with out := x, told := p.set, fresh := false, done := [] } } else p)) (v2 v3 v4 v5 v8 v9 v10 v11 v12 v13 v14 v15 v16 v17 v18 v19 v20 v21 v22 v23 v24 v25 v26 v27 v28 v29 v30 v31 v32 v33 v34 v35 v36 v37 v38 v39 v40 v41 v42 v43 v44 v45 v46 v47 v48 v49 v50 v51 v52 v53 v54 v55 v56 v57 v58 v59 v60 v61 v62 v63 v64 v65 v66 v67 v68 v69 v70 v71 v72 v73 v74 v75 v76 v77 v78 v79 v80 v81 v82 v83 v84 v85 v86 v87 v88 v89 v90 v91 v92 v93 v94 v95 v96 v97 : Value) :
    Code.wp Tryz.prog tell5C (bodyPost Tryz.prog Tryz.f32 (Turns w g P D)) ⟨List.toArray ((.pointer (some ⟨g, 0, none⟩)) :: (.pointer (some ⟨g, o, none⟩)) :: v2 :: v3 :: v4 :: v5 :: (.int .i64 E1) :: (.pointer (some ⟨g7, 0, none⟩)) :: v8 :: v9 :: v10 :: v11 :: v12 :: v13 :: v14 :: v15 :: v16 :: v17 :: v18 :: v19 :: v20 :: v21 :: v22 :: v23 :: v24 :: v25 :: v26 :: v27 :: v28 :: v29 :: v30 :: v31 :: v32 :: v33 :: v34 :: v35 :: v36 :: v37 :: v38 :: v39 :: v40 :: v41 :: v42 :: v43 :: v44 :: v45 :: v46 :: v47 :: v48 :: v49 :: v50 :: v51 :: v52 :: v53 :: v54 :: v55 :: v56 :: v57 :: v58 :: v59 :: v60 :: v61 :: v62 :: v63 :: v64 :: v65 :: v66 :: v67 :: v68 :: v69 :: v70 :: v71 :: v72 :: v73 :: v74 :: v75 :: v76 :: v77 :: v78 :: v79 :: v80 :: v81 :: v82 :: v83 :: v84 :: v85 :: v86 :: v87 :: v88 :: v89 :: v90 :: v91 :: v92 :: v93 :: v94 :: v95 :: v96 :: v97 :: []), []⟩ w5 := by
  conv => arg 2; whnf
  have HP := hide hp
  have HC := hide hC
  have hgl := hC.lt
  obtain ⟨A1, n1, K1, B1, rfl, -, -⟩ := id HR1.out
  obtain ⟨A2, n2, K2, B2, rfl, -, -⟩ := id HR2.out
  by_cases hE : E1 = 0
  rotate_left
  · have hq : Hid (D = p) := HD.out.trans (if_neg hE)
    have hE' : (E1 != 0) = true := by simpa using hE
    clear HD HR1 HR2 HL7 hC hp
    go_wp2
    go_end0
    rw [hq.out]
    exact ⟨v, rfl, HC.out.over HB.out, HP.out.ofNew HB.out 0, Alt.of HB.out⟩
  subst hE
  replace HD := hide (HD.out.trans (if_pos rfl))
  have C5 := HC.out.over HB.out
  have hgg : ¬ g7 = g := by omega
  have hf := (C5.lk hc).facts
  rw [← HO.out] at hf
  obtain ⟨-, -, -, f3, f4, f5, f6, f7, f8, f9⟩ := hf
  have k0 : w5.cell? ⟨g7, 0, none⟩ = _ := HL7.out.cell 0
  have k1 : w5.cell? ⟨g7, 0 + 1, none⟩ = _ := HL7.out.cell 1
  have k2 : w5.cell? ⟨g7, 0 + 2, none⟩ = _ := HL7.out.cell 2
  have k3 : w5.cell? ⟨g7, 0 + 3, none⟩ = _ := HL7.out.cell 3
  have z6 := C5.free (o + 6)
  have z7 := C5.free (o + 6 + 1)
  have z8 := C5.free (o + 6 + 2)
  have z9 := C5.free (o + 6 + 3)
  have HC5 := hide C5
  clear hC hp C5
  have sN : (storeN (.pointer (some ⟨g, o + 6, none⟩)) (.agg #[.slice A1 n1 K1, .slice A2 n2 K2, .int .i64 x.g, .bool x.cl])).run Tryz.prog w5 = .ok () (w5.setCells g (o + 6) [.slice A1 n1 K1, .slice A2 n2 K2, .int .i64 x.g, .bool x.cl]) :=
    run_storeAt_mid (P := Tryz.prog) w5 g (o + 6) 37 #[.slice A1 n1 K1, .slice A2 n2 K2, .int .i64 x.g, .bool x.cl] (HC5.out.there (o + 6) 4 (by rw [prC_size, HO.out]; omega)) (by rw [infoLnS]; rfl) (by simp [Value.oneCell'])
  go_upto_region 7 with fail
  have C6 : CAt 47 (w5.setCells g (o + 6) [.slice A1 n1 K1, .slice A2 n2 K2, .int .i64 x.g, .bool x.cl]) g (((((prC p v).setIfInBounds (o + 6) (.slice A1 n1 K1)).setIfInBounds (o + 7) (.slice A2 n2 K2)).setIfInBounds (o + 8) (.int .i64 x.g)).setIfInBounds (o + 9) (.bool x.cl)) := (((HC5.out.set (o + 6) _).set (o + 7) _).set (o + 8) _).set (o + 9) _
  have hn : ¬ New P w 0 g := new_not hg hgl
  have HA6 : Hid (Alt g w (w5.setCells g (o + 6) [.slice A1 n1 K1, .slice A2 n2 K2, .int .i64 x.g, .bool x.cl])) := (Alt.of HB.out).sets _ _
  have HK6 : Hid (∀ b, b ≠ g → (w5.setCells g (o + 6) [.slice A1 n1 K1, .slice A2 n2 K2, .int .i64 x.g, .bool x.cl]).heap[b]? = w5.heap[b]?) := fun b hb => heap_sets hb _ _ _
  have HS6 : Hid (w5.heap.size = (w5.setCells g (o + 6) [.slice A1 n1 K1, .slice A2 n2 K2, .int .i64 x.g, .bool x.cl]).heap.size) := by show _ = _; simp [World.setCells, World.setCell]
  clear f6 f7 f8 f9 k0 k1 k2 k3 z6 z7 z8 z9 sN f3 f4 f5
  generalize w5.setCells g (o + 6) [.slice A1 n1 K1, .slice A2 n2 K2, .int .i64 x.g, .bool x.cl] = w6 at *
  have hgl6 := C6.lt
  have P6 : PIn (New P w 0) w6 p v := (HP.out.ofNew HB.out 0).keep fun b hb _ => HK6.out b (fun e => hn (by rw [← e]; exact hb))
  have HCL := hide (cloneP_any p.set v.set (New P w 0) w6 P6.set)
  have e65 : w6.cell? ⟨g, 65, none⟩ = some v.set := by
    rw [C6.cell 65]
    simp only [Array.getElem?_setIfInBounds]
    have := HO.out
    rw [if_neg (by omega), if_neg (by omega), if_neg (by omega), if_neg (by omega)]
    rfl
  obtain ⟨At, nt, Ct, et⟩ := (HP.out.lk c hc).told.one'
  obtain ⟨Ad, nd, Cd0, ed⟩ := (HP.out.lk c hc).done.one'
  have HF6 : Hid (∀ wx, Below w6.heap.size w6 wx → wx.cell? ⟨g, o + 3, none⟩ = some (.slice At nt Ct) ∧ wx.cell? ⟨g, o + 4, none⟩ = some (.bool (p.L c).fresh) ∧ wx.cell? ⟨g, o + 5, none⟩ = some (.slice Ad nd Cd0) ∧ ∀ k, wx.frozen? ⟨g, k, none⟩ = false) := fun wx hb => by
    have C := C6.over hb
    have hl : ∀ j, j < 6 → ∀ z, (lkL (p.L c) (v.l c))[j]? = some z → wx.cell? ⟨g, o + j, none⟩ = some z := fun j hj z hz => by
      rw [C.cell (o + j)]
      simp only [Array.getElem?_setIfInBounds]
      rw [if_neg (by omega), if_neg (by omega), if_neg (by omega), if_neg (by omega), HO.out, pr_link c hc j (by omega), hz]
    exact ⟨hl 3 (by omega) _ (by rw [← et]; rfl), hl 4 (by omega) _ rfl, hl 5 (by omega) _ (by rw [← ed]; rfl), fun k => C.free k⟩
  have H6 := hide (show _ ∧ _ from ⟨C6, P6⟩)
  clear C6 P6 et ed
  obtain ⟨As, ns, Cs, es⟩ := HP.out.set.one'
  rw [es] at e65 HCL
  clear es
  go_upto_region 8 with (go_at_call 73; refine HCL.out.mono ?_; rintro e w7 ⟨u, rfl, U7, hb7⟩; obtain ⟨Au, nu, Cu, rfl⟩ := U7.one'; obtain ⟨q3, q4, q5, qz⟩ := HF6.out w7 hb7; have hgl7 : g < w7.heap.size := Nat.lt_of_lt_of_le hgl6 hb7.size; have qz3 := qz (o + 3); have HU := hide (show _ ∧ _ from ⟨U7, hb7⟩); have HQZ := hide qz; clear U7 hb7 qz)
  have qz4 := HQZ.out (o + 4)
  have qz5 := HQZ.out (o + 5)
  go_wp2
  go_end0
  have e := HO.out
  clear HO q3 q4 q5 qz3 qz4 qz5 HF6 HCL
  subst e
  rw [HD.out]
  have hk : ∀ b, New P w 0 b → b ≠ g := fun b hb e => hn (by rw [← e]; exact hb)
  have hks : ∀ b, New P w 0 b → (((w7.setCell ⟨g, 66 + c * 14 + 3, none⟩ (.slice Au nu Cu)).setCell ⟨g, 66 + c * 14 + 4, none⟩ (.bool false)).setCell ⟨g, 66 + c * 14 + 5, none⟩ (.slice none 0 0)).heap[b]? = w7.heap[b]? := fun b hb => (Below.heap_setCell _ _ _ _ (hk b hb)).trans ((Below.heap_setCell _ _ _ _ (hk b hb)).trans (Below.heap_setCell _ _ _ _ (hk b hb)))
  have C9 := (((H6.out.1.over HU.out.2).set (66 + c * 14 + 3) (.slice Au nu Cu)).set (66 + c * 14 + 4) (.bool false)).set (66 + c * 14 + 5) (.slice none 0 0)
  rw [lk_told c hc x p.set (.slice Au nu Cu) (.slice A1 n1 K1) (.slice A2 n2 K2)] at C9
  have hs6 := HA6.out.size
  have R1 := (((HR1.out.mono (P' := New P w 0) fun b _ h => h.1).keep (w' := w6) fun b hb _ => HK6.out b (hk b hb)).over HU.out.2).keep (w' := ((w7.setCell ⟨g, 66 + c * 14 + 3, none⟩ (.slice Au nu Cu)).setCell ⟨g, 66 + c * 14 + 4, none⟩ (.bool false)).setCell ⟨g, 66 + c * 14 + 5, none⟩ (.slice none 0 0)) fun b hb _ => hks b hb
  have R2 := (((HR2.out.mono (P' := New P w 0) fun b _ h => h.1).keep (w' := w6) fun b hb _ => HK6.out b (hk b hb)).over HU.out.2).keep (w' := ((w7.setCell ⟨g, 66 + c * 14 + 3, none⟩ (.slice Au nu Cu)).setCell ⟨g, 66 + c * 14 + 4, none⟩ (.bool false)).setCell ⟨g, 66 + c * 14 + 5, none⟩ (.slice none 0 0)) fun b hb _ => hks b hb
  have T9 := (HU.out.1.mono (P' := New P w 0) fun b _ h => .inr (by omega)).keep (w' := ((w7.setCell ⟨g, 66 + c * 14 + 3, none⟩ (.slice Au nu Cu)).setCell ⟨g, 66 + c * 14 + 4, none⟩ (.bool false)).setCell ⟨g, 66 + c * 14 + 5, none⟩ (.slice none 0 0)) fun b hb _ => hks b hb
  exact ⟨_, rfl, C9, told_in ((((H6.out.2.over HU.out.2).put hn _ _).put hn _ _).put hn _ _) c x _ _ _ T9 R1 R2, (((HA6.out.trans (Alt.of HU.out.2)).put _ _).put _ _).put _ _⟩
end Go.Proofs.YtjghbciepinofaaGreat.Pv

set_option maxRecDepth 100000
namespace Go.Proofs.YtjghbciepinofaaGreat.Pv
open Go.RowKit
/-- a line in a block of its own, its lists elsewhere -/
structure Sds (P : Nat → Prop) (w w6 : World) (x : Ln.Line) (u1 u2 : Value) (g7 : Nat) (w' : World) : Prop where
  cat : CAt 37 w' g7 #[u1, u2, .int .i64 x.g, .bool x.cl]
  r1 : RepC (fun b => New P w 0 b ∧ b ≠ g7) w' u1 1 16 (txC x.S)
  r2 : RepC (fun b => New P w 0 b ∧ b ≠ g7) w' u2 1 8 (inC x.D)
  bel : Below w6.heap.size w6 w'
  le : w6.heap.size ≤ g7
theorem RepC.sets {P : Nat → Prop} {w : World} {v : Value} {sz bts : Nat} {cs : List Value} (h : RepC P w v sz bts cs) {g : Nat} (hg : ¬ P g) (o : Nat) (vs : List Value) : RepC P (w.setCells g o vs) v sz bts cs := h.keep fun b hb _ => heap_sets (show b ≠ g from fun e => hg (by rw [← e]; exact hb)) vs o w
theorem RepC.one' {P : Nat → Prop} {w : World} {v : Value} {sz bts : Nat} {cs : List Value} (h : RepC P w v sz bts cs) : ∃ A n C, v = .slice A n C := by
  obtain ⟨A, n, C, -, rfl, -⟩ := h
  exact ⟨A, n, C, rfl⟩
theorem ln_one {u1 u2 : Value} (h1 : ∃ A n C, u1 = .slice A n C) (h2 : ∃ A n C, u2 = .slice A n C) (a : Int) (b : Bool) : (#[u1, u2, .int .i64 a, .bool b] : Array Value).all (·.oneCell') = true := by
  obtain ⟨A, n, C, rfl⟩ := h1
  obtain ⟨A', n', C', rfl⟩ := h2
  simp [Value.oneCell']
theorem sds_new {P : Nat → Prop} {w w6 w0 wb : World} {x : Ln.Line} {u1 u2 : Value} (h6 : w.heap.size ≤ w6.heap.size) (h0 : w6.heap.size ≤ w0.heap.size) (U1 : RepC (New (fun b => P b ∧ b < w.heap.size) w0 0) wb u1 1 16 (txC x.S)) (U2 : RepC (New (fun b => P b ∧ b < w.heap.size) w0 0) wb u2 1 8 (inC x.D)) (hb : Below w6.heap.size w6 wb) :
    ∃ wS, (storeN (.pointer (some ⟨wb.heap.size, 0, none⟩)) (.agg #[u1, u2, .int .i64 x.g, .bool x.cl])).run Tryz.prog (wb.alloc (.cells Z4 37)) = .ok () wS ∧ Sds P w w6 x u1 u2 wb.heap.size wS := by
  have bA : Below wb.heap.size wb (wb.alloc (.cells Z4 37)) := (Below.refl _ wb).alloc (Nat.le_refl _) _
  have m : ∀ b, b < wb.heap.size → New (fun b => P b ∧ b < w.heap.size) w0 0 b → New P w 0 b ∧ b ≠ wb.heap.size := fun b hl h => by
    refine ⟨?_, by omega⟩
    rcases h with ⟨h, _⟩ | h
    · exact .inl h
    · exact .inr (by omega)
  refine ⟨_, ln_store (CAt.new 37 wb Z4) rfl rfl (ln_one U1.one' U2.one' _ _), (CAt.new 37 wb Z4).setAll rfl, ((U1.mono m).over bA).sets (fun h => h.2 rfl) _ _, ((U2.mono m).over bA).sets (fun h => h.2 rfl) _ _, below_sets hb.size _ _ _ (hb.alloc hb.size _), hb.size⟩
theorem sds_old {P : Nat → Prop} {w w6 w0 wb : World} {x : Ln.Line} {u1 u2 : Value} (h6 : w.heap.size ≤ w6.heap.size) (h0 : w6.heap.size + 1 ≤ w0.heap.size) (U1 : RepC (New (fun b => P b ∧ b < w.heap.size) w0 0) wb u1 1 16 (txC x.S)) (U2 : RepC (New (fun b => P b ∧ b < w.heap.size) w0 0) wb u2 1 8 (inC x.D)) (hb : Below w6.heap.size w6 wb) (hc : CAt 37 wb w6.heap.size Z4) :
    ∃ wS, (storeN (.pointer (some ⟨w6.heap.size, 0, none⟩)) (.agg #[u1, u2, .int .i64 x.g, .bool x.cl])).run Tryz.prog wb = .ok () wS ∧ Sds P w w6 x u1 u2 w6.heap.size wS := by
  have m : ∀ b, b < wb.heap.size → New (fun b => P b ∧ b < w.heap.size) w0 0 b → New P w 0 b ∧ b ≠ w6.heap.size := fun b hl h => by
    rcases h with ⟨h, _⟩ | h
    · exact ⟨.inl h, by have := h.2; omega⟩
    · exact ⟨.inr (by omega), by omega⟩
  refine ⟨_, ln_store hc rfl rfl (ln_one U1.one' U2.one' _ _), hc.setAll rfl, (U1.mono m).sets (fun h => h.2 rfl) _ _, (U2.mono m).sets (fun h => h.2 rfl) _ _, below_sets (Nat.le_refl _) _ _ _ hb, Nat.le_refl _⟩
/-- all orders come to one frame, with two slices and a block -/
def Joinw (F : Option Addr → Nat → Nat → Option Addr → Nat → Nat → Nat → Act) (R : Option Addr → Nat → Nat → Option Addr → Nat → Nat → Nat → World → Prop) (ex : Exit) (a : Act) (w : World) : Prop := ∃ A n C A' n' C' g, ex = Exit.normal ∧ a = F A n C A' n' C' g ∧ R A n C A' n' C' g w
theorem wp_joinw {P : Program} {c : Code} {Q : Exit → Act → World → Prop} {a : Act} {w : World} (R : Option Addr → Nat → Nat → Option Addr → Nat → Nat → Nat → World → Prop) (F : Option Addr → Nat → Nat → Option Addr → Nat → Nat → Nat → Act) (h1 : Code.wp P c (Joinw F R) a w) (h2 : ∀ A n C A' n' C' g w', R A n C A' n' C' g w' → Q Exit.normal (F A n C A' n' C' g) w') : Code.wp P c Q a w :=
  Code.wp_mono (fun e a' w' h => by obtain ⟨A, n, C, A', n', C', g, rfl, rfl, h⟩ := h; exact h2 A n C A' n' C' g w' h) h1
attribute [local go_sem ↓] storeK_eq storeN_eq
set_option maxRecDepth 1000000 in
set_option maxHeartbeats 8000000 in
theorem ptell_t2 (g : Nat) (p D : Pr) (v : PrV) (P : Nat → Prop) (w w5 : World) (c o g4 : Nat) (dl : List (Int × Int)) (ud ut : Value) (hc : c < 2) (hC : CAt 47 w g (prC p v)) (hp : PIn P w p v) (hg : ¬ P g) (ht0 : 0 ≤ p.t) (ht1 : p.t ≤ 1099511627776) (HO : Hid (o = 66 + c * 14)) (HB : Hid (Below w.heap.size w w5)) (HK : Hid (CAt 49 w5 g4 #[.int .i64 1, .int .i64 p.h, .int .i64 0, .int .i64 0, ud, ut])) (HU1 : Hid (Rep (fun _ => True) w5 ud 2 16 (pwC dl))) (HU2 : Hid (Rep (fun _ => True) w5 ut 1 8 (inC (p.L c).done)))
    (HD : Hid (D = if Cd.goodN 1 p.h 0 0 dl (p.L c).done = 0 then if Ln.sayE (p.L c).out (p.t + 40) = 0 then { p with L := updL p.L c { p.L c with out := Ln.sayL (p.L c).out (Cd.encS 1 p.h 0 0 dl (p.L c).done) (p.t + 40), told := p.set, fresh := false, done := [] } } else p else p)) (v8 v9 v10 v11 v12 v13 v14 v15 v16 v17 v18 v19 v20 v21 v22 v23 v24 v25 v26 v27 v28 v29 v30 v31 v32 v33 v34 v35 v36 v37 v38 v39 v40 v41 v42 v43 v44 v45 v46 v47 v48 v49 v50 v51 v52 v53 v54 v55 v56 : Value) :
    Code.wp Tryz.prog tell2C (bodyPost Tryz.prog Tryz.f32 (Turns w g P D)) ⟨List.toArray ((.pointer (some ⟨g, 0, none⟩)) :: (.pointer (some ⟨g, o, none⟩)) :: undef :: undef :: (.pointer (some ⟨g4, 0, none⟩)) :: undef :: undef :: undef :: v8 :: v9 :: v10 :: v11 :: v12 :: v13 :: v14 :: v15 :: v16 :: v17 :: v18 :: v19 :: v20 :: v21 :: v22 :: v23 :: v24 :: v25 :: v26 :: v27 :: v28 :: v29 :: v30 :: v31 :: v32 :: v33 :: v34 :: v35 :: v36 :: v37 :: v38 :: v39 :: v40 :: v41 :: v42 :: v43 :: v44 :: v45 :: v46 :: v47 :: v48 :: v49 :: v50 :: v51 :: v52 :: v53 :: v54 :: v55 :: v56 :: undef :: undef :: undef :: undef :: undef :: undef :: undef :: undef :: undef :: undef :: undef :: undef :: undef :: undef :: undef :: undef :: undef :: undef :: undef :: undef :: undef :: undef :: undef :: undef :: undef :: undef :: undef :: undef :: undef :: undef :: undef :: undef :: undef :: undef :: undef :: undef :: undef :: undef :: undef :: undef :: undef :: []), []⟩ w5 := by
  conv => arg 2; whnf
  have HP := hide hp
  have HC := hide hC
  have hgl := hC.lt
  obtain ⟨A1, C1, A2, C2, sb, so, db, dO, rfl, rfl, hL⟩ := Rep.lies HU1.out HU2.out
  have HEN := hide (Cd.encode_any 1 p.h 0 0 dl (p.L c).done A1 A2 C1 C2 sb so db dO w5 hL)
  generalize Cd.encS 1 p.h 0 0 dl (p.L c).done = es at *
  generalize Cd.goodN 1 p.h 0 0 dl (p.L c).done = E0 at *
  have k0 : w5.cell? ⟨g4, 0, none⟩ = some (.int .i64 1) := HK.out.cell 0
  have k1 : w5.cell? ⟨g4, 0 + 1, none⟩ = some (.int .i64 p.h) := HK.out.cell 1
  have k2 : w5.cell? ⟨g4, 0 + 2, none⟩ = some (.int .i64 0) := HK.out.cell 2
  have k3 : w5.cell? ⟨g4, 0 + 3, none⟩ = some (.int .i64 0) := HK.out.cell 3
  have k4 : w5.cell? ⟨g4, 0 + 4, none⟩ = some (.slice A1 dl.length C1) := HK.out.cell 4
  have k5 : w5.cell? ⟨g4, 0 + 5, none⟩ = some (.slice A2 (p.L c).done.length C2) := HK.out.cell 5
  clear hL HK HU1 HU2 hC hp
  by_cases hE : E0 = 0
  rotate_left
  · have hq : Hid (D = p) := HD.out.trans (if_neg hE)
    have hE' : (E0 != 0) = true := by simpa using hE
    clear HD
    go_wp2_with (go_at_call 6; refine HEN.out.mono ?_; rintro e w6 ⟨rfl, hb6⟩; have HB6 := hide (HB.out.trans (hb6.mono HB.out.size)); clear hb6)
    go_end0
    rw [hq.out]
    exact ⟨v, rfl, HC.out.over HB6.out, HP.out.ofNew HB6.out 0, Alt.of HB6.out⟩
  subst hE
  replace HD := hide (HD.out.trans (if_pos rfl))
  go_upto_region 4 with (go_at_call 6; refine HEN.out.mono ?_; rintro e w6 ⟨rfl, hb6⟩; have HB6 := hide (HB.out.trans (hb6.mono HB.out.size)); clear hb6 k0 k1 k2 k3 k4 k5)
  have hsz6 := HB6.out.size
  obtain ⟨As, ns, Cs, es'⟩ := (HP.out.lk c hc).said.one'
  obtain ⟨Ae, ne, Ce, ee'⟩ := (HP.out.lk c hc).due.one'
  have HSY := hide (fun (wx : World) (hb : Below w6.heap.size w6 wx) => say_rep (p.L c).out es (p.t + 40) (v.l c).said (v.l c).due (fun b => P b ∧ b < w.heap.size) wx (((HP.out.lk c hc).said.mono fun b hl h => ⟨h, hl⟩).over (HB6.out.trans (hb.mono hsz6))) (((HP.out.lk c hc).due.mono fun b hl h => ⟨h, hl⟩).over (HB6.out.trans (hb.mono hsz6))))
  rw [es', ee'] at HSY
  have HF : Hid (∀ wx, Below w6.heap.size w6 wx → wx.cell? ⟨g, o + 6, none⟩ = some (.slice As ns Cs) ∧ wx.cell? ⟨g, o + 6 + 1, none⟩ = some (.slice Ae ne Ce) ∧ wx.cell? ⟨g, o + 6 + 2, none⟩ = some (.int .i64 (p.L c).out.g) ∧ wx.cell? ⟨g, o + 6 + 3, none⟩ = some (.bool (p.L c).out.cl) ∧ wx.cell? ⟨g, 1, none⟩ = some (.int .i64 p.t)) := fun wx hb => by
    have C := HC.out.over (HB6.out.trans (hb.mono hsz6))
    have hf := (C.lk hc).facts
    rw [← HO.out, es', ee'] at hf
    exact ⟨hf.2.2.2.2.2.2.1, hf.2.2.2.2.2.2.2.1, hf.2.2.2.2.2.2.2.2.1, hf.2.2.2.2.2.2.2.2.2, C.cell 1⟩
  clear es' ee'
  generalize Ln.sayL (p.L c).out es (p.t + 40) = x at *
  generalize Ln.sayE (p.L c).out (p.t + 40) = E1 at *
  generalize (p.L c).out.g = gg at *
  generalize (p.L c).out.cl = gc at *
  have HAL : Hid (Below w6.heap.size w6 (w6.alloc (.cells Z4 37))) := (Below.refl _ w6).alloc (Nat.le_refl _) _
  have HALd := hide HAL.out.drew
  have HACd : Hid (CAt 37 (w6.alloc (.cells Z4 37)).drew w6.heap.size Z4) := CAt.new 37 w6 Z4
  have HSZ : Hid (w6.heap.size + 1 ≤ (w6.alloc (.cells Z4 37)).drew.heap.size) := HACd.out.lt
  have HS6 := hide hsz6
  have hwr : IntKind.i64.wrap (p.t + 40) = p.t + 40 := wrapI (by omega) (by omega)
  clear hsz6 HEN
  unfold Z4 at HAL HALd
  apply wp_joinw (fun A n C A' n' C' g7 w' => Sds P w w6 x (.slice A n C) (.slice A' n' C') g7 w')
  · refine wp_region_noPanic ?_
    refine wp_region_held_drew (S := fun wx => Below w6.heap.size w6 wx) (by kernel_rfl) (Below.refl _ _).drew (fun hS => ?_)
    refine Od.anyH_sl (i := 0) (v := (.pointer (some ⟨g, o, none⟩))) (some 65) rfl rfl (by kernel_rfl) (by kernel_rfl) (by kernel_rfl) (fun _ _ _ h => h) (Or.inl ⟨by rfl, fun wx hSw => ?_⟩) hS ?_
    · try dsimp only at hSw
      go_simp
    simp only [Act.put, List.setIfInBounds_toArray, List.set_cons_zero, List.set_cons_succ]
    refine Od.anyH_sl (i := 1) (v := (.pointer (some ⟨g, o, none⟩))) (some 66) rfl rfl (by kernel_rfl) (by kernel_rfl) (by kernel_rfl) (fun _ _ _ h => h) (Or.inl ⟨by rfl, fun wx hSw => ?_⟩) hS ?_
    · try dsimp only at hSw
      go_simp
    simp only [Act.put, List.setIfInBounds_toArray, List.set_cons_zero, List.set_cons_succ]
    refine Od.anyH_sl (i := 2) (v := (.pointer (some ⟨g, o + 6, none⟩))) (some 67) rfl rfl (by kernel_rfl) (by kernel_rfl) (by kernel_rfl) (fun _ _ _ h => h) (Or.inl ⟨by rfl, fun wx hSw => ?_⟩) hS ?_
    · try dsimp only at hSw
      go_simp
    simp only [Act.put, List.setIfInBounds_toArray, List.set_cons_zero, List.set_cons_succ]
    refine Od.anyH_sl (i := 3) (v := (.agg #[.slice As ns Cs, .slice Ae ne Ce, .int .i64 gg, .bool gc])) (some 68) rfl rfl (by kernel_rfl) (by kernel_rfl) (by kernel_rfl) (fun _ _ _ h => h) (Or.inl ⟨by rfl, fun wx hSw => ?_⟩) hS ?_
    · try dsimp only at hSw
      obtain ⟨l6, l7, l8, l9, l1⟩ := HF.out wx hSw; go_simp
    simp only [Act.put, List.setIfInBounds_toArray, List.set_cons_zero, List.set_cons_succ]
    refine Od.anyH_sl (i := 4) (v := (.string es)) (some 69) rfl rfl (by kernel_rfl) (by kernel_rfl) (by kernel_rfl) (fun _ _ _ h => h) (Or.inl ⟨by rfl, fun wx hSw => ?_⟩) hS ?_
    · try dsimp only at hSw
      go_simp
    simp only [Act.put, List.setIfInBounds_toArray, List.set_cons_zero, List.set_cons_succ]
    refine Od.anyH_sl (i := 5) (v := (.pointer (some ⟨g, 0, none⟩))) (some 70) rfl rfl (by kernel_rfl) (by kernel_rfl) (by kernel_rfl) (fun _ _ _ h => h) (Or.inl ⟨by rfl, fun wx hSw => ?_⟩) hS ?_
    · try dsimp only at hSw
      go_simp
    simp only [Act.put, List.setIfInBounds_toArray, List.set_cons_zero, List.set_cons_succ]
    refine Od.anyH_sl (i := 6) (v := (.pointer (some ⟨g, 0, none⟩))) (some 71) rfl rfl (by kernel_rfl) (by kernel_rfl) (by kernel_rfl) (fun _ _ _ h => h) (Or.inl ⟨by rfl, fun wx hSw => ?_⟩) hS ?_
    · try dsimp only at hSw
      go_simp
    simp only [Act.put, List.setIfInBounds_toArray, List.set_cons_zero, List.set_cons_succ]
    refine Od.anyH_sl (i := 7) (v := (.pointer (some ⟨g, 1, none⟩))) (some 72) rfl rfl (by kernel_rfl) (by kernel_rfl) (by kernel_rfl) (fun _ _ _ h => h) (Or.inl ⟨by rfl, fun wx hSw => ?_⟩) hS ?_
    · try dsimp only at hSw
      go_simp
    simp only [Act.put, List.setIfInBounds_toArray, List.set_cons_zero, List.set_cons_succ]
    refine Od.anyH_sl (i := 8) (v := (.int .i64 p.t)) (some 73) rfl rfl (by kernel_rfl) (by kernel_rfl) (by kernel_rfl) (fun _ _ _ h => h) (Or.inl ⟨by rfl, fun wx hSw => ?_⟩) hS ?_
    · try dsimp only at hSw
      obtain ⟨l6, l7, l8, l9, l1⟩ := HF.out wx hSw; go_simp
    simp only [Act.put, List.setIfInBounds_toArray, List.set_cons_zero, List.set_cons_succ]
    refine Od.anyH_sl (i := 9) (v := (.int .i64 (p.t + 40))) (some 74) rfl rfl (by kernel_rfl) (by kernel_rfl) (by kernel_rfl) (fun _ _ _ h => h) (Or.inl ⟨by rfl, fun wx hSw => ?_⟩) hS ?_
    · try dsimp only at hSw
      go_simp
    simp only [Act.put, List.setIfInBounds_toArray, List.set_cons_zero, List.set_cons_succ]
    refine Od.anyH_two (i := 10) (j := 14) (by kernel_rfl) rfl rfl rfl rfl (fun K hK => ?_) (fun K hK => ?_)
    · go_simp
      go_at_call 72
      refine (HSY.out _ (by with_reducible exact (Below.refl w6.heap.size w6).drew)).mono ?_
      rintro e wb ⟨u1, u2, rfl, U1, U2, hbb⟩
      obtain ⟨Au, nu, Cu, rfl⟩ := U1.one'
      obtain ⟨Aw, nw, Cw, rfl⟩ := U2.one'
      have hb := (Below.refl w6.heap.size w6).drew.trans (hbb.mono (Below.refl w6.heap.size w6).drew.size)
      dsimp only
      refine hK _ _ hb ?_
      clear hK K
      try simp only [Act.put, List.setIfInBounds_toArray, List.set_cons_zero, List.set_cons_succ]
      refine Od.anyH_sl (i := 11) (v := (.tuple #[.agg #[.slice Au nu Cu, .slice Aw nw Cw, .int .i64 x.g, .bool x.cl], .int .i64 E1])) (some 64) rfl rfl (by kernel_rfl) (by kernel_rfl) (by kernel_rfl) (fun _ _ _ h => h) (Or.inl ⟨by rfl, fun wx hSw => ?_⟩) hb ?_
      · try dsimp only at hSw
        go_simp
      simp only [Act.put, List.setIfInBounds_toArray, List.set_cons_zero, List.set_cons_succ]
      refine Od.anyH_sl (i := 12) (v := (.agg #[.slice Au nu Cu, .slice Aw nw Cw, .int .i64 x.g, .bool x.cl])) (some 76) rfl rfl (by kernel_rfl) (by kernel_rfl) (by kernel_rfl) (fun _ _ _ h => h) (Or.inl ⟨by rfl, fun wx hSw => ?_⟩) hb ?_
      · try dsimp only at hSw
        go_simp
      simp only [Act.put, List.setIfInBounds_toArray, List.set_cons_zero, List.set_cons_succ]
      refine Od.anyH_sl (i := 13) (v := (.int .i64 E1)) (some 77) rfl rfl (by kernel_rfl) (by kernel_rfl) (by kernel_rfl) (fun _ _ _ h => h) (Or.inl ⟨by rfl, fun wx hSw => ?_⟩) hb ?_
      · try dsimp only at hSw
        go_simp
      simp only [Act.put, List.setIfInBounds_toArray, List.set_cons_zero, List.set_cons_succ]
      refine Od.anyH_one (i := 14) (by kernel_rfl) rfl rfl (fun K hK => ?_)
      go_simp
      refine hK _ _ (hb.alloc hb.size _) ?_
      clear hK K
      try simp only [Act.put, List.setIfInBounds_toArray, List.set_cons_zero, List.set_cons_succ]
      obtain ⟨wS, sA, hST⟩ := sds_new (P := P) HS6.out (Nat.le_refl _) U1 U2 hb
      unfold Z4 at sA
      refine Od.anyH_one (i := 15) (by kernel_rfl) rfl rfl (fun K hK => ?_)
      go_simp
      refine hK _ _ hST.bel ?_
      clear hK K
      refine Od.anyH_sl (i := 16) (v := (.int .i64 E1)) (some 6) rfl rfl (by kernel_rfl) (by kernel_rfl) (by kernel_rfl) (fun _ _ _ h => h) (Or.inl ⟨by rfl, fun wx hSw => ?_⟩) hST.bel ?_
      · try dsimp only at hSw
        go_simp
      simp only [Act.put, List.setIfInBounds_toArray, List.set_cons_zero, List.set_cons_succ]
      refine wpAnyH_done (by kernel_rfl) ?_ _
      obtain ⟨gn, hg'⟩ : ∃ gn, gn = wb.heap.size := ⟨_, rfl⟩
      rw [← hg'] at hST ⊢
      exact NoPanic.normal ⟨Au, nu, Cu, Aw, nw, Cw, gn, rfl, rfl, hST⟩
    · go_simp
      refine hK _ _ (hS.alloc hS.size _) ?_
      clear hK K
      try simp only [Act.put, List.setIfInBounds_toArray, List.set_cons_zero, List.set_cons_succ]
      refine Od.anyH_one (i := 10) (by kernel_rfl) rfl rfl (fun K hK => ?_)
      go_simp
      go_at_call 72
      refine (HSY.out _ (by with_reducible exact HALd.out)).mono ?_
      rintro e wb ⟨u1, u2, rfl, U1, U2, hbb⟩
      obtain ⟨Au, nu, Cu, rfl⟩ := U1.one'
      obtain ⟨Aw, nw, Cw, rfl⟩ := U2.one'
      have hb := HALd.out.trans (hbb.mono HALd.out.size)
      dsimp only
      refine hK _ _ hb ?_
      clear hK K
      try simp only [Act.put, List.setIfInBounds_toArray, List.set_cons_zero, List.set_cons_succ]
      refine Od.anyH_sl (i := 11) (v := (.tuple #[.agg #[.slice Au nu Cu, .slice Aw nw Cw, .int .i64 x.g, .bool x.cl], .int .i64 E1])) (some 64) rfl rfl (by kernel_rfl) (by kernel_rfl) (by kernel_rfl) (fun _ _ _ h => h) (Or.inl ⟨by rfl, fun wx hSw => ?_⟩) hb ?_
      · try dsimp only at hSw
        go_simp
      simp only [Act.put, List.setIfInBounds_toArray, List.set_cons_zero, List.set_cons_succ]
      refine Od.anyH_sl (i := 12) (v := (.agg #[.slice Au nu Cu, .slice Aw nw Cw, .int .i64 x.g, .bool x.cl])) (some 76) rfl rfl (by kernel_rfl) (by kernel_rfl) (by kernel_rfl) (fun _ _ _ h => h) (Or.inl ⟨by rfl, fun wx hSw => ?_⟩) hb ?_
      · try dsimp only at hSw
        go_simp
      simp only [Act.put, List.setIfInBounds_toArray, List.set_cons_zero, List.set_cons_succ]
      refine Od.anyH_sl (i := 13) (v := (.int .i64 E1)) (some 77) rfl rfl (by kernel_rfl) (by kernel_rfl) (by kernel_rfl) (fun _ _ _ h => h) (Or.inl ⟨by rfl, fun wx hSw => ?_⟩) hb ?_
      · try dsimp only at hSw
        go_simp
      simp only [Act.put, List.setIfInBounds_toArray, List.set_cons_zero, List.set_cons_succ]
      obtain ⟨wS, sC, hST⟩ := sds_old (P := P) HS6.out HSZ.out U1 U2 hb (HACd.out.over hbb)
      refine Od.anyH_one (i := 15) (by kernel_rfl) rfl rfl (fun K hK => ?_)
      go_simp
      refine hK _ _ hST.bel ?_
      clear hK K
      refine Od.anyH_sl (i := 16) (v := (.int .i64 E1)) (some 6) rfl rfl (by kernel_rfl) (by kernel_rfl) (by kernel_rfl) (fun _ _ _ h => h) (Or.inl ⟨by rfl, fun wx hSw => ?_⟩) hST.bel ?_
      · try dsimp only at hSw
        go_simp
      simp only [Act.put, List.setIfInBounds_toArray, List.set_cons_zero, List.set_cons_succ]
      refine wpAnyH_done (by kernel_rfl) ?_ _
      obtain ⟨gn, hg'⟩ : ∃ gn, gn = w6.heap.size := ⟨_, rfl⟩
      rw [← hg'] at hST ⊢
      exact NoPanic.normal ⟨Au, nu, Cu, Aw, nw, Cw, gn, rfl, rfl, hST⟩
  rintro Au nu Cu Aw nw Cw g7 w7 S7
  simp only [Exit.then]
  apply_assumption
  refine ptell_t5 g p D v P w w7 c o g7 x _ _ E1 hc HC.out HP.out hg HO (HB6.out.trans (S7.bel.mono HS6.out)) (Nat.le_trans HS6.out S7.le) S7.cat S7.r1 S7.r2 HD _ _ _ _ _ _ _ _ _ _ _ _ _ _ _ _ _ _ _ _ _ _ _ _ _ _ _ _ _ _ _ _ _ _ _ _ _ _ _ _ _ _ _ _ _ _ _ _ _ _ _ _ _ _ _ _ _ _ _ _ _ _ _ _ _ _ _ _ _ _ _ _ _ _ _ _ _ _ _ _ _ _ _ _ _ _ _ _ _ _ _ _ _ _
end Go.Proofs.YtjghbciepinofaaGreat.Pv

set_option maxRecDepth 100000
namespace Go.Proofs.YtjghbciepinofaaGreat.Pv
open Go.RowKit
attribute [local go_sem ↓] storeK_eq storeN_eq
set_option maxHeartbeats 8000000 in
theorem ptell_any (g : Nat) (p : Pr) (v : PrV) (P : Nat → Prop) (w : World) (c : Nat) (hc : c < 2) (hC : CAt 47 w g (prC p v)) (hp : PIn P w p v) (hg : ¬ P g) (ht0 : 0 ≤ p.t) (ht1 : p.t ≤ 1099511627776) :
    Calls Tryz.prog 32 #[.pointer (some ⟨g, 0, none⟩), .pointer (some ⟨g, 66 + c * 14, none⟩)] w (Turns w g P (tellP p c)) := by
  obtain ⟨o, ho⟩ : ∃ o, o = 66 + c * 14 := ⟨_, rfl⟩
  rw [← ho]
  have hD : tellP p c = if quietB p (p.L c) = true then p
    else if Cd.goodN 1 p.h 0 0 (Df.diffL (p.L c).told p.set) (p.L c).done = 0 then
      if Ln.sayE (p.L c).out (p.t + 40) = 0 then { p with L := updL p.L c { p.L c with out := Ln.sayL (p.L c).out (Cd.encS 1 p.h 0 0 (Df.diffL (p.L c).told p.set) (p.L c).done) (p.t + 40), told := p.set, fresh := false, done := [] } } else p
    else p := rfl
  have HQB : Hid (quietB p (p.L c) = (!(p.L c).on || (decide ((p.L c).told = p.set) && !(p.L c).fresh && decide ((p.L c).done.length = 0)))) := rfl
  generalize tellP p c = D at *
  have HD := hide hD
  have hL := hp.lk c hc
  have HEQ := hide (fun (wx : World) (hb : Below w.heap.size w wx) => equalP_any (p.L c).told p.set (v.l c).told v.set P P wx (hL.told.over hb) (hp.set.over hb))
  have HDF := hide (fun (wx : World) (hb : Below w.heap.size w wx) => st_diff (hL.told.over hb) (hp.set.over hb))
  obtain ⟨Ad, Cd0, ed, sd, -, -, -⟩ := hL.done.open (inC_length _) (by decide)
  have HF : Hid (∀ wx, Below w.heap.size w wx → wx.cell? ⟨g, o, none⟩ = some (.bool (p.L c).on) ∧ wx.cell? ⟨g, o + 3, none⟩ = some (v.l c).told ∧ wx.cell? ⟨g, o + 4, none⟩ = some (.bool (p.L c).fresh) ∧ wx.cell? ⟨g, o + 5, none⟩ = some (v.l c).done ∧ wx.cell? ⟨g, 65, none⟩ = some v.set ∧ wx.cell? ⟨g, 0, none⟩ = some (.int .i64 p.h) ∧ wx.cell? ⟨g, 1, none⟩ = some (.int .i64 p.t)) := fun wx hb => by
    have C := hC.over hb
    have hlk := (C.lk hc).facts
    rw [← ho] at hlk
    obtain ⟨f0, -, -, f3, f4, f5, -⟩ := hlk
    exact ⟨f0, f3, f4, f5, C.cell 65, C.cell 0, C.cell 1⟩
  have HO := hide ho
  have HP := hide hp
  have HC := hide hC
  have hgl := hC.lt
  clear hD hp hC hL ho
  have HQ : Hid (∀ wx, Below w.heap.size w wx → D = p → Turns w g P D (.returned (.tuple #[])) wx) := fun wx hb e => by
    rw [e]
    exact ⟨v, rfl, HC.out.over hb, HP.out.ofNew hb 0, Alt.of hb⟩
  obtain ⟨f0, f3, f4, f5, f65, f00, f01⟩ := HF.out w (Below.refl _ _)
  rw [ed] at f5
  go_enter Tryz.func32, Tryz.ntmps32
  cases hon : (p.L c).on
  · have hq : Hid (D = p) := HD.out.trans (if_pos (by rw [HQB.out, hon]; rfl))
    rw [hon] at f0
    go_upto_region 0 with fail
    go_quiet (fail)
    go_wp2
    go_end0
    exact HQ.out _ (below_drewN (Below.refl _ _) _) hq.out
  rw [hon] at f0
  have hqb : Hid (quietB p (p.L c) = (decide ((p.L c).told = p.set) && !(p.L c).fresh && decide ((p.L c).done.length = 0))) := by rw [Hid, HQB.out, hon]; rfl
  clear HQB
  generalize decide ((p.L c).told = p.set) = E at *
  have hcs : (E = true ∧ (p.L c).fresh = false ∧ (p.L c).done.length = 0) ∨ (E = false ∨ (E = true ∧ (p.L c).fresh = true) ∨ (E = true ∧ (p.L c).fresh = false ∧ (p.L c).done.length ≠ 0)) := by
    cases E <;> cases (p.L c).fresh <;> by_cases h : (p.L c).done.length = 0 <;> simp [h]
  rcases hcs with ⟨rfl, hfr, hdl⟩ | hcs
  · have hq : Hid (D = p) := HD.out.trans (if_pos (by rw [hqb.out, hfr]; simp [hdl]))
    rw [hdl] at f5 ed
    rw [hfr] at f4
    have HS0 : Hid (∀ wx, Below w.heap.size w wx → wx.cell? ⟨g, o, none⟩ = some (.bool true) ∧ wx.cell? ⟨g, o + 3, none⟩ = some (v.l c).told ∧ wx.cell? ⟨g, o + 4, none⟩ = some (.bool false) ∧ wx.cell? ⟨g, o + 5, none⟩ = some (.slice Ad 0 Cd0) ∧ wx.cell? ⟨g, 65, none⟩ = some v.set) := fun wx hb => by
      obtain ⟨f0, f3, f4, f5, f65, -⟩ := HF.out wx hb
      rw [hon] at f0; rw [hfr] at f4; rw [ed] at f5
      exact ⟨f0, f3, f4, f5, f65⟩
    clear f0 f3 f4 f5 f65 f00 f01
    go_upto_region 0 with fail
    apply wp_join (fun w' => Below w.heap.size w w')
    · refine wp_region_noPanic ?_
      have hb := Below.refl w.heap.size w
      go_region_held3 (fun wx => wx.cell? ⟨g, o, none⟩ = some (.bool true) ∧ wx.cell? ⟨g, o + 3, none⟩ = some (v.l c).told ∧ wx.cell? ⟨g, o + 4, none⟩ = some (.bool false) ∧ wx.cell? ⟨g, o + 5, none⟩ = some (.slice Ad 0 Cd0) ∧ wx.cell? ⟨g, 65, none⟩ = some v.set) ((refine HS0.out _ ?_; first | with_reducible exact hb | with_reducible exact hb.drew)) ((go_at_call 70; refine (HEQ.out _ (by exact (Below.refl _ w).drew)).mono ?_; rintro e w1 ⟨rfl, hb1⟩; have hb := (Below.refl w.heap.size w).drew.trans hb1; clear hb1; dsimp only))
      all_goals exact NoPanic.normal ⟨rfl, rfl, hb⟩
    intro w1 b1
    simp only [Exit.then]
    apply_assumption
    go_wp2
    go_end0
    exact HQ.out _ b1 hq.out
  have hnq : quietB p (p.L c) = false := by
    rw [hqb.out]
    rcases hcs with rfl | ⟨rfl, h⟩ | ⟨rfl, h, h'⟩
    · rfl
    · rw [h]; rfl
    · rw [h]; simp [h']
  replace HD := hide (HD.out.trans (if_neg (by rw [hnq]; simp)))
  clear hqb hnq
  rcases hcs with rfl | ⟨rfl, hfr⟩ | ⟨rfl, hfr, hdl⟩
  · have HS0 : Hid (∀ wx, Below w.heap.size w wx → wx.cell? ⟨g, o, none⟩ = some (.bool true) ∧ wx.cell? ⟨g, o + 3, none⟩ = some (v.l c).told ∧ wx.cell? ⟨g, o + 4, none⟩ = some (.bool (p.L c).fresh) ∧ wx.cell? ⟨g, o + 5, none⟩ = some (.slice Ad (p.L c).done.length Cd0) ∧ wx.cell? ⟨g, 65, none⟩ = some v.set) := fun wx hb => by
      obtain ⟨f0, f3, f4, f5, f65, -⟩ := HF.out wx hb
      rw [hon] at f0; rw [ed] at f5
      exact ⟨f0, f3, f4, f5, f65⟩
    clear f0 f3 f4 f5 f65 f00 f01
    go_upto_region 0 with fail
    apply wp_join (fun w' => Below w.heap.size w w')
    · refine wp_region_noPanic ?_
      refine wp_region_held_drew (S := fun wx => wx.cell? ⟨g, o, none⟩ = some (.bool true) ∧ wx.cell? ⟨g, o + 3, none⟩ = some (v.l c).told ∧ wx.cell? ⟨g, o + 4, none⟩ = some (.bool (p.L c).fresh) ∧ wx.cell? ⟨g, o + 5, none⟩ = some (.slice Ad (p.L c).done.length Cd0) ∧ wx.cell? ⟨g, 65, none⟩ = some v.set) (by kernel_rfl) (HS0.out _ (Below.refl _ _).drew) (fun hHeld => ?_)
      refine Od.anyH_sl (i := 0) (v := (.pointer (some ⟨g, o, none⟩))) (some 8) rfl rfl (by kernel_rfl) (by kernel_rfl) (by kernel_rfl) (fun _ _ _ h => h) (Or.inl ⟨by rfl, fun wx hSw => ?_⟩) hHeld ?_
      · try dsimp only at hSw
        go_simp
      simp only [Act.put, List.setIfInBounds_toArray, List.set_cons_zero, List.set_cons_succ]
      refine Od.anyH_sl (i := 1) (v := (.pointer (some ⟨g, o, none⟩))) (some 9) rfl rfl (by kernel_rfl) (by kernel_rfl) (by kernel_rfl) (fun _ _ _ h => h) (Or.inl ⟨by rfl, fun wx hSw => ?_⟩) hHeld ?_
      · try dsimp only at hSw
        go_simp
      simp only [Act.put, List.setIfInBounds_toArray, List.set_cons_zero, List.set_cons_succ]
      refine Od.anyH_sl (i := 2) (v := (.pointer (some ⟨g, o, none⟩))) (some 10) rfl rfl (by kernel_rfl) (by kernel_rfl) (by kernel_rfl) (fun _ _ _ h => h) (Or.inl ⟨by rfl, fun wx hSw => ?_⟩) hHeld ?_
      · try dsimp only at hSw
        go_simp
      simp only [Act.put, List.setIfInBounds_toArray, List.set_cons_zero, List.set_cons_succ]
      refine Od.anyH_sl (i := 3) (v := (.bool true)) (some 11) rfl rfl (by kernel_rfl) (by kernel_rfl) (by kernel_rfl) (fun _ _ _ h => h) (Or.inl ⟨by rfl, fun wx hSw => ?_⟩) hHeld ?_
      · try dsimp only at hSw
        go_simp
      simp only [Act.put, List.setIfInBounds_toArray, List.set_cons_zero, List.set_cons_succ]
      refine Od.anyH_sl (i := 4) (v := (.bool false)) (some 12) rfl rfl (by kernel_rfl) (by kernel_rfl) (by kernel_rfl) (fun _ _ _ h => h) (Or.inl ⟨by rfl, fun wx hSw => ?_⟩) hHeld ?_
      · try dsimp only at hSw
        go_simp
      simp only [Act.put, List.setIfInBounds_toArray, List.set_cons_zero, List.set_cons_succ]
      refine Od.anyH_sl (i := 5) (v := (.bool false)) (some 13) rfl rfl (by kernel_rfl) (by kernel_rfl) (by kernel_rfl) (fun _ _ _ h => h) (Or.inl ⟨by rfl, fun wx hSw => ?_⟩) hHeld ?_
      · try dsimp only at hSw
        go_simp
      simp only [Act.put, List.setIfInBounds_toArray, List.set_cons_zero, List.set_cons_succ]
      refine Od.anyH_sl (i := 6) (v := (.pointer (some ⟨g, o, none⟩))) (some 14) rfl rfl (by kernel_rfl) (by kernel_rfl) (by kernel_rfl) (fun _ _ _ h => h) (Or.inl ⟨by rfl, fun wx hSw => ?_⟩) hHeld ?_
      · try dsimp only at hSw
        go_simp
      simp only [Act.put, List.setIfInBounds_toArray, List.set_cons_zero, List.set_cons_succ]
      refine Od.anyH_sl (i := 7) (v := (.pointer (some ⟨g, o, none⟩))) (some 15) rfl rfl (by kernel_rfl) (by kernel_rfl) (by kernel_rfl) (fun _ _ _ h => h) (Or.inl ⟨by rfl, fun wx hSw => ?_⟩) hHeld ?_
      · try dsimp only at hSw
        go_simp
      simp only [Act.put, List.setIfInBounds_toArray, List.set_cons_zero, List.set_cons_succ]
      refine Od.anyH_sl (i := 8) (v := (.pointer (some ⟨g, o + 3, none⟩))) (some 16) rfl rfl (by kernel_rfl) (by kernel_rfl) (by kernel_rfl) (fun _ _ _ h => h) (Or.inl ⟨by rfl, fun wx hSw => ?_⟩) hHeld ?_
      · try dsimp only at hSw
        go_simp
      simp only [Act.put, List.setIfInBounds_toArray, List.set_cons_zero, List.set_cons_succ]
      refine Od.anyH_sl (i := 9) (v := (v.l c).told) (some 17) rfl rfl (by kernel_rfl) (by kernel_rfl) (by kernel_rfl) (fun _ _ _ h => h) (Or.inl ⟨by rfl, fun wx hSw => ?_⟩) hHeld ?_
      · try dsimp only at hSw
        go_simp
      simp only [Act.put, List.setIfInBounds_toArray, List.set_cons_zero, List.set_cons_succ]
      refine Od.anyH_sl (i := 10) (v := (.pointer (some ⟨g, 0, none⟩))) (some 18) rfl rfl (by kernel_rfl) (by kernel_rfl) (by kernel_rfl) (fun _ _ _ h => h) (Or.inl ⟨by rfl, fun wx hSw => ?_⟩) hHeld ?_
      · try dsimp only at hSw
        go_simp
      simp only [Act.put, List.setIfInBounds_toArray, List.set_cons_zero, List.set_cons_succ]
      refine Od.anyH_sl (i := 11) (v := (.pointer (some ⟨g, 0, none⟩))) (some 19) rfl rfl (by kernel_rfl) (by kernel_rfl) (by kernel_rfl) (fun _ _ _ h => h) (Or.inl ⟨by rfl, fun wx hSw => ?_⟩) hHeld ?_
      · try dsimp only at hSw
        go_simp
      simp only [Act.put, List.setIfInBounds_toArray, List.set_cons_zero, List.set_cons_succ]
      refine Od.anyH_sl (i := 12) (v := (.pointer (some ⟨g, 65, none⟩))) (some 20) rfl rfl (by kernel_rfl) (by kernel_rfl) (by kernel_rfl) (fun _ _ _ h => h) (Or.inl ⟨by rfl, fun wx hSw => ?_⟩) hHeld ?_
      · try dsimp only at hSw
        go_simp
      simp only [Act.put, List.setIfInBounds_toArray, List.set_cons_zero, List.set_cons_succ]
      refine Od.anyH_sl (i := 13) (v := v.set) (some 21) rfl rfl (by kernel_rfl) (by kernel_rfl) (by kernel_rfl) (fun _ _ _ h => h) (Or.inl ⟨by rfl, fun wx hSw => ?_⟩) hHeld ?_
      · try dsimp only at hSw
        go_simp
      simp only [Act.put, List.setIfInBounds_toArray, List.set_cons_zero, List.set_cons_succ]
      refine wpAnyH_ready (rs := [14]) (by kernel_rfl) (by simp) ?_
      refine AllReadyH.cons rfl (fun K hK => ?_) AllReadyH.nil
      go_simp
      go_at_call 70
      refine (HEQ.out _ (by exact (Below.refl _ w).drew)).mono ?_
      rintro e w1 ⟨rfl, hb1⟩
      have b1 := (Below.refl w.heap.size w).drew.trans hb1
      clear hb1
      dsimp only
      refine hK.out _ _ (HS0.out w1 b1) (fun hHeld => ?_)
      clear hK K
      try simp only [Act.put, List.setIfInBounds_toArray, List.set_cons_zero, List.set_cons_succ]
      refine Od.anyH_sl (i := 15) (v := (.bool false)) (some 23) rfl rfl (by kernel_rfl) (by kernel_rfl) (by kernel_rfl) (fun _ _ _ h => h) (Or.inl ⟨by rfl, fun wx hSw => ?_⟩) hHeld ?_
      · try dsimp only at hSw
        go_simp
      simp only [Act.put, List.setIfInBounds_toArray, List.set_cons_zero, List.set_cons_succ]
      refine Od.anyH_sl (i := 16) (v := undef) (some 24) rfl rfl (by kernel_rfl) (by kernel_rfl) (by kernel_rfl) (fun _ _ _ h => h) (Or.inr ⟨by rfl, rfl⟩) hHeld ?_
      simp only [Act.put, List.setIfInBounds_toArray, List.set_cons_zero, List.set_cons_succ]
      refine Od.anyH_sl (i := 17) (v := undef) (some 25) rfl rfl (by kernel_rfl) (by kernel_rfl) (by kernel_rfl) (fun _ _ _ h => h) (Or.inr ⟨by rfl, rfl⟩) hHeld ?_
      simp only [Act.put, List.setIfInBounds_toArray, List.set_cons_zero, List.set_cons_succ]
      refine Od.anyH_sl (i := 18) (v := undef) (some 26) rfl rfl (by kernel_rfl) (by kernel_rfl) (by kernel_rfl) (fun _ _ _ h => h) (Or.inr ⟨by rfl, rfl⟩) hHeld ?_
      simp only [Act.put, List.setIfInBounds_toArray, List.set_cons_zero, List.set_cons_succ]
      refine Od.anyH_sl (i := 19) (v := undef) (some 27) rfl rfl (by kernel_rfl) (by kernel_rfl) (by kernel_rfl) (fun _ _ _ h => h) (Or.inr ⟨by rfl, rfl⟩) hHeld ?_
      simp only [Act.put, List.setIfInBounds_toArray, List.set_cons_zero, List.set_cons_succ]
      refine Od.anyH_sl (i := 20) (v := undef) (some 28) rfl rfl (by kernel_rfl) (by kernel_rfl) (by kernel_rfl) (fun _ _ _ h => h) (Or.inr ⟨by rfl, rfl⟩) hHeld ?_
      simp only [Act.put, List.setIfInBounds_toArray, List.set_cons_zero, List.set_cons_succ]
      refine Od.anyH_sl (i := 21) (v := (.bool false)) (some 29) rfl rfl (by kernel_rfl) (by kernel_rfl) (by kernel_rfl) (fun _ _ _ h => h) (Or.inl ⟨by rfl, fun wx hSw => ?_⟩) hHeld ?_
      · try dsimp only at hSw
        go_simp
      simp only [Act.put, List.setIfInBounds_toArray, List.set_cons_zero, List.set_cons_succ]
      refine Od.anyH_sl (i := 22) (v := (.bool false)) (some 30) rfl rfl (by kernel_rfl) (by kernel_rfl) (by kernel_rfl) (fun _ _ _ h => h) (Or.inl ⟨by rfl, fun wx hSw => ?_⟩) hHeld ?_
      · try dsimp only at hSw
        go_simp
      simp only [Act.put, List.setIfInBounds_toArray, List.set_cons_zero, List.set_cons_succ]
      refine Od.anyH_sl (i := 23) (v := undef) (some 31) rfl rfl (by kernel_rfl) (by kernel_rfl) (by kernel_rfl) (fun _ _ _ h => h) (Or.inr ⟨by rfl, rfl⟩) hHeld ?_
      simp only [Act.put, List.setIfInBounds_toArray, List.set_cons_zero, List.set_cons_succ]
      refine Od.anyH_sl (i := 24) (v := undef) (some 32) rfl rfl (by kernel_rfl) (by kernel_rfl) (by kernel_rfl) (fun _ _ _ h => h) (Or.inr ⟨by rfl, rfl⟩) hHeld ?_
      simp only [Act.put, List.setIfInBounds_toArray, List.set_cons_zero, List.set_cons_succ]
      refine Od.anyH_sl (i := 25) (v := undef) (some 33) rfl rfl (by kernel_rfl) (by kernel_rfl) (by kernel_rfl) (fun _ _ _ h => h) (Or.inr ⟨by rfl, rfl⟩) hHeld ?_
      simp only [Act.put, List.setIfInBounds_toArray, List.set_cons_zero, List.set_cons_succ]
      refine Od.anyH_sl (i := 26) (v := undef) (some 34) rfl rfl (by kernel_rfl) (by kernel_rfl) (by kernel_rfl) (fun _ _ _ h => h) (Or.inr ⟨by rfl, rfl⟩) hHeld ?_
      simp only [Act.put, List.setIfInBounds_toArray, List.set_cons_zero, List.set_cons_succ]
      refine Od.anyH_sl (i := 27) (v := undef) (some 35) rfl rfl (by kernel_rfl) (by kernel_rfl) (by kernel_rfl) (fun _ _ _ h => h) (Or.inr ⟨by rfl, rfl⟩) hHeld ?_
      simp only [Act.put, List.setIfInBounds_toArray, List.set_cons_zero, List.set_cons_succ]
      refine Od.anyH_sl (i := 28) (v := undef) (some 36) rfl rfl (by kernel_rfl) (by kernel_rfl) (by kernel_rfl) (fun _ _ _ h => h) (Or.inr ⟨by rfl, rfl⟩) hHeld ?_
      simp only [Act.put, List.setIfInBounds_toArray, List.set_cons_zero, List.set_cons_succ]
      refine Od.anyH_sl (i := 29) (v := (.bool false)) (some 37) rfl rfl (by kernel_rfl) (by kernel_rfl) (by kernel_rfl) (fun _ _ _ h => h) (Or.inl ⟨by rfl, fun wx hSw => ?_⟩) hHeld ?_
      · try dsimp only at hSw
        go_simp
      simp only [Act.put, List.setIfInBounds_toArray, List.set_cons_zero, List.set_cons_succ]
      refine Od.anyH_sl (i := 30) (v := (.bool false)) (some 38) rfl rfl (by kernel_rfl) (by kernel_rfl) (by kernel_rfl) (fun _ _ _ h => h) (Or.inl ⟨by rfl, fun wx hSw => ?_⟩) hHeld ?_
      · try dsimp only at hSw
        go_simp
      simp only [Act.put, List.setIfInBounds_toArray, List.set_cons_zero, List.set_cons_succ]
      refine wpAnyH_done (by kernel_rfl) ?_ _
      exact NoPanic.normal ⟨rfl, rfl, b1⟩
    intro w1 b1
    clear HS0
    simp only [Exit.then]
    apply_assumption
    have HF1 : Hid (∀ wx, Below w1.heap.size w1 wx → wx.cell? ⟨g, 0, none⟩ = some (.int .i64 p.h) ∧ wx.cell? ⟨g, o + 3, none⟩ = some (v.l c).told ∧ wx.cell? ⟨g, 65, none⟩ = some v.set ∧ wx.cell? ⟨g, o + 5, none⟩ = some (.slice Ad (p.L c).done.length Cd0)) := fun wx hb => by
      obtain ⟨-, f3, -, f5, f65, f00, -⟩ := HF.out wx (b1.trans (hb.mono b1.size))
      rw [ed] at f5
      exact ⟨f00, f3, f65, f5⟩
    have HDF1 := hide (fun (wx : World) (hb : Below w1.heap.size w1 wx) => HDF.out wx (b1.trans (hb.mono b1.size)))
    have HB1 := hide b1
    clear b1
    generalize Df.diffL (p.L c).told p.set = dl at *
    have HAL' : Hid (Below w1.heap.size w1 (w1.alloc (.cells Z6 49))) := (Below.refl _ w1).alloc (Nat.le_refl _) _
    have HALd := hide HAL'.out.drew
    have HACd : Hid (CAt 49 (w1.alloc (.cells Z6 49)).drew w1.heap.size Z6) := CAt.new 49 w1 Z6
    have HSZ : Hid (w1.heap.size + 1 ≤ (w1.alloc (.cells Z6 49)).drew.heap.size) := HACd.out.lt
    unfold Z6 at HAL' HALd
    go_upto_region 1 with fail
    apply wp_joinv (fun Au nu Cu g4 w5 => Tds w1 #[.int .i64 1, .int .i64 p.h, .int .i64 0, .int .i64 0, .slice Au nu Cu, .slice Ad (p.L c).done.length Cd0] dl (.slice Au nu Cu) g4 w5)
    · refine wp_region_noPanic ?_
      have hb := Below.refl w1.heap.size w1
      go_region_held3 (fun wx => wx.cell? ⟨g, 0, none⟩ = some (.int .i64 p.h) ∧ wx.cell? ⟨g, o + 3, none⟩ = some (v.l c).told ∧ wx.cell? ⟨g, 65, none⟩ = some v.set ∧ wx.cell? ⟨g, o + 5, none⟩ = some (.slice Ad (p.L c).done.length Cd0)) ((refine HF1.out _ ?_; first | with_reducible exact hb | with_reducible exact hb.drew | with_reducible exact hb.alloc hb.size _ | with_reducible exact (hb.alloc hb.size _).drew | with_reducible exact hb.drew.alloc hb.drew.size _ | with_reducible exact HST.out.bel)) (first
        | (go_at_call 71; refine (HDF1.out _ (by with_reducible exact (Below.refl _ w1).drew)).mono ?_; rintro e wb ⟨u, rfl, U, hbb⟩; obtain ⟨Au, nu, Cu, rfl⟩ := U.one'; have hb := (Below.refl w1.heap.size w1).drew.trans hbb; obtain ⟨wS, sA, hST⟩ := tds_new2 (w1 := w1) (cs := #[.int .i64 1, .int .i64 p.h, .int .i64 0, .int .i64 0, .slice Au nu Cu, .slice Ad (p.L c).done.length Cd0]) rfl (pk_one 1 p.h U.one' Ad (p.L c).done.length Cd0) U (Nat.le_refl _) hb; unfold Z6 at sA; have HST := hide hST; clear hST; have HN1 : True := trivial; clear U hbb; dsimp only)
        | (go_at_call 71; refine (HDF1.out _ (by with_reducible exact HALd.out)).mono ?_; rintro e wb ⟨u, rfl, U, hbb⟩; obtain ⟨Au, nu, Cu, rfl⟩ := U.one'; have hb := HALd.out.trans (hbb.mono HALd.out.size); have HCb := hide (HACd.out.over hbb); obtain ⟨wS, sC, hST⟩ := tds_old2 (w1 := w1) (cs := #[.int .i64 1, .int .i64 p.h, .int .i64 0, .int .i64 0, .slice Au nu Cu, .slice Ad (p.L c).done.length Cd0]) rfl (pk_one 1 p.h U.one' Ad (p.L c).done.length Cd0) U HSZ.out hb HCb.out; have HST := hide hST; clear hST; clear U hbb; dsimp only))
      all_goals first
        | (have _m := HN1; obtain ⟨gn, hg'⟩ : ∃ gn, gn = wb.heap.size := ⟨_, rfl⟩; rw [← hg']; exact NoPanic.normal ⟨Au, nu, Cu, gn, rfl, rfl, by subst hg'; exact HST.out⟩)
        | (obtain ⟨gn, hg'⟩ : ∃ gn, gn = w1.heap.size := ⟨_, rfl⟩; rw [← hg']; exact NoPanic.normal ⟨Au, nu, Cu, gn, rfl, rfl, by subst hg'; exact HST.out⟩)
    rintro Au nu Cu g4 w5 S5
    simp only [Exit.then]
    apply_assumption
    have B5 := HB1.out.trans (S5.bel.mono HB1.out.size)
    have r2 := (((HP.out.lk c hc).done.over B5)).mono (P' := fun _ => True) fun _ _ _ => trivial
    rw [ed] at r2
    refine ptell_t2 g p D v P w w5 c o g4 dl _ _ hc HC.out HP.out hg ht0 ht1 HO B5 S5.cat (S5.rep.mono fun _ _ _ => trivial) r2 HD _ _ _ _ _ _ _ _ _ _ _ _ _ _ _ _ _ _ _ _ _ _ _ _ _ _ _ _ _ _ _ _ _ _ _ _ _ _ _ _ _ _ _ _ _ _ _ _ _
  · have HS0 : Hid (∀ wx, Below w.heap.size w wx → wx.cell? ⟨g, o, none⟩ = some (.bool true) ∧ wx.cell? ⟨g, o + 3, none⟩ = some (v.l c).told ∧ wx.cell? ⟨g, o + 4, none⟩ = some (.bool true) ∧ wx.cell? ⟨g, o + 5, none⟩ = some (.slice Ad (p.L c).done.length Cd0) ∧ wx.cell? ⟨g, 65, none⟩ = some v.set) := fun wx hb => by
      obtain ⟨f0, f3, f4, f5, f65, -⟩ := HF.out wx hb
      rw [hon] at f0; rw [ed] at f5; rw [hfr] at f4
      exact ⟨f0, f3, f4, f5, f65⟩
    clear f0 f3 f4 f5 f65 f00 f01
    go_upto_region 0 with fail
    apply wp_join (fun w' => Below w.heap.size w w')
    · refine wp_region_noPanic ?_
      refine wp_region_held_drew (S := fun wx => wx.cell? ⟨g, o, none⟩ = some (.bool true) ∧ wx.cell? ⟨g, o + 3, none⟩ = some (v.l c).told ∧ wx.cell? ⟨g, o + 4, none⟩ = some (.bool true) ∧ wx.cell? ⟨g, o + 5, none⟩ = some (.slice Ad (p.L c).done.length Cd0) ∧ wx.cell? ⟨g, 65, none⟩ = some v.set) (by kernel_rfl) (HS0.out _ (Below.refl _ _).drew) (fun hHeld => ?_)
      refine Od.anyH_sl (i := 0) (v := (.pointer (some ⟨g, o, none⟩))) (some 8) rfl rfl (by kernel_rfl) (by kernel_rfl) (by kernel_rfl) (fun _ _ _ h => h) (Or.inl ⟨by rfl, fun wx hSw => ?_⟩) hHeld ?_
      · try dsimp only at hSw
        go_simp
      simp only [Act.put, List.setIfInBounds_toArray, List.set_cons_zero, List.set_cons_succ]
      refine Od.anyH_sl (i := 1) (v := (.pointer (some ⟨g, o, none⟩))) (some 9) rfl rfl (by kernel_rfl) (by kernel_rfl) (by kernel_rfl) (fun _ _ _ h => h) (Or.inl ⟨by rfl, fun wx hSw => ?_⟩) hHeld ?_
      · try dsimp only at hSw
        go_simp
      simp only [Act.put, List.setIfInBounds_toArray, List.set_cons_zero, List.set_cons_succ]
      refine Od.anyH_sl (i := 2) (v := (.pointer (some ⟨g, o, none⟩))) (some 10) rfl rfl (by kernel_rfl) (by kernel_rfl) (by kernel_rfl) (fun _ _ _ h => h) (Or.inl ⟨by rfl, fun wx hSw => ?_⟩) hHeld ?_
      · try dsimp only at hSw
        go_simp
      simp only [Act.put, List.setIfInBounds_toArray, List.set_cons_zero, List.set_cons_succ]
      refine Od.anyH_sl (i := 3) (v := (.bool true)) (some 11) rfl rfl (by kernel_rfl) (by kernel_rfl) (by kernel_rfl) (fun _ _ _ h => h) (Or.inl ⟨by rfl, fun wx hSw => ?_⟩) hHeld ?_
      · try dsimp only at hSw
        go_simp
      simp only [Act.put, List.setIfInBounds_toArray, List.set_cons_zero, List.set_cons_succ]
      refine Od.anyH_sl (i := 4) (v := (.bool false)) (some 12) rfl rfl (by kernel_rfl) (by kernel_rfl) (by kernel_rfl) (fun _ _ _ h => h) (Or.inl ⟨by rfl, fun wx hSw => ?_⟩) hHeld ?_
      · try dsimp only at hSw
        go_simp
      simp only [Act.put, List.setIfInBounds_toArray, List.set_cons_zero, List.set_cons_succ]
      refine Od.anyH_sl (i := 5) (v := (.bool false)) (some 13) rfl rfl (by kernel_rfl) (by kernel_rfl) (by kernel_rfl) (fun _ _ _ h => h) (Or.inl ⟨by rfl, fun wx hSw => ?_⟩) hHeld ?_
      · try dsimp only at hSw
        go_simp
      simp only [Act.put, List.setIfInBounds_toArray, List.set_cons_zero, List.set_cons_succ]
      refine Od.anyH_sl (i := 6) (v := (.pointer (some ⟨g, o, none⟩))) (some 14) rfl rfl (by kernel_rfl) (by kernel_rfl) (by kernel_rfl) (fun _ _ _ h => h) (Or.inl ⟨by rfl, fun wx hSw => ?_⟩) hHeld ?_
      · try dsimp only at hSw
        go_simp
      simp only [Act.put, List.setIfInBounds_toArray, List.set_cons_zero, List.set_cons_succ]
      refine Od.anyH_sl (i := 7) (v := (.pointer (some ⟨g, o, none⟩))) (some 15) rfl rfl (by kernel_rfl) (by kernel_rfl) (by kernel_rfl) (fun _ _ _ h => h) (Or.inl ⟨by rfl, fun wx hSw => ?_⟩) hHeld ?_
      · try dsimp only at hSw
        go_simp
      simp only [Act.put, List.setIfInBounds_toArray, List.set_cons_zero, List.set_cons_succ]
      refine Od.anyH_sl (i := 8) (v := (.pointer (some ⟨g, o + 3, none⟩))) (some 16) rfl rfl (by kernel_rfl) (by kernel_rfl) (by kernel_rfl) (fun _ _ _ h => h) (Or.inl ⟨by rfl, fun wx hSw => ?_⟩) hHeld ?_
      · try dsimp only at hSw
        go_simp
      simp only [Act.put, List.setIfInBounds_toArray, List.set_cons_zero, List.set_cons_succ]
      refine Od.anyH_sl (i := 9) (v := (v.l c).told) (some 17) rfl rfl (by kernel_rfl) (by kernel_rfl) (by kernel_rfl) (fun _ _ _ h => h) (Or.inl ⟨by rfl, fun wx hSw => ?_⟩) hHeld ?_
      · try dsimp only at hSw
        go_simp
      simp only [Act.put, List.setIfInBounds_toArray, List.set_cons_zero, List.set_cons_succ]
      refine Od.anyH_sl (i := 10) (v := (.pointer (some ⟨g, 0, none⟩))) (some 18) rfl rfl (by kernel_rfl) (by kernel_rfl) (by kernel_rfl) (fun _ _ _ h => h) (Or.inl ⟨by rfl, fun wx hSw => ?_⟩) hHeld ?_
      · try dsimp only at hSw
        go_simp
      simp only [Act.put, List.setIfInBounds_toArray, List.set_cons_zero, List.set_cons_succ]
      refine Od.anyH_sl (i := 11) (v := (.pointer (some ⟨g, 0, none⟩))) (some 19) rfl rfl (by kernel_rfl) (by kernel_rfl) (by kernel_rfl) (fun _ _ _ h => h) (Or.inl ⟨by rfl, fun wx hSw => ?_⟩) hHeld ?_
      · try dsimp only at hSw
        go_simp
      simp only [Act.put, List.setIfInBounds_toArray, List.set_cons_zero, List.set_cons_succ]
      refine Od.anyH_sl (i := 12) (v := (.pointer (some ⟨g, 65, none⟩))) (some 20) rfl rfl (by kernel_rfl) (by kernel_rfl) (by kernel_rfl) (fun _ _ _ h => h) (Or.inl ⟨by rfl, fun wx hSw => ?_⟩) hHeld ?_
      · try dsimp only at hSw
        go_simp
      simp only [Act.put, List.setIfInBounds_toArray, List.set_cons_zero, List.set_cons_succ]
      refine Od.anyH_sl (i := 13) (v := v.set) (some 21) rfl rfl (by kernel_rfl) (by kernel_rfl) (by kernel_rfl) (fun _ _ _ h => h) (Or.inl ⟨by rfl, fun wx hSw => ?_⟩) hHeld ?_
      · try dsimp only at hSw
        go_simp
      simp only [Act.put, List.setIfInBounds_toArray, List.set_cons_zero, List.set_cons_succ]
      refine wpAnyH_ready (rs := [14]) (by kernel_rfl) (by simp) ?_
      refine AllReadyH.cons rfl (fun K hK => ?_) AllReadyH.nil
      go_simp
      go_at_call 70
      refine (HEQ.out _ (by exact (Below.refl _ w).drew)).mono ?_
      rintro e w1 ⟨rfl, hb1⟩
      have b1 := (Below.refl w.heap.size w).drew.trans hb1
      clear hb1
      dsimp only
      refine hK.out _ _ (HS0.out w1 b1) (fun hHeld => ?_)
      clear hK K
      try simp only [Act.put, List.setIfInBounds_toArray, List.set_cons_zero, List.set_cons_succ]
      refine Od.anyH_sl (i := 15) (v := (.bool true)) (some 23) rfl rfl (by kernel_rfl) (by kernel_rfl) (by kernel_rfl) (fun _ _ _ h => h) (Or.inl ⟨by rfl, fun wx hSw => ?_⟩) hHeld ?_
      · try dsimp only at hSw
        go_simp
      simp only [Act.put, List.setIfInBounds_toArray, List.set_cons_zero, List.set_cons_succ]
      refine Od.anyH_sl (i := 16) (v := (.pointer (some ⟨g, o, none⟩))) (some 24) rfl rfl (by kernel_rfl) (by kernel_rfl) (by kernel_rfl) (fun _ _ _ h => h) (Or.inl ⟨by rfl, fun wx hSw => ?_⟩) hHeld ?_
      · try dsimp only at hSw
        go_simp
      simp only [Act.put, List.setIfInBounds_toArray, List.set_cons_zero, List.set_cons_succ]
      refine Od.anyH_sl (i := 17) (v := (.pointer (some ⟨g, o, none⟩))) (some 25) rfl rfl (by kernel_rfl) (by kernel_rfl) (by kernel_rfl) (fun _ _ _ h => h) (Or.inl ⟨by rfl, fun wx hSw => ?_⟩) hHeld ?_
      · try dsimp only at hSw
        go_simp
      simp only [Act.put, List.setIfInBounds_toArray, List.set_cons_zero, List.set_cons_succ]
      refine Od.anyH_sl (i := 18) (v := (.pointer (some ⟨g, o + 4, none⟩))) (some 26) rfl rfl (by kernel_rfl) (by kernel_rfl) (by kernel_rfl) (fun _ _ _ h => h) (Or.inl ⟨by rfl, fun wx hSw => ?_⟩) hHeld ?_
      · try dsimp only at hSw
        go_simp
      simp only [Act.put, List.setIfInBounds_toArray, List.set_cons_zero, List.set_cons_succ]
      refine Od.anyH_sl (i := 19) (v := (.bool true)) (some 27) rfl rfl (by kernel_rfl) (by kernel_rfl) (by kernel_rfl) (fun _ _ _ h => h) (Or.inl ⟨by rfl, fun wx hSw => ?_⟩) hHeld ?_
      · try dsimp only at hSw
        go_simp
      simp only [Act.put, List.setIfInBounds_toArray, List.set_cons_zero, List.set_cons_succ]
      refine Od.anyH_sl (i := 20) (v := (.bool false)) (some 28) rfl rfl (by kernel_rfl) (by kernel_rfl) (by kernel_rfl) (fun _ _ _ h => h) (Or.inl ⟨by rfl, fun wx hSw => ?_⟩) hHeld ?_
      · try dsimp only at hSw
        go_simp
      simp only [Act.put, List.setIfInBounds_toArray, List.set_cons_zero, List.set_cons_succ]
      refine Od.anyH_sl (i := 21) (v := (.bool false)) (some 29) rfl rfl (by kernel_rfl) (by kernel_rfl) (by kernel_rfl) (fun _ _ _ h => h) (Or.inl ⟨by rfl, fun wx hSw => ?_⟩) hHeld ?_
      · try dsimp only at hSw
        go_simp
      simp only [Act.put, List.setIfInBounds_toArray, List.set_cons_zero, List.set_cons_succ]
      refine Od.anyH_sl (i := 22) (v := (.bool false)) (some 30) rfl rfl (by kernel_rfl) (by kernel_rfl) (by kernel_rfl) (fun _ _ _ h => h) (Or.inl ⟨by rfl, fun wx hSw => ?_⟩) hHeld ?_
      · try dsimp only at hSw
        go_simp
      simp only [Act.put, List.setIfInBounds_toArray, List.set_cons_zero, List.set_cons_succ]
      refine Od.anyH_sl (i := 23) (v := undef) (some 31) rfl rfl (by kernel_rfl) (by kernel_rfl) (by kernel_rfl) (fun _ _ _ h => h) (Or.inr ⟨by rfl, rfl⟩) hHeld ?_
      simp only [Act.put, List.setIfInBounds_toArray, List.set_cons_zero, List.set_cons_succ]
      refine Od.anyH_sl (i := 24) (v := undef) (some 32) rfl rfl (by kernel_rfl) (by kernel_rfl) (by kernel_rfl) (fun _ _ _ h => h) (Or.inr ⟨by rfl, rfl⟩) hHeld ?_
      simp only [Act.put, List.setIfInBounds_toArray, List.set_cons_zero, List.set_cons_succ]
      refine Od.anyH_sl (i := 25) (v := undef) (some 33) rfl rfl (by kernel_rfl) (by kernel_rfl) (by kernel_rfl) (fun _ _ _ h => h) (Or.inr ⟨by rfl, rfl⟩) hHeld ?_
      simp only [Act.put, List.setIfInBounds_toArray, List.set_cons_zero, List.set_cons_succ]
      refine Od.anyH_sl (i := 26) (v := undef) (some 34) rfl rfl (by kernel_rfl) (by kernel_rfl) (by kernel_rfl) (fun _ _ _ h => h) (Or.inr ⟨by rfl, rfl⟩) hHeld ?_
      simp only [Act.put, List.setIfInBounds_toArray, List.set_cons_zero, List.set_cons_succ]
      refine Od.anyH_sl (i := 27) (v := undef) (some 35) rfl rfl (by kernel_rfl) (by kernel_rfl) (by kernel_rfl) (fun _ _ _ h => h) (Or.inr ⟨by rfl, rfl⟩) hHeld ?_
      simp only [Act.put, List.setIfInBounds_toArray, List.set_cons_zero, List.set_cons_succ]
      refine Od.anyH_sl (i := 28) (v := undef) (some 36) rfl rfl (by kernel_rfl) (by kernel_rfl) (by kernel_rfl) (fun _ _ _ h => h) (Or.inr ⟨by rfl, rfl⟩) hHeld ?_
      simp only [Act.put, List.setIfInBounds_toArray, List.set_cons_zero, List.set_cons_succ]
      refine Od.anyH_sl (i := 29) (v := (.bool false)) (some 37) rfl rfl (by kernel_rfl) (by kernel_rfl) (by kernel_rfl) (fun _ _ _ h => h) (Or.inl ⟨by rfl, fun wx hSw => ?_⟩) hHeld ?_
      · try dsimp only at hSw
        go_simp
      simp only [Act.put, List.setIfInBounds_toArray, List.set_cons_zero, List.set_cons_succ]
      refine Od.anyH_sl (i := 30) (v := (.bool false)) (some 38) rfl rfl (by kernel_rfl) (by kernel_rfl) (by kernel_rfl) (fun _ _ _ h => h) (Or.inl ⟨by rfl, fun wx hSw => ?_⟩) hHeld ?_
      · try dsimp only at hSw
        go_simp
      simp only [Act.put, List.setIfInBounds_toArray, List.set_cons_zero, List.set_cons_succ]
      refine wpAnyH_done (by kernel_rfl) ?_ _
      exact NoPanic.normal ⟨rfl, rfl, b1⟩
    intro w1 b1
    clear HS0
    simp only [Exit.then]
    apply_assumption
    have HF1 : Hid (∀ wx, Below w1.heap.size w1 wx → wx.cell? ⟨g, 0, none⟩ = some (.int .i64 p.h) ∧ wx.cell? ⟨g, o + 3, none⟩ = some (v.l c).told ∧ wx.cell? ⟨g, 65, none⟩ = some v.set ∧ wx.cell? ⟨g, o + 5, none⟩ = some (.slice Ad (p.L c).done.length Cd0)) := fun wx hb => by
      obtain ⟨-, f3, -, f5, f65, f00, -⟩ := HF.out wx (b1.trans (hb.mono b1.size))
      rw [ed] at f5
      exact ⟨f00, f3, f65, f5⟩
    have HDF1 := hide (fun (wx : World) (hb : Below w1.heap.size w1 wx) => HDF.out wx (b1.trans (hb.mono b1.size)))
    have HB1 := hide b1
    clear b1
    generalize Df.diffL (p.L c).told p.set = dl at *
    have HAL' : Hid (Below w1.heap.size w1 (w1.alloc (.cells Z6 49))) := (Below.refl _ w1).alloc (Nat.le_refl _) _
    have HALd := hide HAL'.out.drew
    have HACd : Hid (CAt 49 (w1.alloc (.cells Z6 49)).drew w1.heap.size Z6) := CAt.new 49 w1 Z6
    have HSZ : Hid (w1.heap.size + 1 ≤ (w1.alloc (.cells Z6 49)).drew.heap.size) := HACd.out.lt
    unfold Z6 at HAL' HALd
    go_upto_region 1 with fail
    apply wp_joinv (fun Au nu Cu g4 w5 => Tds w1 #[.int .i64 1, .int .i64 p.h, .int .i64 0, .int .i64 0, .slice Au nu Cu, .slice Ad (p.L c).done.length Cd0] dl (.slice Au nu Cu) g4 w5)
    · refine wp_region_noPanic ?_
      have hb := Below.refl w1.heap.size w1
      go_region_held3 (fun wx => wx.cell? ⟨g, 0, none⟩ = some (.int .i64 p.h) ∧ wx.cell? ⟨g, o + 3, none⟩ = some (v.l c).told ∧ wx.cell? ⟨g, 65, none⟩ = some v.set ∧ wx.cell? ⟨g, o + 5, none⟩ = some (.slice Ad (p.L c).done.length Cd0)) ((refine HF1.out _ ?_; first | with_reducible exact hb | with_reducible exact hb.drew | with_reducible exact hb.alloc hb.size _ | with_reducible exact (hb.alloc hb.size _).drew | with_reducible exact hb.drew.alloc hb.drew.size _ | with_reducible exact HST.out.bel)) (first
        | (go_at_call 71; refine (HDF1.out _ (by with_reducible exact (Below.refl _ w1).drew)).mono ?_; rintro e wb ⟨u, rfl, U, hbb⟩; obtain ⟨Au, nu, Cu, rfl⟩ := U.one'; have hb := (Below.refl w1.heap.size w1).drew.trans hbb; obtain ⟨wS, sA, hST⟩ := tds_new2 (w1 := w1) (cs := #[.int .i64 1, .int .i64 p.h, .int .i64 0, .int .i64 0, .slice Au nu Cu, .slice Ad (p.L c).done.length Cd0]) rfl (pk_one 1 p.h U.one' Ad (p.L c).done.length Cd0) U (Nat.le_refl _) hb; unfold Z6 at sA; have HST := hide hST; clear hST; have HN1 : True := trivial; clear U hbb; dsimp only)
        | (go_at_call 71; refine (HDF1.out _ (by with_reducible exact HALd.out)).mono ?_; rintro e wb ⟨u, rfl, U, hbb⟩; obtain ⟨Au, nu, Cu, rfl⟩ := U.one'; have hb := HALd.out.trans (hbb.mono HALd.out.size); have HCb := hide (HACd.out.over hbb); obtain ⟨wS, sC, hST⟩ := tds_old2 (w1 := w1) (cs := #[.int .i64 1, .int .i64 p.h, .int .i64 0, .int .i64 0, .slice Au nu Cu, .slice Ad (p.L c).done.length Cd0]) rfl (pk_one 1 p.h U.one' Ad (p.L c).done.length Cd0) U HSZ.out hb HCb.out; have HST := hide hST; clear hST; clear U hbb; dsimp only))
      all_goals first
        | (have _m := HN1; obtain ⟨gn, hg'⟩ : ∃ gn, gn = wb.heap.size := ⟨_, rfl⟩; rw [← hg']; exact NoPanic.normal ⟨Au, nu, Cu, gn, rfl, rfl, by subst hg'; exact HST.out⟩)
        | (obtain ⟨gn, hg'⟩ : ∃ gn, gn = w1.heap.size := ⟨_, rfl⟩; rw [← hg']; exact NoPanic.normal ⟨Au, nu, Cu, gn, rfl, rfl, by subst hg'; exact HST.out⟩)
    rintro Au nu Cu g4 w5 S5
    simp only [Exit.then]
    apply_assumption
    have B5 := HB1.out.trans (S5.bel.mono HB1.out.size)
    have r2 := (((HP.out.lk c hc).done.over B5)).mono (P' := fun _ => True) fun _ _ _ => trivial
    rw [ed] at r2
    refine ptell_t2 g p D v P w w5 c o g4 dl _ _ hc HC.out HP.out hg ht0 ht1 HO B5 S5.cat (S5.rep.mono fun _ _ _ => trivial) r2 HD _ _ _ _ _ _ _ _ _ _ _ _ _ _ _ _ _ _ _ _ _ _ _ _ _ _ _ _ _ _ _ _ _ _ _ _ _ _ _ _ _ _ _ _ _ _ _ _ _
  · have hdl2 : (((p.L c).done.length : Int) == 0) = false := by simpa using hdl
    have HS0 : Hid (∀ wx, Below w.heap.size w wx → wx.cell? ⟨g, o, none⟩ = some (.bool true) ∧ wx.cell? ⟨g, o + 3, none⟩ = some (v.l c).told ∧ wx.cell? ⟨g, o + 4, none⟩ = some (.bool false) ∧ wx.cell? ⟨g, o + 5, none⟩ = some (.slice Ad (p.L c).done.length Cd0) ∧ wx.cell? ⟨g, 65, none⟩ = some v.set) := fun wx hb => by
      obtain ⟨f0, f3, f4, f5, f65, -⟩ := HF.out wx hb
      rw [hon] at f0; rw [ed] at f5; rw [hfr] at f4
      exact ⟨f0, f3, f4, f5, f65⟩
    clear f0 f3 f4 f5 f65 f00 f01
    go_upto_region 0 with fail
    apply wp_join (fun w' => Below w.heap.size w w')
    · refine wp_region_noPanic ?_
      refine wp_region_held_drew (S := fun wx => wx.cell? ⟨g, o, none⟩ = some (.bool true) ∧ wx.cell? ⟨g, o + 3, none⟩ = some (v.l c).told ∧ wx.cell? ⟨g, o + 4, none⟩ = some (.bool false) ∧ wx.cell? ⟨g, o + 5, none⟩ = some (.slice Ad (p.L c).done.length Cd0) ∧ wx.cell? ⟨g, 65, none⟩ = some v.set) (by kernel_rfl) (HS0.out _ (Below.refl _ _).drew) (fun hHeld => ?_)
      refine Od.anyH_sl (i := 0) (v := (.pointer (some ⟨g, o, none⟩))) (some 8) rfl rfl (by kernel_rfl) (by kernel_rfl) (by kernel_rfl) (fun _ _ _ h => h) (Or.inl ⟨by rfl, fun wx hSw => ?_⟩) hHeld ?_
      · try dsimp only at hSw
        go_simp
      simp only [Act.put, List.setIfInBounds_toArray, List.set_cons_zero, List.set_cons_succ]
      refine Od.anyH_sl (i := 1) (v := (.pointer (some ⟨g, o, none⟩))) (some 9) rfl rfl (by kernel_rfl) (by kernel_rfl) (by kernel_rfl) (fun _ _ _ h => h) (Or.inl ⟨by rfl, fun wx hSw => ?_⟩) hHeld ?_
      · try dsimp only at hSw
        go_simp
      simp only [Act.put, List.setIfInBounds_toArray, List.set_cons_zero, List.set_cons_succ]
      refine Od.anyH_sl (i := 2) (v := (.pointer (some ⟨g, o, none⟩))) (some 10) rfl rfl (by kernel_rfl) (by kernel_rfl) (by kernel_rfl) (fun _ _ _ h => h) (Or.inl ⟨by rfl, fun wx hSw => ?_⟩) hHeld ?_
      · try dsimp only at hSw
        go_simp
      simp only [Act.put, List.setIfInBounds_toArray, List.set_cons_zero, List.set_cons_succ]
      refine Od.anyH_sl (i := 3) (v := (.bool true)) (some 11) rfl rfl (by kernel_rfl) (by kernel_rfl) (by kernel_rfl) (fun _ _ _ h => h) (Or.inl ⟨by rfl, fun wx hSw => ?_⟩) hHeld ?_
      · try dsimp only at hSw
        go_simp
      simp only [Act.put, List.setIfInBounds_toArray, List.set_cons_zero, List.set_cons_succ]
      refine Od.anyH_sl (i := 4) (v := (.bool false)) (some 12) rfl rfl (by kernel_rfl) (by kernel_rfl) (by kernel_rfl) (fun _ _ _ h => h) (Or.inl ⟨by rfl, fun wx hSw => ?_⟩) hHeld ?_
      · try dsimp only at hSw
        go_simp
      simp only [Act.put, List.setIfInBounds_toArray, List.set_cons_zero, List.set_cons_succ]
      refine Od.anyH_sl (i := 5) (v := (.bool false)) (some 13) rfl rfl (by kernel_rfl) (by kernel_rfl) (by kernel_rfl) (fun _ _ _ h => h) (Or.inl ⟨by rfl, fun wx hSw => ?_⟩) hHeld ?_
      · try dsimp only at hSw
        go_simp
      simp only [Act.put, List.setIfInBounds_toArray, List.set_cons_zero, List.set_cons_succ]
      refine Od.anyH_sl (i := 6) (v := (.pointer (some ⟨g, o, none⟩))) (some 14) rfl rfl (by kernel_rfl) (by kernel_rfl) (by kernel_rfl) (fun _ _ _ h => h) (Or.inl ⟨by rfl, fun wx hSw => ?_⟩) hHeld ?_
      · try dsimp only at hSw
        go_simp
      simp only [Act.put, List.setIfInBounds_toArray, List.set_cons_zero, List.set_cons_succ]
      refine Od.anyH_sl (i := 7) (v := (.pointer (some ⟨g, o, none⟩))) (some 15) rfl rfl (by kernel_rfl) (by kernel_rfl) (by kernel_rfl) (fun _ _ _ h => h) (Or.inl ⟨by rfl, fun wx hSw => ?_⟩) hHeld ?_
      · try dsimp only at hSw
        go_simp
      simp only [Act.put, List.setIfInBounds_toArray, List.set_cons_zero, List.set_cons_succ]
      refine Od.anyH_sl (i := 8) (v := (.pointer (some ⟨g, o + 3, none⟩))) (some 16) rfl rfl (by kernel_rfl) (by kernel_rfl) (by kernel_rfl) (fun _ _ _ h => h) (Or.inl ⟨by rfl, fun wx hSw => ?_⟩) hHeld ?_
      · try dsimp only at hSw
        go_simp
      simp only [Act.put, List.setIfInBounds_toArray, List.set_cons_zero, List.set_cons_succ]
      refine Od.anyH_sl (i := 9) (v := (v.l c).told) (some 17) rfl rfl (by kernel_rfl) (by kernel_rfl) (by kernel_rfl) (fun _ _ _ h => h) (Or.inl ⟨by rfl, fun wx hSw => ?_⟩) hHeld ?_
      · try dsimp only at hSw
        go_simp
      simp only [Act.put, List.setIfInBounds_toArray, List.set_cons_zero, List.set_cons_succ]
      refine Od.anyH_sl (i := 10) (v := (.pointer (some ⟨g, 0, none⟩))) (some 18) rfl rfl (by kernel_rfl) (by kernel_rfl) (by kernel_rfl) (fun _ _ _ h => h) (Or.inl ⟨by rfl, fun wx hSw => ?_⟩) hHeld ?_
      · try dsimp only at hSw
        go_simp
      simp only [Act.put, List.setIfInBounds_toArray, List.set_cons_zero, List.set_cons_succ]
      refine Od.anyH_sl (i := 11) (v := (.pointer (some ⟨g, 0, none⟩))) (some 19) rfl rfl (by kernel_rfl) (by kernel_rfl) (by kernel_rfl) (fun _ _ _ h => h) (Or.inl ⟨by rfl, fun wx hSw => ?_⟩) hHeld ?_
      · try dsimp only at hSw
        go_simp
      simp only [Act.put, List.setIfInBounds_toArray, List.set_cons_zero, List.set_cons_succ]
      refine Od.anyH_sl (i := 12) (v := (.pointer (some ⟨g, 65, none⟩))) (some 20) rfl rfl (by kernel_rfl) (by kernel_rfl) (by kernel_rfl) (fun _ _ _ h => h) (Or.inl ⟨by rfl, fun wx hSw => ?_⟩) hHeld ?_
      · try dsimp only at hSw
        go_simp
      simp only [Act.put, List.setIfInBounds_toArray, List.set_cons_zero, List.set_cons_succ]
      refine Od.anyH_sl (i := 13) (v := v.set) (some 21) rfl rfl (by kernel_rfl) (by kernel_rfl) (by kernel_rfl) (fun _ _ _ h => h) (Or.inl ⟨by rfl, fun wx hSw => ?_⟩) hHeld ?_
      · try dsimp only at hSw
        go_simp
      simp only [Act.put, List.setIfInBounds_toArray, List.set_cons_zero, List.set_cons_succ]
      refine wpAnyH_ready (rs := [14]) (by kernel_rfl) (by simp) ?_
      refine AllReadyH.cons rfl (fun K hK => ?_) AllReadyH.nil
      go_simp
      go_at_call 70
      refine (HEQ.out _ (by exact (Below.refl _ w).drew)).mono ?_
      rintro e w1 ⟨rfl, hb1⟩
      have b1 := (Below.refl w.heap.size w).drew.trans hb1
      clear hb1
      dsimp only
      refine hK.out _ _ (HS0.out w1 b1) (fun hHeld => ?_)
      clear hK K
      try simp only [Act.put, List.setIfInBounds_toArray, List.set_cons_zero, List.set_cons_succ]
      refine Od.anyH_sl (i := 15) (v := (.bool true)) (some 23) rfl rfl (by kernel_rfl) (by kernel_rfl) (by kernel_rfl) (fun _ _ _ h => h) (Or.inl ⟨by rfl, fun wx hSw => ?_⟩) hHeld ?_
      · try dsimp only at hSw
        go_simp
      simp only [Act.put, List.setIfInBounds_toArray, List.set_cons_zero, List.set_cons_succ]
      refine Od.anyH_sl (i := 16) (v := (.pointer (some ⟨g, o, none⟩))) (some 24) rfl rfl (by kernel_rfl) (by kernel_rfl) (by kernel_rfl) (fun _ _ _ h => h) (Or.inl ⟨by rfl, fun wx hSw => ?_⟩) hHeld ?_
      · try dsimp only at hSw
        go_simp
      simp only [Act.put, List.setIfInBounds_toArray, List.set_cons_zero, List.set_cons_succ]
      refine Od.anyH_sl (i := 17) (v := (.pointer (some ⟨g, o, none⟩))) (some 25) rfl rfl (by kernel_rfl) (by kernel_rfl) (by kernel_rfl) (fun _ _ _ h => h) (Or.inl ⟨by rfl, fun wx hSw => ?_⟩) hHeld ?_
      · try dsimp only at hSw
        go_simp
      simp only [Act.put, List.setIfInBounds_toArray, List.set_cons_zero, List.set_cons_succ]
      refine Od.anyH_sl (i := 18) (v := (.pointer (some ⟨g, o + 4, none⟩))) (some 26) rfl rfl (by kernel_rfl) (by kernel_rfl) (by kernel_rfl) (fun _ _ _ h => h) (Or.inl ⟨by rfl, fun wx hSw => ?_⟩) hHeld ?_
      · try dsimp only at hSw
        go_simp
      simp only [Act.put, List.setIfInBounds_toArray, List.set_cons_zero, List.set_cons_succ]
      refine Od.anyH_sl (i := 19) (v := (.bool false)) (some 27) rfl rfl (by kernel_rfl) (by kernel_rfl) (by kernel_rfl) (fun _ _ _ h => h) (Or.inl ⟨by rfl, fun wx hSw => ?_⟩) hHeld ?_
      · try dsimp only at hSw
        go_simp
      simp only [Act.put, List.setIfInBounds_toArray, List.set_cons_zero, List.set_cons_succ]
      refine Od.anyH_sl (i := 20) (v := (.bool true)) (some 28) rfl rfl (by kernel_rfl) (by kernel_rfl) (by kernel_rfl) (fun _ _ _ h => h) (Or.inl ⟨by rfl, fun wx hSw => ?_⟩) hHeld ?_
      · try dsimp only at hSw
        go_simp
      simp only [Act.put, List.setIfInBounds_toArray, List.set_cons_zero, List.set_cons_succ]
      refine Od.anyH_sl (i := 21) (v := (.bool true)) (some 29) rfl rfl (by kernel_rfl) (by kernel_rfl) (by kernel_rfl) (fun _ _ _ h => h) (Or.inl ⟨by rfl, fun wx hSw => ?_⟩) hHeld ?_
      · try dsimp only at hSw
        go_simp
      simp only [Act.put, List.setIfInBounds_toArray, List.set_cons_zero, List.set_cons_succ]
      refine Od.anyH_sl (i := 22) (v := (.bool true)) (some 30) rfl rfl (by kernel_rfl) (by kernel_rfl) (by kernel_rfl) (fun _ _ _ h => h) (Or.inl ⟨by rfl, fun wx hSw => ?_⟩) hHeld ?_
      · try dsimp only at hSw
        go_simp
      simp only [Act.put, List.setIfInBounds_toArray, List.set_cons_zero, List.set_cons_succ]
      refine Od.anyH_sl (i := 23) (v := (.pointer (some ⟨g, o, none⟩))) (some 31) rfl rfl (by kernel_rfl) (by kernel_rfl) (by kernel_rfl) (fun _ _ _ h => h) (Or.inl ⟨by rfl, fun wx hSw => ?_⟩) hHeld ?_
      · try dsimp only at hSw
        go_simp
      simp only [Act.put, List.setIfInBounds_toArray, List.set_cons_zero, List.set_cons_succ]
      refine Od.anyH_sl (i := 24) (v := (.pointer (some ⟨g, o, none⟩))) (some 32) rfl rfl (by kernel_rfl) (by kernel_rfl) (by kernel_rfl) (fun _ _ _ h => h) (Or.inl ⟨by rfl, fun wx hSw => ?_⟩) hHeld ?_
      · try dsimp only at hSw
        go_simp
      simp only [Act.put, List.setIfInBounds_toArray, List.set_cons_zero, List.set_cons_succ]
      refine Od.anyH_sl (i := 25) (v := (.pointer (some ⟨g, o + 5, none⟩))) (some 33) rfl rfl (by kernel_rfl) (by kernel_rfl) (by kernel_rfl) (fun _ _ _ h => h) (Or.inl ⟨by rfl, fun wx hSw => ?_⟩) hHeld ?_
      · try dsimp only at hSw
        go_simp
      simp only [Act.put, List.setIfInBounds_toArray, List.set_cons_zero, List.set_cons_succ]
      refine Od.anyH_sl (i := 26) (v := (.slice Ad (p.L c).done.length Cd0)) (some 34) rfl rfl (by kernel_rfl) (by kernel_rfl) (by kernel_rfl) (fun _ _ _ h => h) (Or.inl ⟨by rfl, fun wx hSw => ?_⟩) hHeld ?_
      · try dsimp only at hSw
        go_simp
      simp only [Act.put, List.setIfInBounds_toArray, List.set_cons_zero, List.set_cons_succ]
      refine Od.anyH_sl (i := 27) (v := (.int .i64 ((p.L c).done.length : Int))) (some 35) rfl rfl (by kernel_rfl) (by kernel_rfl) (by kernel_rfl) (fun _ _ _ h => h) (Or.inl ⟨by rfl, fun wx hSw => ?_⟩) hHeld ?_
      · try dsimp only at hSw
        go_simp
      simp only [Act.put, List.setIfInBounds_toArray, List.set_cons_zero, List.set_cons_succ]
      refine Od.anyH_sl (i := 28) (v := (.bool false)) (some 36) rfl rfl (by kernel_rfl) (by kernel_rfl) (by kernel_rfl) (fun _ _ _ h => h) (Or.inl ⟨by rfl, fun wx hSw => ?_⟩) hHeld ?_
      · try dsimp only at hSw
        go_simp
      simp only [Act.put, List.setIfInBounds_toArray, List.set_cons_zero, List.set_cons_succ]
      refine Od.anyH_sl (i := 29) (v := (.bool false)) (some 37) rfl rfl (by kernel_rfl) (by kernel_rfl) (by kernel_rfl) (fun _ _ _ h => h) (Or.inl ⟨by rfl, fun wx hSw => ?_⟩) hHeld ?_
      · try dsimp only at hSw
        go_simp
      simp only [Act.put, List.setIfInBounds_toArray, List.set_cons_zero, List.set_cons_succ]
      refine Od.anyH_sl (i := 30) (v := (.bool false)) (some 38) rfl rfl (by kernel_rfl) (by kernel_rfl) (by kernel_rfl) (fun _ _ _ h => h) (Or.inl ⟨by rfl, fun wx hSw => ?_⟩) hHeld ?_
      · try dsimp only at hSw
        go_simp
      simp only [Act.put, List.setIfInBounds_toArray, List.set_cons_zero, List.set_cons_succ]
      refine wpAnyH_done (by kernel_rfl) ?_ _
      exact NoPanic.normal ⟨rfl, rfl, b1⟩
    intro w1 b1
    clear HS0
    simp only [Exit.then]
    apply_assumption
    have HF1 : Hid (∀ wx, Below w1.heap.size w1 wx → wx.cell? ⟨g, 0, none⟩ = some (.int .i64 p.h) ∧ wx.cell? ⟨g, o + 3, none⟩ = some (v.l c).told ∧ wx.cell? ⟨g, 65, none⟩ = some v.set ∧ wx.cell? ⟨g, o + 5, none⟩ = some (.slice Ad (p.L c).done.length Cd0)) := fun wx hb => by
      obtain ⟨-, f3, -, f5, f65, f00, -⟩ := HF.out wx (b1.trans (hb.mono b1.size))
      rw [ed] at f5
      exact ⟨f00, f3, f65, f5⟩
    have HDF1 := hide (fun (wx : World) (hb : Below w1.heap.size w1 wx) => HDF.out wx (b1.trans (hb.mono b1.size)))
    have HB1 := hide b1
    clear b1
    generalize Df.diffL (p.L c).told p.set = dl at *
    have HAL' : Hid (Below w1.heap.size w1 (w1.alloc (.cells Z6 49))) := (Below.refl _ w1).alloc (Nat.le_refl _) _
    have HALd := hide HAL'.out.drew
    have HACd : Hid (CAt 49 (w1.alloc (.cells Z6 49)).drew w1.heap.size Z6) := CAt.new 49 w1 Z6
    have HSZ : Hid (w1.heap.size + 1 ≤ (w1.alloc (.cells Z6 49)).drew.heap.size) := HACd.out.lt
    unfold Z6 at HAL' HALd
    go_upto_region 1 with fail
    apply wp_joinv (fun Au nu Cu g4 w5 => Tds w1 #[.int .i64 1, .int .i64 p.h, .int .i64 0, .int .i64 0, .slice Au nu Cu, .slice Ad (p.L c).done.length Cd0] dl (.slice Au nu Cu) g4 w5)
    · refine wp_region_noPanic ?_
      have hb := Below.refl w1.heap.size w1
      go_region_held3 (fun wx => wx.cell? ⟨g, 0, none⟩ = some (.int .i64 p.h) ∧ wx.cell? ⟨g, o + 3, none⟩ = some (v.l c).told ∧ wx.cell? ⟨g, 65, none⟩ = some v.set ∧ wx.cell? ⟨g, o + 5, none⟩ = some (.slice Ad (p.L c).done.length Cd0)) ((refine HF1.out _ ?_; first | with_reducible exact hb | with_reducible exact hb.drew | with_reducible exact hb.alloc hb.size _ | with_reducible exact (hb.alloc hb.size _).drew | with_reducible exact hb.drew.alloc hb.drew.size _ | with_reducible exact HST.out.bel)) (first
        | (go_at_call 71; refine (HDF1.out _ (by with_reducible exact (Below.refl _ w1).drew)).mono ?_; rintro e wb ⟨u, rfl, U, hbb⟩; obtain ⟨Au, nu, Cu, rfl⟩ := U.one'; have hb := (Below.refl w1.heap.size w1).drew.trans hbb; obtain ⟨wS, sA, hST⟩ := tds_new2 (w1 := w1) (cs := #[.int .i64 1, .int .i64 p.h, .int .i64 0, .int .i64 0, .slice Au nu Cu, .slice Ad (p.L c).done.length Cd0]) rfl (pk_one 1 p.h U.one' Ad (p.L c).done.length Cd0) U (Nat.le_refl _) hb; unfold Z6 at sA; have HST := hide hST; clear hST; have HN1 : True := trivial; clear U hbb; dsimp only)
        | (go_at_call 71; refine (HDF1.out _ (by with_reducible exact HALd.out)).mono ?_; rintro e wb ⟨u, rfl, U, hbb⟩; obtain ⟨Au, nu, Cu, rfl⟩ := U.one'; have hb := HALd.out.trans (hbb.mono HALd.out.size); have HCb := hide (HACd.out.over hbb); obtain ⟨wS, sC, hST⟩ := tds_old2 (w1 := w1) (cs := #[.int .i64 1, .int .i64 p.h, .int .i64 0, .int .i64 0, .slice Au nu Cu, .slice Ad (p.L c).done.length Cd0]) rfl (pk_one 1 p.h U.one' Ad (p.L c).done.length Cd0) U HSZ.out hb HCb.out; have HST := hide hST; clear hST; clear U hbb; dsimp only))
      all_goals first
        | (have _m := HN1; obtain ⟨gn, hg'⟩ : ∃ gn, gn = wb.heap.size := ⟨_, rfl⟩; rw [← hg']; exact NoPanic.normal ⟨Au, nu, Cu, gn, rfl, rfl, by subst hg'; exact HST.out⟩)
        | (obtain ⟨gn, hg'⟩ : ∃ gn, gn = w1.heap.size := ⟨_, rfl⟩; rw [← hg']; exact NoPanic.normal ⟨Au, nu, Cu, gn, rfl, rfl, by subst hg'; exact HST.out⟩)
    rintro Au nu Cu g4 w5 S5
    simp only [Exit.then]
    apply_assumption
    have B5 := HB1.out.trans (S5.bel.mono HB1.out.size)
    have r2 := (((HP.out.lk c hc).done.over B5)).mono (P' := fun _ => True) fun _ _ _ => trivial
    rw [ed] at r2
    refine ptell_t2 g p D v P w w5 c o g4 dl _ _ hc HC.out HP.out hg ht0 ht1 HO B5 S5.cat (S5.rep.mono fun _ _ _ => trivial) r2 HD _ _ _ _ _ _ _ _ _ _ _ _ _ _ _ _ _ _ _ _ _ _ _ _ _ _ _ _ _ _ _ _ _ _ _ _ _ _ _ _ _ _ _ _ _ _ _ _ _
end Go.Proofs.YtjghbciepinofaaGreat.Pv

set_option maxRecDepth 100000
namespace Go.Proofs.YtjghbciepinofaaGreat.Pv
open Go.RowKit
/-- what dealing with a packet keeps -/
def InvQ (p : Pr) : Prop := goodS p.s = true ∧ ∀ c, c < 2 → riseB (-1) (p.L c).done = true
/-- a packet that may lie in a queue -/
def okPk (x : Pkt) : Prop := (x.k = 2 ∨ x.k = 3 ∨ x.k = 4) ∧ ((x.k = 3 ∨ x.k = 4) → 0 ≤ x.v ∧ x.v < 6)
theorem inv_done {p : Pr} (h : ∀ c, c < 2 → riseB (-1) (p.L c).done = true) (k : Nat) (v : Int) : ∀ c, c < 2 → riseB (-1) (updL p.L k { p.L k with done := doneL (p.L k).done v } c).done = true := fun c hc => by
  unfold updL
  by_cases e : c = k
  · rw [if_pos e]; exact done_rise _ _
  · rw [if_neg e]; exact h c hc
theorem inv_deal {p : Pr} (h : InvQ p) (c : Nat) {x : Pkt} (hx : okPk x) : InvQ (dealP p c x).1 := by
  obtain ⟨hg, hr⟩ := h
  obtain ⟨hk, hv⟩ := hx
  unfold dealP
  by_cases h2 : x.k = 2
  · rw [if_pos h2]
    exact ⟨(kp_rel hg c x.i).good, hr⟩
  · rw [if_neg h2]
    have hv' := hv (by omega)
    have h6 : x.v.toNat < 6 := by omega
    by_cases h4 : x.k = 4
    · rw [if_pos h4]
      by_cases hd : (p.s.V x.v.toNat).dead = true
      · rw [if_pos hd]; exact ⟨hg, hr⟩
      · rw [if_neg hd]
        exact ⟨setJ_good (slash_good hg h6 _ (by decide)) h6 (fun _ => rfl), hr⟩
    · rw [if_neg h4]
      by_cases hj : (p.s.V x.v.toNat).jail = true
      · rw [if_pos hj]; exact ⟨hg, inv_done hr c x.v⟩
      · rw [if_neg hj]
        by_cases hm : p.ml < 1
        · rw [if_pos hm]; exact ⟨hg, hr⟩
        · rw [if_neg hm]
          exact ⟨setJ_good hg h6 (fun _ => rfl), inv_done hr c x.v⟩
theorem pdeal_any (g : Nat) (p : Pr) (v : PrV) (P : Nat → Prop) (w : World) (c : Nat) (hc : c < 2) (x : Pkt) (y1 y2 : Value) (hC : CAt 47 w g (prC p v)) (hp : PIn P w p v) (hg : ¬ P g) (hi : InvQ p) (hx : okPk x) :
    Calls Tryz.prog 67 #[.pointer (some ⟨g, 0, none⟩), .agg #[.int .i64 (c : Int), .int .i64 x.k, .int .i64 x.i, .int .i64 x.v, .int .i64 x.n, y1, y2]] w (TurnsB w g P (dealP p c x)) := by
  rcases hx.1 with h | h | h
  · exact pdeal_matured g p v P w c hc x y1 y2 hC hp hg hi.1 h hx.2
  · exact pdeal_down g p v P w c hc x y1 y2 hC hp hg hi.1 h hx.2 fun hk wx v' P' hC' hp' hg' => pdown_any g p v' P' wx c hc x hC' hp' hg' hk (hi.2 c hc) hi.1 (hx.2 (.inl h)).1 (hx.2 (.inl h)).2
  · exact pdeal_double g p v P w c hc x y1 y2 hC hp hg hi.1 h hx.2
theorem good_kv {k i v n : Int} {S : List (Int × Int)} {D : List Int} (h : Cd.goodN k i v n S D = 0) : 1 ≤ k ∧ k ≤ 4 ∧ (Cd.accB k = true → Cd.isV v = true) := by
  unfold Cd.goodN at h
  by_cases h1 : k < 1 ∨ 4 < k
  · rw [if_pos h1] at h; omega
  rw [if_neg h1] at h
  by_cases h2 : i < 1 ∨ 1099511627776 < i
  · rw [if_pos h2] at h; omega
  rw [if_neg h2] at h
  by_cases h3 : Cd.accB k = true ∧ (Cd.isV v = false ∨ n < 1 ∨ 1125899906842624 < n)
  · rw [if_pos h3] at h; omega
  refine ⟨by omega, by omega, fun ha => ?_⟩
  cases hv : Cd.isV v
  · exact absurd ⟨ha, .inl hv⟩ h3
  · rfl
theorem okPk_of {L : Nat → Lk} {a : Int × Pkt} (h : goodQ L a = true) : (0 ≤ a.1 ∧ a.1 < 2) ∧ okPk a.2 := by
  unfold goodQ at h
  simp only [Bool.and_eq_true, decide_eq_true_eq] at h
  obtain ⟨⟨⟨⟨h0, h1⟩, -⟩, hk⟩, hn⟩ := h
  refine ⟨⟨h0, by omega⟩, ?_⟩
  obtain ⟨k1, k4, hv⟩ := good_kv hn
  refine ⟨by omega, fun h => ?_⟩
  have hv' := hv (by rcases h with h | h <;> rw [h] <;> rfl)
  unfold Cd.isV at hv'
  simp at hv'
  omega
theorem pqueue_any (g : Nat) (p : Pr) (v : PrV) (P : Nat → Prop) (w : World) (hC : CAt 47 w g (prC p v)) (hp : PIn P w p v) (hg : ¬ P g) (h0 : InvQ p) (hq88 : p.q.length * 88 ≤ 140737488355328) (hq : ∀ a ∈ p.q, (0 ≤ a.1 ∧ a.1 < 2) ∧ okPk a.2) :
    Calls Tryz.prog 30 #[.pointer (some ⟨g, 0, none⟩)] w (Turns w g P (queueP p)) :=
  pqueue_of InvQ g p v P w hC hp hg h0 hq88 (fun a ha => (hq a ha).1) (fun a ha p' v' P' wx y1 y2 hi hC' hp' hg' => by
    obtain ⟨⟨h0, h1⟩, hx⟩ := hq a ha
    have e : a.1 = (a.1.toNat : Int) := by omega
    rw [e]
    have := pdeal_any g p' v' P' wx a.1.toNat (by omega) a.2 y1 y2 hC' hp' hg' hi hx
    rw [Int.toNat_natCast]
    exact this) (fun a ha p' hi => inv_deal hi _ (hq a ha).2)
theorem inv_steps : ∀ (l : List (Int × Pkt)) (z : QS), (∀ a ∈ l, okPk a.2) → InvQ z.p → InvQ (l.foldl stepQ z).p
  | [], z, _, h => h
  | a :: l, z, ho, h => by
    rw [List.foldl_cons]
    refine inv_steps l _ (fun b hb => ho b (List.mem_cons_of_mem _ hb)) ?_
    unfold stepQ
    split
    · exact h
    · split
      · exact inv_deal h _ (ho a List.mem_cons_self)
      · exact h
theorem inv_tick {p : Pr} (hg : goodP p = true) (now : Int) : InvQ (tickP p now) := by
  unfold goodP at hg
  simp only [Bool.and_eq_true, goodLk] at hg
  obtain ⟨⟨⟨⟨⟨⟨⟨h, -⟩, -⟩, -⟩, -⟩, -⟩, ⟨⟨r0, -⟩, ⟨r1, -⟩⟩⟩, -⟩ := hg
  refine ⟨h, fun c hc => ?_⟩
  rcases (show c = 0 ∨ c = 1 by omega) with rfl | rfl
  · exact r0
  · exact r1
theorem ok_queue {p : Pr} (hg : goodP p = true) : ∀ a ∈ p.q, (0 ≤ a.1 ∧ a.1 < 2) ∧ okPk a.2 := fun a ha => by
  unfold goodP at hg
  simp only [Bool.and_eq_true] at hg
  exact okPk_of (List.all_eq_true.1 hg.2 a ha)
theorem inv_queue {p : Pr} (hg : goodP p = true) (now : Int) : InvQ (goQ (tickP p now)).p := inv_steps p.q _ (fun a ha => (ok_queue hg a ha).2) (inv_tick hg now)
theorem steps_t : ∀ (l : List (Int × Pkt)) (z : QS), (l.foldl stepQ z).p.t = z.p.t ∧ (l.foldl stepQ z).p.h = z.p.h
  | [], z => ⟨rfl, rfl⟩
  | a :: l, z => by
    rw [List.foldl_cons]
    have h := steps_t l (stepQ z a)
    have e : (stepQ z a).p.t = z.p.t ∧ (stepQ z a).p.h = z.p.h := by
      unfold stepQ
      split
      · exact ⟨rfl, rfl⟩
      · split
        · show (dealP z.p a.1.toNat a.2).1.t = z.p.t ∧ (dealP z.p a.1.toNat a.2).1.h = z.p.h
          unfold dealP
          repeat' split
          all_goals exact ⟨rfl, rfl⟩
        · exact ⟨rfl, rfl⟩
    exact ⟨h.1.trans e.1, h.2.trans e.2⟩
theorem tell_t (p : Pr) (c : Nat) : (tellP p c).t = p.t := by
  unfold tellP
  repeat' split
  all_goals rfl
/-- P7.8 -/
theorem pend_any (p : Pr) (v : PrV) (P : Nat → Prop) (w : World) (now : Int) (hp : PIn P w p v) (hq88 : p.q.length * 88 ≤ 140737488355328) :
    Calls Tryz.prog 9 #[.agg (prC p v), .int .i64 now] w (AnsE P w (endP p now)) := by
  have ht : (paidP (queueP (tickP p now)) now).t = now := (steps_t p.q ⟨tickP p now, fun _ => false, []⟩).1
  refine pend_of p v P w now hp _ _ _ (fun hg hi hn g v' wx P' hC' hp' hg' => ?_) (fun hg => (inv_queue hg now).1) (fun hg hi hn c hc g v' wx P' hC' hp' hg' => ?_) rfl rfl rfl
  · exact pqueue_any g (tickP p now) v' P' wx hC' hp' hg' (inv_tick hg now) hq88 (fun a ha => ok_queue hg a ha)
  · have hb : 0 ≤ now ∧ now ≤ 1099511627776 := by
      unfold isT at hi
      simpa using hi
    rcases (show c = 0 ∨ c = 1 by omega) with rfl | rfl
    · exact ptell_any g _ v' P' wx 0 (by omega) hC' hp' hg' (by rw [ht]; exact hb.1) (by rw [ht]; exact hb.2)
    · exact ptell_any g _ v' P' wx 1 (by omega) hC' hp' hg' (by rw [tell_t, ht]; exact hb.1) (by rw [tell_t, ht]; exact hb.2)
end Go.Proofs.YtjghbciepinofaaGreat.Pv

