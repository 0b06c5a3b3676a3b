/- Parts of the proof: PRQ PRZ. -/
import Derived.Test.YtjghbciepinofaaGreatRows
import Derived.Test.YtjghbciepinofaaGreatPEK0
import Derived.Test.YtjghbciepinofaaGreatPEK10
import Derived.Test.YtjghbciepinofaaGreatPEK31
import Derived.Maps.AppendAt
set_option maxRecDepth 100000
namespace Go.Proofs.YtjghbciepinofaaGreat.Pv
open Go.RowKit
def dnL (D : List Int) (v : Int) (k : Nat) : List Int := (six.take k).filter fun u => decide (u = v) || decide (u ∈ D)
theorem six_take {k : Nat} (hk : k < 6) : six.take (k + 1) = six.take k ++ [(k : Int)] := by
  rcases (show k = 0 ∨ k = 1 ∨ k = 2 ∨ k = 3 ∨ k = 4 ∨ k = 5 by omega) with rfl | rfl | rfl | rfl | rfl | rfl <;> rfl
theorem dnL_succ (D : List Int) (v : Int) {k : Nat} (hk : k < 6) : dnL D v (k + 1) = if (decide ((k : Int) = v) || decide ((k : Int) ∈ D)) = true then dnL D v k ++ [(k : Int)] else dnL D v k := by
  unfold dnL
  rw [six_take hk, List.filter_append]
  cases h : (decide ((k : Int) = v) || decide ((k : Int) ∈ D))
  · rw [List.filter_cons_of_neg (by simp [h]), List.filter_nil, List.append_nil]; rfl
  · rw [List.filter_cons_of_pos (by simp [h]), List.filter_nil]; rfl
theorem dnL_len (D : List Int) (v : Int) (k : Nat) : (dnL D v k).length ≤ k := Nat.le_trans (List.length_filter_le _ _) (List.length_take_le _ _)
theorem dnL_six (D : List Int) (v : Int) : dnL D v 6 = doneL D v := by rw [doneL_eq]; rfl
theorem in_news (w : World) (n : Int) : ∀ j u, ([.int .i64 n] : List Value)[j]? = some u → (w.alloc (.cells #[.int .i64 n] 3)).cell? ((⟨w.heap.size, 0, none⟩ : Addr).add j) = some u := fun j u hu => by
  have hj := (List.getElem?_eq_some_iff.1 hu).1
  obtain rfl : j = 0 := by simpa using hj
  rw [Addr.add_lit, (CAt.new 3 w #[.int .i64 n]).cell]
  simpa using hu
theorem beq_dec (a b : Int) : (a == b) = decide (a = b) := by rw [Bool.eq_iff_iff]; simp
/-- is it the one, or among the first m? -/
def inB (D : List Int) (v u : Int) (m : Nat) : Bool := decide (u = v) || decide (u ∈ D.take m)
theorem inB_zero (D : List Int) (v u : Int) : inB D v u 0 = (u == v) := by unfold inB; rw [beq_dec]; simp
theorem inB_all (D : List Int) (v u : Int) : inB D v u D.length = (decide (u = v) || decide (u ∈ D)) := by unfold inB; rw [List.take_length]
theorem inB_true {D : List Int} {v u : Int} {m : Nat} (h : inB D v u m = true) : inB D v u (m + 1) = true := by
  unfold inB at *
  simp only [Bool.or_eq_true, decide_eq_true_eq] at *
  rcases h with h | h
  · exact .inl h
  · exact .inr ((List.take_subset_take_left D (Nat.le_succ m)) h)
theorem inB_false {D : List Int} {v u z : Int} {m : Nat} (h : inB D v u m = false) (hz : D[m]? = some z) : inB D v u (m + 1) = (z == u) := by
  unfold inB at *
  simp only [Bool.or_eq_false_iff, decide_eq_false_iff_not] at h
  rw [List.take_add_one, hz, beq_dec, Bool.eq_iff_iff]
  simp only [Bool.or_eq_true, decide_eq_true_eq, List.mem_append, Option.toList_some, List.mem_singleton]
  constructor
  · rintro (h1 | h1 | h1)
    · exact absurd h1 h.1
    · exact absurd h1 h.2
    · exact h1.symm
  · intro h1
    exact .inr (.inr h1.symm)
noncomputable def dnC : Code := subC [1, 1, 1, 1, 1, 1] (Tryz.f48.body.getD .skip)
attribute [local go_sem ↓] loadS_eq loadP_eq storeP_eq storeS_eq
set_option maxRecDepth 1000000 in
set_option maxHeartbeats 16000000 in
theorem rdeal_tail (p : Pr) (v : PrV) (P : Nat → Prop) (w w1 : World) (c : Nat) (hc : c < 2) (x : Pkt) (y1 y2 : Value) (n : Nat) (D1 : DBeg P w p v c x y1 y2 w1) (D : Pr × Bool) (hD : D = ({ p with L := updL p.L c { p.L c with done := doneL (p.L c).done n } }, true)) (v0 v1 v5 v7 v8 v9 v10 v11 v12 v13 v14 v15 v16 v17 v18 v19 v20 v21 v22 v23 v24 v25 v26 v27 v28 v29 v30 v31 v32 v33 v34 v35 v36 v37 v38 v39 v40 v41 v42 v43 v44 v45 v46 v47 v48 v49 v50 v51 v52 v53 v54 v55 v56 v57 v58 v59 v60 v61 v62 v63 v64 v65 v66 v67 v68 v69 v70 v71 v72 v73 v74 v75 v76 v77 v78 v79 v80 v81 v82 v83 v84 v85 v86 v87 v88 v89 v90 v91 v92 v93 v94 v95 v96 v97 v98 v99 v100 v101 v102 v103 v104 v105 v106 v107 v108 v109 v110 v111 v112 v113 v114 v115 v116 v117 v118 v119 v120 v121 v122 v123 v124 v125 v126 v127 v128 v129 v130 v131 v132 v133 v134 : Value) :
    Code.wp Tryz.prog dnC (bodyPost Tryz.prog Tryz.f48 (AnsD P w v.q D)) ⟨List.toArray (v0 :: v1 :: (.pointer (some ⟨w.heap.size, 0, none⟩)) :: (.pointer (some ⟨w.heap.size + 1, 0, none⟩)) :: (.pointer (some ⟨w.heap.size + 1 + 1, 0, none⟩)) :: v5 :: (.int .i64 (n : Int)) :: v7 :: v8 :: v9 :: v10 :: v11 :: v12 :: v13 :: v14 :: v15 :: v16 :: v17 :: v18 :: v19 :: v20 :: v21 :: v22 :: v23 :: v24 :: v25 :: v26 :: v27 :: v28 :: v29 :: v30 :: v31 :: v32 :: v33 :: v34 :: v35 :: v36 :: v37 :: v38 :: v39 :: v40 :: v41 :: v42 :: v43 :: v44 :: v45 :: v46 :: v47 :: v48 :: v49 :: v50 :: v51 :: v52 :: v53 :: v54 :: v55 :: v56 :: v57 :: v58 :: v59 :: v60 :: v61 :: v62 :: v63 :: v64 :: v65 :: v66 :: v67 :: v68 :: v69 :: v70 :: v71 :: v72 :: v73 :: v74 :: v75 :: v76 :: v77 :: v78 :: v79 :: v80 :: v81 :: v82 :: v83 :: v84 :: v85 :: v86 :: v87 :: v88 :: v89 :: v90 :: v91 :: v92 :: v93 :: v94 :: v95 :: v96 :: v97 :: v98 :: v99 :: v100 :: v101 :: v102 :: v103 :: v104 :: v105 :: v106 :: v107 :: v108 :: v109 :: v110 :: v111 :: v112 :: v113 :: v114 :: v115 :: v116 :: v117 :: v118 :: v119 :: v120 :: v121 :: v122 :: v123 :: v124 :: v125 :: v126 :: v127 :: v128 :: v129 :: v130 :: v131 :: v132 :: v133 :: v134 :: []), []⟩ w1 := by
  obtain ⟨i0, hi, hz0, hz1, hz2⟩ := info_parts Ln.infoI
  conv => arg 2; whnf
  have H1 := hide D1
  have HD := hide hD
  have hlt1 := D1.R.lt
  have k0 : w1.cell? ⟨w.heap.size + 1, 0, none⟩ = some (.int .i64 (c : Int)) := D1.K.cell 0
  obtain ⟨Ad, Cd0, ed, sd, -, hcd, -⟩ := (D1.I.lk c hc).done.open (inC_length _) (by decide)
  have HCD := hide hcd
  have HED := hide ed
  have hcc : (c : Int) < 2 := by omega
  have hcz : (0 : Int) ≤ (c : Int) := by omega
  have hdl : (p.L c).done.length ≤ 17592186044404 := by omega
  clear D1 hD hcd ed sd
  generalize hDD : (p.L c).done = DD at *
  clear hDD
  go_upto_region 19 with fail
  go_loopw [10, 98] (fun lv i wl => ∃ k : Nat, k ≤ 6 ∧ i = .int .i64 (k : Int) ∧ Hid (wl.ownsRow w1.heap.size 3 1 lv (dnL DD n k).length (inC (dnL DD n k))) ∧ Hid (Below w1.heap.size w1 wl)) (fun _ i _ => (6 - intOf i).toNat)
  case atStart => exact ⟨0, by omega, rfl, World.ownsRow_nil _ _ _ _, Below.refl _ _⟩
  case round =>
    obtain ⟨k, hk, rfl, HOW, HB⟩ := hrel
    have D2 := H1.out.over HB.out
    have kk0 : wr.cell? ⟨w.heap.size + 1, 0, none⟩ = some (.int .i64 (c : Int)) := D2.K.cell 0
    have q5 : wr.cell? ⟨w.heap.size, 66 + c * 14 + 5, none⟩ = some (.slice Ad DD.length Cd0) := by rw [← HED.out]; exact (D2.C.lk hc).facts.2.2.2.2.2.1
    have hlt2 := D2.R.lt
    by_cases hk6 : k < 6
    · have hkk : (k : Int) < 6 := by omega
      have hk0 : (0 : Int) ≤ (k : Int) := by omega
      have HC := hide (dnL_succ DD n hk6)
      have hlen := dnL_len DD n k
      clear D2
      go_upto_region 23 with fail
      have HZ := hide (inB_zero DD n k)
      have HAL := hide (inB_all DD n k)
      go_loop [12, 111] (fun b j => ∃ m : Nat, m ≤ DD.length ∧ j = .int .i64 (m : Int) ∧ b = .bool (inB DD n k m)) (fun _ j => DD.length - (intOf j).toNat)
      case atStart => exact ⟨0, Nat.zero_le _, rfl, by rw [HZ.out]⟩
      case round =>
        obtain ⟨m, hm, rfl, rfl⟩ := hrel
        by_cases hml : m < DD.length
        · have hmI : (m : Int) < (DD.length : Int) := by omega
          have hm0 : (0 : Int) ≤ (m : Int) := by omega
          obtain ⟨bd, od, rfl, -, hbl, hcell⟩ := HCD.out (by omega)
          obtain ⟨z, hz⟩ : ∃ z, DD[m]? = some z := ⟨_, List.getElem?_eq_getElem hml⟩
          have gz : DD.getD m 0 = z := by simp [List.getD, hz]
          have p0 := inC_get DD m hml
          rw [gz] at p0
          have cz : wr.cell? ⟨bd, od + m, none⟩ = some (.int .i64 z) := (HB.out.cell (p := ⟨bd, od + m, none⟩) hbl).trans (hcell _ _ p0)
          clear hcell gz p0
          cases hfl : inB DD n k m
          · have HI := hide (inB_false hfl hz)
            clear hz hfl
            go_wp2
            go_round
            case rel => exact ⟨m + 1, by omega, by go_num, by rw [HI.out]⟩
            case measure => simp [intOf]; omega
          · have HI := hide (inB_true hfl)
            clear hz hfl
            go_wp2
            go_round
            case rel => exact ⟨m + 1, by omega, by go_num, by rw [HI.out]⟩
            case measure => simp [intOf]; omega
        · obtain rfl : m = DD.length := by omega
          have hal := HAL.out
          generalize inB DD n k DD.length = fl at *
          rw [← hal] at HC
          clear hal HAL HZ
          have hsz2 : w1.heap.size ≤ wr.heap.size := HB.out.size
          cases fl
          · have HC' := hide (HC.out.trans (if_neg (by simp)))
            go_wp2
            first | exact ⟨⟨k + 1, by omega, by go_num, by rw [HC'.out]; exact HOW, HB⟩, by simp [intOf]; omega⟩ | ((repeat apply Exists.intro); exact ⟨⟨k + 1, by omega, by go_num, by rw [HC'.out]; exact HOW, HB⟩, rfl⟩) | (go_roundw; (case rel => first | exact ⟨k + 1, by omega, by go_num, by rw [HC'.out]; exact HOW, HB⟩ | ((repeat apply Exists.intro); exact ⟨⟨k + 1, by omega, by go_num, by rw [HC'.out]; exact HOW, HB⟩, rfl⟩)); (case measure => simp [intOf]; omega))
          · have HC' := hide (HC.out.trans (if_pos rfl))
            have hown := HOW.out
            go_wp2_with (at_builtin; refine wpList_append_own_at _ rfl _ _ 34 rfl w1.heap.size 3 i0 (.int .i64 0) 1 8 Tryz.underlying34 hi hz0 hz1 hz2 rfl (by decide) _ _ _ rfl (World.ownsRow.alloc hown _) ⟨wr.heap.size, 0, none⟩ 1 1 [.int .i64 (k : Int)] rfl rfl (in_news _ _) (by intro u hu; simp at hu; subst hu; rfl) (by unfold maxLen; omega) (by omega) (by simp; omega) ?_; intro v' w2 hown' hgrow _ hat)
            have hb : Below w1.heap.size w1 w2 := (HB.out.alloc HB.out.size _).grown hgrow (by simp; omega) (fun x hx => (World.ownsRow.lt hown x hx).1)
            have HR : Hid (w2.ownsRow w1.heap.size 3 1 v' (dnL DD n (k + 1)).length (inC (dnL DD n (k + 1)))) := by
              rw [Hid, HC'.out, List.length_append, show inC (dnL DD n k ++ [(k : Int)]) = inC (dnL DD n k) ++ [.int .i64 (k : Int)] by simp [inC]]
              exact hown'
            exact ⟨⟨k + 1, by omega, by go_num, HR, hb⟩, by simp [intOf]; omega⟩
    · obtain rfl : k = 6 := by omega
      have h6 := dnL_len DD n 6
      have R6 := Rep.own (bts := 8) HOW.out (by omega)
      rw [dnL_six] at R6
      have R7 : Rep (New P w 3) wr u10 1 8 (inC (doneL DD n)) := R6.mono fun b _ h => .inr (by have := H1.out.R.lt; omega)
      obtain ⟨Au, nu, Cu, rfl⟩ := R7.one'
      have fz := D2.C.free (66 + c * 14 + 5)
      have hn0 : ¬ New P w 3 w.heap.size := New.no (Nat.le_refl _) (by omega)
      have C8 := D2.C.set (66 + c * 14 + 5) (.slice Au nu Cu)
      rw [lk_done c hc (doneL DD n)] at C8
      have I8 := done_pinQ (D2.I.put hn0 (66 + c * 14 + 5) (.slice Au nu Cu)) c (doneL DD n) (.slice Au nu Cu) (R7.put hn0 _ _)
      have R8 := D2.R.other (c := w.heap.size) (o := 66 + c * 14 + 5) (by omega) (.slice Au nu Cu)
      have B8 := D2.B.setCell (p := ⟨w.heap.size, 66 + c * 14 + 5, none⟩) (Nat.le_refl _) (.slice Au nu Cu)
      have H8 := hide (show _ ∧ _ ∧ _ ∧ _ from ⟨C8, I8, R8, B8⟩)
      clear C8 I8 R8 B8 R7 R6 D2 HOW
      go_upto_region 31 with fail
      generalize wr.setCell ⟨w.heap.size, 66 + c * 14 + 5, none⟩ (.slice Au nu Cu) = w8 at *
      have l8 := pr_loadP H8.out.1 (prC_size _ _)
      have s8 := pr_storeP H8.out.2.2.1 Z97_size (prC_size _ _) (PInQ.one H8.out.2.1)
      have hz8 := H8.out.2.2.1.lt
      go_wp2
      exact prov_endD Tryz.results48 H8.out.2.2.1 Z97_size H8.out.2.2.2 _ _ true _ HD.out H8.out.2.1 _ rfl _ rfl rfl rfl
end Go.Proofs.YtjghbciepinofaaGreat.Pv

set_option maxRecDepth 100000
namespace Go.Proofs.YtjghbciepinofaaGreat.Pv
open Go.RowKit
/-- all orders come to one frame, with two values -/
def Join2 (F : Value → Value → Act) (R : Value → Value → World → Prop) (ex : Exit) (a : Act) (w : World) : Prop := ∃ u x, ex = Exit.normal ∧ a = F u x ∧ R u x w
theorem wp_join2 {P : Program} {c : Code} {Q : Exit → Act → World → Prop} {a : Act} {w : World} (R : Value → Value → World → Prop) (F : Value → Value → Act) (h1 : Code.wp P c (Join2 F R) a w) (h2 : ∀ u x w', R u x w' → Q Exit.normal (F u x) w') : Code.wp P c Q a w :=
  Code.wp_mono (fun e a' w' h => by obtain ⟨u, x, rfl, rfl, h⟩ := h; exact h2 u x w' h) h1
attribute [local go_sem ↓] loadS_eq loadP_eq storeP_eq storeS_eq
set_option maxRecDepth 1000000 in
set_option maxHeartbeats 16000000 in
theorem rdeal_double (p : Pr) (v : PrV) (P : Nat → Prop) (w : World) (c : Nat) (hc : c < 2) (x : Pkt) (y1 y2 : Value) (hp : PInQ P w p v) (hgs : goodS p.s = true) (hk : x.k = 4) (n : Nat) (hn : x.v = (n : Int)) (hn6 : n < 6) (s1 : ∃ A m C, y1 = .slice A m C) (s2 : ∃ A m C, y2 = .slice A m C) :
    Calls Tryz.prog 48 #[.agg (prC p v), .agg #[.int .i64 (c : Int), .int .i64 x.k, .int .i64 x.i, .int .i64 x.v, .int .i64 x.n, y1, y2]] w (AnsD P w v.q (dealP p c x)) := by
  have hD : dealP p c x = if (p.s.V n).dead = true then (p, true) else ({ p with s := punS p.s n (maxI x.i (p.L c).base) }, true) := by unfold dealP; rw [if_neg (by omega), if_pos hk, hn, Int.toNat_natCast]
  generalize dealP p c x = D at *
  have HD := hide hD
  obtain ⟨A1, m1, C1, rfl⟩ := s1
  obtain ⟨A2, m2, C2, rfl⟩ := s2
  have hnn : (n : Int) < 6 := by omega
  have hnz : (0 : Int) ≤ (n : Int) := by omega
  have HP := hide hp
  have HG := hide hgs
  have HXK := hide hk
  have HXV := hide hn
  clear hD hp hk hn hgs
  go_enter Tryz.func48, Tryz.ntmps48
  go_upto_region 1 with fail
  change Code.wp Tryz.prog _ _ _ (((w.alloc (.cells (prC p v) 47)).alloc (.cells #[.int .i64 (c : Int), .int .i64 x.k, .int .i64 x.i, .int .i64 x.v, .int .i64 x.n, .slice A1 m1 C1, .slice A2 m2 C2] 79)).alloc (.cells Tryz.zeroCells47 47))
  have D0 := DBeg.new HP.out c x (.slice A1 m1 C1) (.slice A2 m2 C2)
  generalize ((w.alloc (.cells (prC p v) 47)).alloc (.cells #[.int .i64 (c : Int), .int .i64 x.k, .int .i64 x.i, .int .i64 x.v, .int .i64 x.n, .slice A1 m1 C1, .slice A2 m2 C2] 79)).alloc (.cells Tryz.zeroCells47 47) = w0 at *
  have k3 : w0.cell? ⟨w.heap.size + 1, 3, none⟩ = some (.int .i64 (n : Int)) := by rw [← HXV.out]; exact D0.K.cell 3
  have k1 : w0.cell? ⟨w.heap.size + 1, 1, none⟩ = some (.int .i64 4) := by rw [← HXK.out]; exact D0.K.cell 1
  obtain ⟨t0, t1, t2, t3, t4⟩ := pr_val5 D0.C hn6
  have hlt0 := D0.R.lt
  have H0 := hide D0
  clear D0
  go_upto_region 3 with fail
  have D1 := H0.out.over ((Below.refl w0.heap.size w0).alloc (Nat.le_refl _) (.cells #[.int .i64 (p.s.V n).tok, .int .i64 (p.s.V n).sh, .int .i64 (p.s.V n).lost, .bool (p.s.V n).jail, .bool (p.s.V n).dead] 26))
  have X1 := CAt.new 26 w0 #[.int .i64 (p.s.V n).tok, .int .i64 (p.s.V n).sh, .int .i64 (p.s.V n).lost, .bool (p.s.V n).jail, .bool (p.s.V n).dead]
  clear H0 k3 k1 t0 t1 t2 t3 t4
  generalize w0.alloc (.cells #[.int .i64 (p.s.V n).tok, .int .i64 (p.s.V n).sh, .int .i64 (p.s.V n).lost, .bool (p.s.V n).jail, .bool (p.s.V n).dead] 26) = w1 at *
  have k1 : w1.cell? ⟨w.heap.size + 1, 1, none⟩ = some (.int .i64 4) := by rw [← HXK.out]; exact D1.K.cell 1
  have x4 : w1.cell? ⟨w0.heap.size, 4, none⟩ = some (.bool (p.s.V n).dead) := X1.cell 4
  have hlt1 := D1.R.lt
  cases hdd : (p.s.V n).dead
  rotate_left
  · rw [hdd] at x4
    have l3 := pr_loadP D1.C (prC_size _ _)
    have s3 := pr_storeP D1.R Z97_size (prC_size p v) (PInQ.one D1.I)
    have H3 := hide D1
    replace HD := hide (HD.out.trans (if_pos hdd))
    clear D1 X1
    go_wp2
    exact prov_endD Tryz.results48 H3.out.R Z97_size H3.out.B _ _ true _ HD.out H3.out.I _ rfl _ rfl rfl rfl
  rw [hdd] at x4
  replace HD := hide (HD.out.trans (if_neg (by simp [hdd])))
  have HMX : Hid (maxI x.i (p.L c).base = if x.i < (p.L c).base then (p.L c).base else x.i) := rfl
  generalize maxI x.i (p.L c).base = mx at *
  have HF : Hid (∀ wx, Below w1.heap.size w1 wx → (loadS (.pointer (some ⟨w.heap.size, 2, none⟩))).run Tryz.prog wx = .ok (.agg (stC p.s v.ws)) wx ∧ wx.cell? ⟨w.heap.size + 1, 2, none⟩ = some (.int .i64 x.i) ∧ wx.cell? ⟨w.heap.size + 1, 0, none⟩ = some (.int .i64 (c : Int)) ∧ wx.cell? ⟨w.heap.size, 66 + c * 14 + 2, none⟩ = some (.int .i64 (p.L c).base)) := fun wx hb => by
    have E := D1.over hb
    exact ⟨pr_loadS E.C, E.K.cell 2, E.K.cell 0, (E.C.lk hc).facts.2.2.1⟩
  have HSL := hide (fun (wx : World) (hb : Below w1.heap.size w1 wx) => rt_slash (D1.over hb).I.ws n mx HG.out hn6)
  have kg := (kp_slash HG.out (v := n) hn6 mx (f := 50) (by decide)).good
  have hd1 : ((slashS p.s n mx 50).V n).dead = false := (slash_dead _ _ _).trans hdd
  have HPW : Hid ((punS p.s n mx).W = (slashS p.s n mx 50).W) := rfl
  have HPE : Hid (punS p.s n mx = setJ (slashS p.s n mx 50) n true true) := rfl
  have HKG := hide (show _ ∧ _ from ⟨kg, hd1⟩)
  generalize punS p.s n mx = s2 at *
  generalize slashS p.s n mx 50 = s1 at *
  have H1 := hide D1
  clear D1 X1 kg hd1
  have hmx : (if x.i < (p.L c).base then (p.L c).base else x.i) = mx := HMX.out.symm
  generalize (p.L c).base = bs at *
  have hcc : (c : Int) < 2 := by omega
  have hcz : (0 : Int) ≤ (c : Int) := by omega
  go_upto_region 8 with fail
  apply wp_join2 (fun u x' w' => ∃ w3, w' = w3.setCells w.heap.size 2 (stC s1 u).toList ∧ Below w1.heap.size w1 w3 ∧ Rep (fun b => w1.heap.size ≤ b) w3 u 8 64 (wsL s1.W))
  · refine wp_region_noPanic ?_
    have HW3 : Hid (∀ (w3 : World) (u3 : Value), Below w1.heap.size w1 w3 → (∃ A n C, u3 = .slice A n C) → ∃ wS, wS = w3.setCells w.heap.size 2 (stC s1 u3).toList ∧ (storeS (.pointer (some ⟨w.heap.size, 2, none⟩)) (.agg (stC s1 u3))).run Tryz.prog w3 = .ok () wS) := fun w3 u3 b3 h3 => ⟨_, rfl, pr_storeS (H1.out.over b3).C (prC_size _ _) (stC_size s1 u3) (st_one s1 h3)⟩
    refine Od.wp_region_C (c := 13) (S := fun wx => Below w1.heap.size w1 wx) (by kernel_rfl) ?_
    have hS : Below w1.heap.size w1 w1.drew := (Below.refl _ _).drew
    refine Od.anyC_at (i := 0) (v := (.pointer (some ⟨w.heap.size, 2, none⟩))) (some 45) rfl rfl (by kernel_rfl) (by kernel_rfl) (by kernel_rfl) (by kernel_rfl) (by decide) (fun _ _ _ h => h) (Or.inl ⟨by rfl, fun wx hSw => ?_⟩) hS ?_
    · try dsimp only at hSw
      go_simp
    simp only [Act.put, List.setIfInBounds_toArray, List.set_cons_zero, List.set_cons_succ]
    refine Od.anyC_at (i := 1) (v := (.agg (stC p.s v.ws))) (some 46) rfl rfl (by kernel_rfl) (by kernel_rfl) (by kernel_rfl) (by kernel_rfl) (by decide) (fun _ _ _ h => h) (Or.inl ⟨by rfl, fun wx hSw => ?_⟩) hS ?_
    · try dsimp only at hSw
      obtain ⟨f1, f2, f3, f4⟩ := HF.out wx hSw; go_simp
    simp only [Act.put, List.setIfInBounds_toArray, List.set_cons_zero, List.set_cons_succ]
    refine Od.anyC_at (i := 2) (v := (.int .i64 (n : Int))) (some 47) rfl rfl (by kernel_rfl) (by kernel_rfl) (by kernel_rfl) (by kernel_rfl) (by decide) (fun _ _ _ h => h) (Or.inl ⟨by rfl, fun wx hSw => ?_⟩) hS ?_
    · try dsimp only at hSw
      go_simp
    simp only [Act.put, List.setIfInBounds_toArray, List.set_cons_zero, List.set_cons_succ]
    refine Od.anyC_at (i := 3) (v := (.pointer (some ⟨w.heap.size + 1, 1, none⟩))) (some 48) rfl rfl (by kernel_rfl) (by kernel_rfl) (by kernel_rfl) (by kernel_rfl) (by decide) (fun _ _ _ h => h) (Or.inl ⟨by rfl, fun wx hSw => ?_⟩) hS ?_
    · try dsimp only at hSw
      go_simp
    simp only [Act.put, List.setIfInBounds_toArray, List.set_cons_zero, List.set_cons_succ]
    refine Od.anyC_at (i := 4) (v := (.pointer (some ⟨w.heap.size + 1, 2, none⟩))) (some 49) rfl rfl (by kernel_rfl) (by kernel_rfl) (by kernel_rfl) (by kernel_rfl) (by decide) (fun _ _ _ h => h) (Or.inl ⟨by rfl, fun wx hSw => ?_⟩) hS ?_
    · try dsimp only at hSw
      go_simp
    simp only [Act.put, List.setIfInBounds_toArray, List.set_cons_zero, List.set_cons_succ]
    refine Od.anyC_at (i := 5) (v := (.int .i64 x.i)) (some 50) rfl rfl (by kernel_rfl) (by kernel_rfl) (by kernel_rfl) (by kernel_rfl) (by decide) (fun _ _ _ h => h) (Or.inl ⟨by rfl, fun wx hSw => ?_⟩) hS ?_
    · try dsimp only at hSw
      obtain ⟨f1, f2, f3, f4⟩ := HF.out wx hSw; go_simp
    simp only [Act.put, List.setIfInBounds_toArray, List.set_cons_zero, List.set_cons_succ]
    refine Od.anyC_at (i := 6) (v := (.pointer (some ⟨w.heap.size + 1, 0, none⟩))) (some 51) rfl rfl (by kernel_rfl) (by kernel_rfl) (by kernel_rfl) (by kernel_rfl) (by decide) (fun _ _ _ h => h) (Or.inl ⟨by rfl, fun wx hSw => ?_⟩) hS ?_
    · try dsimp only at hSw
      go_simp
    simp only [Act.put, List.setIfInBounds_toArray, List.set_cons_zero, List.set_cons_succ]
    refine Od.anyC_at (i := 7) (v := (.int .i64 (c : Int))) (some 52) rfl rfl (by kernel_rfl) (by kernel_rfl) (by kernel_rfl) (by kernel_rfl) (by decide) (fun _ _ _ h => h) (Or.inl ⟨by rfl, fun wx hSw => ?_⟩) hS ?_
    · try dsimp only at hSw
      obtain ⟨f1, f2, f3, f4⟩ := HF.out wx hSw; go_simp
    simp only [Act.put, List.setIfInBounds_toArray, List.set_cons_zero, List.set_cons_succ]
    refine Od.anyC_at (i := 8) (v := (.pointer (some ⟨w.heap.size, 66, none⟩))) (some 53) rfl rfl (by kernel_rfl) (by kernel_rfl) (by kernel_rfl) (by kernel_rfl) (by decide) (fun _ _ _ h => h) (Or.inl ⟨by rfl, fun wx hSw => ?_⟩) hS ?_
    · try dsimp only at hSw
      go_simp
    simp only [Act.put, List.setIfInBounds_toArray, List.set_cons_zero, List.set_cons_succ]
    refine Od.anyC_at (i := 9) (v := (.pointer (some ⟨w.heap.size, 66 + c * 14, none⟩))) (some 54) rfl rfl (by kernel_rfl) (by kernel_rfl) (by kernel_rfl) (by kernel_rfl) (by decide) (fun _ _ _ h => h) (Or.inl ⟨by rfl, fun wx hSw => ?_⟩) hS ?_
    · try dsimp only at hSw
      go_simp
    simp only [Act.put, List.setIfInBounds_toArray, List.set_cons_zero, List.set_cons_succ]
    refine Od.anyC_at (i := 10) (v := (.pointer (some ⟨w.heap.size, 66 + c * 14 + 2, none⟩))) (some 55) rfl rfl (by kernel_rfl) (by kernel_rfl) (by kernel_rfl) (by kernel_rfl) (by decide) (fun _ _ _ h => h) (Or.inl ⟨by rfl, fun wx hSw => ?_⟩) hS ?_
    · try dsimp only at hSw
      go_simp
    simp only [Act.put, List.setIfInBounds_toArray, List.set_cons_zero, List.set_cons_succ]
    refine Od.anyC_at (i := 11) (v := (.int .i64 bs)) (some 56) rfl rfl (by kernel_rfl) (by kernel_rfl) (by kernel_rfl) (by kernel_rfl) (by decide) (fun _ _ _ h => h) (Or.inl ⟨by rfl, fun wx hSw => ?_⟩) hS ?_
    · try dsimp only at hSw
      obtain ⟨f1, f2, f3, f4⟩ := HF.out wx hSw; go_simp
    simp only [Act.put, List.setIfInBounds_toArray, List.set_cons_zero, List.set_cons_succ]
    refine Od.anyC_at (i := 12) (v := (.int .i64 mx)) (some 57) rfl rfl (by kernel_rfl) (by kernel_rfl) (by kernel_rfl) (by kernel_rfl) (by decide) (fun _ _ _ h => h) (Or.inl ⟨by rfl, fun wx hSw => ?_⟩) hS ?_
    · try dsimp only at hSw
      go_simp
    simp only [Act.put, List.setIfInBounds_toArray, List.set_cons_zero, List.set_cons_succ]
    refine Od.anyC_last (by kernel_rfl) rfl (fun K hK => ?_)
    go_simp
    go_at_call 97
    refine (HSL.out _ (by exact hS)).mono ?_
    rintro e w3 ⟨u3, x3, rfl, U3, hb3⟩
    replace hS := hS.trans (hb3.mono hS.size)
    obtain ⟨wS, hwS, sS3⟩ := HW3.out w3 u3 hS U3.one'
    have HwS := hide hwS
    clear hwS
    dsimp only
    refine hK _ _ ?_
    clear hK K
    try simp only [Act.put, List.setIfInBounds_toArray, List.set_cons_zero, List.set_cons_succ]
    refine Od.any_at (i := 14) (v := (.tuple #[.agg (stC s1 u3), x3, .int .i64 0])) (some 44) rfl rfl (by kernel_rfl) (by kernel_rfl) (by kernel_rfl) (fun _ _ _ h => h) (Or.inl ⟨by rfl, fun wx => ?_⟩) ?_
    · go_simp
    simp only [Act.put, List.setIfInBounds_toArray, List.set_cons_zero, List.set_cons_succ]
    refine Od.any_at (i := 15) (v := (.agg (stC s1 u3))) (some 59) rfl rfl (by kernel_rfl) (by kernel_rfl) (by kernel_rfl) (fun _ _ _ h => h) (Or.inl ⟨by rfl, fun wx => ?_⟩) ?_
    · go_simp
    simp only [Act.put, List.setIfInBounds_toArray, List.set_cons_zero, List.set_cons_succ]
    refine Od.any_at (i := 16) (v := x3) (some 60) rfl rfl (by kernel_rfl) (by kernel_rfl) (by kernel_rfl) (fun _ _ _ h => h) (Or.inl ⟨by rfl, fun wx => ?_⟩) ?_
    · go_simp
    simp only [Act.put, List.setIfInBounds_toArray, List.set_cons_zero, List.set_cons_succ]
    refine Od.any_at (i := 17) (v := (.int .i64 0)) (some 61) rfl rfl (by kernel_rfl) (by kernel_rfl) (by kernel_rfl) (fun _ _ _ h => h) (Or.inl ⟨by rfl, fun wx => ?_⟩) ?_
    · go_simp
    simp only [Act.put, List.setIfInBounds_toArray, List.set_cons_zero, List.set_cons_succ]
    refine Od.any_at (i := 18) (v := (.pointer (some ⟨w.heap.size, 2, none⟩))) (some 62) rfl rfl (by kernel_rfl) (by kernel_rfl) (by kernel_rfl) (fun _ _ _ h => h) (Or.inl ⟨by rfl, fun wx => ?_⟩) ?_
    · go_simp
    simp only [Act.put, List.setIfInBounds_toArray, List.set_cons_zero, List.set_cons_succ]
    refine Od.any_go (i := 19) (by kernel_rfl) rfl rfl (fun K hK => ?_)
    go_simp
    refine hK _ _ ?_
    clear hK K
    refine wpAny_done (by kernel_rfl) ?_ _
    exact NoPanic.normal ⟨u3, x3, rfl, rfl, w3, HwS.out, hS, U3⟩
  rintro u x3 w' ⟨w3, rfl, b3, U3⟩
  have D4 := (H1.out.over b3).stake s1 u (U3.mono fun b _ h => .inr (by have := H1.out.R.lt; omega))
  clear b3 U3 k1 x4 HF HSL H1
  generalize w3.setCells w.heap.size 2 (stC s1 u).toList = w4 at *
  have hbu := rt_bury D4.I.ws n HKG.out.1 hn6 HKG.out.2
  rw [← HPE.out] at hbu
  have HBU := hide hbu
  have m4 := pr_loadS D4.C
  have H4 := hide D4
  have hlt4 := D4.R.lt
  clear D4 hbu
  simp only [Exit.then]
  apply_assumption
  go_upto_region 10 with (go_at_call 98; refine HBU.out.mono ?_; rintro e w5 ⟨u5, rfl, U5, hb5⟩; clear m4; have sS5 := pr_storeS (H4.out.over hb5).C (prC_size _ _) (stC_size s2 u5) (st_one s2 U5.one'); have HU5 := hide (show _ ∧ _ from ⟨U5, hb5⟩); clear U5 hb5)
  have D6 := (H4.out.over HU5.out.2).stake s2 u5 (by rw [HPW.out]; exact HU5.out.1.mono fun b _ h => .inr (by have := H4.out.R.lt; omega))
  clear sS5 H4 HBU HU5
  generalize w5.setCells w.heap.size 2 (stC s2 u5).toList = w6 at *
  have l6 := pr_loadP D6.C (prC_size _ _)
  have s6 := pr_storeP D6.R Z97_size (prC_size { p with s := s2 } { v with ws := u5 }) (PInQ.one D6.I)
  have H6 := hide D6
  clear D6
  go_wp2
  exact prov_endD Tryz.results48 H6.out.R Z97_size H6.out.B _ _ true _ HD.out H6.out.I _ rfl _ rfl rfl rfl
end Go.Proofs.YtjghbciepinofaaGreat.Pv

