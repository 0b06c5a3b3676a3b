/- Parts of the proof: PSW PVG1. -/
import Derived.Test.YtjghbciepinofaaGreatRows
import Derived.Test.YtjghbciepinofaaGreatPEK3
import Derived.Test.YtjghbciepinofaaGreatPEK15
import Derived.Test.YtjghbciepinofaaGreatPEK39
set_option maxRecDepth 100000
namespace Go.Proofs.YtjghbciepinofaaGreat.Pv
open Go.RowKit
def loadVV (v : Value) : Sem Value := Instr.loadAt 27 v
theorem loadVV_eq (v : Value) : Instr.loadAt 27 v = loadVV v := rfl
theorem st_loadVV {w : World} {b : Nat} {s : St} {sl : Value} (h : SAt w b (stC s sl)) : (loadVV (.pointer (some ⟨b, 7, none⟩))).run Tryz.prog w = .ok (.agg (vsC s.V)) w := by
  have := run_loadAt_mid (P := Tryz.prog) w b 7 27 (vsC s.V).toList _ (st_vals h) Tryz.underlying27 rfl (by kernel_rfl)
  change (Instr.loadAt 27 _).run Tryz.prog w = _
  simpa using this
theorem ixV0 (V : Nat → Vd) (w : World) : (Instr.index 27 (.agg (vsC V)) (.int .i64 0)).run Tryz.prog w = .ok (.agg (vdC (V 0))) w := by kernel_rfl
theorem ixV1 (V : Nat → Vd) (w : World) : (Instr.index 27 (.agg (vsC V)) (.int .i64 1)).run Tryz.prog w = .ok (.agg (vdC (V 1))) w := by kernel_rfl
theorem ixV2 (V : Nat → Vd) (w : World) : (Instr.index 27 (.agg (vsC V)) (.int .i64 2)).run Tryz.prog w = .ok (.agg (vdC (V 2))) w := by kernel_rfl
theorem ixV3 (V : Nat → Vd) (w : World) : (Instr.index 27 (.agg (vsC V)) (.int .i64 3)).run Tryz.prog w = .ok (.agg (vdC (V 3))) w := by kernel_rfl
theorem ixV4 (V : Nat → Vd) (w : World) : (Instr.index 27 (.agg (vsC V)) (.int .i64 4)).run Tryz.prog w = .ok (.agg (vdC (V 4))) w := by kernel_rfl
theorem ixV5 (V : Nat → Vd) (w : World) : (Instr.index 27 (.agg (vsC V)) (.int .i64 5)).run Tryz.prog w = .ok (.agg (vdC (V 5))) w := by kernel_rfl
theorem ixV (V : Nat → Vd) {k : Nat} (hk : k < 6) (w : World) : (Instr.index 27 (.agg (vsC V)) (.int .i64 (k : Int))).run Tryz.prog w = .ok (.agg #[.int .i64 (V k).tok, .int .i64 (V k).sh, .int .i64 (V k).lost, .bool (V k).jail, .bool (V k).dead]) w := by
  rcases (show k = 0 ∨ k = 1 ∨ k = 2 ∨ k = 3 ∨ k = 4 ∨ k = 5 by omega) with rfl | rfl | rfl | rfl | rfl | rfl
  · exact ixV0 V w
  · exact ixV1 V w
  · exact ixV2 V w
  · exact ixV3 V w
  · exact ixV4 V w
  · exact ixV5 V w
def pN (n : Nat → Int) (k : Nat) : Nat → Int := fun i => if i < k then n i else 0
theorem pN_put (n : Nat → Int) {k : Nat} (hk : k < 6) : Df.putP (pN n k) ((k : Int), n k) = pN n (k + 1) := by
  funext i
  rw [Df.put_at hk]
  unfold pN
  by_cases e : i = k
  · subst e; rw [if_pos rfl, if_pos (by omega)]
  · rw [if_neg e]
    by_cases h : i < k
    · rw [if_pos h, if_pos (by omega)]
    · rw [if_neg h, if_neg (by omega)]
theorem pN_same (n : Nat → Int) {k : Nat} (h0 : n k = 0) : pN n k = pN n (k + 1) := by
  funext i
  unfold pN
  by_cases h : i < k
  · rw [if_pos h, if_pos (by omega)]
  · rw [if_neg h]
    by_cases e : i = k
    · subst e; rw [if_pos (by omega), h0]
    · rw [if_neg (by omega)]
attribute [local go_sem ↓] loadVV_eq
set_option maxHeartbeats 8000000 in
theorem rset_any (s : St) (u : Value) (w : World) (ht : ∀ k, k < 6 → 0 ≤ (s.V k).tok ∧ (s.V k).tok ≤ 1125899906842624) :
    Calls Tryz.prog 50 #[.agg (stC s u)] w fun e w' => ∃ v, e = .returned v ∧ Rep (fun b => w.heap.size ≤ b) w' v 2 16 (pwC (setS s.V)) ∧ Below w.heap.size w w' := by
  obtain ⟨i0, hi, hz0, hz1, hz2⟩ := info_parts infoPw
  rw [← rank_set (fun k hk => (ht k hk).1) (fun k hk => (ht k hk).2)]
  have HN : Hid (∀ k, nP s.V k = if (s.V k).jail = true then 0 else (s.V k).tok / 100) := fun k => rfl
  have HT := hide ht
  have HIX := hide (fun (k : Nat) (hk : k < 6) (wx : World) => ixV s.V hk wx)
  have HL6 := hide (Df.those_len (fun v => decide (0 < nP s.V v) && decide (ahN (nP s.V) v 6 < 4)) (nP s.V) 6)
  unfold rankS
  generalize nP s.V = n at *
  clear ht
  go_enter Tryz.func50, Tryz.ntmps50
  go_upto_region 2 with fail
  have S0 : SAt ((w.alloc (.cells (stC s u) 32)).alloc (.cells #[.int .i64 0, .int .i64 0, .int .i64 0, .int .i64 0, .int .i64 0, .int .i64 0] 28)) w.heap.size (stC s u) := (Below.heap_alloc _ _ _ (by simp)).trans (heap_alloc_new _ _)
  have Q0 : Df.QAt ((w.alloc (.cells (stC s u) 32)).alloc (.cells #[.int .i64 0, .int .i64 0, .int .i64 0, .int .i64 0, .int .i64 0, .int .i64 0] 28)) (w.heap.size + 1) (pN n 0) := by
    have := Df.QAt.new (w.alloc (.cells (stC s u) 32)) (pN n 0)
    rw [show (w.alloc (.cells (stC s u) 32)).heap.size = w.heap.size + 1 by simp] at this
    exact this
  have B0 : Below w.heap.size w ((w.alloc (.cells (stC s u) 32)).alloc (.cells #[.int .i64 0, .int .i64 0, .int .i64 0, .int .i64 0, .int .i64 0, .int .i64 0] 28)) := ((Below.refl _ w).alloc (Nat.le_refl _) _).alloc (by simp) _
  generalize (w.alloc (.cells (stC s u) 32)).alloc (.cells #[.int .i64 0, .int .i64 0, .int .i64 0, .int .i64 0, .int .i64 0, .int .i64 0] 28) = w0 at *
  have lv := st_loadVV S0
  have H0 := hide (show _ ∧ _ from ⟨Q0, B0⟩)
  clear S0 Q0 B0
  generalize vsC s.V = VS at *
  go_upto_region 3 with fail
  go_loopw [12] (fun i wl => ∃ k : Nat, k ≤ 6 ∧ i = .int .i64 (k : Int) ∧ Hid (Df.QAt wl (w.heap.size + 1) (pN n k) ∧ Below w.heap.size w wl)) (fun i _ => (6 - intOf i).toNat)
  case atStart => exact ⟨0, by omega, rfl, H0.out⟩
  case round =>
    obtain ⟨k, hk, rfl, HR⟩ := hrel
    by_cases hk6 : k < 6
    · have hkk : (k : Int) < 6 := by omega
      have hk0 : (0 : Int) ≤ (k : Int) := by omega
      have hix := fun wx => HIX.out k hk6 wx
      obtain ⟨t0, t1⟩ := HT.out k hk6
      have hnk := HN.out k
      have hlt1 := HR.out.1.lt
      have q1 := HR.out.1.one hk6
      have f1 := HR.out.1.facts.2 k
      have hq : IntKind.i64.wrap ((s.V k).tok.tdiv 100) = (s.V k).tok / 100 := by rw [Int.tdiv_eq_ediv_of_nonneg t0]; exact wrapI (by omega) (by omega)
      have hdv := HR.out.2.size
      cases hj : (s.V k).jail
      · rw [hj, if_neg (by simp)] at hnk
        have Q2 := (HR.out.1.put hk6 (n k)).alloc (.cells #[.int .i64 (s.V k).tok, .int .i64 (s.V k).sh, .int .i64 (s.V k).lost, .bool false, .bool (s.V k).dead] 26)
        rw [pN_put n hk6, hnk] at Q2
        have B2 := (HR.out.2.setCell (p := ⟨w.heap.size + 1, k, none⟩) (by show w.heap.size ≤ w.heap.size + 1; omega) (.int .i64 ((s.V k).tok / 100))).alloc (by simp [World.setCell]; exact HR.out.2.size) (.cells #[.int .i64 (s.V k).tok, .int .i64 (s.V k).sh, .int .i64 (s.V k).lost, .bool false, .bool (s.V k).dead] 26)
        have HZ := hide (show _ ∧ _ from ⟨Q2, B2⟩)
        have HNK := hide hnk
        rw [hj] at hix
        clear Q2 B2 HR hnk hj
        generalize pN n k k = z0 at *
        go_wp2
        exact ⟨⟨k + 1, by omega, by go_num, HZ.out⟩, by simp [intOf]; omega⟩
      · rw [hj, if_pos rfl] at hnk
        have Q2 := HR.out.1.alloc (.cells #[.int .i64 (s.V k).tok, .int .i64 (s.V k).sh, .int .i64 (s.V k).lost, .bool true, .bool (s.V k).dead] 26)
        rw [pN_same n hnk] at Q2
        have B2 := HR.out.2.alloc HR.out.2.size (.cells #[.int .i64 (s.V k).tok, .int .i64 (s.V k).sh, .int .i64 (s.V k).lost, .bool true, .bool (s.V k).dead] 26)
        have HZ := hide (show _ ∧ _ from ⟨Q2, B2⟩)
        rw [hj] at hix
        clear Q2 B2 HR hnk hj
        generalize pN n k k = z0 at *
        go_wp2
        exact ⟨⟨k + 1, by omega, by go_num, HZ.out⟩, by simp [intOf]; omega⟩
    · obtain rfl : k = 6 := by omega
      have Q3 : Df.QAt wr (w.heap.size + 1) n := HR.out.1
      have B3 := HR.out.2
      have HX := hide (show _ ∧ _ from ⟨Q3, B3⟩)
      have z3 : w.heap.size + 1 < wr.heap.size := Q3.lt
      clear Q3 B3 HR H0 HIX HT HN lv
      obtain ⟨w3, rfl⟩ : ∃ w3, w3 = wr := ⟨_, rfl⟩
      go_upto_region 10 with fail
      go_loopw [6, 25] (fun v i wl => ∃ k : Nat, k ≤ 6 ∧ i = .int .i64 (k : Int) ∧ Hid (Pows wl w3.heap.size v (Df.those (fun v => decide (0 < n v) && decide (ahN n v 6 < 4)) n k)) ∧ Hid (Below w3.heap.size w3 wl)) (fun _ i _ => (6 - intOf i).toNat)
      case atStart => exact ⟨0, by omega, rfl, Pows.nil _ _, Below.refl _ _⟩
      case round =>
        obtain ⟨k, hk, rfl, HOW, HB⟩ := hrel
        by_cases hk6 : k < 6
        · have hkk : (k : Int) < 6 := by omega
          have hk0 : (0 : Int) ≤ (k : Int) := by omega
          have HC := hide (Df.those_succ (fun v => decide (0 < n v) && decide (ahN n v 6 < 4)) n k)
          have hlen := Df.those_len (fun v => decide (0 < n v) && decide (ahN n v 6 < 4)) n k
          obtain ⟨w4, rfl⟩ : ∃ w4, w4 = wr := ⟨_, rfl⟩
          go_upto_region 14 with fail
          go_loopw [8, 28] (fun a j wl => ∃ m : Nat, m ≤ 6 ∧ j = .int .i64 (m : Int) ∧ a = .int .i64 (ahN n k m : Int) ∧ Hid (Pows wl w3.heap.size u6 (Df.those (fun v => decide (0 < n v) && decide (ahN n v 6 < 4)) n k) ∧ Below w3.heap.size w3 wl)) (fun _ j _ => (6 - intOf j).toNat)
          case atStart => exact ⟨0, by omega, rfl, rfl, HOW.out, HB.out⟩
          case round =>
            obtain ⟨m, hm, rfl, rfl, HD⟩ := hrel
            have hbq : Below w3.heap.size w3 wr := HD.out.2
            have ck : wr.cell? ⟨w.heap.size + 1, k, none⟩ = some (.int .i64 (n k)) := (HX.out.1.later hbq z3).one hk6
            have hA := ahN_le n k m
            by_cases hm6 : m < 6
            · have hmm : (m : Int) < 6 := by omega
              have hm0 : (0 : Int) ≤ (m : Int) := by omega
              have cm : wr.cell? ⟨w.heap.size + 1, m, none⟩ = some (.int .i64 (n m)) := (HX.out.1.later hbq z3).one hm6
              have HS : Hid (ahN n k (m + 1) = if n k < n m ∨ (n m = n k ∧ m < k) then ahN n k m + 1 else ahN n k m) := rfl
              generalize ahN n k m = A at *
              generalize n m = nm at *
              generalize n k = nk at *
              have hz4 : w.heap.size + 1 < wr.heap.size := by have := hbq.size; omega
              have HBQ := hide hbq
              clear hbq
              by_cases h1 : nk < nm
              · have HS1 : Hid (ahN n k (m + 1) = A + 1) := by rw [Hid, HS.out, if_pos (.inl h1)]
                go_upto_region 16 with fail
                go_quiet (fail)
                simp only [Exit.then]
                apply_assumption
                go_wp2
                go_roundw
                case rel => exact ⟨m + 1, by omega, by go_num, by rw [HS1.out]; go_num, HD.out.1, below_drewN HBQ.out nq⟩
                case measure => simp [intOf]; omega
              · by_cases h2 : nm = nk
                · subst h2
                  by_cases h3 : m < k
                  · have HS1 : Hid (ahN n k (m + 1) = A + 1) := by rw [Hid, HS.out, if_pos (.inr ⟨rfl, h3⟩)]
                    have h3' : (m : Int) < (k : Int) := by omega
                    go_upto_region 16 with fail
                    go_quiet (fail)
                    simp only [Exit.then]
                    apply_assumption
                    go_wp2
                    go_roundw
                    case rel => exact ⟨m + 1, by omega, by go_num, by rw [HS1.out]; go_num, HD.out.1, below_drewN HBQ.out nq⟩
                    case measure => simp [intOf]; omega
                  · have HS1 : Hid (ahN n k (m + 1) = A) := by rw [Hid, HS.out, if_neg (by omega)]
                    have h3' : ¬ (m : Int) < (k : Int) := by omega
                    go_upto_region 16 with fail
                    go_quiet (fail)
                    simp only [Exit.then]
                    apply_assumption
                    go_wp2
                    go_roundw
                    case rel => exact ⟨m + 1, by omega, by go_num, by rw [HS1.out], HD.out.1, below_drewN HBQ.out nq⟩
                    case measure => simp [intOf]; omega
                · have HS1 : Hid (ahN n k (m + 1) = A) := by rw [Hid, HS.out, if_neg (by omega)]
                  have h2' : (nm == nk) = false := by simpa using h2
                  go_upto_region 16 with fail
                  go_quiet (fail)
                  simp only [Exit.then]
                  apply_assumption
                  go_wp2
                  go_roundw
                  case rel => exact ⟨m + 1, by omega, by go_num, by rw [HS1.out], HD.out.1, below_drewN HBQ.out nq⟩
                  case measure => simp [intOf]; omega
            · obtain rfl : m = 6 := by omega
              generalize ahN n k 6 = A at *
              generalize n k = nk at *
              have hown := HD.out.1
              have HBQ := hide hbq
              have hz4 : w.heap.size + 1 < wr.heap.size := by have := hbq.size; omega
              clear hbq HOW HB HD
              have hsz2 : w3.heap.size ≤ wr.heap.size := HBQ.out.size
              by_cases hp : 0 < nk
              · by_cases h4 : A < 4
                · have h4' : (A : Int) < 4 := by omega
                  go_wp2_with (at_builtin; refine wpList_append_own_at _ rfl _ _ 33 rfl w3.heap.size 74 i0 (.agg #[.int .i64 0, .int .i64 0]) 2 16 Tryz.underlying33 hi hz0 hz1 hz2 rfl (by decide) _ _ _ rfl (World.ownsRow.alloc hown _) ⟨wr.heap.size, 0, none⟩ 1 1 [.int .i64 (k : Int), .int .i64 nk] rfl rfl (pw_news _ _ _ _) (by intro u hu; simp at hu; rcases hu with rfl | rfl <;> rfl) (by unfold maxLen; omega) (by omega) (by simp; omega) ?_; intro v' w1 hown' hgrow _ hat)
                  have hb : Below w3.heap.size w3 w1 := Pows.grow hown HBQ.out hgrow (Nat.le_refl _) hsz2
                  go_roundw
                  case rel => have HP : Hid (Pows w1 w3.heap.size v' (Df.those (fun v => decide (0 < n v) && decide (ahN n v 6 < 4)) n (k + 1))) := (by rw [Hid, HC.out, if_pos (by simp [hp, h4])]; exact Pows.append hown' rfl); first | exact ⟨k + 1, by omega, by go_num, HP, hb⟩ | ((repeat apply Exists.intro); exact ⟨⟨k + 1, by omega, by go_num, HP, hb⟩, rfl⟩)
                  case measure => simp [intOf]; omega
                · have h4' : ¬ (A : Int) < 4 := by omega
                  have HOW2 := hide hown
                  clear hown
                  go_wp2
                  go_roundw
                  case rel => exact ⟨k + 1, by omega, by go_num, by rw [HC.out, if_neg (by simp [h4])]; exact HOW2.out, HBQ⟩
                  case measure => simp [intOf]; omega
              · have HOW2 := hide hown
                clear hown
                go_wp2
                go_roundw
                case rel => exact ⟨k + 1, by omega, by go_num, by rw [HC.out, if_neg (by simp [hp])]; exact HOW2.out, HBQ⟩
                case measure => simp [intOf]; omega
        · obtain rfl : k = 6 := by omega
          go_wp2
          go_ret
          have h6 := HL6.out
          exact ⟨_, rfl, (Rep.pows HOW.out (by omega)).mono fun b _ h => by have := HX.out.2.size; omega, HX.out.2.trans (HB.out.mono HX.out.2.size)⟩
end Go.Proofs.YtjghbciepinofaaGreat.Pv

set_option maxRecDepth 100000
namespace Go.Proofs.YtjghbciepinofaaGreat.Pv
open Go.RowKit
theorem ixL0 (w : World) (a0 a1 a2 a3 a4 a5 a6 a7 a8 a9 a10 a11 a12 a13 a14 a15 a16 a17 a18 a19 a20 a21 a22 a23 a24 a25 a26 a27 : Value) : (Instr.index 42 (.agg #[a0, a1, a2, a3, a4, a5, a6, a7, a8, a9, a10, a11, a12, a13, a14, a15, a16, a17, a18, a19, a20, a21, a22, a23, a24, a25, a26, a27]) (.int .i64 0)).run Tryz.prog w = .ok (.agg #[a0, a1, a2, a3, a4, a5, a6, a7, a8, a9, a10, a11, a12, a13]) w := by kernel_rfl
theorem ixL1 (w : World) (a0 a1 a2 a3 a4 a5 a6 a7 a8 a9 a10 a11 a12 a13 a14 a15 a16 a17 a18 a19 a20 a21 a22 a23 a24 a25 a26 a27 : Value) : (Instr.index 42 (.agg #[a0, a1, a2, a3, a4, a5, a6, a7, a8, a9, a10, a11, a12, a13, a14, a15, a16, a17, a18, a19, a20, a21, a22, a23, a24, a25, a26, a27]) (.int .i64 1)).run Tryz.prog w = .ok (.agg #[a14, a15, a16, a17, a18, a19, a20, a21, a22, a23, a24, a25, a26, a27]) w := by kernel_rfl
theorem ixL (w : World) (p : Pr) (v : PrV) (k : Nat) (hk : k < 2) : (Instr.index 42 (.agg (lkL (p.L 0) (v.l 0) ++ lkL (p.L 1) (v.l 1)).toArray) (.int .i64 (k : Int))).run Tryz.prog w = .ok (.agg (lkL (p.L k) (v.l k)).toArray) w := by
  match k, hk with
  | 0, _ => exact ixL0 w _ _ _ _ _ _ _ _ _ _ _ _ _ _ _ _ _ _ _ _ _ _ _ _ _ _ _ _
  | 1, _ => exact ixL1 w _ _ _ _ _ _ _ _ _ _ _ _ _ _ _ _ _ _ _ _ _ _ _ _ _ _ _ _
theorem infoLks : (Tryz.prog.info? 42).map (·.size) = some 28 := by kernel_rfl
theorem pr_links {w : World} {b : Nat} {p : Pr} {v : PrV} (h : CAt 47 w b (prC p v)) : w.rangeAt b 66 (lkL (p.L 0) (v.l 0) ++ lkL (p.L 1) (v.l 1)) := h.part fun j x hx => by
  have hj : j < 28 := (List.getElem?_eq_some_iff.1 hx).1
  by_cases h14 : j < 14
  · rw [List.getElem?_append_left (by exact h14)] at hx
    have := pr_link (p := p) (v := v) 0 (by omega) j h14
    rw [Nat.zero_mul, Nat.add_zero] at this
    rw [this]; exact hx
  · obtain ⟨i, rfl⟩ : ∃ i, j = 14 + i := ⟨j - 14, by omega⟩
    rw [List.getElem?_append_right (by show 14 ≤ _; omega)] at hx
    have e : 14 + i - (lkL (p.L 0) (v.l 0)).length = i := by show 14 + i - 14 = i; omega
    rw [e] at hx
    have := pr_link (p := p) (v := v) 1 (by omega) i (by omega)
    rw [show 66 + 1 * 14 + i = 66 + (14 + i) by omega] at this
    rw [this]; exact hx
attribute [local go_sem ↓] loadS_eq
set_option maxHeartbeats 8000000 in
set_option maxRecDepth 1000000 in
theorem goodp_any (p : Pr) (v : PrV) (P : Nat → Prop) (w : World) (hp : PIn P w p v) :
    Calls Tryz.prog 45 #[.agg (prC p v)] w fun e w' => e = .returned (.bool (goodP p)) ∧ Below w.heap.size w w' := by
  have HG := hide (goodP_gg p)
  generalize goodP p = G at *
  obtain ⟨Aw, Cw, bw, ow, ews, Ws, -, -⟩ := hp.ws.wsAt
  have hgs := fun (wx : World) (hb : Below w.heap.size w wx) => rgoods_any p.s Aw bw ow Cw wx (Ws.over hb)
  rw [← ews] at hgs
  have HGS := hide hgs
  have HP := hide hp
  clear hp hgs ews Ws
  obtain ⟨cs, hcs⟩ : ∃ cs, prC p v = cs := ⟨_, rfl⟩
  rw [hcs]
  have HCS := hide hcs
  clear hcs
  go_enter Tryz.func45, Tryz.ntmps45
  go_upto_region 1 with fail
  have C1 : CAt 47 (w.alloc (.cells cs 47)) w.heap.size (prC p v) := by rw [HCS.out]; exact CAt.new _ w cs
  have B1 : Below w.heap.size w (w.alloc (.cells cs 47)) := (Below.refl _ w).alloc (Nat.le_refl _) _
  generalize w.alloc (.cells cs 47) = w1 at *
  have HX := hide (show _ ∧ _ from ⟨C1, B1⟩)
  obtain ⟨⟨a0, a1, a2, a3, a4, a5⟩, a6⟩ := pr_facts C1
  clear C1 B1 HCS
  by_cases h1 : goodS p.s = true ∧ 0 ≤ p.h ∧ p.h ≤ 1099511627775 ∧ 0 ≤ p.t ∧ p.t ≤ 1099511627776 ∧ setB (-1) p.set = true
  · obtain ⟨q1, q2, q3, q4, q5, q6⟩ := h1
    have HONE := hide (show (goodS p.s && decide (0 ≤ p.h) && decide (p.h ≤ 1099511627775) && decide (0 ≤ p.t) && decide (p.t ≤ 1099511627776) && setB (-1) p.set) = true by simp [q1, q2, q3, q4, q5, q6])
    have HST := hide (fun wx hb => isset_rep p.set v.set P wx (HP.out.set.over hb))
    rw [q1] at HGS
    rw [q6] at HST
    clear q1 q6
    go_upto_region 3 with (first
      | (go_at_call 91; refine (HGS.out _ HX.out.2).mono ?_; rintro e w2 ⟨rfl, hb2⟩; have HY := hide (show _ ∧ _ from ⟨HX.out.1.over hb2, HX.out.2.trans (hb2.mono HX.out.2.size)⟩); clear a0 a1 a2 a3 a4 a5 a6 hb2; obtain ⟨⟨a0, a1, a2, a3, a4, a5⟩, a6⟩ := pr_facts HY.out.1)
      | (go_at_call 92; refine (HST.out _ HY.out.2).mono ?_; rintro e w3 ⟨rfl, hb3⟩; have HZ := hide (show _ ∧ _ from ⟨HY.out.1.over hb3, HY.out.2.trans (hb3.mono HY.out.2.size)⟩); clear a0 a1 a2 a3 a4 a5 a6 hb3))
    clear HGS HST HX HY
    go_upto_region 3 with fail
    apply wp_region_lit
    iterate 3 go_step
    refine wpList_load_mid rfl 42 _ rfl w.heap.size 66 rfl _ _ (pr_links HZ.out.1) Tryz.underlying42 rfl (by rw [infoLks]; rfl) ?_
    have hix := fun (wx : World) (k : Nat) (hk : k < 2) => ixL wx p v k hk
    generalize (lkL (p.L 0) (v.l 0) ++ lkL (p.L 1) (v.l 1)).toArray = c28 at *
    have HIX := hide hix
    clear hix
    go_simp
    go_upto_region 4 with fail
    go_loopw [42] (fun i wl => ∃ (k : Nat), k ≤ 2 ∧ i = .int .i64 (k : Int) ∧ Hid (Below w3.heap.size w3 wl) ∧ Hid (∀ c, c < k → goodLk p.h (p.L c) = true)) (fun i _ => (2 - intOf i).toNat)
    case atStart => exact ⟨0, by omega, rfl, Below.refl _ _, fun c hc => absurd hc (by omega)⟩
    case round =>
      obtain ⟨k, hk, rfl, HB, HA⟩ := hrel
      by_cases hk2 : k < 2
      · have hkk : (k : Int) < 2 := by omega
        have hi1 := fun wx => HIX.out wx k hk2
        have hBw : Below w.heap.size w wr := HZ.out.2.trans (HB.out.mono HZ.out.2.size)
        have hl1 := (HP.out.lk k hk2).keep (w' := wr) fun b _ hlt => hBw.block b hlt
        have hone : ((lkL (p.L k) (v.l k)).toArray).all (·.oneCell') = true := by rw [Array.all_eq_true_iff_forall_mem]; exact fun u hu => lk_one hl1 u (by simpa using hu)
        go_upto_region 5 with fail
        apply wp_region_lit
        iterate 6 go_step
        have CZ := CAt.new 41 wr #[.bool false, .bool false, .int .i64 0, .slice none 0 0, .bool false, .slice none 0 0, .slice none 0 0, .slice none 0 0, .int .i64 0, .bool false, .int .i64 0, .int .i64 0, .int .i64 0, .int .i64 0]
        have BZ : Below wr.heap.size wr (wr.alloc (.cells #[.bool false, .bool false, .int .i64 0, .slice none 0 0, .bool false, .slice none 0 0, .slice none 0 0, .slice none 0 0, .int .i64 0, .bool false, .int .i64 0, .int .i64 0, .int .i64 0, .int .i64 0] 41)) := (Below.refl _ wr).alloc (Nat.le_refl _) _
        refine wpList_store_mid rfl 41 _ _ rfl wr.heap.size 0 (lkL (p.L k) (v.l k)).toArray rfl rfl (CZ.there 0 _ (by show 0 + 14 ≤ 14; omega)) (by rw [infoLk]; rfl) hone ?_
        have C5 := CAt.setAll (ds := (lkL (p.L k) (v.l k)).toArray) CZ rfl
        have B5 := below_sets (b := wr.heap.size) (Nat.le_refl _) ((lkL (p.L k) (v.l k)).toArray).toList 0 _ BZ
        have hx4 : w.heap.size < wr.heap.size := Nat.lt_of_lt_of_le HZ.out.1.lt HB.out.size
        generalize (wr.alloc (.cells #[.bool false, .bool false, .int .i64 0, .slice none 0 0, .bool false, .slice none 0 0, .slice none 0 0, .slice none 0 0, .int .i64 0, .bool false, .int .i64 0, .int .i64 0, .int .i64 0, .int .i64 0] 41)).setCells wr.heap.size 0 ((lkL (p.L k) (v.l k)).toArray).toList = w5 at *
        have HL := hide hl1
        have D5 := hide (show _ ∧ _ ∧ _ ∧ _ from ⟨C5, (HZ.out.1.over HB.out).later B5 hx4, B5, hBw.trans (B5.mono hBw.size)⟩)
        have HBk := hide (HB.out.trans (B5.mono HB.out.size))
        clear C5 CZ BZ B5 hl1 hone hi1 hBw HB
        obtain ⟨Ad, Cd', ed, sd, -, cd, -⟩ := (HL.out.done.over D5.out.2.2.1).open (inC_length _) (by decide)
        obtain ⟨c0, c1, c2, c3, c4, c5, ⟨c6, c7, c8, c9⟩, -⟩ := lk_facts D5.out.1
        rw [ed] at c5
        have HGk := hide (fun h => HG.out.lks k hk2 h)
        have HDN := hide cd
        have hdl : (p.L k).done.length ≤ 17592186044405 := by omega
        clear cd sd
        go_simp
        go_upto_region 8 with fail
        generalize hxk : p.L k = x at *
        generalize v.l k = u at *
        have HXK := hide hxk
        clear hxk
        rename World => w5
        go_loopw [5, 48] (fun s5 i wl => ∃ (j : Nat) (last : Int), j ≤ x.done.length ∧ i = .int .i64 (j : Int) ∧ s5 = .int .i64 last ∧ Hid (riseB (-1) x.done = riseB last (x.done.drop j)) ∧ w5 = wl) (fun _ i _ => x.done.length - (intOf i).toNat)
        case atStart => exact ⟨0, -1, Nat.zero_le _, rfl, rfl, rfl, rfl⟩
        case round =>
          obtain ⟨j, last, hj, rfl, rfl, HR, hw5⟩ := hrel
          subst hw5
          by_cases hlt : j < x.done.length
          · have hjI : (j : Int) < (x.done.length : Int) := by omega
            obtain ⟨y, hy, hd⟩ := drop_at' hlt
            obtain ⟨bd, od, rfl, -, -, hcell⟩ := HDN.out (by omega)
            have gy : x.done.getD j 0 = y := by simp [List.getD, hy]
            have e0 := hcell _ _ (inC_get x.done j hlt)
            rw [gy] at e0
            have HE := hide (show riseB (-1) x.done = ((decide (last < y) && decide (y ≤ 5)) && riseB y (x.done.drop (j + 1))) by have := HR.out; rw [hd] at this; exact this)
            clear hcell gy hy hd HR
            by_cases q1 : last < y ∧ y ≤ 5
            · obtain ⟨q1, q2⟩ := q1
              have HE2 := hide (show riseB (-1) x.done = riseB y (x.done.drop (j + 1)) by rw [HE.out]; simp [q1, q2])
              clear HE
              go_wp2
              first | exact ⟨⟨j + 1, y, by omega, by go_num, rfl, HE2, (by first | rfl | trivial)⟩, by simp [intOf]; omega⟩ | ((repeat apply Exists.intro); exact ⟨⟨j + 1, y, by omega, by go_num, rfl, HE2, (by first | rfl | trivial)⟩, rfl⟩)
            · have e : G = false := HGk.out (by
                have h9 : riseB (-1) x.done = false := by
                  rw [HE.out]
                  have : (decide (last < y) && decide (y ≤ 5)) = false := by rw [Bool.eq_false_iff]; intro h; simp at h; exact q1 h
                  rw [this, Bool.false_and]
                simp only [goodLk, h9, Bool.false_and])
              subst e
              have HBz := hide D5.out.2.2.2
              clear HE HG HGk HL D5 HBk HP HZ HA HIX HONE
              have hcs : ¬ last < y ∨ (last < y ∧ ¬ y ≤ 5) := by omega
              clear q1
              rcases hcs with q1 | ⟨q1, q2⟩
              all_goals
                go_wp2
                go_ret
                exact ⟨rfl, HBz.out⟩
          · obtain rfl : j = x.done.length := by omega
            have hr : riseB (-1) x.done = true := by have := HR.out; rw [List.drop_length] at this; exact this
            clear HR HDN
            have g0 := (pr_facts D5.out.2.1).1.1
            obtain ⟨A1, C1, A2, C2, sb, so, db, dO, es, eu, hL, -, -⟩ := RepC.line (HL.out.said.over D5.out.2.2.1) (HL.out.due.over D5.out.2.2.1)
            have hln := fun (wx : World) (hb : Below w5.heap.size w5 wx) => Ln.rgood_any x.out A1 A2 C1 C2 sb so db dO wx (hL.later hb)
            rw [← es, ← eu] at hln
            have HLN := hide hln
            have HST := hide (fun (wx : World) (hb : Below w5.heap.size w5 wx) => isset_rep x.told u.told P wx ((HL.out.told.over D5.out.2.2.1).over hb))
            have HE := hide D5.out.2.2.2
            have HF := HBk
            clear hln es eu hL
            have hGx : (!(x.on && x.gone) && decide (0 ≤ x.base) && decide (x.base ≤ p.h) && setB (-1) x.told && Ln.goodL x.out) = false → G = false := fun h => HGk.out (by simp only [goodLk, h, Bool.and_false])
            have hGy : (!(x.on && x.gone) && decide (0 ≤ x.base) && decide (x.base ≤ p.h) && setB (-1) x.told && Ln.goodL x.out) = true → goodLk p.h x = true := fun h => by simp only [goodLk, hr, h, Bool.and_self]
            clear HGk hr
            generalize setB (-1) x.told = gt at *
            generalize Ln.goodL x.out = gl at *
            generalize x.on = xo at *
            generalize x.gone = xg at *
            generalize x.base = xb at *
            generalize x.fresh = xf at *
            by_cases h9 : (xo && xg) = false ∧ 0 ≤ xb ∧ xb ≤ p.h ∧ gt = true ∧ gl = true
            · obtain ⟨q1, q2, q3, rfl, rfl⟩ := h9
              have hA2 := hGy (by simp [q1, q2, q3])
              have HA2 := hide hA2
              clear hA2 hGx hGy
              have hcs : xo = false ∨ (xo = true ∧ xg = false) := by cases xo <;> simp_all
              clear q1
              rcases hcs with rfl | ⟨rfl, rfl⟩
              all_goals
                go_upto_region 16 with (first
                | (go_at_call 92; refine (HST.out _ (Below.refl _ _)).mono ?_; rintro e w6 ⟨rfl, hb6⟩; have E6 := hide (show _ ∧ _ from ⟨D5.out.1.over hb6, hb6⟩); clear c0 c1 c2 c3 c4 c5 c6 c7 c8 c9 g0; obtain ⟨c0, c1, c2, c3, c4, c5, ⟨c6, c7, c8, c9⟩, -⟩ := lk_facts E6.out.1; have HE := hide (D5.out.2.2.2.trans (hb6.mono D5.out.2.2.2.size)); have HF := hide (HBk.out.trans (hb6.mono HBk.out.size)))
                | (go_at_call 93; refine (HLN.out _ E6.out.2).mono ?_; rintro e w7 ⟨rfl, hb7⟩; have HE := hide (HE.out.trans (hb7.mono HE.out.size)); have HF := hide (HF.out.trans (hb7.mono HF.out.size))))
                have HAk : Hid (∀ c, c < k + 1 → goodLk p.h (p.L c) = true) := fun c hc => by
                  by_cases e : c = k
                  · subst e; rw [HXK.out]; exact HA2.out
                  · exact HA.out c (by omega)
                clear HE HA HA2 HL D5 E6 HST HLN HBk
                go_wp2
                first | exact ⟨⟨k + 1, by omega, by go_num, HF, HAk⟩, by simp [intOf]; omega⟩ | ((repeat apply Exists.intro); exact ⟨⟨k + 1, by omega, by go_num, HF, HAk⟩, rfl⟩)
            · have e : G = false := hGx (by rw [Bool.eq_false_iff]; intro h; simp only [Bool.and_eq_true, Bool.not_eq_true', decide_eq_true_eq] at h; exact h9 ⟨h.1.1.1.1, h.1.1.1.2, h.1.1.2, h.1.2, h.2⟩)
              subst e
              clear hGx hGy HG HP HZ HA HIX HONE
              have hcs : (xo = true ∧ xg = true) ∨ ((xo = false ∨ (xo = true ∧ xg = false)) ∧ (¬ 0 ≤ xb ∨ (0 ≤ xb ∧ ¬ xb ≤ p.h) ∨ (0 ≤ xb ∧ xb ≤ p.h ∧ gt = false) ∨ (0 ≤ xb ∧ xb ≤ p.h ∧ gt = true ∧ gl = false))) := by
                cases xo <;> cases xg <;> cases gt <;> cases gl <;> simp_all <;> omega
              clear h9
              rcases hcs with ⟨rfl, rfl⟩ | ⟨rfl | ⟨rfl, rfl⟩, q2 | ⟨q2, q3⟩ | ⟨q2, q3, rfl⟩ | ⟨q2, q3, rfl, rfl⟩⟩
              all_goals
                go_wp2_with (first
                | (go_at_call 92; refine (HST.out _ (Below.refl _ _)).mono ?_; rintro e w6 ⟨rfl, hb6⟩; have E6 := hide (show _ ∧ _ from ⟨D5.out.1.over hb6, hb6⟩); clear c0 c1 c2 c3 c4 c5 c6 c7 c8 c9 g0; obtain ⟨c0, c1, c2, c3, c4, c5, ⟨c6, c7, c8, c9⟩, -⟩ := lk_facts E6.out.1; have HE := hide (D5.out.2.2.2.trans (hb6.mono D5.out.2.2.2.size)); have HF := hide (HBk.out.trans (hb6.mono HBk.out.size)))
                | (go_at_call 93; refine (HLN.out _ E6.out.2).mono ?_; rintro e w7 ⟨rfl, hb7⟩; have HE := hide (HE.out.trans (hb7.mono HE.out.size)); have HF := hide (HF.out.trans (hb7.mono HF.out.size))))
                go_ret
                exact ⟨rfl, HE.out⟩
      · obtain rfl : k = 2 := by omega
        rename World => w9
        have HY := hide (show _ ∧ _ from ⟨HZ.out.1.over HB.out, HZ.out.2.trans (HB.out.mono HZ.out.2.size)⟩)
        obtain ⟨z, hzl, hzr, hzi⟩ := HP.out.q
        obtain ⟨Aq, Cq, eq, sq, -, cq, -⟩ := hzr.open (quL_length _ _ hzl) (by decide)
        have a5 := (pr_facts HY.out.1).1.2.2.2.2.2
        rw [eq] at a5
        have HQ := hide (show _ ∧ _ ∧ _ from ⟨hzl, hzi, cq⟩)
        have hq63 : p.q.length ≤ 1800000000000 := by omega
        clear hzl hzi cq hzr eq sq HB HZ HIX
        go_upto_region 18 with fail
        clear a5
        go_loopw [95] (fun i wl => ∃ (k : Nat), k ≤ p.q.length ∧ i = .int .i64 (k : Int) ∧ Hid (Below w9.heap.size w9 wl) ∧ Hid (∀ (i : Nat) (x : Int × Pkt), i < k → p.q[i]? = some x → goodQ p.L x = true)) (fun i _ => p.q.length - (intOf i).toNat)
        case atStart => exact ⟨0, Nat.zero_le _, rfl, Below.refl _ _, fun i x hi => absurd hi (by omega)⟩
        case round =>
          obtain ⟨k, hk, rfl, HB, HN⟩ := hrel
          by_cases hlt : k < p.q.length
          · have hkI : (k : Int) < (p.q.length : Int) := by omega
            obtain ⟨x, hx⟩ : ∃ x, p.q[k]? = some x := ⟨_, List.getElem?_eq_getElem hlt⟩
            obtain ⟨y, hy⟩ : ∃ y, z[k]? = some y := ⟨_, List.getElem?_eq_getElem (by rw [HQ.out.1]; exact hlt)⟩
            have hin := HQ.out.2.1 k x y hx hy
            obtain ⟨y1, y2⟩ := y
            obtain ⟨⟨B1, n1, D1, ey1, -⟩, ⟨B2, n2, D2, ey2, -⟩⟩ := id hin
            dsimp only at ey1 ey2
            subst ey1 ey2
            have hBw : Below w.heap.size w wr := HY.out.2.trans (HB.out.mono HY.out.2.size)
            obtain ⟨bq, oq, rfl, -, hbl, hcell⟩ := HQ.out.2.2 (by omega)
            have hc : ∀ j, j < 7 → ∀ u, (akL x (.slice B1 n1 D1, .slice B2 n2 D2))[j]? = some u → wr.cell? ⟨bq, oq + k * 7 + j, none⟩ = some u := fun j hj u hu => by
              rw [hBw.cell (p := ⟨bq, oq + k * 7 + j, none⟩) hbl, Nat.add_assoc]
              exact hcell _ _ ((quL_get p.q z k x _ j hx hy hj).trans hu)
            have e0 := hc 0 (by omega) _ rfl
            have e1 := hc 1 (by omega) _ rfl
            have e2 := hc 2 (by omega) _ rfl
            have e3 := hc 3 (by omega) _ rfl
            have e4 := hc 4 (by omega) _ rfl
            have e5 := hc 5 (by omega) _ rfl
            have e6 := hc 6 (by omega) _ rfl
            rw [Nat.add_zero] at e0
            have HGq := hide (fun h => HG.out.qus k x hx h)
            have HXK := hide hx
            obtain ⟨S1, T1, S2, T2, sb, so, db, dO, es, eu, hL⟩ := Rep.lies (hin.1.over hBw) (hin.2.over hBw)
            have hgp := fun (wx : World) (hb : Below wr.heap.size wr wx) => Cd.gp_any x.2.k x.2.i x.2.v x.2.n x.2.S x.2.D S1 S2 T1 T2 sb so db dO wx (hL.later hb)
            rw [← es, ← eu] at hgp
            have HGP := hide hgp
            have gl : ∀ c, c < 2 → wr.cell? ⟨w.heap.size, 66 + c * 14, none⟩ = some (.bool (p.L c).on) := fun c hc2 => by
              have := pr_link (p := p) (v := v) c hc2 0 (by omega)
              rw [Nat.add_zero] at this
              exact ((HY.out.1.over HB.out).cell _).trans this
            have HGL := hide gl
            have hglt : w.heap.size < wr.heap.size := (HY.out.1.over HB.out).lt
            clear hc hcell hin hx hy es eu hL hgp gl
            have hgq : ∀ L, goodQ L x = (decide (0 ≤ x.1) && decide (x.1 ≤ 1) && (L x.1.toNat).on && decide (x.2.k ≠ 1) && decide (Cd.goodN x.2.k x.2.i x.2.v x.2.n x.2.S x.2.D = 0)) := fun _ => rfl
            have hgq := hgq p.L
            generalize Cd.goodN x.2.k x.2.i x.2.v x.2.n x.2.S x.2.D = gn at *
            by_cases hr : 0 ≤ x.1 ∧ x.1 ≤ 1
            · obtain ⟨c, hcx, hc2⟩ : ∃ c : Nat, x.1 = (c : Int) ∧ c < 2 := ⟨x.1.toNat, by omega, by omega⟩
              have el := HGL.out c hc2
              rw [hcx] at e0 hgq
              have hci : (c : Int) ≤ 1 := by omega
              have hc0 : (0 : Int) ≤ (c : Int) := by omega
              have hc2I : (c : Int) < 2 := by omega
              have HC0 := hide (show (decide (0 ≤ (c : Int)) && decide ((c : Int) ≤ 1)) = true by simp [hci])
              rw [Int.toNat_natCast] at hgq
              have HBn := hide (show Below wr.heap.size wr (wr.alloc (.cells #[.int .i64 (c : Int), .int .i64 x.2.k, .int .i64 x.2.i, .int .i64 x.2.v, .int .i64 x.2.n, .slice B1 n1 D1, .slice B2 n2 D2] 79)) from (Below.refl _ wr).alloc (Nat.le_refl _) _)
              have HBw := hide (hBw.trans (HBn.out.mono hBw.size))
              have HBk := hide (HB.out.trans (HBn.out.mono HB.out.size))
              have HE := HBw
              have HF := HBk
              have HV := hide hgq
              clear hgq hBw hr hcx
              generalize (p.L c).on = lo at *
              by_cases hq : lo = true ∧ x.2.k ≠ 1 ∧ gn = 0
              · obtain ⟨rfl, q1, rfl⟩ := hq
                have hgood : goodQ p.L x = true := by rw [HV.out, HC0.out]; simp [q1]
                have HN2 : Hid (∀ (i : Nat) (y : Int × Pkt), i < k + 1 → p.q[i]? = some y → goodQ p.L y = true) := fun i y hi hy => by
                  by_cases e : i = k
                  · subst e; rw [HXK.out] at hy; cases hy; exact hgood
                  · exact HN.out i y (by omega) hy
                have hk1 : (x.2.k == 1) = false := by simpa using q1
                clear hgood HN HV HGq HG HQ HP HXK HA
                go_upto_region 22 with (go_at_call 94; refine (HGP.out _ (by exact HBn.out)).mono ?_; rintro e w7 ⟨rfl, hb7⟩; have HE := hide (HBw.out.trans (hb7.mono HBw.out.size)); have HF := hide (HBk.out.trans (hb7.mono HBk.out.size)))
                clear HE HBw HBk HBn HGP HGL
                go_wp2
                go_roundw
                case rel => (repeat apply Exists.intro); exact ⟨⟨k + 1, by omega, by go_num, HF, HN2⟩, rfl⟩
                case measure => simp [intOf]; omega
              · have e : G = false := HGq.out (by
                  rw [HV.out, HC0.out]
                  rw [Bool.eq_false_iff]
                  intro h
                  simp only [Bool.true_and, Bool.and_eq_true, decide_eq_true_eq] at h
                  exact hq ⟨h.1.1, h.1.2, h.2⟩)
                subst e
                have hcs : lo = false ∨ (lo = true ∧ (x.2.k == 1) = true) ∨ (lo = true ∧ (x.2.k == 1) = false ∧ (gn != 0) = true) := by
                  cases lo
                  · exact .inl rfl
                  · by_cases q1 : x.2.k = 1
                    · exact .inr (.inl ⟨rfl, by simpa using q1⟩)
                    · exact .inr (.inr ⟨rfl, by simpa using q1, by simp; intro q2; exact hq ⟨rfl, q1, q2⟩⟩)
                clear hq HV HGq HG HQ HP HXK HA HN
                rcases hcs with rfl | ⟨rfl, q1⟩ | ⟨rfl, q1, q2⟩
                all_goals
                  go_wp2_with (go_at_call 94; refine (HGP.out _ (by exact HBn.out)).mono ?_; rintro e w7 ⟨rfl, hb7⟩; have HE := hide (HBw.out.trans (hb7.mono HBw.out.size)); have HF := hide (HBk.out.trans (hb7.mono HBk.out.size)))
                  go_ret
                  exact ⟨rfl, HE.out⟩
            · have e : G = false := HGq.out (by
                rw [hgq]
                have : (decide (0 ≤ x.1) && decide (x.1 ≤ 1)) = false := by rw [Bool.eq_false_iff]; intro h; simp at h; exact hr h
                simp only [this, Bool.false_and])
              subst e
              have HBn := hide (show Below wr.heap.size wr (wr.alloc (.cells #[.int .i64 x.1, .int .i64 x.2.k, .int .i64 x.2.i, .int .i64 x.2.v, .int .i64 x.2.n, .slice B1 n1 D1, .slice B2 n2 D2] 79)) from (Below.refl _ wr).alloc (Nat.le_refl _) _)
              have HE := hide (hBw.trans (HBn.out.mono hBw.size))
              have hcs : x.1 < 0 ∨ (0 ≤ x.1 ∧ 1 < x.1) := by omega
              clear hgq HGq HG HQ HP HXK HA HN HGP HGL hBw hr
              rcases hcs with q1 | ⟨q1, q2⟩
              all_goals
                go_wp2
                go_ret
                exact ⟨rfl, HE.out⟩
          · obtain rfl : k = p.q.length := by omega
            have e : G = true := HG.out.all HONE.out HA.out (fun i x hx => HN.out i x (List.getElem?_eq_some_iff.1 hx).1 hx)
            subst e
            have HBz := hide (HY.out.2.trans (HB.out.mono HY.out.2.size))
            clear HG HQ HP HY HA HN HB HONE
            go_wp2
            go_ret
            exact ⟨rfl, HBz.out⟩
  · have e := HG.out.one (by
      rw [Bool.eq_false_iff]
      intro h
      simp only [Bool.and_eq_true, decide_eq_true_eq] at h
      exact h1 ⟨h.1.1.1.1.1, h.1.1.1.1.2, h.1.1.1.2, h.1.1.2, h.1.2, h.2⟩)
    subst e
    have HST := hide (fun wx hb => isset_rep p.set v.set P wx (HP.out.set.over hb))
    generalize goodS p.s = gs at *
    generalize setB (-1) p.set = gt at *
    have hcs : gs = false ∨ (gs = true ∧ ¬ 0 ≤ p.h) ∨ (gs = true ∧ 0 ≤ p.h ∧ ¬ p.h ≤ 1099511627775) ∨ (gs = true ∧ 0 ≤ p.h ∧ p.h ≤ 1099511627775 ∧ ¬ 0 ≤ p.t) ∨ (gs = true ∧ 0 ≤ p.h ∧ p.h ≤ 1099511627775 ∧ 0 ≤ p.t ∧ ¬ p.t ≤ 1099511627776) ∨ (gs = true ∧ 0 ≤ p.h ∧ p.h ≤ 1099511627775 ∧ 0 ≤ p.t ∧ p.t ≤ 1099511627776 ∧ gt = false) := by
      cases gs
      · exact .inl rfl
      · cases gt
        · by_cases q2 : 0 ≤ p.h <;> by_cases q3 : p.h ≤ 1099511627775 <;> by_cases q4 : 0 ≤ p.t <;> by_cases q5 : p.t ≤ 1099511627776 <;> simp_all
        · by_cases q2 : 0 ≤ p.h <;> by_cases q3 : p.h ≤ 1099511627775 <;> by_cases q4 : 0 ≤ p.t <;> by_cases q5 : p.t ≤ 1099511627776 <;> simp_all
    clear h1 HG
    rcases hcs with rfl | ⟨rfl, h2⟩ | ⟨rfl, h2, h3⟩ | ⟨rfl, h2, h3, h4⟩ | ⟨rfl, h2, h3, h4, h5⟩ | ⟨rfl, h2, h3, h4, h5, rfl⟩
    all_goals
      go_wp2_with (first
        | (go_at_call 91; refine (HGS.out _ HX.out.2).mono ?_; rintro e w2 ⟨rfl, hb2⟩; have HY := hide (show _ ∧ _ from ⟨HX.out.1.over hb2, HX.out.2.trans (hb2.mono HX.out.2.size)⟩); clear a0 a1 a2 a3 a4 a5 a6 hb2; obtain ⟨⟨a0, a1, a2, a3, a4, a5⟩, a6⟩ := pr_facts HY.out.1; have HE := hide HY.out.2)
        | (go_at_call 92; refine (HST.out _ HY.out.2).mono ?_; rintro e w3 ⟨rfl, hb3⟩; have HE := hide (HY.out.2.trans (hb3.mono HY.out.2.size))))
      go_ret
      exact ⟨rfl, HE.out⟩
end Go.Proofs.YtjghbciepinofaaGreat.Pv

