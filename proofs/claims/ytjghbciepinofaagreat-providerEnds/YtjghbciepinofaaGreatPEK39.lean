/- Parts of the proof: PVG0 SSL SRL MG1. -/
import Derived.Test.YtjghbciepinofaaGreatRows
import Derived.Test.YtjghbciepinofaaGreatPEK26
import Derived.Test.YtjghbciepinofaaGreatPEK37
import Derived.Test.YtjghbciepinofaaGreatPEK44
import Derived.Test.YtjghbciepinofaaGreatPEK45
import Derived.Test.YtjghbciepinofaaGreatPEK46
set_option maxRecDepth 100000
namespace Go.Proofs.YtjghbciepinofaaGreat.Pv
open Go.RowKit
def goodLk (h : Int) (x : Lk) : Bool := riseB (-1) x.done && (!(x.on && x.gone) && decide (0 ≤ x.base) && decide (x.base ≤ h) && setB (-1) x.told && Ln.goodL x.out)
def goodQ (L : Nat → Lk) (a : Int × Pkt) : Bool := decide (0 ≤ a.1) && decide (a.1 ≤ 1) && (L a.1.toNat).on && decide (a.2.k ≠ 1) && decide (Cd.goodN a.2.k a.2.i a.2.v a.2.n a.2.S a.2.D = 0)
/-- P7.1 -/
def goodP (p : Pr) : Bool := (goodS p.s && decide (0 ≤ p.h) && decide (p.h ≤ 1099511627775) && decide (0 ≤ p.t) && decide (p.t ≤ 1099511627776) && setB (-1) p.set) && (goodLk p.h (p.L 0) && goodLk p.h (p.L 1)) && p.q.all (goodQ p.L)
/-- what makes a good provider, one by one -/
structure GG (p : Pr) (G : Bool) : Prop where
  one : (goodS p.s && decide (0 ≤ p.h) && decide (p.h ≤ 1099511627775) && decide (0 ≤ p.t) && decide (p.t ≤ 1099511627776) && setB (-1) p.set) = false → G = false
  lks : ∀ k, k < 2 → goodLk p.h (p.L k) = false → G = false
  qus : ∀ (i : Nat) (x : Int × Pkt), p.q[i]? = some x → goodQ p.L x = false → G = false
  all : (goodS p.s && decide (0 ≤ p.h) && decide (p.h ≤ 1099511627775) && decide (0 ≤ p.t) && decide (p.t ≤ 1099511627776) && setB (-1) p.set) = true → (∀ k, k < 2 → goodLk p.h (p.L k) = true) → (∀ (i : Nat) (x : Int × Pkt), p.q[i]? = some x → goodQ p.L x = true) → G = true
theorem goodP_gg (p : Pr) : GG p (goodP p) := by
  refine ⟨fun h => by simp only [goodP, h, Bool.false_and], fun k hk h => ?_, fun i x hx h => ?_, fun h1 h2 h3 => ?_⟩
  · have e : (goodLk p.h (p.L 0) && goodLk p.h (p.L 1)) = false := by
      match k, hk with
      | 0, _ => rw [h, Bool.false_and]
      | 1, _ => rw [h, Bool.and_false]
    simp only [goodP, e, Bool.and_false, Bool.false_and]
  · have e : p.q.all (goodQ p.L) = false := by
      rw [List.all_eq_false]
      exact ⟨x, List.mem_of_getElem? hx, by rw [h]; simp⟩
    simp only [goodP, e, Bool.and_false]
  · have e : p.q.all (goodQ p.L) = true := by
      rw [List.all_eq_true]
      intro x hx
      obtain ⟨i, hi⟩ := List.getElem?_of_mem hx
      exact h3 i x hi
    simp only [goodP, h1, h2 0 (by omega), h2 1 (by omega), e, Bool.and_self]
end Go.Proofs.YtjghbciepinofaaGreat.Pv

set_option maxRecDepth 100000
namespace Go.Proofs.YtjghbciepinofaaGreat
open Go.RowKit
set_option maxHeartbeats 8000000 in
theorem sslash_yes (s : St) (ao : Option Addr) (sb so c v : Nat) (h f : Int) (w : World) (hW : WsAt w ao sb so s.W) (hg : goodS s = true) (hv : v < 6) (hf : 0 ≤ f ∧ f ≤ 1000) :
    Calls Tryz.prog 150 #[.agg (stC s (.slice ao s.W.length c)), .int .i64 (v : Int), .int .i64 h, .int .i64 f] w fun e w' => ∃ A C, e = .returned (.tuple #[.agg (stC (slashS s v h f) (.slice A (slashS s v h f).W.length C)), .int .i64 (ptN (s.V v).tok f + slN v h f s.W), .int .i64 0]) ∧ OwnW w.heap.size w' A C (slashS s v h f).W ∧ Below w.heap.size w w' := by
  have SS := (SAt.new w (stC s (.slice ao s.W.length c))).alloc (.cells Z63 32)
  have RR := SAt.new2 w (.cells (stC s (.slice ao s.W.length c)) 32) Z63
  have HB : Hid (Below w.heap.size w ((w.alloc (.cells (stC s (.slice ao s.W.length c)) 32)).alloc (.cells Z63 32))) := ((Below.refl _ w).alloc (Nat.le_refl _) _).alloc (by simp) _
  have HW := hide hW
  have hRf := refE_good hg hv
  have hv' : (v : Int) < 6 := by omega
  have hv0 : (0 : Int) ≤ (v : Int) := by omega
  obtain ⟨n1, n2, n3, n4, n5, n6, n7, n8, n9, n10, n11⟩ := slash_nums hg hv h hf
  obtain ⟨b0, -⟩ := slash_burn hg hv h hf
  have hP := part_any (s.V v).tok f
  have hSl := fun w hw => slashWaits_any ao s.W c sb so v h f w hw hf n10 n9 n11
  have hBu := fun w => burn_any s.b (ptN (s.V v).tok f) (slN v h f s.W) w
  rw [b0] at hBu
  rw [n1] at hP
  have eS : slashS s v h f = { s with b := (burnR s.b (ptN (s.V v).tok f) (slN v h f s.W)).1, V := setV s.V v (slashV (s.V v) (ptN (s.V v).tok f) (slN v h f s.W)), W := slW v h f s.W } := rfl
  generalize (burnR s.b (ptN (s.V v).tok f) (slN v h f s.W)).1 = B at *
  have hWs : (slashS s v h f).W = slW v h f s.W := rfl
  generalize slashS s v h f = r at *
  generalize ptN (s.V v).tok f = pb at *
  generalize slN v h f s.W = pw at *
  rw [hWs]
  generalize slW v h f s.W = Ws at *
  obtain ⟨n20, n21⟩ := n2
  obtain ⟨n30, n31⟩ := n3
  obtain ⟨n50, n51⟩ := n5
  have hw0 : wrap64 (pb + pw) = pb + pw := wrap64_small (by omega) (by omega)
  have HES := hide eS
  clear hW hf hg n1 n9 n10 n11 b0 eS hWs
  go_enter Tryz.func150, Tryz.ntmps150
  go_upto_region 1 with fail
  change Code.wp Tryz.prog _ _ _ ((w.alloc (.cells (stC s (.slice ao s.W.length c)) 32)).alloc (.cells Z63 32))
  generalize (w.alloc (.cells (stC s (.slice ao s.W.length c)) 32)).alloc (.cells Z63 32) = w0 at *
  go_upto_region 2 with (go_at_call 144; refine (refused_any s ao sb so c w.heap.size v _ SS (by exact HW.out.over HB.out)).mono ?_; rintro e w1 ⟨rfl, h1⟩)
  have HB1 := hide (HB.out.trans (h1.mono HB.out.size))
  have S1 := SS.later h1 SS.lt
  have R1 := RR.later h1 RR.lt
  clear SS RR h1 HB
  have c0 := (S1.val v hv).1
  have x7 := (st_cells S1).2.2.2.2.2.2.2.1
  have hz1 : w.heap.size + 1 < w1.heap.size := R1.lt
  have hz1a : w.heap.size < w1.heap.size := by omega
  go_upto_region 14 with (first
    | (go_at_call 164; refine (hP _).mono ?_; rintro e w2 ⟨rfl, h2⟩; have HB2 := hide (HB1.out.trans (h2.mono (by omega))); have S2 := S1.later h2 S1.lt; have R2 := R1.later h2 R1.lt; have hz2 := R2.lt; clear x7; have x7 := (st_cells S2).2.2.2.2.2.2.2.1; have hz2a := S2.lt; clear h2)
    | (go_at_call 165; refine (hSl _ (by exact HW.out.over HB2.out)).mono ?_; rintro e w3 ⟨A, C, rfl, hO3, h3⟩; have HB3 := hide (HB2.out.trans (h3.mono (by omega))); have S3 := S2.later h3 S2.lt; have R3 := R2.later h3 R2.lt; have HO3 := hide hO3; have hz3 := R3.lt; have hz3a := S3.lt; obtain ⟨x0, x1, x2, x3, x4, x5, x6, _, _⟩ := st_cells S3; clear h3 hO3)
    | (go_at_call 166; refine (hBu _).mono ?_; rintro e w4 ⟨rfl, h4⟩; have HB4 := hide (HB3.out.trans (h4.mono (by omega))); have S4 := S3.later h4 S3.lt; have R4 := R3.later h4 R3.lt; have HO4 := hide (HO3.out.over h4); have hz4 := R4.lt; clear h4 x0 x1 x2 x3 x4 x5 x6))
  have B5 : BAt (w4.alloc (.cells #[.int .i64 B.f0, .int .i64 B.f1, .int .i64 B.f2, .int .i64 B.f3, .int .i64 B.bo, .int .i64 B.wa, .int .i64 B.bu] 24)) w4.heap.size B.f0 B.f1 B.f2 B.f3 B.bo B.wa B.bu := heap_alloc_new _ _
  have S5 := S4.alloc (.cells #[.int .i64 B.f0, .int .i64 B.f1, .int .i64 B.f2, .int .i64 B.f3, .int .i64 B.bo, .int .i64 B.wa, .int .i64 B.bu] 24)
  have R5 := R4.alloc (.cells #[.int .i64 B.f0, .int .i64 B.f1, .int .i64 B.f2, .int .i64 B.f3, .int .i64 B.bo, .int .i64 B.wa, .int .i64 B.bu] 24)
  have HB5 := hide (HB4.out.alloc (by omega) (.cells #[.int .i64 B.f0, .int .i64 B.f1, .int .i64 B.f2, .int .i64 B.f3, .int .i64 B.bo, .int .i64 B.wa, .int .i64 B.bu] 24))
  have HO5 := hide (HO4.out.over ((Below.refl _ w4).alloc (Nat.le_refl _) (.cells #[.int .i64 B.f0, .int .i64 B.f1, .int .i64 B.f2, .int .i64 B.f3, .int .i64 B.bo, .int .i64 B.wa, .int .i64 B.bu] 24)))
  generalize w4.alloc (.cells #[.int .i64 B.f0, .int .i64 B.f1, .int .i64 B.f2, .int .i64 B.f3, .int .i64 B.bo, .int .i64 B.wa, .int .i64 B.bu] 24) = w5 at *
  clear S1 R1 HB1 S2 R2 HB2 S3 R3 HB3 S4 R4 HB4 HO3 HO4 hP hSl hBu
  have hz5 : w4.heap.size < w5.heap.size := B5.lt
  have hz5a : w.heap.size < w5.heap.size := by omega
  have c0 := (S5.val v hv).1
  have c2 := (S5.val v hv).2.2.1
  have f0 := S5.free (7 + v * 5)
  go_upto_region 16 with fail
  have S6 := S5.set (7 + v * 5) (.int .i64 ((s.V v).tok - pb))
  rw [set_tok _ _ v hv] at S6
  have HBt := hide ((But.refl w.heap.size w5).set (7 + v * 5) (.int .i64 ((s.V v).tok - pb)))
  generalize w5.setCell ⟨w.heap.size, 7 + v * 5, none⟩ (.int .i64 ((s.V v).tok - pb)) = w6 at *
  clear c0 c2 f0
  have c2 := (S6.val v hv).2.2.1
  simp only [setV_at] at c2
  have f0 := S6.free (7 + v * 5 + 2)
  have hz6a : w.heap.size < w6.heap.size := S6.lt
  go_upto_region 17 with fail
  have S7 := S6.set (7 + v * 5 + 2) (.int .i64 ((s.V v).lost + (pb + pw)))
  rw [set_lost _ _ v hv] at S7
  have HBt2 := hide (HBt.out.set (7 + v * 5 + 2) (.int .i64 ((s.V v).lost + (pb + pw))))
  generalize w6.setCell ⟨w.heap.size, 7 + v * 5 + 2, none⟩ (.int .i64 ((s.V v).lost + (pb + pw))) = w7 at *
  have hz7a : w.heap.size < w7.heap.size := S7.lt
  have B7 : BAt w7 w4.heap.size B.f0 B.f1 B.f2 B.f3 B.bo B.wa B.bu := (HBt2.out.block _ (by omega)).trans B5
  have hz7b := B7.lt
  obtain ⟨x0, x1, x2, x3, x4, x5, x6, x7, _⟩ := st_cells S7
  obtain ⟨y0, y1, y2, y3, y4, y5, y6⟩ := B7.cells
  have g0 := S7.free 0
  have g1 := S7.free 1
  have g2 := S7.free 2
  have g3 := S7.free 3
  have g4 := S7.free 4
  have g5 := S7.free 5
  have g6 := S7.free 6
  have g61 := S7.free 61
  have hne : w4.heap.size ≠ w.heap.size := by omega
  clear c2 f0 S6 HBt
  go_upto_region 18 with fail
  change Code.wp Tryz.prog _ _ _ ((bset w7 w.heap.size B).setCell ⟨w.heap.size, 61, none⟩ (.slice A Ws.length C))
  have HBt3 : Hid (But w.heap.size w5 ((bset w7 w.heap.size B).setCell ⟨w.heap.size, 61, none⟩ (.slice A Ws.length C))) := (((((((HBt2.out.set 0 _).set 1 _).set 2 _).set 3 _).set 4 _).set 5 _).set 6 _).set 61 _
  have S8 := (set_bank S7 B).set 61 (.slice A Ws.length C)
  rw [set_sl] at S8
  have R8 := HBt3.out.stake (by omega) R5
  have HO8 : Hid (OwnW w2.heap.size ((bset w7 w.heap.size B).setCell ⟨w.heap.size, 61, none⟩ (.slice A Ws.length C)) A C Ws) := own_of HO5.out fun k' hk => HBt3.out.block _ (by have := (World.ownsRow.lt HO5.out k' hk).1; omega)
  have HB8 := hide (HB5.out.trans (HBt3.out.below (Nat.le_refl _)))
  generalize (bset w7 w.heap.size B).setCell ⟨w.heap.size, 61, none⟩ (.slice A Ws.length C) = w8 at *
  clear x0 x1 x2 x3 x4 x5 x6 x7 y0 y1 y2 y3 y4 y5 y6 g0 g1 g2 g3 g4 g5 g6 g61 S7 B7 B5 HBt2 HBt3 R5 HB5 HO5 S5
  have S9 : SAt w8 w.heap.size (stC r (.slice A Ws.length C)) := by
    have e : stC r (.slice A Ws.length C) = stC { ({ s with V := setV (setV s.V v { s.V v with tok := (s.V v).tok - pb }) v { setV s.V v { s.V v with tok := (s.V v).tok - pb } v with lost := (s.V v).lost + (pb + pw) } } : St) with b := B } (.slice A Ws.length C) := by
      rw [HES.out, setV_at]
      have hV : setV (setV s.V v { s.V v with tok := (s.V v).tok - pb }) v { s.V v with tok := (s.V v).tok - pb, lost := (s.V v).lost + (pb + pw) } = setV s.V v (slashV (s.V v) pb pw) := by
        funext i
        unfold setV slashV
        split <;> rfl
      rw [hV]
      rfl
    rw [e]; exact S8
  clear S8
  apply wp_region_lit
  refine wpList_load_mid rfl 32 _ rfl _ 0 rfl _ _ S9.range Tryz.underlying32 rfl (by rw [infoS]; rfl) ?_
  refine wpList_mv rfl _ rfl ?_
  refine wpList_store_mid rfl 32 _ _ rfl _ 0 (stC r (.slice A Ws.length C)) rfl rfl (R8.there 0 _ (by rw [Z63_size, stC_size]; omega)) (by rw [infoS]; rfl) (stC_one _ _ _ _) ?_
  go_wp2
  exact stake_end3 Tryz.results150 R8 rfl r _ _ _ _ ⟨A, C, rfl, own_base (own_of HO8.out fun k' hk => heap_sets (by have := (World.ownsRow.lt HO8.out k' hk).1; omega) _ _ _) (by omega), below_sets (by omega) _ _ _ HB8.out⟩ _ rfl rfl rfl rfl
end Go.Proofs.YtjghbciepinofaaGreat

set_option maxRecDepth 100000
namespace Go.Proofs.YtjghbciepinofaaGreat
open Go.RowKit
/-- a hold is given up -/
def relX (c : Nat) (h : Int) (x : Wt) : Wt := if c = 0 then (if x.h0 ≤ h then { x with h0 := 0 } else x) else (if x.h1 ≤ h then { x with h1 := 0 } else x)
def relW (c : Nat) (h : Int) (W : List Wt) : List Wt := W.map (relX c h)
theorem map_step (F : Wt → Wt) {W : List Wt} {k : Nat} {x : Wt} (hx : W[k]? = some x) : (W.take (k + 1)).map F ++ W.drop (k + 1) = ((W.take k).map F ++ W.drop k).set k (F x) ∧ ((W.take k).map F ++ W.drop k)[k]? = some x ∧ ((W.take k).map F ++ W.drop k).length = W.length := by
  obtain ⟨hk, he⟩ := List.getElem?_eq_some_iff.1 hx
  have hl : ((W.take k).map F).length = k := by rw [List.length_map, List.length_take]; omega
  have hd : W.drop k = x :: W.drop (k + 1) := by rw [← he]; exact List.drop_eq_getElem_cons hk
  refine ⟨?_, ?_, ?_⟩
  · rw [take_snoc hx, hd, List.map_append, List.set_append_right _ _ (by omega), hl, Nat.sub_self, List.append_assoc]
    rfl
  · rw [List.getElem?_append_right (by omega), hl, Nat.sub_self, hd]
    rfl
  · rw [List.length_append, List.length_map, ← List.length_append, List.take_append_drop]
theorem wsL_setg : ∀ (W : List Wt) (k : Nat) (x x' : Wt) (j : Nat) (v : Value), W[k]? = some x → j < 8 → wtL x' = (wtL x).set j v → wsL (W.set k x') = (wsL W).set (k * 8 + j) v
  | [], k, x, x', j, v, h, _, _ => by simp at h
  | z :: W, 0, x, x', j, v, h, hj, he => by
    simp at h
    subst h
    show wtL x' ++ wsL W = (wtL z ++ wsL W).set _ _
    rw [List.set_append_left _ _ (by rw [wtL_length]; omega), he]
    simp
  | z :: W, k + 1, x, x', j, v, h, hj, he => by
    have ih := wsL_setg W k x x' j v (by simpa using h) hj he
    show wtL z ++ wsL (W.set k _) = (wtL z ++ wsL W).set _ _
    rw [List.set_append_right _ _ (by rw [wtL_length]; omega), wtL_length, ih]
    congr 2
    omega
theorem OwnW.put {B : Nat} {w : World} {g C : Nat} {W : List Wt} (h : OwnW B w (some ⟨g, 0, none⟩) C W) {k : Nat} {x : Wt} (hx : W[k]? = some x) (x' : Wt) (j : Nat) (v : Value) (hj : j < 8) (he : wtL x' = (wtL x).set j v) : OwnW B (w.setCell ⟨g, k * 8 + j, none⟩ v) (some ⟨g, 0, none⟩) C (W.set k x') := by
  have h1 := (World.ownsRow.stored h (k * 8 + j) v).1
  unfold OwnW
  rw [wsL_setg W k x x' j v hx hj he, List.length_set]
  exact h1
theorem OwnW.holds {B : Nat} {w : World} {A : Option Addr} {C : Nat} {W : List Wt} (h : OwnW B w A C W) (h0 : 0 < W.length) : ∃ g, A = some ⟨g, 0, none⟩ ∧ B ≤ g ∧ g < w.heap.size ∧ ∀ k x, W[k]? = some x → (w.cell? ⟨g, k * 8 + 6, none⟩ = some (.int .i64 x.h0) ∧ w.cell? ⟨g, k * 8 + 7, none⟩ = some (.int .i64 x.h1) ∧ w.frozen? ⟨g, k * 8 + 6, none⟩ = false ∧ w.frozen? ⟨g, k * 8 + 7, none⟩ = false) := by
  have h' := h
  rcases h.2 with ⟨hv, hn⟩ | ⟨g, cap, cur, hv, hb, hg, hrest⟩
  · omega
  · cases hv
    refine ⟨g, rfl, hb, (Array.getElem?_eq_some_iff.1 hg).1, fun k x hx => ?_⟩
    have c : ∀ j v, (wtL x)[j]? = some v → j < 8 → w.cell? ⟨g, k * 8 + j, none⟩ = some v := fun j v hj hl => by
      have := World.ownsRow.cells h' (g := g) rfl (k * 8 + j) v ((wsL_get W k x j hx hl).trans hj)
      rwa [Addr.add_lit, Nat.zero_add] at this
    exact ⟨c 6 _ rfl (by omega), c 7 _ rfl (by omega), World.ownsRow.frozenAt h' _, World.ownsRow.frozenAt h' _⟩
end Go.Proofs.YtjghbciepinofaaGreat

set_option maxRecDepth 100000
namespace Go.Proofs.YtjghbciepinofaaGreat
structure Kp (s : St) (r : St × Int) : Prop where
  good : goodS r.1 = true
  bu : s.b.bu ≤ r.1.b.bu
  dead : ∀ k, k < 6 → (s.V k).dead = true → (r.1.V k).dead = true
  lost : ∀ k, k < 6 → (s.V k).lost ≤ (r.1.V k).lost
  no : r.2 ≠ 0 → r.1 = s
theorem Kp.same {s : St} (hg : goodS s = true) (e : Int) : Kp s (s, e) := ⟨hg, Int.le_refl _, fun _ _ h => h, fun _ _ => Int.le_refl _, fun _ => rfl⟩
theorem kp_slash {s : St} (hg : goodS s = true) {v : Nat} (hv : v < 6) (h : Int) {f : Int} (hf : 0 ≤ f ∧ f ≤ 1000) : Kp s (slashS s v h f, 0) := by
  obtain ⟨b0, b1, b2, b3, b4⟩ := slash_burn hg hv h hf
  obtain ⟨n1, n2, n3, n4, n5, n6, n7, n8, n9, n10, n11⟩ := slash_nums hg hv h hf
  refine ⟨slash_good hg hv h hf, by show s.b.bu ≤ (slashS s v h f).b.bu; omega, fun k hk hd => ?_, fun k hk => ?_, fun h => absurd rfl h⟩
  · show (setV s.V v _ k).dead = true
    unfold setV
    split
    · rename_i e; subst e; exact hd
    · exact hd
  · show (s.V k).lost ≤ (setV s.V v _ k).lost
    unfold setV
    split
    · rename_i e; subst e; show _ ≤ (s.V k).lost + _; omega
    · exact Int.le_refl _
theorem setJ_good {s : St} (hg : goodS s = true) {v : Nat} (hv : v < 6) {j d : Bool} (hjd : d = true → j = true) : goodS (setJ s v j d) = true := by
  rw [goodS_iff] at hg ⊢
  obtain ⟨h1, h2, h3, h4, h5, h6, h7, h8, h9⟩ := hg
  refine ⟨h1, h2, h3, h4, h5, fun k hk => ?_, ?_, h8, ?_⟩
  · obtain ⟨i1, i2, i3⟩ := h6 k hk
    show vOk (setV s.V v _ k) = true ∧ pshOk s.S k 4 = true ∧ psh s.S k 4 = (setV s.V v _ k).sh
    unfold setV
    by_cases hkv : k = v
    · subst hkv
      rw [if_pos rfl]
      rw [vOk_iff] at i1
      refine ⟨?_, i2, i3⟩
      rw [vOk_iff]
      exact ⟨i1.1, i1.2.1, i1.2.2.1, i1.2.2.2.1, hjd⟩
    · rw [if_neg hkv]
      exact ⟨i1, i2, i3⟩
  · show ptok (setV s.V v _) 6 = s.b.bo
    rw [ptok_set _ _ _ hv, h7]
    simp only
    omega
  · show plost (setV s.V v _) 6 = s.b.bu
    rw [plost_set _ _ _ hv, h9]
    simp only
    omega
theorem kp_pay {s : St} (hg : goodS s = true) (t : Int) : Kp s (payS s t, 0) := by
  obtain ⟨a1, a2, a3, a4⟩ := pay_all hg t
  exact ⟨pay_good hg t, by show s.b.bu ≤ (payS s t).b.bu; omega, fun k hk h => h, fun k hk => Int.le_refl _, fun h => absurd rfl h⟩
theorem relX_keeps (c : Nat) (h : Int) (x : Wt) : (relX c h x).num = x.num ∧ (relX c h x).d = x.d ∧ (relX c h x).v = x.v ∧ (relX c h x).hei = x.hei ∧ (relX c h x).due = x.due ∧ (relX c h x).amt = x.amt := by
  unfold relX
  repeat' split
  all_goals exact ⟨rfl, rfl, rfl, rfl, rfl, rfl⟩
theorem wOk_rel {next h : Int} {c : Nat} : ∀ {W : List Wt} {last : Int}, wOk next last W = true → wOk next last (relW c h W) = true
  | [], _, _ => rfl
  | x :: W, last, hw => by
    obtain ⟨k1, k2, k3, k4, k5, k6⟩ := relX_keeps c h x
    simp only [wOk, Bool.and_eq_true] at hw
    have ih := wOk_rel (c := c) (h := h) hw.2
    have h1 := hw.1
    simp only [relW, List.map_cons, wOk, wOk1, Bool.and_eq_true, decide_eq_true_eq, k1, k2, k3, k4, k5, k6] at h1 ⊢
    exact ⟨h1, ih⟩
theorem amts_rel (c : Nat) (h : Int) : ∀ W : List Wt, amts (relW c h W) = amts W
  | [] => rfl
  | x :: W => by
    show (relX c h x).amt + amts (relW c h W) = x.amt + amts W
    rw [amts_rel c h W, (relX_keeps c h x).2.2.2.2.2]
theorem kp_rel {s : St} (hg : goodS s = true) (c : Nat) (h : Int) : Kp s ({ s with W := relW c h s.W }, 0) := by
  refine ⟨?_, Int.le_refl _, fun _ _ h => h, fun _ _ => Int.le_refl _, fun h => absurd rfl h⟩
  rw [goodS_iff] at hg ⊢
  obtain ⟨h1, h2, h3, h4, h5, h6, h7, h8, h9⟩ := hg
  exact ⟨h1, h2, h3, by show (relW c h s.W).length ≤ 60; unfold relW; rw [List.length_map]; exact h4, wOk_rel h5, h6, h7, by show amts (relW c h s.W) = _; rw [amts_rel]; exact h8, h9⟩
end Go.Proofs.YtjghbciepinofaaGreat

