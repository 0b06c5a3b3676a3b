/- Parts of the proof: SJ2 SJ3 SH SK. -/
import Derived.Test.YtjghbciepinofaaGreatRows
import Derived.Test.YtjghbciepinofaaGreatPEK35
import Derived.Test.YtjghbciepinofaaGreatPEK38
import Derived.Test.YtjghbciepinofaaGreatPEK43
import Derived.BigQuiet
import Derived.Deep.QuietTactic
import Derived.Deep.RegionHeld3
set_option maxRecDepth 100000
namespace Go.Proofs.YtjghbciepinofaaGreat
open Go.RowKit
theorem cell_sets {b k o : Nat} (hk : k ≠ b) (vs : List Value) (p : Nat) (w : World) : (w.setCells b p vs).cell? ⟨k, o, none⟩ = w.cell? ⟨k, o, none⟩ := World.cell?_of_block (w := w) (heap_sets hk vs p w)
theorem WsAt.sets {w : World} {ao : Option Addr} {b o g : Nat} {W : List Wt} (h : WsAt w ao b o W) (hg : 0 < W.length → b ≠ g) (vs : List Value) (p : Nat) : WsAt (w.setCells g p vs) ao b o W := by
  refine ⟨h.adr, h.len, fun i x hx => ?_⟩
  have hne : b ≠ g := hg (by have := (List.getElem?_eq_some_iff.1 hx).1; omega)
  obtain ⟨h0, h1, h2, h3, h4, h5, h6, h7⟩ := h.cell i x hx
  exact ⟨(cell_sets hne _ _ _).trans h0, (cell_sets hne _ _ _).trans h1, (cell_sets hne _ _ _).trans h2, (cell_sets hne _ _ _).trans h3, (cell_sets hne _ _ _).trans h4, (cell_sets hne _ _ _).trans h5, (cell_sets hne _ _ _).trans h6, (cell_sets hne _ _ _).trans h7⟩
theorem WsAt.set {w : World} {ao : Option Addr} {b o g p : Nat} {W : List Wt} {v : Value} (h : WsAt w ao b o W) (hg : 0 < W.length → b ≠ g) : WsAt (w.setCell ⟨g, p, none⟩ v) ao b o W := h.sets hg [v] p
theorem WsAt.alloc {w : World} {ao : Option Addr} {b o : Nat} {W : List Wt} (h : WsAt w ao b o W) (x : Obj) : WsAt (w.alloc x) ao b o W := h.over ((Below.refl _ w).alloc (Nat.le_refl _) x)
theorem WsAt.but {w w' : World} {ao : Option Addr} {b o g : Nat} {W : List Wt} (h : WsAt w ao b o W) (hb : But g w w') (hg : 0 < W.length → b ≠ g) : WsAt w' ao b o W := by
  refine ⟨h.adr, h.len, fun i x hx => ?_⟩
  have hne : b ≠ g := hg (by have := (List.getElem?_eq_some_iff.1 hx).1; omega)
  have k : ∀ o, w'.cell? ⟨b, o, none⟩ = w.cell? ⟨b, o, none⟩ := fun o => World.cell?_of_block (w := w) (hb.block b hne)
  obtain ⟨h0, h1, h2, h3, h4, h5, h6, h7⟩ := h.cell i x hx
  exact ⟨(k _).trans h0, (k _).trans h1, (k _).trans h2, (k _).trans h3, (k _).trans h4, (k _).trans h5, (k _).trans h6, (k _).trans h7⟩
end Go.Proofs.YtjghbciepinofaaGreat

set_option maxRecDepth 100000
namespace Go.Proofs.YtjghbciepinofaaGreat
open Go.RowKit
/-- a stake is loaded -/
def loadS (v : Value) : Sem Value := Instr.loadAt 32 v
theorem loadS_eq (v : Value) : Instr.loadAt 32 v = loadS v := rfl
theorem SAt.loadS {w : World} {b : Nat} {cs : Array Value} (h : SAt w b cs) (hs : cs.size = 63) : (loadS (.pointer (some ⟨b, 0, none⟩))).run Tryz.prog w = .ok (.agg cs) w := h.load hs
end Go.Proofs.YtjghbciepinofaaGreat

set_option maxRecDepth 100000
namespace Go.Proofs.YtjghbciepinofaaGreat
open Go.RowKit
theorem muldiv_any (a b c : Int) (w : World) (a1 : a ≤ 9223372036854775807) (b1 : b ≤ 9223372036854775807) (c1 : c ≤ 9223372036854775807) :
    Calls Tryz.prog 145 #[.int .i64 a, .int .i64 b, .int .i64 c] w fun e w' => e = .returned (.tuple #[.int .i64 (mdN a b c), .int .i64 (mdE a b c)]) ∧ Below w.heap.size w w' := Ra.muldiv a b c a1 b1 c1 w
theorem mdN_bound (a b c : Int) : 0 ≤ mdN a b c ∧ mdN a b c ≤ 1125899906842624 := by
  unfold mdN
  split
  · omega
  · rename_i h
    have h0 : 0 ≤ a * b := Int.mul_nonneg (by omega) (by omega)
    have h1 : 0 ≤ a * b / c := Int.ediv_nonneg h0 (by omega)
    split <;> omega
theorem shN_eq (x : Vd) (n : Int) : shN x n = if x.sh = 0 then n else if x.tok = 0 then 0 else if mdE n x.sh x.tok = 0 ∧ inA (x.sh + mdN n x.sh x.tok) = true then mdN n x.sh x.tok else 0 := rfl
theorem shE_eq (x : Vd) (n : Int) : shE x n = if x.sh = 0 then 0 else if x.tok = 0 then 8 else if mdE n x.sh x.tok = 0 ∧ inA (x.sh + mdN n x.sh x.tok) = true then if mdN n x.sh x.tok = 0 then 8 else 0 else 6 := rfl
set_option maxHeartbeats 1000000 in
theorem sharesFor_any (b o : Nat) (x : Vd) (n : Int) (w : World) (hn : n ≤ 1125899906842624) (hx : vOk x = true) (h0 : w.cell? ⟨b, o, none⟩ = some (.int .i64 x.tok)) (h1 : w.cell? ⟨b, o + 1, none⟩ = some (.int .i64 x.sh)) :
    Calls Tryz.prog 105 #[.pointer (some ⟨b, o, none⟩), .int .i64 n] w fun e w' => e = .returned (.tuple #[.int .i64 (shN x n), .int .i64 (shE x n)]) ∧ Below w.heap.size w w' := by
  obtain ⟨k1, k2, k3⟩ := vOk_amounts hx
  rw [inA_iff] at k1 k2 k3
  have hM := fun w => muldiv_any n x.sh x.tok w (by omega) (by omega) (by omega)
  have hI := inA_any (x.sh + mdN n x.sh x.tok)
  have HN := hide (shN_eq x n)
  have HE := hide (shE_eq x n)
  have hblt : b < w.heap.size := World.block_lt_of_cell? w _ h0
  clear hx
  obtain ⟨xt, xs, xl, xj, xd⟩ := x
  simp only at *
  have hb := mdN_bound n xs xt
  generalize shN ⟨xt, xs, xl, xj, xd⟩ n = rN at *
  generalize shE ⟨xt, xs, xl, xj, xd⟩ n = rE at *
  generalize mdN n xs xt = m at *
  generalize mdE n xs xt = er at *
  generalize inA (xs + m) = t at *
  go_enter Tryz.func105, Tryz.ntmps105
  go_upto_region 5 with fail
  all_goals first
    | (go_ret2; refine ⟨?_, Below.refl _ _⟩; have e1 := HN.out; have e2 := HE.out; simp_all; done)
    | skip
  go_region_held3 (fun wx => wx.cell? ⟨b, o, none⟩ = some (.int .i64 xt) ∧ wx.cell? ⟨b, o + 1, none⟩ = some (.int .i64 xs)) (first | go_keep | (refine ⟨?_, ?_⟩ <;> (rw [hbM.cell hblt]; simp [*])))
    (first | (go_at_call 145; refine (hM _).mono ?_; rintro e w1 ⟨rfl, hbM⟩))
  rename_i hh
  obtain ⟨g0, g1⟩ := hh
  have HB : Hid (Below w.heap.size w w1) := (Below.refl _ w).drew.trans hbM
  clear hbM
  go_wp2_with (go_at_call 121; refine (hI _).mono ?_; rintro e w2 ⟨rfl, rfl⟩)
  all_goals (go_ret2; refine ⟨?_, HB.out⟩; have e1 := HN.out; have e2 := HE.out; clear HN HE hM hI; simp_all)
end Go.Proofs.YtjghbciepinofaaGreat

set_option maxRecDepth 100000
namespace Go.Proofs.YtjghbciepinofaaGreat
open Go.RowKit
theorem deleg_ref {s : St} {d v n : Int} (h : refOfE s d v ≠ 0) : delegS s d v n = (s, refOfE s d v) := if_neg h
theorem deleg_dead {s : St} {d v n : Int} (h : refOfE s d v = 0) (h1 : (s.V v.toNat).dead = true) : delegS s d v n = (s, 15) := by rw [delegS, if_pos h, if_pos h1]
theorem deleg_range {s : St} {d v n : Int} (h : refOfE s d v = 0) (h1 : (s.V v.toNat).dead = false) (h2 : (decide (0 < n) && inA n) = false) : delegS s d v n = (s, 2) := by rw [delegS, if_pos h, if_neg (by simp [h1]), if_neg (by simp [h2])]
theorem deleg_shE {s : St} {d v n : Int} (h : refOfE s d v = 0) (h1 : (s.V v.toNat).dead = false) (h2 : (decide (0 < n) && inA n) = true) (h3 : shE (s.V v.toNat) n ≠ 0) : delegS s d v n = (s, shE (s.V v.toNat) n) := by rw [delegS, if_pos h, if_neg (by simp [h1]), if_pos h2, if_neg h3]
theorem deleg_bond {s : St} {d v n : Int} (h : refOfE s d v = 0) (h1 : (s.V v.toNat).dead = false) (h2 : (decide (0 < n) && inA n) = true) (h3 : shE (s.V v.toNat) n = 0) (h4 : (bondR s.b d n).2 ≠ 0) : delegS s d v n = (s, (bondR s.b d n).2) := by rw [delegS, if_pos h, if_neg (by simp [h1]), if_pos h2, if_pos h3, if_neg h4]
theorem deleg_ok {s : St} {d v n : Int} (h : refOfE s d v = 0) (h1 : (s.V v.toNat).dead = false) (h2 : (decide (0 < n) && inA n) = true) (h3 : shE (s.V v.toNat) n = 0) (h4 : (bondR s.b d n).2 = 0) : delegS s d v n = (addS { s with b := (bondR s.b d n).1 } d.toNat v.toNat n (shN (s.V v.toNat) n), 0) := by rw [delegS, if_pos h, if_neg (by simp [h1]), if_pos h2, if_pos h3, if_pos h4]
theorem ref_zero {s : St} {d v : Int} (h : refOfE s d v = 0) : goodS s = true ∧ (0 ≤ v ∧ v < 6) ∧ (0 ≤ d ∧ d < 4) := by
  unfold refOfE refE at h
  repeat' split at h
  all_goals first | (simp_all [isV_iff, isD_iff]; done) | omega
theorem good_vals {s : St} (h : goodS s = true) (k : Nat) (hk : k < 6) : vOk (s.V k) = true ∧ pshOk s.S k 4 = true := by
  unfold goodS at h
  simp only [Bool.and_eq_true] at h
  have := pvs_at h.1.2 hk
  unfold vsOk shOk at this
  simp only [Bool.and_eq_true] at this
  exact ⟨this.1, this.2.1⟩
theorem psh_at {S : Nat → Nat → Int} {v d : Nat} (h : pshOk S v 4 = true) (hd : d < 4) : inA (S d v) = true := by
  simp only [pshOk, Bool.and_eq_true] at h
  rcases (show d = 0 ∨ d = 1 ∨ d = 2 ∨ d = 3 by omega) with rfl | rfl | rfl | rfl
  · exact h.1.1.1.2
  · exact h.1.1.2
  · exact h.1.2
  · exact h.2
theorem set_b0 (s : St) (sl : Value) (x : Int) : (stC s sl).setIfInBounds 0 (.int .i64 x) = stC { s with b := { s.b with f0 := x } } sl := rfl
theorem set_b1 (s : St) (sl : Value) (x : Int) : (stC s sl).setIfInBounds 1 (.int .i64 x) = stC { s with b := { s.b with f1 := x } } sl := rfl
theorem set_b2 (s : St) (sl : Value) (x : Int) : (stC s sl).setIfInBounds 2 (.int .i64 x) = stC { s with b := { s.b with f2 := x } } sl := rfl
theorem set_b3 (s : St) (sl : Value) (x : Int) : (stC s sl).setIfInBounds 3 (.int .i64 x) = stC { s with b := { s.b with f3 := x } } sl := rfl
theorem set_b4 (s : St) (sl : Value) (x : Int) : (stC s sl).setIfInBounds 4 (.int .i64 x) = stC { s with b := { s.b with bo := x } } sl := rfl
theorem set_b5 (s : St) (sl : Value) (x : Int) : (stC s sl).setIfInBounds 5 (.int .i64 x) = stC { s with b := { s.b with wa := x } } sl := rfl
theorem set_b6 (s : St) (sl : Value) (x : Int) : (stC s sl).setIfInBounds 6 (.int .i64 x) = stC { s with b := { s.b with bu := x } } sl := rfl
/-- a bank's seven numbers are written into a stake -/
def bset (w : World) (b : Nat) (x : Bk) : World := ((((((w.setCell ⟨b, 0, none⟩ (.int .i64 x.f0)).setCell ⟨b, 1, none⟩ (.int .i64 x.f1)).setCell ⟨b, 2, none⟩ (.int .i64 x.f2)).setCell ⟨b, 3, none⟩ (.int .i64 x.f3)).setCell ⟨b, 4, none⟩ (.int .i64 x.bo)).setCell ⟨b, 5, none⟩ (.int .i64 x.wa)).setCell ⟨b, 6, none⟩ (.int .i64 x.bu)
theorem SAt.bset {w : World} {b c : Nat} {cs : Array Value} (h : SAt w c cs) (hc : c ≠ b) (x : Bk) : SAt (Go.Proofs.YtjghbciepinofaaGreat.bset w b x) c cs := ((((((h.other hc _).other hc _).other hc _).other hc _).other hc _).other hc _).other hc _
theorem bset_below {B b : Nat} {w w' : World} (h : Below B w w') (hB : B ≤ b) (x : Bk) : Below B w (bset w' b x) := ((((((h.setCell hB _).setCell hB _).setCell hB _).setCell hB _).setCell hB _).setCell hB _).setCell hB _
theorem set_bank {w : World} {b : Nat} {s : St} {sl : Value} (h : SAt w b (stC s sl)) (x : Bk) : SAt (bset w b x) b (stC { s with b := x } sl) := by
  have h0 := h.set 0 (.int .i64 x.f0)
  rw [set_b0] at h0
  have h1 := h0.set 1 (.int .i64 x.f1)
  rw [set_b1] at h1
  have h2 := h1.set 2 (.int .i64 x.f2)
  rw [set_b2] at h2
  have h3 := h2.set 3 (.int .i64 x.f3)
  rw [set_b3] at h3
  have h4 := h3.set 4 (.int .i64 x.bo)
  rw [set_b4] at h4
  have h5 := h4.set 5 (.int .i64 x.wa)
  rw [set_b5] at h5
  have h6 := h5.set 6 (.int .i64 x.bu)
  rw [set_b6] at h6
  exact h6
theorem shN_bound (x : Vd) {n : Int} (hn : n ≤ 1125899906842624) : shN x n ≤ 1125899906842624 ∧ (0 ≤ n → 0 ≤ shN x n) := by
  have := mdN_bound n x.sh x.tok
  unfold shN
  split
  · omega
  · split
    · omega
    · split <;> omega
theorem ref_of_good {s : St} {d v : Nat} (hg : goodS s = true) (hd : d < 4) (hv : v < 6) : refOfE s d v = 0 := by
  unfold refOfE refE
  rw [hg, isV_iff.2 (show (0 : Int) ≤ v ∧ (v : Int) < 6 by omega), isD_iff.2 (show (0 : Int) ≤ d ∧ (d : Int) < 4 by omega)]
  rfl
section
variable {f : Func} {w w1 : World} {s : St} {ao : Option Addr} {n c : Nat}
end
set_option maxHeartbeats 4000000 in
theorem deleg_no (s : St) (ao : Option Addr) (sb so c : Nat) (d v n : Int) (w : World) (hW : WsAt w ao sb so s.W) (r : St × Int) (h0 : refOfE s d v ≠ 0) (hr : r = (s, refOfE s d v)) :
    Calls Tryz.prog 64 #[.agg (stC s (.slice ao s.W.length c)), .int .i64 d, .int .i64 v, .int .i64 n] w fun e w' => e = .returned (.tuple #[.agg (stC r.1 (.slice ao s.W.length c)), .int .i64 r.2]) ∧ Below w.heap.size w w' := by
  have SS := (SAt.new w (stC s (.slice ao s.W.length c))).alloc (.cells Z63 32)
  have RR := SAt.new2 w (.cells (stC s (.slice ao s.W.length c)) 32) Z63
  have HB : Hid (Below w.heap.size w ((w.alloc (.cells (stC s (.slice ao s.W.length c)) 32)).alloc (.cells Z63 32))) := ((Below.refl _ w).alloc (Nat.le_refl _) _).alloc (by simp) _
  have HW := hide hW
  have HR := hide hr
  clear hW hr
  go_enter Tryz.func64, Tryz.ntmps64
  go_upto_region 1 with fail
  change Code.wp Tryz.prog _ _ _ ((w.alloc (.cells (stC s (.slice ao s.W.length c)) 32)).alloc (.cells Z63 32))
  generalize (w.alloc (.cells (stC s (.slice ao s.W.length c)) 32)).alloc (.cells Z63 32) = w0 at *
  go_upto_region 2 with (go_at_call 103; refine (refusedOf_any s ao sb so c w.heap.size d v _ SS (by exact HW.out.over HB.out)).mono ?_; rintro e w1 ⟨rfl, h1⟩)
  have HB1 : Hid (Below w.heap.size w w1) := HB.out.trans (h1.mono HB.out.size)
  have S1 := SS.later h1 SS.lt
  have R1 := RR.later h1 RR.lt
  clear SS RR h1 HB
  go_upto_region 3 with fail
  apply wp_region_lit
  refine wpList_load_mid rfl 32 _ rfl _ 0 rfl _ _ S1.range Tryz.underlying32 rfl (by rw [infoS]; rfl) ?_
  refine wpList_mv rfl _ rfl ?_
  refine wpList_store_mid rfl 32 _ _ rfl _ 0 (stC s (.slice ao s.W.length c)) rfl rfl (R1.there 0 _ (by rw [Z63_size, stC_size]; omega)) (by rw [infoS]; rfl) (stC_one _ _ _ _) ?_
  go_wp2
  exact stake_end2 Tryz.results64 R1 rfl HB1.out (by omega) s _ _ r HR.out _ rfl rfl rfl
set_option maxHeartbeats 4000000 in
theorem deleg_yes (s : St) (ao : Option Addr) (sb so c d v : Nat) (n : Int) (w : World) (hW : WsAt w ao sb so s.W) (r : St × Int) (hg : goodS s = true) (hd : d < 4) (hv : v < 6) (B : Bk) (er : Int)
    (hBond : ∀ w : World, Calls Tryz.prog 106 #[.agg #[.int .i64 s.b.f0, .int .i64 s.b.f1, .int .i64 s.b.f2, .int .i64 s.b.f3, .int .i64 s.b.bo, .int .i64 s.b.wa, .int .i64 s.b.bu], .int .i64 (d : Int), .int .i64 n] w fun e w' => e = .returned (.tuple #[.agg #[.int .i64 B.f0, .int .i64 B.f1, .int .i64 B.f2, .int .i64 B.f3, .int .i64 B.bo, .int .i64 B.wa, .int .i64 B.bu], .int .i64 er]) ∧ Below w.heap.size w w')
    (h1 : (s.V v).dead = true → r = (s, 15)) (h2 : (s.V v).dead = false → (decide (0 < n) && inA n) = false → r = (s, 2))
    (h3 : (s.V v).dead = false → (decide (0 < n) && inA n) = true → shE (s.V v) n ≠ 0 → r = (s, shE (s.V v) n))
    (h4 : (s.V v).dead = false → (decide (0 < n) && inA n) = true → shE (s.V v) n = 0 → er ≠ 0 → r = (s, er))
    (h5 : (s.V v).dead = false → (decide (0 < n) && inA n) = true → shE (s.V v) n = 0 → er = 0 → r = (addS { s with b := B } d v n (shN (s.V v) n), 0)) :
    Calls Tryz.prog 64 #[.agg (stC s (.slice ao s.W.length c)), .int .i64 (d : Int), .int .i64 (v : Int), .int .i64 n] w fun e w' => e = .returned (.tuple #[.agg (stC r.1 (.slice ao s.W.length c)), .int .i64 r.2]) ∧ Below w.heap.size w w' := by
  have SS := (SAt.new w (stC s (.slice ao s.W.length c))).alloc (.cells Z63 32)
  have RR := SAt.new2 w (.cells (stC s (.slice ao s.W.length c)) 32) Z63
  have HB : Hid (Below w.heap.size w ((w.alloc (.cells (stC s (.slice ao s.W.length c)) 32)).alloc (.cells Z63 32))) := ((Below.refl _ w).alloc (Nat.le_refl _) _).alloc (by simp) _
  have HW := hide hW
  have H1 := hide h1
  have H2 := hide h2
  have H3 := hide h3
  have H4 := hide h4
  have H5 := hide h5
  obtain ⟨hvo, hps⟩ := good_vals hg v hv
  have hS := isSome_any n
  have hRf := ref_of_good hg hd hv
  have hd' : (d : Int) < 4 := by omega
  have hv' : (v : Int) < 6 := by omega
  have hd0 : (0 : Int) ≤ (d : Int) := by omega
  have hv0 : (0 : Int) ≤ (v : Int) := by omega
  have hSF := fun w b o (hn : n ≤ 1125899906842624) => sharesFor_any b o (s.V v) n w hn hvo
  have hRe := fun w h => refusedOf_any s ao sb so c w.heap.size d v w h
  clear hW h1 h2 h3 h4 h5
  go_enter Tryz.func64, Tryz.ntmps64
  go_upto_region 1 with fail
  change Code.wp Tryz.prog _ _ _ ((w.alloc (.cells (stC s (.slice ao s.W.length c)) 32)).alloc (.cells Z63 32))
  generalize (w.alloc (.cells (stC s (.slice ao s.W.length c)) 32)).alloc (.cells Z63 32) = w0 at *
  go_upto_region 2 with (go_at_call 103; refine (refusedOf_any s ao sb so c w.heap.size d v _ SS (by exact HW.out.over HB.out)).mono ?_; rintro e w1 ⟨rfl, h1⟩)
  have HB1 : Hid (Below w.heap.size w w1) := HB.out.trans (h1.mono HB.out.size)
  have S1 := SS.later h1 SS.lt
  have R1 := RR.later h1 RR.lt
  obtain ⟨x0, x1, x2, x3, x4, x5, x6, x7, x8⟩ := st_cells S1
  obtain ⟨c0, c1, c2, c3, c4⟩ := S1.val v hv
  have hz1 : w.heap.size + 1 < w1.heap.size := R1.lt
  have HT : Hid ((decide (0 < n) && inA n) = true → 0 < n ∧ n ≤ 1125899906842624) := fun h => by simp only [Bool.and_eq_true, decide_eq_true_eq, inA_iff] at h; omega
  generalize (decide (0 < n) && inA n) = t at *
  clear SS RR h1 HB x7 x8 hRe c2 c3
  generalize hdd : (s.V v).dead = dd at *
  clear hdd
  go_upto_region 15 with (first
    | (go_at_call 104; refine (hS _).mono ?_; rintro e w2 ⟨rfl, rfl⟩)
    | (go_at_call 105; refine (hSF _ _ _ (by exact (HT.out (by simpa using ‹(!t) = false›)).2) c0 c1).mono ?_; rintro e w2 ⟨rfl, h2⟩; have HB2 : Hid (Below w.heap.size w w2) := HB1.out.trans (h2.mono (by omega)); have S2 := S1.later h2 S1.lt; have R2 := R1.later h2 R1.lt; clear x0 x1 x2 x3 x4 x5 x6; obtain ⟨x0, x1, x2, x3, x4, x5, x6, x7, x8⟩ := st_cells S2; have hz2 := R2.lt; clear h2 x7 x8)
    | (go_at_call 106; refine (hBond _).mono ?_; rintro e w3 ⟨rfl, h3⟩; have HB3 : Hid (Below w.heap.size w w3) := HB2.out.trans (h3.mono (by omega)); have S3 := S2.later h3 S2.lt; have R3 := R2.later h3 R2.lt; have hz3 : w.heap.size + 1 < w3.heap.size := R3.lt; have S4 := S3.alloc (.cells #[.int .i64 B.f0, .int .i64 B.f1, .int .i64 B.f2, .int .i64 B.f3, .int .i64 B.bo, .int .i64 B.wa, .int .i64 B.bu] 24); have R4 := R3.alloc (.cells #[.int .i64 B.f0, .int .i64 B.f1, .int .i64 B.f2, .int .i64 B.f3, .int .i64 B.bo, .int .i64 B.wa, .int .i64 B.bu] 24); have HB4 : Hid (Below w.heap.size w (w3.alloc (.cells #[.int .i64 B.f0, .int .i64 B.f1, .int .i64 B.f2, .int .i64 B.f3, .int .i64 B.bo, .int .i64 B.wa, .int .i64 B.bu] 24))) := HB3.out.alloc (by omega) _; clear h3 x0 x1 x2 x3 x4 x5 x6 S3 R3)
    | ((fail_if_success (go_not_at_region 6)); apply wp_region_lit; refine wpList_load_mid rfl 32 _ rfl _ 0 rfl _ _ S1.range Tryz.underlying32 rfl (by rw [infoS]; rfl) ?_; refine wpList_store_mid rfl 32 _ _ rfl _ 0 (stC s (.slice ao s.W.length c)) rfl rfl (R1.there 0 _ (by rw [Z63_size, stC_size]; omega)) (by rw [infoS]; rfl) (stC_one _ _ _ _) ?_)
    | ((fail_if_success (go_not_at_region 8)); apply wp_region_lit; refine wpList_load_mid rfl 32 _ rfl _ 0 rfl _ _ S1.range Tryz.underlying32 rfl (by rw [infoS]; rfl) ?_; refine wpList_store_mid rfl 32 _ _ rfl _ 0 (stC s (.slice ao s.W.length c)) rfl rfl (R1.there 0 _ (by rw [Z63_size, stC_size]; omega)) (by rw [infoS]; rfl) (stC_one _ _ _ _) ?_)
    | ((fail_if_success (go_not_at_region 11)); apply wp_region_lit; refine wpList_load_mid rfl 32 _ rfl _ 0 rfl _ _ S2.range Tryz.underlying32 rfl (by rw [infoS]; rfl) ?_; refine wpList_mv rfl _ rfl ?_; refine wpList_store_mid rfl 32 _ _ rfl _ 0 (stC s (.slice ao s.W.length c)) rfl rfl (R2.there 0 _ (by rw [Z63_size, stC_size]; omega)) (by rw [infoS]; rfl) (stC_one _ _ _ _) ?_)
    | ((fail_if_success (go_not_at_region 14)); apply wp_region_lit; refine wpList_load_mid rfl 32 _ rfl _ 0 rfl _ _ S4.range Tryz.underlying32 rfl (by rw [infoS]; rfl) ?_; refine wpList_mv rfl _ rfl ?_; refine wpList_store_mid rfl 32 _ _ rfl _ 0 (stC s (.slice ao s.W.length c)) rfl rfl (R4.there 0 _ (by rw [Z63_size, stC_size]; omega)) (by rw [infoS]; rfl) (stC_one _ _ _ _) ?_))
  · exact stake_end2 Tryz.results64 R1 rfl HB1.out (by omega) s _ _ r (H1.out ‹dd = true›) _ rfl rfl rfl
  · exact stake_end2 Tryz.results64 R1 rfl HB1.out (by omega) s _ _ r (H2.out ‹dd = false› (by simpa using ‹(!t) = true›)) _ rfl rfl rfl
  · exact stake_end2 Tryz.results64 R2 rfl HB2.out (by omega) s _ _ r (H3.out ‹dd = false› (by simpa using ‹(!t) = false›) (by simpa using ‹(shE (s.V v) n != 0) = true›)) _ rfl rfl rfl
  · exact stake_end2 Tryz.results64 R4 rfl HB4.out (by omega) s _ _ r (H4.out ‹dd = false› (by simpa using ‹(!t) = false›) (by simpa using ‹(shE (s.V v) n != 0) = false›) (by simpa using ‹(er != 0) = true›)) _ rfl rfl rfl
  · have HR : Hid (r = (addS { s with b := B } d v n (shN (s.V v) n), 0)) := H5.out ‹dd = false› (by simpa using ‹(!t) = false›) (by simpa using ‹(shE (s.V v) n != 0) = false›) (by simpa using ‹(er != 0) = false›)
    have hn := HT.out (by simpa using ‹(!t) = false›)
    obtain ⟨k1, k2, k3⟩ := vOk_amounts hvo
    have k4 := psh_at hps hd
    rw [inA_iff] at k1 k2 k4
    have k5 := shN_bound (s.V v) hn.2
    obtain ⟨x0, x1, x2, x3, x4, x5, x6, x7, x8⟩ := st_cells S4
    have f0 := S4.free 0
    have f1 := S4.free 1
    have f2 := S4.free 2
    have f3 := S4.free 3
    have f4 := S4.free 4
    have f5 := S4.free 5
    have f6 := S4.free 6
    have hne : w.heap.size ≠ w3.heap.size := by omega
    clear H1 H2 H3 H4 H5 HT hBond hSF hS c0 c1 c4 x7 x8 S1 S2 R1 R2 HB1 HB2 hvo hps k3
    go_upto_region 16 with fail
    change Code.wp Tryz.prog _ _ _ (bset (w3.alloc (.cells #[.int .i64 B.f0, .int .i64 B.f1, .int .i64 B.f2, .int .i64 B.f3, .int .i64 B.bo, .int .i64 B.wa, .int .i64 B.bu] 24)) w.heap.size B)
    have S5 := set_bank S4 B
    have R5 := R4.bset (b := w.heap.size) (by omega) B
    have HB5 := hide (bset_below HB4.out (Nat.le_refl _) B)
    generalize bset (w3.alloc (.cells #[.int .i64 B.f0, .int .i64 B.f1, .int .i64 B.f2, .int .i64 B.f3, .int .i64 B.bo, .int .i64 B.wa, .int .i64 B.bu] 24)) w.heap.size B = w5 at *
    have hA := sadd_any { s with b := B } (.slice ao s.W.length c) w.heap.size d v n (shN (s.V v) n) w5 S5 hd hv (by simp only; omega) (by simp only; omega) (by simp only; omega)
    clear x0 x1 x2 x3 x4 x5 x6 f0 f1 f2 f3 f4 f5 f6 S4 R4 HB3 HB4 S5
    go_upto_region 17 with (go_at_call 107; refine hA.mono ?_; rintro e w6 ⟨rfl, S6, hbut⟩)
    have R6 := hbut.stake (by omega) R5
    have HB6 := hide (HB5.out.trans (hbut.below (Nat.le_refl _)))
    apply wp_region_lit
    refine wpList_load_mid rfl 32 _ rfl _ 0 rfl _ _ S6.range Tryz.underlying32 rfl (by rw [infoS]; rfl) ?_
    refine wpList_store_mid rfl 32 _ _ rfl _ 0 (stC (addS { s with b := B } d v n (shN (s.V v) n)) (.slice ao s.W.length c)) rfl rfl (R6.there 0 _ (by rw [Z63_size, stC_size]; omega)) (by rw [infoS]; rfl) (stC_one _ _ _ _) ?_
    go_wp2
    exact stake_end2 Tryz.results64 R6 rfl HB6.out (by omega) _ _ _ r HR.out _ rfl rfl rfl
theorem deleg_any (s : St) (ao : Option Addr) (sb so c : Nat) (d v n : Int) (w : World) (hW : WsAt w ao sb so s.W) :
    Calls Tryz.prog 64 #[.agg (stC s (.slice ao s.W.length c)), .int .i64 d, .int .i64 v, .int .i64 n] w fun e w' => e = .returned (.tuple #[.agg (stC (delegS s d v n).1 (.slice ao s.W.length c)), .int .i64 (delegS s d v n).2]) ∧ Below w.heap.size w w' := by
  by_cases h : refOfE s d v = 0
  · obtain ⟨hg, ⟨v0, v1⟩, d0, d1⟩ := ref_zero h
    obtain ⟨v, rfl⟩ := Int.eq_ofNat_of_zero_le v0
    obtain ⟨d, rfl⟩ := Int.eq_ofNat_of_zero_le d0
    exact deleg_yes s ao sb so c d v n w hW _ hg (by omega) (by omega) _ _ (bond_any s.b d n) (deleg_dead h) (deleg_range h) (deleg_shE h) (deleg_bond h) (deleg_ok h)
  · exact deleg_no s ao sb so c d v n w hW _ h (deleg_ref h)
end Go.Proofs.YtjghbciepinofaaGreat

