/- Parts of the proof: PWM PTQ T4 T5. -/
import Derived.Test.YtjghbciepinofaaGreatRows
import Derived.Test.YtjghbciepinofaaGreatPEK23
import Derived.Test.YtjghbciepinofaaGreatPEK48
import Derived.Test.YtjghbciepinofaaGreatPEK50
import Derived.BigQuiet
import Derived.WalkSmall
import Derived.Laws.Cover3
import Derived.ChangeKeysEq
import Derived.WalkKit
set_option maxRecDepth 100000
namespace Go.Proofs.YtjghbciepinofaaGreat.Pv
def swI (l : List Int) (p : Nat) : List Int := (l.set (p + 1) (l.getD p 0)).set p (l.getD (p + 1) 0)
def insI : Nat → List Int → List Int
  | 0, l => l
  | p + 1, l => if l.getD (p + 1) 0 < l.getD p 0 then insI p (swI l p) else l
def srtI (l : List Int) : Nat → List Int
  | 0 => l
  | m + 1 => insI (m + 1) (srtI l m)
def isrtI (l : List Int) : List Int := srtI l (l.length - 1)
theorem swI_length (l : List Int) (p : Nat) : (swI l p).length = l.length := by simp [swI]
theorem insI_length : ∀ (j : Nat) (l : List Int), (insI j l).length = l.length
  | 0, _ => rfl
  | p + 1, l => by rw [insI]; split; rw [insI_length p, swI_length]; rfl
theorem srtI_length (l : List Int) : ∀ m, (srtI l m).length = l.length
  | 0 => rfl
  | m + 1 => by rw [srtI, insI_length, srtI_length l m]
theorem isrtI_length (l : List Int) : (isrtI l).length = l.length := srtI_length _ _
theorem rise_mem : ∀ (l : List Int) (a : Int), riseB a l = true → ∀ x ∈ l, a < x ∧ x ≤ 5
  | [], _, _, x, hx => by cases hx
  | y :: l, a, h, x, hx => by
    simp only [riseB, Bool.and_eq_true, decide_eq_true_eq] at h
    rcases List.mem_cons.1 hx with rfl | hx
    · exact ⟨h.1.1, h.1.2⟩
    · have := rise_mem l y h.2 x hx
      exact ⟨by omega, this.2⟩
theorem rise_ext : ∀ (l m : List Int) (a b : Int), riseB a l = true → riseB b m = true → (∀ x, x ∈ l ↔ x ∈ m) → l = m
  | [], [], _, _, _, _, _ => rfl
  | [], y :: m, _, _, _, _, h => by have := (h y).2 (List.mem_cons_self); cases this
  | x :: l, [], _, _, _, _, h => by have := (h x).1 (List.mem_cons_self); cases this
  | x :: l, y :: m, a, b, hl, hm, h => by
    simp only [riseB, Bool.and_eq_true, decide_eq_true_eq] at hl hm
    have e : x = y := by
      rcases List.mem_cons.1 ((h x).1 List.mem_cons_self) with h1 | h1
      · exact h1
      · rcases List.mem_cons.1 ((h y).2 List.mem_cons_self) with h2 | h2
        · exact h2.symm
        · have := (rise_mem m y hm.2 x h1).1
          have := (rise_mem l x hl.2 y h2).1
          omega
    subst e
    rw [rise_ext l m x x hl.2 hm.2 fun z => ⟨fun hz => ?_, fun hz => ?_⟩]
    · rcases List.mem_cons.1 ((h z).1 (List.mem_cons_of_mem _ hz)) with h1 | h1
      · have := (rise_mem l x hl.2 z hz).1
        omega
      · exact h1
    · rcases List.mem_cons.1 ((h z).2 (List.mem_cons_of_mem _ hz)) with h1 | h1
      · have := (rise_mem m x hm.2 z hz).1
        omega
      · exact h1
def six : List Int := [0, 1, 2, 3, 4, 5]
theorem six_eq : (List.range 6).map Int.ofNat = six := by decide
theorem six_mem {v : Int} (h0 : 0 ≤ v) (h1 : v ≤ 5) : v ∈ six := by
  rcases (show v = 0 ∨ v = 1 ∨ v = 2 ∨ v = 3 ∨ v = 4 ∨ v = 5 by omega) with rfl | rfl | rfl | rfl | rfl | rfl <;> decide
def mkB (b0 b1 b2 b3 b4 b5 : Bool) : List Int := (if b0 then [0] else []) ++ (if b1 then [1] else []) ++ (if b2 then [2] else []) ++ (if b3 then [3] else []) ++ (if b4 then [4] else []) ++ (if b5 then [5] else [])
theorem filter_mk (f : Int → Bool) : six.filter f = mkB (f 0) (f 1) (f 2) (f 3) (f 4) (f 5) := by
  unfold six mkB
  simp only [List.filter_cons, List.filter_nil]
  cases f 0 <;> cases f 1 <;> cases f 2 <;> cases f 3 <;> cases f 4 <;> cases f 5 <;> rfl
theorem mk_rise : ∀ b0 b1 b2 b3 b4 b5 : Bool, riseB (-1) (mkB b0 b1 b2 b3 b4 b5) = true := by decide +kernel
theorem rise_mk {D : List Int} (h : riseB (-1) D = true) : D = six.filter fun u => decide (u ∈ D) := by
  refine rise_ext D _ (-1) (-1) h (by rw [filter_mk]; exact mk_rise _ _ _ _ _ _) fun x => ⟨fun hx => ?_, fun hx => ?_⟩
  · have := rise_mem D (-1) h x hx
    exact List.mem_filter.2 ⟨six_mem (by omega) this.2, by simpa using hx⟩
  · simpa using (List.mem_filter.1 hx).2
theorem doneL_eq (D : List Int) (v : Int) : doneL D v = six.filter fun u => decide (u = v) || decide (u ∈ D) := by unfold doneL; rw [six_eq]
theorem done_rise (D : List Int) (v : Int) : riseB (-1) (doneL D v) = true := by rw [doneL_eq, filter_mk]; exact mk_rise _ _ _ _ _ _
theorem done_in {D : List Int} {v : Int} (h : riseB (-1) D = true) (hv : v ∈ D) : doneL D v = D := by
  rw [doneL_eq]
  conv => rhs; rw [rise_mk h]
  congr 1
  funext u
  by_cases e : u = v
  · subst e; simp [hv]
  · simp [e]
theorem rise_len {D : List Int} (h : riseB (-1) D = true) : D.length ≤ 6 := by
  rw [rise_mk h]
  exact List.length_filter_le _ _
theorem mk_sort : ∀ b0 b1 b2 b3 b4 b5 : Bool, (b0 = false → isrtI (mkB b0 b1 b2 b3 b4 b5 ++ [0]) = mkB true b1 b2 b3 b4 b5) ∧ (b1 = false → isrtI (mkB b0 b1 b2 b3 b4 b5 ++ [1]) = mkB b0 true b2 b3 b4 b5) ∧ (b2 = false → isrtI (mkB b0 b1 b2 b3 b4 b5 ++ [2]) = mkB b0 b1 true b3 b4 b5) ∧ (b3 = false → isrtI (mkB b0 b1 b2 b3 b4 b5 ++ [3]) = mkB b0 b1 b2 true b4 b5) ∧ (b4 = false → isrtI (mkB b0 b1 b2 b3 b4 b5 ++ [4]) = mkB b0 b1 b2 b3 true b5) ∧ (b5 = false → isrtI (mkB b0 b1 b2 b3 b4 b5 ++ [5]) = mkB b0 b1 b2 b3 b4 true) := by decide +kernel
theorem done_sort {D : List Int} {v : Int} (h : riseB (-1) D = true) (h0 : 0 ≤ v) (h1 : v ≤ 5) (hv : v ∉ D) : isrtI (D ++ [v]) = doneL D v := by
  have hm := rise_mk h
  rw [filter_mk] at hm
  have hv' : decide (v ∈ D) = false := by simpa using hv
  have k := mk_sort (decide ((0 : Int) ∈ D)) (decide ((1 : Int) ∈ D)) (decide ((2 : Int) ∈ D)) (decide ((3 : Int) ∈ D)) (decide ((4 : Int) ∈ D)) (decide ((5 : Int) ∈ D))
  rw [← hm] at k
  rw [doneL_eq, filter_mk]
  rcases (show v = 0 ∨ v = 1 ∨ v = 2 ∨ v = 3 ∨ v = 4 ∨ v = 5 by omega) with rfl | rfl | rfl | rfl | rfl | rfl
  · rw [k.1 hv']; simp
  · rw [k.2.1 hv']; simp
  · rw [k.2.2.1 hv']; simp
  · rw [k.2.2.2.1 hv']; simp
  · rw [k.2.2.2.2.1 hv']; simp
  · rw [k.2.2.2.2.2 hv']; simp
end Go.Proofs.YtjghbciepinofaaGreat.Pv

set_option maxRecDepth 100000
namespace Go.Proofs.YtjghbciepinofaaGreat.Pv
open Go.RowKit
theorem drop_at2 {α : Type} {l : List α} {k : Nat} (h : k < l.length) : ∃ x, l[k]? = some x ∧ l.drop k = x :: l.drop (k + 1) := ⟨l[k], List.getElem?_eq_getElem h, List.drop_eq_getElem_cons h⟩
set_option maxHeartbeats 4000000 in
theorem equalP_any (a b : List (Int × Int)) (u v : Value) (P P' : Nat → Prop) (w : World) (hu : Rep P w u 2 16 (pwC a)) (hv : Rep P' w v 2 16 (pwC b)) :
    Calls Tryz.prog 70 #[u, v] w fun e w' => e = .returned (.bool (decide (a = b))) ∧ Below w.heap.size w w' := by
  obtain ⟨A, C, rfl, hs, -, hc, -⟩ := hu.open (pwC_length _) (by decide)
  obtain ⟨A', C', rfl, hs', -, hc', -⟩ := hv.open (pwC_length _) (by decide)
  have HC := hide hc
  have HC' := hide hc'
  have hla : a.length ≤ 8796093022202 := by omega
  have hlb : b.length ≤ 8796093022202 := by omega
  obtain ⟨G, hG⟩ : ∃ G, decide (a = b) = G := ⟨_, rfl⟩
  have HG := hide hG
  rw [hG]
  clear hc hc' hu hv hs hs' hG
  go_enter Tryz.func70, Tryz.ntmps70
  by_cases hl : a.length = b.length
  · have hlI : (a.length : Int) = (b.length : Int) := by omega
    have hlb' : ((a.length : Int) != (b.length : Int)) = false := by simpa using hlI
    go_upto_region 4 with fail
    go_loopw [13] (fun i wl => ∃ (k : Nat), k ≤ a.length ∧ i = .int .i64 (k : Int) ∧ Hid (G = decide (a.drop k = b.drop k) ∧ Below w.heap.size w wl)) (fun i _ => a.length - (intOf i).toNat)
    case atStart => exact ⟨0, Nat.zero_le _, rfl, by rw [List.drop_zero, List.drop_zero]; exact HG.out.symm, Below.refl _ _⟩
    case round =>
      obtain ⟨k, hk, rfl, HR⟩ := hrel
      by_cases hlt : k < a.length
      · have hkI : (k : Int) < (a.length : Int) := by omega
        have hkJ : (k : Int) < (b.length : Int) := by omega
        obtain ⟨x, hx, hd⟩ := drop_at2 hlt
        obtain ⟨y, hy, hd'⟩ := drop_at2 (l := b) (k := k) (by omega)
        obtain ⟨ba, oa, rfl, -, hbl, hcell⟩ := HC.out (by omega)
        obtain ⟨bb, ob, rfl, -, hbl', hcell'⟩ := HC'.out (by omega)
        have gx : a.getD k (0, 0) = x := by simp [List.getD, hx]
        have gy : b.getD k (0, 0) = y := by simp [List.getD, hy]
        obtain ⟨p0, p1⟩ := pwC_get a k hlt
        obtain ⟨q0, q1⟩ := pwC_get b k (by omega)
        rw [gx] at p0 p1
        rw [gy] at q0 q1
        have c0 : wr.cell? ⟨ba, oa + k * 2, none⟩ = some (.int .i64 x.1) := (HR.out.2.cell (p := ⟨ba, oa + k * 2, none⟩) hbl).trans (hcell _ _ p0)
        have c1 : wr.cell? ⟨ba, oa + k * 2 + 1, none⟩ = some (.int .i64 x.2) := (HR.out.2.cell (p := ⟨ba, oa + k * 2 + 1, none⟩) hbl).trans (hcell _ _ p1)
        have d0 : wr.cell? ⟨bb, ob + k * 2, none⟩ = some (.int .i64 y.1) := (HR.out.2.cell (p := ⟨bb, ob + k * 2, none⟩) hbl').trans (hcell' _ _ q0)
        have d1 : wr.cell? ⟨bb, ob + k * 2 + 1, none⟩ = some (.int .i64 y.2) := (HR.out.2.cell (p := ⟨bb, ob + k * 2 + 1, none⟩) hbl').trans (hcell' _ _ q1)
        have HE : Hid (G = decide (x :: a.drop (k + 1) = y :: b.drop (k + 1))) := by have := HR.out.1; rw [hd, hd'] at this; exact this
        have HB := hide HR.out.2
        clear HR hd hd' hx hy gx gy p0 p1 q0 q1 hcell hcell'
        obtain ⟨x1, x2⟩ := x
        obtain ⟨y1, y2⟩ := y
        dsimp only at c0 c1 d0 d1
        by_cases h12 : x1 = y1 ∧ x2 = y2
        · obtain ⟨rfl, rfl⟩ := h12
          have HE2 : Hid (G = decide (a.drop (k + 1) = b.drop (k + 1))) := by rw [Hid, HE.out]; simp
          clear HE
          go_upto_region 6 with fail
          go_quiet (fail)
          simp only [Exit.then]
          apply_assumption
          go_wp2
          first | exact ⟨⟨k + 1, by omega, by go_num, HE2.out, below_drewN HB.out _⟩, by simp [intOf]; omega⟩ | exact ⟨⟨k + 1, by omega, by go_num, HE2.out, HB.out⟩, by simp [intOf]; omega⟩ | ((repeat apply Exists.intro); exact ⟨⟨k + 1, by omega, by go_num, HE2.out, below_drewN HB.out _⟩, rfl⟩) | ((repeat apply Exists.intro); exact ⟨⟨k + 1, by omega, by go_num, HE2.out, HB.out⟩, rfl⟩)
        · have e : G = false := by
            rw [HE.out]
            refine decide_eq_false fun h => h12 ?_
            have := (List.cons.inj h).1
            exact ⟨congrArg Prod.fst this, congrArg Prod.snd this⟩
          subst e
          have hcs : x1 ≠ y1 ∨ (x1 = y1 ∧ x2 ≠ y2) := by
            by_cases h : x1 = y1
            · exact .inr ⟨h, fun h2 => h12 ⟨h, h2⟩⟩
            · exact .inl h
          clear HE h12 HG
          rcases hcs with h1 | ⟨rfl, h2⟩
          · go_upto_region 6 with fail
            go_quiet (fail)
            simp only [Exit.then]
            apply_assumption
            go_wp2
            go_ret
            first | exact ⟨rfl, below_drewN HB.out _⟩ | exact ⟨rfl, HB.out⟩
          · go_upto_region 6 with fail
            go_quiet (fail)
            simp only [Exit.then]
            apply_assumption
            go_wp2
            go_ret
            first | exact ⟨rfl, below_drewN HB.out _⟩ | exact ⟨rfl, HB.out⟩
      · obtain rfl : k = a.length := by omega
        have e : G = true := by have := HR.out.1; rw [List.drop_length, hl, List.drop_length] at this; simpa using this
        subst e
        go_wp2
        go_ret
        exact ⟨rfl, HR.out.2⟩
  · have hlI : ¬ ((a.length : Int) = (b.length : Int)) := by omega
    have hlb' : ((a.length : Int) != (b.length : Int)) = true := by simpa using hlI
    have e : G = false := by rw [← HG.out]; exact decide_eq_false fun h => hl (by rw [h])
    subst e
    go_wp2
    go_ret
    exact ⟨rfl, Below.refl _ _⟩
theorem infoPwQ : (Tryz.prog.info? 74).map (fun i => (i.zero, i.size, i.bytes)) = some (some (.agg #[.int .i64 0, .int .i64 0]), 2, 16) := by kernel_rfl
theorem eqNilP (w : World) (a : Option Addr) (n c : Nat) : (binOp .eql 33 (.slice a n c) (.slice none 0 0)).run Tryz.prog w = .ok (.bool a.isNone) w := by
  simp [binOp, run_equal_slice_nil w 33 74 a n c Tryz.underlying33]
theorem own_nilP (w : World) : (w.alloc (.cells #[] 74)).ownsRow w.heap.size 74 2 (.slice (some ⟨w.heap.size, 0, none⟩) 0 0) 0 [] := ⟨rfl, .inr ⟨w.heap.size, 0, #[], rfl, Nat.le_refl _, heap_alloc_new _ _, Nat.le_refl _, Nat.zero_le _, rfl, rfl⟩⟩
theorem ap_cloneP {P : Nat → Prop} (w : World) (a : Addr) (c : Nat) (l : List (Int × Int)) (h : Rep P w (.slice (some a) l.length c) 2 16 (pwC l)) :
    ∃ A C w', (Builtin.append_ #[33, 33] 33 #[.slice (some ⟨w.heap.size, 0, none⟩) 0 0, .slice (some a) l.length c]).run Tryz.prog (w.alloc (.cells #[] 74)) = .ok (.slice A l.length C) w' ∧ w'.ownsRow w.heap.size 74 2 (.slice A l.length C) l.length (pwC l) ∧ Below w.heap.size w w' := by
  obtain ⟨i0, hi, hz0, hz1, hz2⟩ := info_parts infoPwQ
  obtain ⟨A0, C0, e0, hl, -, -, hcl⟩ := (h.over ((Below.refl _ w).alloc (Nat.le_refl _) (.cells #[] 74))).open (pwC_length l) (by decide)
  cases e0
  obtain ⟨v', w', hr, ho, hg, -, hat⟩ := run_append_own_at (P := Tryz.prog) (w.alloc (.cells #[] 74)) w.heap.size 33 33 74 i0 _ 2 16 Tryz.underlying33 hi hz0 hz1 hz2 rfl (by omega) _ 0 [] (own_nilP w) a l.length c (pwC l) (pwC_length l)
    (fun j u hj => hcl a rfl j u hj) (one_pws l) (by simp only [maxLen]; omega) (by omega) (by simp)
  rw [Nat.zero_add, List.nil_append] at ho
  have hv : ∃ A C, v' = .slice A l.length C := by
    rcases ho.2 with ⟨rfl, h0⟩ | ⟨g, cap, cur, rfl, _⟩
    · rw [h0]; exact ⟨none, 0, rfl⟩
    · exact ⟨_, _, rfl⟩
  obtain ⟨A, C, rfl⟩ := hv
  refine ⟨A, C, w', hr, ho, ?_⟩
  have hb := (Below.refl w.heap.size w).alloc (Nat.le_refl _) (.cells #[] 74)
  exact ⟨hg.os.trans hb.os, hg.tape.trans hb.tape, hg.output.trans hb.output, Nat.le_trans hb.size hg.size, fun k hk => (hg.block k (by simp; omega) (by simp [Value.ownBlock]; omega)).trans (hb.block k hk)⟩
theorem wpList_clP {P : Nat → Prop} {ops : Array Oper} {rest : List Oper} {o : Oper} {a : Act} {w : World} {Q : Exit → Act → World → Prop} (hg : o.guard = none) (hty : o.type = 33) (p q : Operand)
    (hop : o.op = Op.call { callee := Callee.builtin Builtin.append, args := #[p, q], argTypes := #[33, 33] }) (ad : Addr) (c : Nat) (l : List (Int × Int)) (hs : a.eval p = .slice (some ⟨w.heap.size, 0, none⟩) 0 0) (hx : a.eval q = .slice (some ad) l.length c) (hW : Rep P w (.slice (some ad) l.length c) 2 16 (pwC l))
    (hK : ∀ A C w', w'.ownsRow w.heap.size 74 2 (.slice A l.length C) l.length (pwC l) ∧ Below w.heap.size w w' → wpList Tryz.prog ops Q rest (a.put o.dst (.slice A l.length C)) w') : wpList Tryz.prog ops Q (o :: rest) a (w.alloc (.cells #[] 74)) := by
  refine wpList_plain hg fun _ hK' => ?_
  unfold Oper.wp
  obtain ⟨A, C, w', hr, h1⟩ := ap_cloneP w ad c l hW
  simp [execOp, hop, resolve, invoke, builtin, hs, hx, hty, hr, Result.andThen]
  exact hK' _ _ (hK _ _ _ h1)
/-- a set cloned: in a new block -/
theorem cloneP_any (l : List (Int × Int)) (v : Value) (P : Nat → Prop) (w : World) (h : Rep P w v 2 16 (pwC l)) :
    Calls Tryz.prog 73 #[v] w fun e w' => ∃ u, e = .returned u ∧ Rep (fun b => w.heap.size ≤ b) w' u 2 16 (pwC l) ∧ Below w.heap.size w w' := by
  obtain ⟨A, C, rfl, hl, h0, -, -⟩ := id (h.open (pwC_length l) (by decide))
  cases A with
  | none =>
    obtain ⟨hn, rfl⟩ := h0 rfl
    obtain rfl : l = [] := List.length_eq_zero_iff.1 hn
    have hq := fun w => eqNilP w none 0 0
    clear h h0
    go_enter Tryz.func73, Tryz.ntmps73
    go_wp2
    go_ret
    exact ⟨_, rfl, Rep.nil _ _ _ _, Below.refl _ _⟩
  | some a =>
    have hq := fun w => eqNilP w (some a) l.length C
    have HH := hide h
    clear h h0
    go_enter Tryz.func73, Tryz.ntmps73
    go_upto_region 3 with fail
    apply wp_region_lit
    iterate 6 go_step
    refine wpList_clP rfl rfl _ _ rfl a C l rfl rfl HH.out ?_
    rintro A' C' w' ⟨h1, h2⟩
    have H1 := hide h1
    have H2 := hide h2
    clear h1 h2
    go_wp2
    go_ret
    exact ⟨_, rfl, Rep.own H1.out (by omega), H2.out⟩
end Go.Proofs.YtjghbciepinofaaGreat.Pv

set_option maxRecDepth 100000
namespace Go.Proofs.YtjghbciepinofaaGreat
open Go.RowKit
set_option maxHeartbeats 2000000 in
theorem rmove_ok_50 (f0 f1 f2 f3 bo wa bu n : Int) (w : World) (hg : goodB f0 f1 f2 f3 bo wa bu = true) (hn0 : 0 ≤ n) (hn1 : n ≤ 1125899906842624) (hle : n ≤ wa) :
    Calls Tryz.prog 143 #[.agg #[.int .i64 f0, .int .i64 f1, .int .i64 f2, .int .i64 f3, .int .i64 bo, .int .i64 wa, .int .i64 bu], .int .i64 5, .int .i64 0, .int .i64 n] w fun e w' => e = .returned (.tuple #[.agg #[.int .i64 (f0 + n), .int .i64 f1, .int .i64 f2, .int .i64 f3, .int .i64 bo, .int .i64 (wa - n), .int .i64 bu], .int .i64 0]) ∧ Below w.heap.size w w' := by
  have hG := rgood_any f0 f1 f2 f3 bo wa bu
  rw [hg] at hG
  have hI := rin_any n
  rw [decide_eq_true ⟨hn0, hn1⟩] at hI
  unfold goodB at hg
  obtain ⟨g0, g1, g2, g3, g4, g5, g6, gs⟩ := of_decide_eq_true hg
  clear hg
  have k1 : wrap64 (wa - n) = wa - n := wrap64_small (by omega) (by omega)
  have k2 : wrap64 (f0 + n) = f0 + n := wrap64_small (by omega) (by omega)
  clear g0 g1 g2 g3 g4 g5 g6 gs hn0 hn1
  go_enter Tryz.func143, Tryz.ntmps143
  go_wp2_with fail
  refine (hG _).mono ?_
  rintro e w1 ⟨rfl, hb⟩
  have B1 := ((BAt.new w f0 f1 f2 f3 bo wa bu).alloc (.cells #[.int .i64 0, .int .i64 0, .int .i64 0, .int .i64 0, .int .i64 0, .int .i64 0, .int .i64 0] 24)).later hb (by simp; omega)
  have R1 : BAt w1 (w.heap.size + 1) 0 0 0 0 0 0 0 := by
    have := (BAt.new (w.alloc (.cells #[.int .i64 f0, .int .i64 f1, .int .i64 f2, .int .i64 f3, .int .i64 bo, .int .i64 wa, .int .i64 bu] 24)) 0 0 0 0 0 0 0).later hb (by simp)
    simpa using this
  have HB : Hid (Below w.heap.size w w1) := (((Below.refl _ w).alloc (Nat.le_refl _) _).alloc (by simp) _).trans (hb.mono (by simp; omega))
  clear hb
  obtain ⟨x0, x1, x2, x3, x4, x5, x6⟩ := B1.cells
  go_wp2_with (first
    | (go_at_call 138; refine (hI _).mono ?_; rintro e wI ⟨rfl, rfl⟩)
    | (go_at_call 157; refine (rplaces_any f0 f1 f2 f3 bo wa bu _).mono ?_; rintro e w2 ⟨rfl, h2⟩; have R2 := R1.later h2 R1.lt; have B2 := B1.later h2 B1.lt; have HB2 : Hid (Below w.heap.size w w2) := HB.out.trans (h2.mono HB.out.size); have hz2 : w.heap.size < w2.heap.size := B2.lt; have hz3 : w.heap.size + 1 < w2.heap.size := R2.lt; clear h2; clear B1 R1 HB B2 x0 x1 x2 x3 x4 x5 x6)
    | (go_at_call 158; refine (rbanked_any (f0 + n) f1 f2 f3 bo (wa - n) bu _).mono ?_; rintro e w3 ⟨rfl, h3⟩; have R3 := (R2.alloc _).later h3 (by simp; omega); have HB3 : Hid (Below w.heap.size w w3) := (HB2.out.alloc (Nat.le_of_lt hz2) _).trans (h3.mono (by simp; omega)); obtain ⟨u0, u1, u2, u3, u4, u5, u6⟩ := R3.frees; obtain ⟨v0, v1, v2, v3, v4, v5, v6⟩ := R3.cells; have HR3 : Hid (BAt w3 (w.heap.size + 1) 0 0 0 0 0 0 0) := R3; clear R2 R3 h3 HB2))
  exact rmove_end HR3.out HB3.out (f0 + n) f1 f2 f3 bo (wa - n) bu 0 _ rfl rfl rfl
set_option maxHeartbeats 2000000 in
theorem rmove_ok_51 (f0 f1 f2 f3 bo wa bu n : Int) (w : World) (hg : goodB f0 f1 f2 f3 bo wa bu = true) (hn0 : 0 ≤ n) (hn1 : n ≤ 1125899906842624) (hle : n ≤ wa) :
    Calls Tryz.prog 143 #[.agg #[.int .i64 f0, .int .i64 f1, .int .i64 f2, .int .i64 f3, .int .i64 bo, .int .i64 wa, .int .i64 bu], .int .i64 5, .int .i64 1, .int .i64 n] w fun e w' => e = .returned (.tuple #[.agg #[.int .i64 f0, .int .i64 (f1 + n), .int .i64 f2, .int .i64 f3, .int .i64 bo, .int .i64 (wa - n), .int .i64 bu], .int .i64 0]) ∧ Below w.heap.size w w' := by
  have hG := rgood_any f0 f1 f2 f3 bo wa bu
  rw [hg] at hG
  have hI := rin_any n
  rw [decide_eq_true ⟨hn0, hn1⟩] at hI
  unfold goodB at hg
  obtain ⟨g0, g1, g2, g3, g4, g5, g6, gs⟩ := of_decide_eq_true hg
  clear hg
  have k1 : wrap64 (wa - n) = wa - n := wrap64_small (by omega) (by omega)
  have k2 : wrap64 (f1 + n) = f1 + n := wrap64_small (by omega) (by omega)
  clear g0 g1 g2 g3 g4 g5 g6 gs hn0 hn1
  go_enter Tryz.func143, Tryz.ntmps143
  go_wp2_with fail
  refine (hG _).mono ?_
  rintro e w1 ⟨rfl, hb⟩
  have B1 := ((BAt.new w f0 f1 f2 f3 bo wa bu).alloc (.cells #[.int .i64 0, .int .i64 0, .int .i64 0, .int .i64 0, .int .i64 0, .int .i64 0, .int .i64 0] 24)).later hb (by simp; omega)
  have R1 : BAt w1 (w.heap.size + 1) 0 0 0 0 0 0 0 := by
    have := (BAt.new (w.alloc (.cells #[.int .i64 f0, .int .i64 f1, .int .i64 f2, .int .i64 f3, .int .i64 bo, .int .i64 wa, .int .i64 bu] 24)) 0 0 0 0 0 0 0).later hb (by simp)
    simpa using this
  have HB : Hid (Below w.heap.size w w1) := (((Below.refl _ w).alloc (Nat.le_refl _) _).alloc (by simp) _).trans (hb.mono (by simp; omega))
  clear hb
  obtain ⟨x0, x1, x2, x3, x4, x5, x6⟩ := B1.cells
  go_wp2_with (first
    | (go_at_call 138; refine (hI _).mono ?_; rintro e wI ⟨rfl, rfl⟩)
    | (go_at_call 157; refine (rplaces_any f0 f1 f2 f3 bo wa bu _).mono ?_; rintro e w2 ⟨rfl, h2⟩; have R2 := R1.later h2 R1.lt; have B2 := B1.later h2 B1.lt; have HB2 : Hid (Below w.heap.size w w2) := HB.out.trans (h2.mono HB.out.size); have hz2 : w.heap.size < w2.heap.size := B2.lt; have hz3 : w.heap.size + 1 < w2.heap.size := R2.lt; clear h2; clear B1 R1 HB B2 x0 x1 x2 x3 x4 x5 x6)
    | (go_at_call 158; refine (rbanked_any f0 (f1 + n) f2 f3 bo (wa - n) bu _).mono ?_; rintro e w3 ⟨rfl, h3⟩; have R3 := (R2.alloc _).later h3 (by simp; omega); have HB3 : Hid (Below w.heap.size w w3) := (HB2.out.alloc (Nat.le_of_lt hz2) _).trans (h3.mono (by simp; omega)); obtain ⟨u0, u1, u2, u3, u4, u5, u6⟩ := R3.frees; obtain ⟨v0, v1, v2, v3, v4, v5, v6⟩ := R3.cells; have HR3 : Hid (BAt w3 (w.heap.size + 1) 0 0 0 0 0 0 0) := R3; clear R2 R3 h3 HB2))
  exact rmove_end HR3.out HB3.out f0 (f1 + n) f2 f3 bo (wa - n) bu 0 _ rfl rfl rfl
set_option maxHeartbeats 2000000 in
theorem rmove_ok_52 (f0 f1 f2 f3 bo wa bu n : Int) (w : World) (hg : goodB f0 f1 f2 f3 bo wa bu = true) (hn0 : 0 ≤ n) (hn1 : n ≤ 1125899906842624) (hle : n ≤ wa) :
    Calls Tryz.prog 143 #[.agg #[.int .i64 f0, .int .i64 f1, .int .i64 f2, .int .i64 f3, .int .i64 bo, .int .i64 wa, .int .i64 bu], .int .i64 5, .int .i64 2, .int .i64 n] w fun e w' => e = .returned (.tuple #[.agg #[.int .i64 f0, .int .i64 f1, .int .i64 (f2 + n), .int .i64 f3, .int .i64 bo, .int .i64 (wa - n), .int .i64 bu], .int .i64 0]) ∧ Below w.heap.size w w' := by
  have hG := rgood_any f0 f1 f2 f3 bo wa bu
  rw [hg] at hG
  have hI := rin_any n
  rw [decide_eq_true ⟨hn0, hn1⟩] at hI
  unfold goodB at hg
  obtain ⟨g0, g1, g2, g3, g4, g5, g6, gs⟩ := of_decide_eq_true hg
  clear hg
  have k1 : wrap64 (wa - n) = wa - n := wrap64_small (by omega) (by omega)
  have k2 : wrap64 (f2 + n) = f2 + n := wrap64_small (by omega) (by omega)
  clear g0 g1 g2 g3 g4 g5 g6 gs hn0 hn1
  go_enter Tryz.func143, Tryz.ntmps143
  go_wp2_with fail
  refine (hG _).mono ?_
  rintro e w1 ⟨rfl, hb⟩
  have B1 := ((BAt.new w f0 f1 f2 f3 bo wa bu).alloc (.cells #[.int .i64 0, .int .i64 0, .int .i64 0, .int .i64 0, .int .i64 0, .int .i64 0, .int .i64 0] 24)).later hb (by simp; omega)
  have R1 : BAt w1 (w.heap.size + 1) 0 0 0 0 0 0 0 := by
    have := (BAt.new (w.alloc (.cells #[.int .i64 f0, .int .i64 f1, .int .i64 f2, .int .i64 f3, .int .i64 bo, .int .i64 wa, .int .i64 bu] 24)) 0 0 0 0 0 0 0).later hb (by simp)
    simpa using this
  have HB : Hid (Below w.heap.size w w1) := (((Below.refl _ w).alloc (Nat.le_refl _) _).alloc (by simp) _).trans (hb.mono (by simp; omega))
  clear hb
  obtain ⟨x0, x1, x2, x3, x4, x5, x6⟩ := B1.cells
  go_wp2_with (first
    | (go_at_call 138; refine (hI _).mono ?_; rintro e wI ⟨rfl, rfl⟩)
    | (go_at_call 157; refine (rplaces_any f0 f1 f2 f3 bo wa bu _).mono ?_; rintro e w2 ⟨rfl, h2⟩; have R2 := R1.later h2 R1.lt; have B2 := B1.later h2 B1.lt; have HB2 : Hid (Below w.heap.size w w2) := HB.out.trans (h2.mono HB.out.size); have hz2 : w.heap.size < w2.heap.size := B2.lt; have hz3 : w.heap.size + 1 < w2.heap.size := R2.lt; clear h2; clear B1 R1 HB B2 x0 x1 x2 x3 x4 x5 x6)
    | (go_at_call 158; refine (rbanked_any f0 f1 (f2 + n) f3 bo (wa - n) bu _).mono ?_; rintro e w3 ⟨rfl, h3⟩; have R3 := (R2.alloc _).later h3 (by simp; omega); have HB3 : Hid (Below w.heap.size w w3) := (HB2.out.alloc (Nat.le_of_lt hz2) _).trans (h3.mono (by simp; omega)); obtain ⟨u0, u1, u2, u3, u4, u5, u6⟩ := R3.frees; obtain ⟨v0, v1, v2, v3, v4, v5, v6⟩ := R3.cells; have HR3 : Hid (BAt w3 (w.heap.size + 1) 0 0 0 0 0 0 0) := R3; clear R2 R3 h3 HB2))
  exact rmove_end HR3.out HB3.out f0 f1 (f2 + n) f3 bo (wa - n) bu 0 _ rfl rfl rfl
set_option maxHeartbeats 2000000 in
theorem rmove_ok_53 (f0 f1 f2 f3 bo wa bu n : Int) (w : World) (hg : goodB f0 f1 f2 f3 bo wa bu = true) (hn0 : 0 ≤ n) (hn1 : n ≤ 1125899906842624) (hle : n ≤ wa) :
    Calls Tryz.prog 143 #[.agg #[.int .i64 f0, .int .i64 f1, .int .i64 f2, .int .i64 f3, .int .i64 bo, .int .i64 wa, .int .i64 bu], .int .i64 5, .int .i64 3, .int .i64 n] w fun e w' => e = .returned (.tuple #[.agg #[.int .i64 f0, .int .i64 f1, .int .i64 f2, .int .i64 (f3 + n), .int .i64 bo, .int .i64 (wa - n), .int .i64 bu], .int .i64 0]) ∧ Below w.heap.size w w' := by
  have hG := rgood_any f0 f1 f2 f3 bo wa bu
  rw [hg] at hG
  have hI := rin_any n
  rw [decide_eq_true ⟨hn0, hn1⟩] at hI
  unfold goodB at hg
  obtain ⟨g0, g1, g2, g3, g4, g5, g6, gs⟩ := of_decide_eq_true hg
  clear hg
  have k1 : wrap64 (wa - n) = wa - n := wrap64_small (by omega) (by omega)
  have k2 : wrap64 (f3 + n) = f3 + n := wrap64_small (by omega) (by omega)
  clear g0 g1 g2 g3 g4 g5 g6 gs hn0 hn1
  go_enter Tryz.func143, Tryz.ntmps143
  go_wp2_with fail
  refine (hG _).mono ?_
  rintro e w1 ⟨rfl, hb⟩
  have B1 := ((BAt.new w f0 f1 f2 f3 bo wa bu).alloc (.cells #[.int .i64 0, .int .i64 0, .int .i64 0, .int .i64 0, .int .i64 0, .int .i64 0, .int .i64 0] 24)).later hb (by simp; omega)
  have R1 : BAt w1 (w.heap.size + 1) 0 0 0 0 0 0 0 := by
    have := (BAt.new (w.alloc (.cells #[.int .i64 f0, .int .i64 f1, .int .i64 f2, .int .i64 f3, .int .i64 bo, .int .i64 wa, .int .i64 bu] 24)) 0 0 0 0 0 0 0).later hb (by simp)
    simpa using this
  have HB : Hid (Below w.heap.size w w1) := (((Below.refl _ w).alloc (Nat.le_refl _) _).alloc (by simp) _).trans (hb.mono (by simp; omega))
  clear hb
  obtain ⟨x0, x1, x2, x3, x4, x5, x6⟩ := B1.cells
  go_wp2_with (first
    | (go_at_call 138; refine (hI _).mono ?_; rintro e wI ⟨rfl, rfl⟩)
    | (go_at_call 157; refine (rplaces_any f0 f1 f2 f3 bo wa bu _).mono ?_; rintro e w2 ⟨rfl, h2⟩; have R2 := R1.later h2 R1.lt; have B2 := B1.later h2 B1.lt; have HB2 : Hid (Below w.heap.size w w2) := HB.out.trans (h2.mono HB.out.size); have hz2 : w.heap.size < w2.heap.size := B2.lt; have hz3 : w.heap.size + 1 < w2.heap.size := R2.lt; clear h2; clear B1 R1 HB B2 x0 x1 x2 x3 x4 x5 x6)
    | (go_at_call 158; refine (rbanked_any f0 f1 f2 (f3 + n) bo (wa - n) bu _).mono ?_; rintro e w3 ⟨rfl, h3⟩; have R3 := (R2.alloc _).later h3 (by simp; omega); have HB3 : Hid (Below w.heap.size w w3) := (HB2.out.alloc (Nat.le_of_lt hz2) _).trans (h3.mono (by simp; omega)); obtain ⟨u0, u1, u2, u3, u4, u5, u6⟩ := R3.frees; obtain ⟨v0, v1, v2, v3, v4, v5, v6⟩ := R3.cells; have HR3 : Hid (BAt w3 (w.heap.size + 1) 0 0 0 0 0 0 0) := R3; clear R2 R3 h3 HB2))
  exact rmove_end HR3.out HB3.out f0 f1 f2 (f3 + n) bo (wa - n) bu 0 _ rfl rfl rfl
end Go.Proofs.YtjghbciepinofaaGreat

set_option maxRecDepth 100000
namespace Go.Proofs.YtjghbciepinofaaGreat
open Go.RowKit
set_option maxHeartbeats 2000000 in
theorem rmove_ok_46 (f0 f1 f2 f3 bo wa bu n : Int) (w : World) (hg : goodB f0 f1 f2 f3 bo wa bu = true) (hn0 : 0 ≤ n) (hn1 : n ≤ 1125899906842624) (hle : n ≤ bo) :
    Calls Tryz.prog 143 #[.agg #[.int .i64 f0, .int .i64 f1, .int .i64 f2, .int .i64 f3, .int .i64 bo, .int .i64 wa, .int .i64 bu], .int .i64 4, .int .i64 6, .int .i64 n] w fun e w' => e = .returned (.tuple #[.agg #[.int .i64 f0, .int .i64 f1, .int .i64 f2, .int .i64 f3, .int .i64 (bo - n), .int .i64 wa, .int .i64 (bu + n)], .int .i64 0]) ∧ Below w.heap.size w w' := by
  have hG := rgood_any f0 f1 f2 f3 bo wa bu
  rw [hg] at hG
  have hI := rin_any n
  rw [decide_eq_true ⟨hn0, hn1⟩] at hI
  unfold goodB at hg
  obtain ⟨g0, g1, g2, g3, g4, g5, g6, gs⟩ := of_decide_eq_true hg
  clear hg
  have k1 : wrap64 (bo - n) = bo - n := wrap64_small (by omega) (by omega)
  have k2 : wrap64 (bu + n) = bu + n := wrap64_small (by omega) (by omega)
  clear g0 g1 g2 g3 g4 g5 g6 gs hn0 hn1
  go_enter Tryz.func143, Tryz.ntmps143
  go_wp2_with fail
  refine (hG _).mono ?_
  rintro e w1 ⟨rfl, hb⟩
  have B1 := ((BAt.new w f0 f1 f2 f3 bo wa bu).alloc (.cells #[.int .i64 0, .int .i64 0, .int .i64 0, .int .i64 0, .int .i64 0, .int .i64 0, .int .i64 0] 24)).later hb (by simp; omega)
  have R1 : BAt w1 (w.heap.size + 1) 0 0 0 0 0 0 0 := by
    have := (BAt.new (w.alloc (.cells #[.int .i64 f0, .int .i64 f1, .int .i64 f2, .int .i64 f3, .int .i64 bo, .int .i64 wa, .int .i64 bu] 24)) 0 0 0 0 0 0 0).later hb (by simp)
    simpa using this
  have HB : Hid (Below w.heap.size w w1) := (((Below.refl _ w).alloc (Nat.le_refl _) _).alloc (by simp) _).trans (hb.mono (by simp; omega))
  clear hb
  obtain ⟨x0, x1, x2, x3, x4, x5, x6⟩ := B1.cells
  go_wp2_with (first
    | (go_at_call 138; refine (hI _).mono ?_; rintro e wI ⟨rfl, rfl⟩)
    | (go_at_call 157; refine (rplaces_any f0 f1 f2 f3 bo wa bu _).mono ?_; rintro e w2 ⟨rfl, h2⟩; have R2 := R1.later h2 R1.lt; have B2 := B1.later h2 B1.lt; have HB2 : Hid (Below w.heap.size w w2) := HB.out.trans (h2.mono HB.out.size); have hz2 : w.heap.size < w2.heap.size := B2.lt; have hz3 : w.heap.size + 1 < w2.heap.size := R2.lt; clear h2; clear B1 R1 HB B2 x0 x1 x2 x3 x4 x5 x6)
    | (go_at_call 158; refine (rbanked_any f0 f1 f2 f3 (bo - n) wa (bu + n) _).mono ?_; rintro e w3 ⟨rfl, h3⟩; have R3 := (R2.alloc _).later h3 (by simp; omega); have HB3 : Hid (Below w.heap.size w w3) := (HB2.out.alloc (Nat.le_of_lt hz2) _).trans (h3.mono (by simp; omega)); obtain ⟨u0, u1, u2, u3, u4, u5, u6⟩ := R3.frees; obtain ⟨v0, v1, v2, v3, v4, v5, v6⟩ := R3.cells; have HR3 : Hid (BAt w3 (w.heap.size + 1) 0 0 0 0 0 0 0) := R3; clear R2 R3 h3 HB2))
  exact rmove_end HR3.out HB3.out f0 f1 f2 f3 (bo - n) wa (bu + n) 0 _ rfl rfl rfl
set_option maxHeartbeats 2000000 in
theorem rmove_ok_56 (f0 f1 f2 f3 bo wa bu n : Int) (w : World) (hg : goodB f0 f1 f2 f3 bo wa bu = true) (hn0 : 0 ≤ n) (hn1 : n ≤ 1125899906842624) (hle : n ≤ wa) :
    Calls Tryz.prog 143 #[.agg #[.int .i64 f0, .int .i64 f1, .int .i64 f2, .int .i64 f3, .int .i64 bo, .int .i64 wa, .int .i64 bu], .int .i64 5, .int .i64 6, .int .i64 n] w fun e w' => e = .returned (.tuple #[.agg #[.int .i64 f0, .int .i64 f1, .int .i64 f2, .int .i64 f3, .int .i64 bo, .int .i64 (wa - n), .int .i64 (bu + n)], .int .i64 0]) ∧ Below w.heap.size w w' := by
  have hG := rgood_any f0 f1 f2 f3 bo wa bu
  rw [hg] at hG
  have hI := rin_any n
  rw [decide_eq_true ⟨hn0, hn1⟩] at hI
  unfold goodB at hg
  obtain ⟨g0, g1, g2, g3, g4, g5, g6, gs⟩ := of_decide_eq_true hg
  clear hg
  have k1 : wrap64 (wa - n) = wa - n := wrap64_small (by omega) (by omega)
  have k2 : wrap64 (bu + n) = bu + n := wrap64_small (by omega) (by omega)
  clear g0 g1 g2 g3 g4 g5 g6 gs hn0 hn1
  go_enter Tryz.func143, Tryz.ntmps143
  go_wp2_with fail
  refine (hG _).mono ?_
  rintro e w1 ⟨rfl, hb⟩
  have B1 := ((BAt.new w f0 f1 f2 f3 bo wa bu).alloc (.cells #[.int .i64 0, .int .i64 0, .int .i64 0, .int .i64 0, .int .i64 0, .int .i64 0, .int .i64 0] 24)).later hb (by simp; omega)
  have R1 : BAt w1 (w.heap.size + 1) 0 0 0 0 0 0 0 := by
    have := (BAt.new (w.alloc (.cells #[.int .i64 f0, .int .i64 f1, .int .i64 f2, .int .i64 f3, .int .i64 bo, .int .i64 wa, .int .i64 bu] 24)) 0 0 0 0 0 0 0).later hb (by simp)
    simpa using this
  have HB : Hid (Below w.heap.size w w1) := (((Below.refl _ w).alloc (Nat.le_refl _) _).alloc (by simp) _).trans (hb.mono (by simp; omega))
  clear hb
  obtain ⟨x0, x1, x2, x3, x4, x5, x6⟩ := B1.cells
  go_wp2_with (first
    | (go_at_call 138; refine (hI _).mono ?_; rintro e wI ⟨rfl, rfl⟩)
    | (go_at_call 157; refine (rplaces_any f0 f1 f2 f3 bo wa bu _).mono ?_; rintro e w2 ⟨rfl, h2⟩; have R2 := R1.later h2 R1.lt; have B2 := B1.later h2 B1.lt; have HB2 : Hid (Below w.heap.size w w2) := HB.out.trans (h2.mono HB.out.size); have hz2 : w.heap.size < w2.heap.size := B2.lt; have hz3 : w.heap.size + 1 < w2.heap.size := R2.lt; clear h2; clear B1 R1 HB B2 x0 x1 x2 x3 x4 x5 x6)
    | (go_at_call 158; refine (rbanked_any f0 f1 f2 f3 bo (wa - n) (bu + n) _).mono ?_; rintro e w3 ⟨rfl, h3⟩; have R3 := (R2.alloc _).later h3 (by simp; omega); have HB3 : Hid (Below w.heap.size w w3) := (HB2.out.alloc (Nat.le_of_lt hz2) _).trans (h3.mono (by simp; omega)); obtain ⟨u0, u1, u2, u3, u4, u5, u6⟩ := R3.frees; obtain ⟨v0, v1, v2, v3, v4, v5, v6⟩ := R3.cells; have HR3 : Hid (BAt w3 (w.heap.size + 1) 0 0 0 0 0 0 0) := R3; clear R2 R3 h3 HB2))
  exact rmove_end HR3.out HB3.out f0 f1 f2 f3 bo (wa - n) (bu + n) 0 _ rfl rfl rfl
end Go.Proofs.YtjghbciepinofaaGreat

