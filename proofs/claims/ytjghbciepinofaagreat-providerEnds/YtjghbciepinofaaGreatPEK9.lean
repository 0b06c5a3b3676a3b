/- Parts of the proof: PEB CR. -/
import Derived.Test.YtjghbciepinofaaGreatRows
import Derived.Test.YtjghbciepinofaaGreatPEK25
import Derived.Test.YtjghbciepinofaaGreatPEK52
set_option maxRecDepth 100000
namespace Go.Proofs.YtjghbciepinofaaGreat.Pv
open Go.RowKit
def nilV : Value := .slice none 0 0
def nilPV : PrV := ⟨nilV, nilV, fun _ => ⟨nilV, nilV, nilV, nilV⟩, nilV⟩
theorem pin_new (P : Nat → Prop) (w : World) : PIn P w newP nilPV :=
  ⟨Rep.nil _ _ _ _, Rep.nil _ _ _ _, fun _ _ => ⟨Rep.nil _ _ _ _, Rep.nil _ _ _ _, RepC.nil _ _ _ _, RepC.nil _ _ _ _⟩, [], rfl, Rep.nil _ _ _ _, fun i _ _ h => by simp [newP] at h⟩
theorem results_prov1 {fn : Func} {p : Tmp} (h : fn.results = #[.cell p 47]) (tmps : Array Value) (w : World) (g : Nat) (cs : Array Value)
    (hp : tmps.getD p undef = .pointer (some ⟨g, 0, none⟩)) (hg : CAt 47 w g cs) (hsz : cs.size = 97) :
    (results fn tmps).run Tryz.prog w = .ok (.agg cs) w :=
  results_cell_row h _ _ g 47 cs (0, 0) _ hp hg Tryz.underlying47 rfl (by rw [infoPv, hsz])
set_option maxHeartbeats 4000000 in
theorem pnew_any (w : World) : Calls Tryz.prog 26 #[] w fun e w' => e = .returned (.agg (prC newP nilPV)) ∧ Below w.heap.size w w' := by
  have R0 : CAt 47 (w.alloc (.cells Tryz.zeroCells47 47)) w.heap.size Tryz.zeroCells47 := CAt.new _ w _
  have HB0 : Hid (Below w.heap.size w (w.alloc (.cells Tryz.zeroCells47 47))) := (Below.refl _ w).alloc (Nat.le_refl _) _
  have hM := Mt.mnew_any 0 0 (by unfold Mt.I64; omega)
  rw [show Mt.alw 0 = 1 from rfl, show wrap64 (0 + 10) = 10 by first | rfl | (unfold wrap64; omega) | (unfold wrap64; decide) | (simp [wrap64])] at hM
  go_enter Tryz.func26, Tryz.ntmps26
  go_upto_region 1 with fail
  generalize w.alloc (.cells Tryz.zeroCells47 47) = w0 at *
  apply wp_region_lit
  go_step
  go_step
  refine (snew_any _).mono ?_
  rintro e w1 ⟨rfl, h1⟩
  have R1 := R0.over h1
  have HB1 := hide (HB0.out.trans (h1.mono HB0.out.size))
  clear h1 R0 HB0
  dsimp only
  go_step
  go_step
  go_step
  refine (hM _).mono ?_
  rintro e w2 ⟨rfl, h2⟩
  have R2 := R1.over h2
  have HB2 := hide (HB1.out.trans (h2.mono HB1.out.size))
  clear h2 R1 HB1 hM
  dsimp only
  go_step
  go_step
  go_step
  change Oper.upon Tryz.prog _ _ _ _ (Result.ok (Next.value (.agg (prC newP nilPV))) w2)
  go_simp
  apply_assumption
  refine wpList_store_mid rfl 47 _ _ rfl _ 0 (prC newP nilPV) rfl rfl (R2.there 0 _ (by rw [Z97_size, prC_size]; omega)) (by rw [infoPv]; rfl) (pr_one (pin_new (fun _ => True) w2)) ?_
  go_wp2
  have R3 := R2.setAll (ds := prC newP nilPV) (by rw [Z97_size]; rfl)
  exact bodyPost_ret (v := .agg (prC newP nilPV)) (results_prov1 Tryz.results26 _ _ _ _ rfl R3 rfl) rfl ⟨rfl, below_sets (Nat.le_refl _) _ _ _ HB2.out⟩
theorem PIn.alt {P : Nat → Prop} {w w' : World} {p : Pr} {v : PrV} {g : Nat} (h : PIn P w p v) (hg : ¬ P g) (A : Alt g w w') : PIn (New P w 0) w' p v :=
  (A.pin (P := fun b => P b ∧ b < w.heap.size) (fun h => hg h.1) (h.mono fun _ hb hP => ⟨hP, hb⟩)).mono fun _ _ h => .inl h
/-- nothing is asked -/
theorem queue_none {p : Pr} (h : p.q = []) : queueP p = p := by
  unfold queueP goQ
  rw [h]
  show { p with q := [] } = p
  rw [← h]
set_option maxHeartbeats 4000000 in
theorem pqueue_none (g : Nat) (p : Pr) (v : PrV) (w : World) (P : Nat → Prop) (hq : p.q = []) (hC : CAt 47 w g (prC p v)) (hp : PIn P w p v) (hg : ¬ P g) :
    Calls Tryz.prog 30 #[.pointer (some ⟨g, 0, none⟩)] w (Turns w g P (queueP p)) := by
  rw [queue_none hq]
  obtain ⟨z, hzl, hzr, hzi⟩ := hp.q
  obtain ⟨Aq, Cq, eq, -, hq0, -, -⟩ := hzr.open (quL_length _ _ hzl) (by decide)
  rw [hq] at eq
  have a96 : w.cell? ⟨g, 96, none⟩ = some (.slice Aq 0 Cq) := by rw [show Value.slice Aq 0 Cq = v.q from eq.symm]; exact hC.cell 96
  have b1 : Below w.heap.size w (w.alloc (.cells #[.bool false, .bool false] 123)) := (Below.refl _ w).alloc (Nat.le_refl _) _
  have C1 := hC.over b1
  have d96 : (w.alloc (.cells #[.bool false, .bool false] 123)).cell? ⟨g, 96, none⟩ = some (.slice Aq 0 Cq) := by rw [show Value.slice Aq 0 Cq = v.q from eq.symm]; exact C1.cell 96
  have f96 := C1.free 96
  have hlt := hC.lt
  have C2 := C1.set 96 (.slice none 0 0)
  rw [pr_q] at C2
  have A2 := (Alt.of (g := g) b1).set 96 (.slice none 0 0)
  have P2 : PIn (New P w 0) ((w.alloc (.cells #[.bool false, .bool false] 123)).setCell ⟨g, 96, none⟩ (.slice none 0 0)) p { v with q := .slice none 0 0 } := by
    have h1 := hp.alt hg A2
    exact ⟨h1.ws, h1.set, h1.lk, [], by rw [hq]; rfl, by rw [hq]; exact Rep.nil _ _ _ _, fun i _ _ h => by rw [hq] at h; simp at h⟩
  have HZ := hide (show _ ∧ _ ∧ _ from ⟨C2, P2, A2⟩)
  clear C1 C2 A2 P2 hzr hzi hq0 b1 eq hC hp
  go_enter Tryz.func30, Tryz.ntmps30
  go_upto_region 3 with fail
  generalize w.alloc (.cells #[.bool false, .bool false] 123) = w1 at *
  go_loopw [3, 11] (fun l3 i wl => l3 = .slice none 0 0 ∧ i = .int .i64 0 ∧ w1 = wl) (fun _ _ _ => 0)
  case atStart => exact ⟨rfl, rfl, rfl⟩
  case round =>
    obtain ⟨rfl, rfl, rfl⟩ := hrel
    go_wp2
    go_end0
    exact ⟨_, rfl, HZ.out.1, HZ.out.2.1, HZ.out.2.2⟩
/-- who is off is told nothing -/
theorem tell_off {p : Pr} {c : Nat} (h : (p.L c).on = false) : tellP p c = p := by
  unfold tellP
  rw [if_pos (by unfold quietB; rw [h]; rfl)]
set_option maxHeartbeats 4000000 in
theorem ptell_off (g : Nat) (p : Pr) (v : PrV) (w : World) (P : Nat → Prop) (c : Nat) (hc : c < 2) (hoff : (p.L c).on = false) (hC : CAt 47 w g (prC p v)) (hp : PIn P w p v) :
    Calls Tryz.prog 32 #[.pointer (some ⟨g, 0, none⟩), .pointer (some ⟨g, 66 + c * 14, none⟩)] w (Turns w g P (tellP p c)) := by
  rw [tell_off hoff]
  have c0 := (CAt.lk hC hc).facts.1
  rw [hoff] at c0
  have HZ := hide (show _ ∧ _ from ⟨hC, hp⟩)
  clear hC hp
  go_enter Tryz.func32, Tryz.ntmps32
  go_wp2_with fail
  go_region
  all_goals
    go_wp2
    go_end0
    exact ⟨v, rfl, HZ.out.1.over (Below.refl _ _).drew, HZ.out.2.ofNew (Below.refl _ _).drew 0, Alt.of (Below.refl _ _).drew⟩
end Go.Proofs.YtjghbciepinofaaGreat.Pv

set_option maxRecDepth 100000
namespace Go.Proofs.YtjghbciepinofaaGreat.Cd
open Go.RowKit
theorem conv_one (w : World) (b : Int) (g : Nat) (hg : g = w.heap.size) : (convert 71 9 (.slice (some ⟨g, 0, none⟩) 1 1)).run Tryz.prog (w.alloc (.cells #[.int .u8 b] 5)) = .ok (.string (strOfNums [b])) (w.alloc (.cells #[.int .u8 b] 5)) := by
  subst hg
  refine run_convert_bytes_arg (P := Tryz.prog) _ 71 5 Tryz.underlying71 Tryz.underlying5 w.heap.size 0 1 1 [b] rfl (fun j hj => ?_) 9 Tryz.underlying9
  have : j = 0 := by omega
  subst this
  simp [World.cell?_alloc_at]
theorem str_append (a b : List Int) : strOfNums a ++ strOfNums b = strOfNums (a ++ b) := by
  apply WideShapes.bytes_inj
  rw [ByteArray.data_append]
  simp [strOfNums_data]
theorem ediv_step (v : Int) (j : Nat) : v / 2 ^ (8 * j) / 256 = v / 2 ^ (8 * (j + 1)) := by
  rw [pow_succ8, Int.ediv_ediv_of_nonneg (Int.le_of_lt (pow_pos8 j))]
set_option maxHeartbeats 400000 in
theorem bytesOf_any (v : Int) (n : Nat) (w : World) (hv : 0 ≤ v) (hv2 : v ≤ 9223372036854775807) (hn : n ≤ 7) :
    Calls Tryz.prog 102 #[.int .i64 v, .int .i64 n] w fun e w' => e = .returned (.string (strOfNums (be v n))) ∧ Below w.heap.size w w' := by
  have hcv := conv_one
  go_enter Tryz.func102, Tryz.ntmps102
  go_wp2
  go_loopw [0, 1, 5] (fun x c s wl => ∃ (j : Nat), j ≤ n ∧ x = .int .i64 (v / 2 ^ (8 * j)) ∧ c = .int .i64 ((n : Int) - j) ∧ s = .string (strOfNums (be v j)) ∧ Hid (Below w.heap.size w wl)) (fun _ c _ _ => (intOf c).toNat)
  case atStart => exact ⟨0, Nat.zero_le _, by simp, by simp, rfl, Below.refl _ _⟩
  case round =>
    obtain ⟨j, hj, rfl, rfl, rfl, HB⟩ := hrel
    have hd1 : 0 ≤ v / 2 ^ (8 * j) := Int.ediv_nonneg hv (Int.le_of_lt (pow_pos8 j))
    have hd2 : v / 2 ^ (8 * j) ≤ 9223372036854775807 := Int.le_trans (Int.ediv_le_self _ hv) hv2
    have HS : Hid (v / 2 ^ (8 * j) / 256 = v / 2 ^ (8 * (j + 1))) := ediv_step v j
    have hszl : (strOfNums (be v j)).size ≤ 7 := by rw [strOfNums_size, be_length]; omega
    have hbe : Hid (be v (j + 1) = v / 2 ^ (8 * j) % 256 :: be v j) := rfl
    generalize v / 2 ^ (8 * j) = q at *
    by_cases hlt : j < n
    · have h0 : (0 : Int) < (n : Int) - j := by omega
      have h1 : (strOfNums [q % 256]).size ≤ 1 := by rw [strOfNums_size]; simp
      go_wp2
      go_roundw
      case rel => exact ⟨j + 1, by omega, by rw [HS.out], by go_num, by rw [str_append, hbe.out]; rfl, HB.out.alloc HB.out.size _⟩
      case measure => simp [intOf]; omega
    · have hjn : j = n := by omega
      subst hjn
      go_wp2
      go_ret
      exact ⟨rfl, HB.out⟩
end Go.Proofs.YtjghbciepinofaaGreat.Cd

