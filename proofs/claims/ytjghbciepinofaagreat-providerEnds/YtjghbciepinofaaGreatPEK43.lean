/- Parts of the proof: H4 J SQV SRV. -/
import Derived.Test.YtjghbciepinofaaGreatRows
import Derived.Test.YtjghbciepinofaaGreatPEK33
import Derived.Test.YtjghbciepinofaaGreatPEK41
import Derived.Test.YtjghbciepinofaaGreatPEK42
import Derived.WalkKit
import Derived.Deep.RegionWith
import Derived.Deep.RegionHeld3
import Derived.Deep.DeepCutAuto
set_option maxRecDepth 100000
namespace Go.Proofs.YtjghbciepinofaaGreat
open Go.RowKit
theorem burn_end {w wq : World} (R : BAt wq (w.heap.size + 1) 0 0 0 0 0 0 0) (H : Below w.heap.size w wq) (r0 r1 r2 r3 r4 r5 r6 er : Int) (act : Act)
    (h8 : act.tmps.getD 6 undef = .pointer (some ⟨w.heap.size + 1, 0, none⟩)) (h9 : act.tmps.getD 7 undef = .int .i64 er) (hd : act.defers = []) :
    bodyPost Tryz.prog Tryz.f166 (fun e w' => e = .returned (.tuple #[.agg #[.int .i64 r0, .int .i64 r1, .int .i64 r2, .int .i64 r3, .int .i64 r4, .int .i64 r5, .int .i64 r6], .int .i64 er]) ∧ Below w.heap.size w w') Exit.ret act
      (set7 wq (w.heap.size + 1) r0 r1 r2 r3 r4 r5 r6) := by
  have HR := R.set7 r0 r1 r2 r3 r4 r5 r6
  have HW := set7_below (b := w.heap.size + 1) H (by omega) r0 r1 r2 r3 r4 r5 r6
  generalize set7 wq (w.heap.size + 1) r0 r1 r2 r3 r4 r5 r6 = w9 at *
  obtain ⟨u0, u1, u2, u3, u4, u5, u6⟩ := HR.cells
  have h8' : act.tmps[6]?.getD undef = .pointer (some ⟨w.heap.size + 1, 0, none⟩) := by simpa using h8
  have h9' : act.tmps[7]?.getD undef = .int .i64 er := by simpa using h9
  exact bodyPost_ret (v := .tuple #[.agg #[.int .i64 r0, .int .i64 r1, .int .i64 r2, .int .i64 r3, .int .i64 r4, .int .i64 r5, .int .i64 r6], .int .i64 er]) (by simp [results, Tryz.results166, go_sem, h8', h9', u0, u1, u2, u3, u4, u5, u6]) hd ⟨rfl, HW⟩
theorem cells_keep2 {f : Nat} {args : Array Value} {w0 w : World} {b : Nat} {v : Value} {f0 f1 f2 f3 bo wa bu : Int} (h : Calls Tryz.prog f args w fun e w' => e = .returned v ∧ Below w.heap.size w w')
    (hb : b < w0.heap.size) (hS : w.cell? ⟨b, 0, none⟩ = some (.int .i64 f0) ∧ w.cell? ⟨b, 1, none⟩ = some (.int .i64 f1) ∧ w.cell? ⟨b, 2, none⟩ = some (.int .i64 f2) ∧ w.cell? ⟨b, 3, none⟩ = some (.int .i64 f3) ∧ w.cell? ⟨b, 4, none⟩ = some (.int .i64 bo) ∧ w.cell? ⟨b, 5, none⟩ = some (.int .i64 wa) ∧ w.cell? ⟨b, 6, none⟩ = some (.int .i64 bu) ∧ Below w0.heap.size w0 w) :
    Calls Tryz.prog f args w fun e w' => e = .returned v ∧ (w'.cell? ⟨b, 0, none⟩ = some (.int .i64 f0) ∧ w'.cell? ⟨b, 1, none⟩ = some (.int .i64 f1) ∧ w'.cell? ⟨b, 2, none⟩ = some (.int .i64 f2) ∧ w'.cell? ⟨b, 3, none⟩ = some (.int .i64 f3) ∧ w'.cell? ⟨b, 4, none⟩ = some (.int .i64 bo) ∧ w'.cell? ⟨b, 5, none⟩ = some (.int .i64 wa) ∧ w'.cell? ⟨b, 6, none⟩ = some (.int .i64 bu) ∧ Below w0.heap.size w0 w') ∧ Below w.heap.size w w' := by
  refine h.mono ?_
  rintro e w' ⟨rfl, hb'⟩
  obtain ⟨h0, h1, h2, h3, h4, h5, h6, hB⟩ := hS
  have k : ∀ o, w'.cell? ⟨b, o, none⟩ = w.cell? ⟨b, o, none⟩ := fun o => hb'.cell (Nat.lt_of_lt_of_le hb hB.size)
  exact ⟨rfl, ⟨(k 0).trans h0, (k 1).trans h1, (k 2).trans h2, (k 3).trans h3, (k 4).trans h4, (k 5).trans h5, (k 6).trans h6, hB.trans (hb'.mono hB.size)⟩, hb'⟩
set_option maxHeartbeats 2000000 in
theorem burn_walk (f0 f1 f2 f3 bo wa bu n m r0 r1 r2 r3 r4 r5 r6 er s0 s1 s2 s3 s4 s5 s6 es t0 t1 t2 t3 t4 t5 t6 et : Int) (w : World)
    (hres : (er ≠ 0 ∧ f0 = t0 ∧ f1 = t1 ∧ f2 = t2 ∧ f3 = t3 ∧ bo = t4 ∧ wa = t5 ∧ bu = t6 ∧ er = et) ∨ (er = 0 ∧ es ≠ 0 ∧ f0 = t0 ∧ f1 = t1 ∧ f2 = t2 ∧ f3 = t3 ∧ bo = t4 ∧ wa = t5 ∧ bu = t6 ∧ es = et) ∨ (er = 0 ∧ es = 0 ∧ s0 = t0 ∧ s1 = t1 ∧ s2 = t2 ∧ s3 = t3 ∧ s4 = t4 ∧ s5 = t5 ∧ s6 = t6 ∧ 0 = et))
    (hm1 : ∀ w : World, Calls Tryz.prog 114 #[.agg #[.int .i64 f0, .int .i64 f1, .int .i64 f2, .int .i64 f3, .int .i64 bo, .int .i64 wa, .int .i64 bu], .func (.func 122) #[] #[], .func (.func 124) #[] #[], .int .i64 n] w fun e w' => e = .returned (.tuple #[.agg #[.int .i64 r0, .int .i64 r1, .int .i64 r2, .int .i64 r3, .int .i64 r4, .int .i64 r5, .int .i64 r6], .int .i64 er]) ∧ Below w.heap.size w w')
    (hm2 : ∀ w : World, Calls Tryz.prog 114 #[.agg #[.int .i64 r0, .int .i64 r1, .int .i64 r2, .int .i64 r3, .int .i64 r4, .int .i64 r5, .int .i64 r6], .func (.func 123) #[] #[], .func (.func 124) #[] #[], .int .i64 m] w fun e w' => e = .returned (.tuple #[.agg #[.int .i64 s0, .int .i64 s1, .int .i64 s2, .int .i64 s3, .int .i64 s4, .int .i64 s5, .int .i64 s6], .int .i64 es]) ∧ Below w.heap.size w w') :
    Calls Tryz.prog 166 #[.agg #[.int .i64 f0, .int .i64 f1, .int .i64 f2, .int .i64 f3, .int .i64 bo, .int .i64 wa, .int .i64 bu], .int .i64 n, .int .i64 m] w
      fun e w' => e = .returned (.tuple #[.agg #[.int .i64 t0, .int .i64 t1, .int .i64 t2, .int .i64 t3, .int .i64 t4, .int .i64 t5, .int .i64 t6], .int .i64 et]) ∧ Below w.heap.size w w' := by
  go_enter Tryz.func166, Tryz.ntmps166
  go_wp2_with fail
  have R0 : BAt ((w.alloc (.cells #[.int .i64 f0, .int .i64 f1, .int .i64 f2, .int .i64 f3, .int .i64 bo, .int .i64 wa, .int .i64 bu] 24)).alloc (.cells #[.int .i64 0, .int .i64 0, .int .i64 0, .int .i64 0, .int .i64 0, .int .i64 0, .int .i64 0] 24)) (w.heap.size + 1) 0 0 0 0 0 0 0 := by
    have := BAt.new (w.alloc (.cells #[.int .i64 f0, .int .i64 f1, .int .i64 f2, .int .i64 f3, .int .i64 bo, .int .i64 wa, .int .i64 bu] 24)) 0 0 0 0 0 0 0
    simpa using this
  have B0 := ((BAt.new w f0 f1 f2 f3 bo wa bu).alloc (.cells #[.int .i64 0, .int .i64 0, .int .i64 0, .int .i64 0, .int .i64 0, .int .i64 0, .int .i64 0] 24))
  have HB : Hid (Below w.heap.size w ((w.alloc (.cells #[.int .i64 f0, .int .i64 f1, .int .i64 f2, .int .i64 f3, .int .i64 bo, .int .i64 wa, .int .i64 bu] 24)).alloc (.cells #[.int .i64 0, .int .i64 0, .int .i64 0, .int .i64 0, .int .i64 0, .int .i64 0, .int .i64 0] 24))) := (((Below.refl _ w).alloc (Nat.le_refl _) _).alloc (by simp) _)
  generalize (w.alloc (.cells #[.int .i64 f0, .int .i64 f1, .int .i64 f2, .int .i64 f3, .int .i64 bo, .int .i64 wa, .int .i64 bu] 24)).alloc (.cells #[.int .i64 0, .int .i64 0, .int .i64 0, .int .i64 0, .int .i64 0, .int .i64 0, .int .i64 0] 24) = w0 at *
  obtain ⟨x0, x1, x2, x3, x4, x5, x6⟩ := B0.cells
  have hz0 : w.heap.size < w0.heap.size := B0.lt
  have hz1 : w.heap.size + 1 < w0.heap.size := R0.lt
  go_cut [8, 9] (fun p e wc => ∃ pb, p = .pointer (some ⟨pb, 0, none⟩) ∧ e = .int .i64 er ∧ w0.heap.size ≤ pb ∧ BAt wc pb r0 r1 r2 r3 r4 r5 r6 ∧ Below w0.heap.size w0 wc)
  case first =>
    clear B0
    have hbb : Below w0.heap.size w0 w0.drew := (Below.refl _ _).drew
    have hal : ∀ (wx : World) (o : Obj), Below w0.heap.size w0 wx → Below w0.heap.size w0 (wx.alloc o) := fun wx o h => h.alloc h.size o
    have hdr : ∀ (wx : World), Below w0.heap.size w0 wx → Below w0.heap.size w0 wx.drew := fun wx h => h.drew
    have hb0 : Below w0.heap.size w0 w0 := Below.refl _ _
    have hse : ∀ (wx : World) (v0 v1 v2 v3 v4 v5 v6 : Int), Below w0.heap.size w0 wx → Below w0.heap.size w0 (((((((wx.setCell ⟨w0.heap.size, 0, none⟩ (.int .i64 v0)).setCell ⟨w0.heap.size, 1, none⟩ (.int .i64 v1)).setCell ⟨w0.heap.size, 2, none⟩ (.int .i64 v2)).setCell ⟨w0.heap.size, 3, none⟩ (.int .i64 v3)).setCell ⟨w0.heap.size, 4, none⟩ (.int .i64 v4)).setCell ⟨w0.heap.size, 5, none⟩ (.int .i64 v5)).setCell ⟨w0.heap.size, 6, none⟩ (.int .i64 v6)) := fun wx v0 v1 v2 v3 v4 v5 v6 h => ((((((h.setCell (Nat.le_refl _) _).setCell (Nat.le_refl _) _).setCell (Nat.le_refl _) _).setCell (Nat.le_refl _) _).setCell (Nat.le_refl _) _).setCell (Nat.le_refl _) _).setCell (Nat.le_refl _) _
    have hso : ∀ (wx : World) (o k : Nat) (v : Value), (wx.setCell ⟨w0.heap.size, o, none⟩ v).cell? ⟨w.heap.size, k, none⟩ = wx.cell? ⟨w.heap.size, k, none⟩ := fun wx o k v => World.cell?_of_block (w := wx) (Below.heap_setCell _ _ _ _ (by simp; omega))
    go_region_held3 (fun w' => w'.cell? ⟨w.heap.size, 0, none⟩ = some (.int .i64 f0) ∧ w'.cell? ⟨w.heap.size, 1, none⟩ = some (.int .i64 f1) ∧ w'.cell? ⟨w.heap.size, 2, none⟩ = some (.int .i64 f2) ∧ w'.cell? ⟨w.heap.size, 3, none⟩ = some (.int .i64 f3) ∧ w'.cell? ⟨w.heap.size, 4, none⟩ = some (.int .i64 bo) ∧ w'.cell? ⟨w.heap.size, 5, none⟩ = some (.int .i64 wa) ∧ w'.cell? ⟨w.heap.size, 6, none⟩ = some (.int .i64 bu) ∧ Below w0.heap.size w0 w') (go_keep)
      (first
        | (go_at_call 82; refine (bonded_any _).mono ?_; rintro e w2 ⟨rfl, rfl⟩)
        | (go_at_call 84; refine (burnt_any _).mono ?_; rintro e w2 ⟨rfl, rfl⟩)
        | (go_at_call 114; refine (cells_keep2 (f0 := f0) (f1 := f1) (f2 := f2) (f3 := f3) (bo := bo) (wa := wa) (bu := bu) (hm1 _) hz0 ?_).mono ?_; (simp [*]); rintro e wA ⟨rfl, hA, hZ⟩; have hsA : w0.heap.size ≤ wA.heap.size := hA.2.2.2.2.2.2.2.size; have hAB : Below w0.heap.size w0 wA := hA.2.2.2.2.2.2.2; have hZ' : BAt wA w0.heap.size 0 0 0 0 0 0 0 := (hZ.block _ (by simp)).trans (BAt.new w0 0 0 0 0 0 0 0); obtain ⟨u0, u1, u2, u3, u4, u5, u6⟩ := hZ'.frees; obtain ⟨v0, v1, v2, v3, v4, v5, v6⟩ := hZ'.cells; have HZ : Hid (BAt wA w0.heap.size 0 0 0 0 0 0 0) := hZ'; clear hZ hZ')
        | (go_at_call 114; refine (cells_keep2 (f0 := f0) (f1 := f1) (f2 := f2) (f3 := f3) (bo := bo) (wa := wa) (bu := bu) (hm1 _) hz0 ?_).mono ?_; (simp [*]); rintro e wA ⟨rfl, hA, hZ⟩; have hsA : w0.heap.size ≤ wA.heap.size := hA.2.2.2.2.2.2.2.size; have hAB : Below w0.heap.size w0 wA := hA.2.2.2.2.2.2.2; clear hZ))
    all_goals
      clear hA
      go_wp2_with fail
      go_meet
      case rel => first | exact ⟨w0.heap.size, rfl, rfl, Nat.le_refl _, HZ.out.set7 r0 r1 r2 r3 r4 r5 r6, hse wA r0 r1 r2 r3 r4 r5 r6 hAB⟩ | exact ⟨wA.heap.size, rfl, rfl, hsA, BAt.new wA r0 r1 r2 r3 r4 r5 r6, hAB.alloc hsA _⟩
  case rest =>
    obtain ⟨pb, rfl, rfl, hpb, BH, hbc⟩ := hcut
    rename World => wb
    clear x0 x1 x2 x3 x4 x5 x6
    have B1 := B0.later hbc hz0
    have R1 := R0.later hbc hz1
    have HBc : Hid (Below w.heap.size w wb) := HB.out.trans (hbc.mono (Nat.le_of_lt hz0))
    have hz2 : w.heap.size < wb.heap.size := Nat.lt_of_lt_of_le hz0 hbc.size
    have hz3 : w.heap.size + 1 < wb.heap.size := Nat.lt_of_lt_of_le hz1 hbc.size
    clear B0 R0 HB hbc hz0 hz1 hm1
    obtain ⟨u0, u1, u2, u3, u4, u5, u6⟩ := R1.frees
    obtain ⟨v0, v1, v2, v3, v4, v5, v6⟩ := R1.cells
    have HR1 : Hid (BAt wb (w.heap.size + 1) 0 0 0 0 0 0 0) := R1
    clear R1
    by_cases her : er = 0
    · subst her
      have hpl : pb < wb.heap.size := BH.lt
      obtain ⟨y0, y1, y2, y3, y4, y5, y6⟩ := BH.cells
      clear BH u0 u1 u2 u3 u4 u5 u6 v0 v1 v2 v3 v4 v5 v6
      go_wp2_with fail
      go_cut [10, 9] (fun p e wd => ∃ pc, p = .pointer (some ⟨pc, 0, none⟩) ∧ e = .int .i64 es ∧ wb.heap.size ≤ pc ∧ BAt wd pc s0 s1 s2 s3 s4 s5 s6 ∧ Below wb.heap.size wb wd)
      case first =>
        clear B1 HR1 hres HBc hz2 hz3
        have hbb : Below wb.heap.size wb wb.drew := (Below.refl _ _).drew
        have hal : ∀ (wx : World) (o : Obj), Below wb.heap.size wb wx → Below wb.heap.size wb (wx.alloc o) := fun wx o h => h.alloc h.size o
        have hdr : ∀ (wx : World), Below wb.heap.size wb wx → Below wb.heap.size wb wx.drew := fun wx h => h.drew
        have hb0 : Below wb.heap.size wb wb := Below.refl _ _
        have hse : ∀ (wx : World) (v0 v1 v2 v3 v4 v5 v6 : Int), Below wb.heap.size wb wx → Below wb.heap.size wb (((((((wx.setCell ⟨wb.heap.size, 0, none⟩ (.int .i64 v0)).setCell ⟨wb.heap.size, 1, none⟩ (.int .i64 v1)).setCell ⟨wb.heap.size, 2, none⟩ (.int .i64 v2)).setCell ⟨wb.heap.size, 3, none⟩ (.int .i64 v3)).setCell ⟨wb.heap.size, 4, none⟩ (.int .i64 v4)).setCell ⟨wb.heap.size, 5, none⟩ (.int .i64 v5)).setCell ⟨wb.heap.size, 6, none⟩ (.int .i64 v6)) := fun wx v0 v1 v2 v3 v4 v5 v6 h => ((((((h.setCell (Nat.le_refl _) _).setCell (Nat.le_refl _) _).setCell (Nat.le_refl _) _).setCell (Nat.le_refl _) _).setCell (Nat.le_refl _) _).setCell (Nat.le_refl _) _).setCell (Nat.le_refl _) _
        have hso : ∀ (wx : World) (o k : Nat) (v : Value), (wx.setCell ⟨wb.heap.size, o, none⟩ v).cell? ⟨pb, k, none⟩ = wx.cell? ⟨pb, k, none⟩ := fun wx o k v => World.cell?_of_block (w := wx) (Below.heap_setCell _ _ _ _ (by simp; omega))
        go_region_held3 (fun w' => w'.cell? ⟨pb, 0, none⟩ = some (.int .i64 r0) ∧ w'.cell? ⟨pb, 1, none⟩ = some (.int .i64 r1) ∧ w'.cell? ⟨pb, 2, none⟩ = some (.int .i64 r2) ∧ w'.cell? ⟨pb, 3, none⟩ = some (.int .i64 r3) ∧ w'.cell? ⟨pb, 4, none⟩ = some (.int .i64 r4) ∧ w'.cell? ⟨pb, 5, none⟩ = some (.int .i64 r5) ∧ w'.cell? ⟨pb, 6, none⟩ = some (.int .i64 r6) ∧ Below wb.heap.size wb w') (go_keep)
          (first
            | (go_at_call 83; refine (waiting_any _).mono ?_; rintro e w2 ⟨rfl, rfl⟩)
            | (go_at_call 84; refine (burnt_any _).mono ?_; rintro e w2 ⟨rfl, rfl⟩)
            | (go_at_call 114; refine (cells_keep2 (f0 := r0) (f1 := r1) (f2 := r2) (f3 := r3) (bo := r4) (wa := r5) (bu := r6) (hm2 _) hpl ?_).mono ?_; (simp [*]); rintro e wA ⟨rfl, hA, hZ⟩; have hsA : wb.heap.size ≤ wA.heap.size := hA.2.2.2.2.2.2.2.size; have hAB : Below wb.heap.size wb wA := hA.2.2.2.2.2.2.2; have hZ' : BAt wA wb.heap.size 0 0 0 0 0 0 0 := (hZ.block _ (by simp)).trans (BAt.new wb 0 0 0 0 0 0 0); obtain ⟨u0, u1, u2, u3, u4, u5, u6⟩ := hZ'.frees; obtain ⟨v0, v1, v2, v3, v4, v5, v6⟩ := hZ'.cells; have HZ : Hid (BAt wA wb.heap.size 0 0 0 0 0 0 0) := hZ'; clear hZ hZ')
            | (go_at_call 114; refine (cells_keep2 (f0 := r0) (f1 := r1) (f2 := r2) (f3 := r3) (bo := r4) (wa := r5) (bu := r6) (hm2 _) hpl ?_).mono ?_; (simp [*]); rintro e wA ⟨rfl, hA, hZ⟩; have hsA : wb.heap.size ≤ wA.heap.size := hA.2.2.2.2.2.2.2.size; have hAB : Below wb.heap.size wb wA := hA.2.2.2.2.2.2.2; clear hZ))
        all_goals
          clear hA
          go_wp2_with fail
          go_meet
          case rel => first | exact ⟨wb.heap.size, rfl, rfl, Nat.le_refl _, HZ.out.set7 s0 s1 s2 s3 s4 s5 s6, hse wA s0 s1 s2 s3 s4 s5 s6 hAB⟩ | exact ⟨wA.heap.size, rfl, rfl, hsA, BAt.new wA s0 s1 s2 s3 s4 s5 s6, hAB.alloc hsA _⟩
      case rest =>
        obtain ⟨pc, rfl, rfl, hpc, BH, hbd⟩ := hcut
        clear y0 y1 y2 y3 y4 y5 y6
        have B2 := B1.later hbd hz2
        have R2 := HR1.out.later hbd hz3
        have HBd : Hid (Below w.heap.size w wc) := HBc.out.trans (hbd.mono (Nat.le_of_lt hz2))
        clear HBc hbd HR1 B1
        obtain ⟨u0, u1, u2, u3, u4, u5, u6⟩ := R2.frees
        obtain ⟨v0, v1, v2, v3, v4, v5, v6⟩ := R2.cells
        have HR2 : Hid (BAt wc (w.heap.size + 1) 0 0 0 0 0 0 0) := R2
        clear R2
        rcases hres with ⟨h, _⟩ | ⟨_, h, rfl, rfl, rfl, rfl, rfl, rfl, rfl, rfl⟩ | ⟨_, rfl, rfl, rfl, rfl, rfl, rfl, rfl, rfl, rfl⟩
        · exact absurd rfl h
        · have hb : (es != 0) = true := by simpa using h
          obtain ⟨x0, x1, x2, x3, x4, x5, x6⟩ := B2.cells
          clear B2 BH
          go_wp2
          exact burn_end HR2.out HBd.out f0 f1 f2 f3 bo wa bu es _ rfl rfl rfl
        · obtain ⟨x0, x1, x2, x3, x4, x5, x6⟩ := BH.cells
          clear B2 BH
          go_wp2
          exact burn_end HR2.out HBd.out s0 s1 s2 s3 s4 s5 s6 0 _ rfl rfl rfl
    · have hb : (er != 0) = true := by simpa using her
      rcases hres with ⟨_, rfl, rfl, rfl, rfl, rfl, rfl, rfl, rfl⟩ | ⟨h, _⟩ | ⟨h, _⟩
      · obtain ⟨x0, x1, x2, x3, x4, x5, x6⟩ := B1.cells
        clear B1 BH
        go_wp2
        exact burn_end HR1.out HBc.out f0 f1 f2 f3 bo wa bu er _ rfl rfl rfl
      · exact absurd h her
      · exact absurd h her
end Go.Proofs.YtjghbciepinofaaGreat

set_option maxRecDepth 100000
namespace Go.Proofs.YtjghbciepinofaaGreat
open Go.RowKit
theorem mv_04 (b : Bk) (n : Int) (c : Nat) (w : World) (hc : w.cell? ⟨c, 0, none⟩ = some (.int .i64 0)) (hcl : c < w.heap.size) :
    Calls Tryz.prog 114 #[.agg #[.int .i64 b.f0, .int .i64 b.f1, .int .i64 b.f2, .int .i64 b.f3, .int .i64 b.bo, .int .i64 b.wa, .int .i64 b.bu], (.func (.func 125) #[] #[.pointer (some ⟨c, 0, none⟩)]), (.func (.func 122) #[] #[]), .int .i64 n] w fun e w' => e = .returned (.tuple #[.agg #[.int .i64 (mv b 0 4 n).1.f0, .int .i64 (mv b 0 4 n).1.f1, .int .i64 (mv b 0 4 n).1.f2, .int .i64 (mv b 0 4 n).1.f3, .int .i64 (mv b 0 4 n).1.bo, .int .i64 (mv b 0 4 n).1.wa, .int .i64 (mv b 0 4 n).1.bu], .int .i64 (mv b 0 4 n).2]) ∧ Below w.heap.size w w' := by
  by_cases hg : b.good = true
  · by_cases hn : 0 ≤ n ∧ n ≤ 1125899906842624
    · have h1 : ¬ (b.good = false ∨ ¬ (0 ≤ n ∧ n ≤ 1125899906842624)) := by rw [hg]; simp [hn]
      by_cases hl : b.f0 < n
      · have e : mv b 0 4 n = (b, 7) := by rw [mv, if_neg h1, if_pos (show b.get 0 < n from hl)]
        rw [e]
        exact move_funds_0 b.f0 b.f1 b.f2 b.f3 b.bo b.wa b.bu n c _ w hc hcl hg hn.1 hn.2 hl
      · have e : mv b 0 4 n = ((b.put 0 (b.f0 - n)).put 4 (b.bo + n), 0) := by rw [mv, if_neg h1, if_neg (show ¬ b.get 0 < n from hl)]; rfl
        rw [e]
        exact move_ok_04 b.f0 b.f1 b.f2 b.f3 b.bo b.wa b.bu n c w hc hcl hg hn.1 hn.2 (by omega)
    · have e : mv b 0 4 n = (b, 2) := by rw [mv, if_pos (.inr hn)]
      rw [e]
      exact move_range_in b.f0 b.f1 b.f2 b.f3 b.bo b.wa b.bu n _ _ w hg hn
  · have e : mv b 0 4 n = (b, 2) := by rw [mv, if_pos (.inl (by simpa using hg))]
    rw [e]
    exact move_range_bad b.f0 b.f1 b.f2 b.f3 b.bo b.wa b.bu n _ _ w (by simpa [Bk.good] using hg)
theorem mv_14 (b : Bk) (n : Int) (c : Nat) (w : World) (hc : w.cell? ⟨c, 0, none⟩ = some (.int .i64 1)) (hcl : c < w.heap.size) :
    Calls Tryz.prog 114 #[.agg #[.int .i64 b.f0, .int .i64 b.f1, .int .i64 b.f2, .int .i64 b.f3, .int .i64 b.bo, .int .i64 b.wa, .int .i64 b.bu], (.func (.func 125) #[] #[.pointer (some ⟨c, 0, none⟩)]), (.func (.func 122) #[] #[]), .int .i64 n] w fun e w' => e = .returned (.tuple #[.agg #[.int .i64 (mv b 1 4 n).1.f0, .int .i64 (mv b 1 4 n).1.f1, .int .i64 (mv b 1 4 n).1.f2, .int .i64 (mv b 1 4 n).1.f3, .int .i64 (mv b 1 4 n).1.bo, .int .i64 (mv b 1 4 n).1.wa, .int .i64 (mv b 1 4 n).1.bu], .int .i64 (mv b 1 4 n).2]) ∧ Below w.heap.size w w' := by
  by_cases hg : b.good = true
  · by_cases hn : 0 ≤ n ∧ n ≤ 1125899906842624
    · have h1 : ¬ (b.good = false ∨ ¬ (0 ≤ n ∧ n ≤ 1125899906842624)) := by rw [hg]; simp [hn]
      by_cases hl : b.f1 < n
      · have e : mv b 1 4 n = (b, 7) := by rw [mv, if_neg h1, if_pos (show b.get 1 < n from hl)]
        rw [e]
        exact move_funds_1 b.f0 b.f1 b.f2 b.f3 b.bo b.wa b.bu n c _ w hc hcl hg hn.1 hn.2 hl
      · have e : mv b 1 4 n = ((b.put 1 (b.f1 - n)).put 4 (b.bo + n), 0) := by rw [mv, if_neg h1, if_neg (show ¬ b.get 1 < n from hl)]; rfl
        rw [e]
        exact move_ok_14 b.f0 b.f1 b.f2 b.f3 b.bo b.wa b.bu n c w hc hcl hg hn.1 hn.2 (by omega)
    · have e : mv b 1 4 n = (b, 2) := by rw [mv, if_pos (.inr hn)]
      rw [e]
      exact move_range_in b.f0 b.f1 b.f2 b.f3 b.bo b.wa b.bu n _ _ w hg hn
  · have e : mv b 1 4 n = (b, 2) := by rw [mv, if_pos (.inl (by simpa using hg))]
    rw [e]
    exact move_range_bad b.f0 b.f1 b.f2 b.f3 b.bo b.wa b.bu n _ _ w (by simpa [Bk.good] using hg)
theorem mv_24 (b : Bk) (n : Int) (c : Nat) (w : World) (hc : w.cell? ⟨c, 0, none⟩ = some (.int .i64 2)) (hcl : c < w.heap.size) :
    Calls Tryz.prog 114 #[.agg #[.int .i64 b.f0, .int .i64 b.f1, .int .i64 b.f2, .int .i64 b.f3, .int .i64 b.bo, .int .i64 b.wa, .int .i64 b.bu], (.func (.func 125) #[] #[.pointer (some ⟨c, 0, none⟩)]), (.func (.func 122) #[] #[]), .int .i64 n] w fun e w' => e = .returned (.tuple #[.agg #[.int .i64 (mv b 2 4 n).1.f0, .int .i64 (mv b 2 4 n).1.f1, .int .i64 (mv b 2 4 n).1.f2, .int .i64 (mv b 2 4 n).1.f3, .int .i64 (mv b 2 4 n).1.bo, .int .i64 (mv b 2 4 n).1.wa, .int .i64 (mv b 2 4 n).1.bu], .int .i64 (mv b 2 4 n).2]) ∧ Below w.heap.size w w' := by
  by_cases hg : b.good = true
  · by_cases hn : 0 ≤ n ∧ n ≤ 1125899906842624
    · have h1 : ¬ (b.good = false ∨ ¬ (0 ≤ n ∧ n ≤ 1125899906842624)) := by rw [hg]; simp [hn]
      by_cases hl : b.f2 < n
      · have e : mv b 2 4 n = (b, 7) := by rw [mv, if_neg h1, if_pos (show b.get 2 < n from hl)]
        rw [e]
        exact move_funds_2 b.f0 b.f1 b.f2 b.f3 b.bo b.wa b.bu n c _ w hc hcl hg hn.1 hn.2 hl
      · have e : mv b 2 4 n = ((b.put 2 (b.f2 - n)).put 4 (b.bo + n), 0) := by rw [mv, if_neg h1, if_neg (show ¬ b.get 2 < n from hl)]; rfl
        rw [e]
        exact move_ok_24 b.f0 b.f1 b.f2 b.f3 b.bo b.wa b.bu n c w hc hcl hg hn.1 hn.2 (by omega)
    · have e : mv b 2 4 n = (b, 2) := by rw [mv, if_pos (.inr hn)]
      rw [e]
      exact move_range_in b.f0 b.f1 b.f2 b.f3 b.bo b.wa b.bu n _ _ w hg hn
  · have e : mv b 2 4 n = (b, 2) := by rw [mv, if_pos (.inl (by simpa using hg))]
    rw [e]
    exact move_range_bad b.f0 b.f1 b.f2 b.f3 b.bo b.wa b.bu n _ _ w (by simpa [Bk.good] using hg)
theorem mv_34 (b : Bk) (n : Int) (c : Nat) (w : World) (hc : w.cell? ⟨c, 0, none⟩ = some (.int .i64 3)) (hcl : c < w.heap.size) :
    Calls Tryz.prog 114 #[.agg #[.int .i64 b.f0, .int .i64 b.f1, .int .i64 b.f2, .int .i64 b.f3, .int .i64 b.bo, .int .i64 b.wa, .int .i64 b.bu], (.func (.func 125) #[] #[.pointer (some ⟨c, 0, none⟩)]), (.func (.func 122) #[] #[]), .int .i64 n] w fun e w' => e = .returned (.tuple #[.agg #[.int .i64 (mv b 3 4 n).1.f0, .int .i64 (mv b 3 4 n).1.f1, .int .i64 (mv b 3 4 n).1.f2, .int .i64 (mv b 3 4 n).1.f3, .int .i64 (mv b 3 4 n).1.bo, .int .i64 (mv b 3 4 n).1.wa, .int .i64 (mv b 3 4 n).1.bu], .int .i64 (mv b 3 4 n).2]) ∧ Below w.heap.size w w' := by
  by_cases hg : b.good = true
  · by_cases hn : 0 ≤ n ∧ n ≤ 1125899906842624
    · have h1 : ¬ (b.good = false ∨ ¬ (0 ≤ n ∧ n ≤ 1125899906842624)) := by rw [hg]; simp [hn]
      by_cases hl : b.f3 < n
      · have e : mv b 3 4 n = (b, 7) := by rw [mv, if_neg h1, if_pos (show b.get 3 < n from hl)]
        rw [e]
        exact move_funds_3 b.f0 b.f1 b.f2 b.f3 b.bo b.wa b.bu n c _ w hc hcl hg hn.1 hn.2 hl
      · have e : mv b 3 4 n = ((b.put 3 (b.f3 - n)).put 4 (b.bo + n), 0) := by rw [mv, if_neg h1, if_neg (show ¬ b.get 3 < n from hl)]; rfl
        rw [e]
        exact move_ok_34 b.f0 b.f1 b.f2 b.f3 b.bo b.wa b.bu n c w hc hcl hg hn.1 hn.2 (by omega)
    · have e : mv b 3 4 n = (b, 2) := by rw [mv, if_pos (.inr hn)]
      rw [e]
      exact move_range_in b.f0 b.f1 b.f2 b.f3 b.bo b.wa b.bu n _ _ w hg hn
  · have e : mv b 3 4 n = (b, 2) := by rw [mv, if_pos (.inl (by simpa using hg))]
    rw [e]
    exact move_range_bad b.f0 b.f1 b.f2 b.f3 b.bo b.wa b.bu n _ _ w (by simpa [Bk.good] using hg)
theorem mv_50 (b : Bk) (n : Int) (c : Nat) (w : World) (hc : w.cell? ⟨c, 0, none⟩ = some (.int .i64 0)) (hcl : c < w.heap.size) :
    Calls Tryz.prog 114 #[.agg #[.int .i64 b.f0, .int .i64 b.f1, .int .i64 b.f2, .int .i64 b.f3, .int .i64 b.bo, .int .i64 b.wa, .int .i64 b.bu], (.func (.func 123) #[] #[]), (.func (.func 125) #[] #[.pointer (some ⟨c, 0, none⟩)]), .int .i64 n] w fun e w' => e = .returned (.tuple #[.agg #[.int .i64 (mv b 5 0 n).1.f0, .int .i64 (mv b 5 0 n).1.f1, .int .i64 (mv b 5 0 n).1.f2, .int .i64 (mv b 5 0 n).1.f3, .int .i64 (mv b 5 0 n).1.bo, .int .i64 (mv b 5 0 n).1.wa, .int .i64 (mv b 5 0 n).1.bu], .int .i64 (mv b 5 0 n).2]) ∧ Below w.heap.size w w' := by
  by_cases hg : b.good = true
  · by_cases hn : 0 ≤ n ∧ n ≤ 1125899906842624
    · have h1 : ¬ (b.good = false ∨ ¬ (0 ≤ n ∧ n ≤ 1125899906842624)) := by rw [hg]; simp [hn]
      by_cases hl : b.wa < n
      · have e : mv b 5 0 n = (b, 7) := by rw [mv, if_neg h1, if_pos (show b.get 5 < n from hl)]
        rw [e]
        exact move_funds_5 b.f0 b.f1 b.f2 b.f3 b.bo b.wa b.bu n _ w hg hn.1 hn.2 hl
      · have e : mv b 5 0 n = ((b.put 5 (b.wa - n)).put 0 (b.f0 + n), 0) := by rw [mv, if_neg h1, if_neg (show ¬ b.get 5 < n from hl)]; rfl
        rw [e]
        exact move_ok_50 b.f0 b.f1 b.f2 b.f3 b.bo b.wa b.bu n c w hc hcl hg hn.1 hn.2 (by omega)
    · have e : mv b 5 0 n = (b, 2) := by rw [mv, if_pos (.inr hn)]
      rw [e]
      exact move_range_in b.f0 b.f1 b.f2 b.f3 b.bo b.wa b.bu n _ _ w hg hn
  · have e : mv b 5 0 n = (b, 2) := by rw [mv, if_pos (.inl (by simpa using hg))]
    rw [e]
    exact move_range_bad b.f0 b.f1 b.f2 b.f3 b.bo b.wa b.bu n _ _ w (by simpa [Bk.good] using hg)
theorem mv_51 (b : Bk) (n : Int) (c : Nat) (w : World) (hc : w.cell? ⟨c, 0, none⟩ = some (.int .i64 1)) (hcl : c < w.heap.size) :
    Calls Tryz.prog 114 #[.agg #[.int .i64 b.f0, .int .i64 b.f1, .int .i64 b.f2, .int .i64 b.f3, .int .i64 b.bo, .int .i64 b.wa, .int .i64 b.bu], (.func (.func 123) #[] #[]), (.func (.func 125) #[] #[.pointer (some ⟨c, 0, none⟩)]), .int .i64 n] w fun e w' => e = .returned (.tuple #[.agg #[.int .i64 (mv b 5 1 n).1.f0, .int .i64 (mv b 5 1 n).1.f1, .int .i64 (mv b 5 1 n).1.f2, .int .i64 (mv b 5 1 n).1.f3, .int .i64 (mv b 5 1 n).1.bo, .int .i64 (mv b 5 1 n).1.wa, .int .i64 (mv b 5 1 n).1.bu], .int .i64 (mv b 5 1 n).2]) ∧ Below w.heap.size w w' := by
  by_cases hg : b.good = true
  · by_cases hn : 0 ≤ n ∧ n ≤ 1125899906842624
    · have h1 : ¬ (b.good = false ∨ ¬ (0 ≤ n ∧ n ≤ 1125899906842624)) := by rw [hg]; simp [hn]
      by_cases hl : b.wa < n
      · have e : mv b 5 1 n = (b, 7) := by rw [mv, if_neg h1, if_pos (show b.get 5 < n from hl)]
        rw [e]
        exact move_funds_5 b.f0 b.f1 b.f2 b.f3 b.bo b.wa b.bu n _ w hg hn.1 hn.2 hl
      · have e : mv b 5 1 n = ((b.put 5 (b.wa - n)).put 1 (b.f1 + n), 0) := by rw [mv, if_neg h1, if_neg (show ¬ b.get 5 < n from hl)]; rfl
        rw [e]
        exact move_ok_51 b.f0 b.f1 b.f2 b.f3 b.bo b.wa b.bu n c w hc hcl hg hn.1 hn.2 (by omega)
    · have e : mv b 5 1 n = (b, 2) := by rw [mv, if_pos (.inr hn)]
      rw [e]
      exact move_range_in b.f0 b.f1 b.f2 b.f3 b.bo b.wa b.bu n _ _ w hg hn
  · have e : mv b 5 1 n = (b, 2) := by rw [mv, if_pos (.inl (by simpa using hg))]
    rw [e]
    exact move_range_bad b.f0 b.f1 b.f2 b.f3 b.bo b.wa b.bu n _ _ w (by simpa [Bk.good] using hg)
theorem mv_52 (b : Bk) (n : Int) (c : Nat) (w : World) (hc : w.cell? ⟨c, 0, none⟩ = some (.int .i64 2)) (hcl : c < w.heap.size) :
    Calls Tryz.prog 114 #[.agg #[.int .i64 b.f0, .int .i64 b.f1, .int .i64 b.f2, .int .i64 b.f3, .int .i64 b.bo, .int .i64 b.wa, .int .i64 b.bu], (.func (.func 123) #[] #[]), (.func (.func 125) #[] #[.pointer (some ⟨c, 0, none⟩)]), .int .i64 n] w fun e w' => e = .returned (.tuple #[.agg #[.int .i64 (mv b 5 2 n).1.f0, .int .i64 (mv b 5 2 n).1.f1, .int .i64 (mv b 5 2 n).1.f2, .int .i64 (mv b 5 2 n).1.f3, .int .i64 (mv b 5 2 n).1.bo, .int .i64 (mv b 5 2 n).1.wa, .int .i64 (mv b 5 2 n).1.bu], .int .i64 (mv b 5 2 n).2]) ∧ Below w.heap.size w w' := by
  by_cases hg : b.good = true
  · by_cases hn : 0 ≤ n ∧ n ≤ 1125899906842624
    · have h1 : ¬ (b.good = false ∨ ¬ (0 ≤ n ∧ n ≤ 1125899906842624)) := by rw [hg]; simp [hn]
      by_cases hl : b.wa < n
      · have e : mv b 5 2 n = (b, 7) := by rw [mv, if_neg h1, if_pos (show b.get 5 < n from hl)]
        rw [e]
        exact move_funds_5 b.f0 b.f1 b.f2 b.f3 b.bo b.wa b.bu n _ w hg hn.1 hn.2 hl
      · have e : mv b 5 2 n = ((b.put 5 (b.wa - n)).put 2 (b.f2 + n), 0) := by rw [mv, if_neg h1, if_neg (show ¬ b.get 5 < n from hl)]; rfl
        rw [e]
        exact move_ok_52 b.f0 b.f1 b.f2 b.f3 b.bo b.wa b.bu n c w hc hcl hg hn.1 hn.2 (by omega)
    · have e : mv b 5 2 n = (b, 2) := by rw [mv, if_pos (.inr hn)]
      rw [e]
      exact move_range_in b.f0 b.f1 b.f2 b.f3 b.bo b.wa b.bu n _ _ w hg hn
  · have e : mv b 5 2 n = (b, 2) := by rw [mv, if_pos (.inl (by simpa using hg))]
    rw [e]
    exact move_range_bad b.f0 b.f1 b.f2 b.f3 b.bo b.wa b.bu n _ _ w (by simpa [Bk.good] using hg)
theorem mv_53 (b : Bk) (n : Int) (c : Nat) (w : World) (hc : w.cell? ⟨c, 0, none⟩ = some (.int .i64 3)) (hcl : c < w.heap.size) :
    Calls Tryz.prog 114 #[.agg #[.int .i64 b.f0, .int .i64 b.f1, .int .i64 b.f2, .int .i64 b.f3, .int .i64 b.bo, .int .i64 b.wa, .int .i64 b.bu], (.func (.func 123) #[] #[]), (.func (.func 125) #[] #[.pointer (some ⟨c, 0, none⟩)]), .int .i64 n] w fun e w' => e = .returned (.tuple #[.agg #[.int .i64 (mv b 5 3 n).1.f0, .int .i64 (mv b 5 3 n).1.f1, .int .i64 (mv b 5 3 n).1.f2, .int .i64 (mv b 5 3 n).1.f3, .int .i64 (mv b 5 3 n).1.bo, .int .i64 (mv b 5 3 n).1.wa, .int .i64 (mv b 5 3 n).1.bu], .int .i64 (mv b 5 3 n).2]) ∧ Below w.heap.size w w' := by
  by_cases hg : b.good = true
  · by_cases hn : 0 ≤ n ∧ n ≤ 1125899906842624
    · have h1 : ¬ (b.good = false ∨ ¬ (0 ≤ n ∧ n ≤ 1125899906842624)) := by rw [hg]; simp [hn]
      by_cases hl : b.wa < n
      · have e : mv b 5 3 n = (b, 7) := by rw [mv, if_neg h1, if_pos (show b.get 5 < n from hl)]
        rw [e]
        exact move_funds_5 b.f0 b.f1 b.f2 b.f3 b.bo b.wa b.bu n _ w hg hn.1 hn.2 hl
      · have e : mv b 5 3 n = ((b.put 5 (b.wa - n)).put 3 (b.f3 + n), 0) := by rw [mv, if_neg h1, if_neg (show ¬ b.get 5 < n from hl)]; rfl
        rw [e]
        exact move_ok_53 b.f0 b.f1 b.f2 b.f3 b.bo b.wa b.bu n c w hc hcl hg hn.1 hn.2 (by omega)
    · have e : mv b 5 3 n = (b, 2) := by rw [mv, if_pos (.inr hn)]
      rw [e]
      exact move_range_in b.f0 b.f1 b.f2 b.f3 b.bo b.wa b.bu n _ _ w hg hn
  · have e : mv b 5 3 n = (b, 2) := by rw [mv, if_pos (.inl (by simpa using hg))]
    rw [e]
    exact move_range_bad b.f0 b.f1 b.f2 b.f3 b.bo b.wa b.bu n _ _ w (by simpa [Bk.good] using hg)
theorem mv_46 (b : Bk) (n : Int) (w : World) :
    Calls Tryz.prog 114 #[.agg #[.int .i64 b.f0, .int .i64 b.f1, .int .i64 b.f2, .int .i64 b.f3, .int .i64 b.bo, .int .i64 b.wa, .int .i64 b.bu], (.func (.func 122) #[] #[]), (.func (.func 124) #[] #[]), .int .i64 n] w fun e w' => e = .returned (.tuple #[.agg #[.int .i64 (mv b 4 6 n).1.f0, .int .i64 (mv b 4 6 n).1.f1, .int .i64 (mv b 4 6 n).1.f2, .int .i64 (mv b 4 6 n).1.f3, .int .i64 (mv b 4 6 n).1.bo, .int .i64 (mv b 4 6 n).1.wa, .int .i64 (mv b 4 6 n).1.bu], .int .i64 (mv b 4 6 n).2]) ∧ Below w.heap.size w w' := by
  by_cases hg : b.good = true
  · by_cases hn : 0 ≤ n ∧ n ≤ 1125899906842624
    · have h1 : ¬ (b.good = false ∨ ¬ (0 ≤ n ∧ n ≤ 1125899906842624)) := by rw [hg]; simp [hn]
      by_cases hl : b.bo < n
      · have e : mv b 4 6 n = (b, 7) := by rw [mv, if_neg h1, if_pos (show b.get 4 < n from hl)]
        rw [e]
        exact move_funds_4 b.f0 b.f1 b.f2 b.f3 b.bo b.wa b.bu n _ w hg hn.1 hn.2 hl
      · have e : mv b 4 6 n = ((b.put 4 (b.bo - n)).put 6 (b.bu + n), 0) := by rw [mv, if_neg h1, if_neg (show ¬ b.get 4 < n from hl)]; rfl
        rw [e]
        exact move_ok_46 b.f0 b.f1 b.f2 b.f3 b.bo b.wa b.bu n w hg hn.1 hn.2 (by omega)
    · have e : mv b 4 6 n = (b, 2) := by rw [mv, if_pos (.inr hn)]
      rw [e]
      exact move_range_in b.f0 b.f1 b.f2 b.f3 b.bo b.wa b.bu n _ _ w hg hn
  · have e : mv b 4 6 n = (b, 2) := by rw [mv, if_pos (.inl (by simpa using hg))]
    rw [e]
    exact move_range_bad b.f0 b.f1 b.f2 b.f3 b.bo b.wa b.bu n _ _ w (by simpa [Bk.good] using hg)
theorem mv_56 (b : Bk) (n : Int) (w : World) :
    Calls Tryz.prog 114 #[.agg #[.int .i64 b.f0, .int .i64 b.f1, .int .i64 b.f2, .int .i64 b.f3, .int .i64 b.bo, .int .i64 b.wa, .int .i64 b.bu], (.func (.func 123) #[] #[]), (.func (.func 124) #[] #[]), .int .i64 n] w fun e w' => e = .returned (.tuple #[.agg #[.int .i64 (mv b 5 6 n).1.f0, .int .i64 (mv b 5 6 n).1.f1, .int .i64 (mv b 5 6 n).1.f2, .int .i64 (mv b 5 6 n).1.f3, .int .i64 (mv b 5 6 n).1.bo, .int .i64 (mv b 5 6 n).1.wa, .int .i64 (mv b 5 6 n).1.bu], .int .i64 (mv b 5 6 n).2]) ∧ Below w.heap.size w w' := by
  by_cases hg : b.good = true
  · by_cases hn : 0 ≤ n ∧ n ≤ 1125899906842624
    · have h1 : ¬ (b.good = false ∨ ¬ (0 ≤ n ∧ n ≤ 1125899906842624)) := by rw [hg]; simp [hn]
      by_cases hl : b.wa < n
      · have e : mv b 5 6 n = (b, 7) := by rw [mv, if_neg h1, if_pos (show b.get 5 < n from hl)]
        rw [e]
        exact move_funds_5 b.f0 b.f1 b.f2 b.f3 b.bo b.wa b.bu n _ w hg hn.1 hn.2 hl
      · have e : mv b 5 6 n = ((b.put 5 (b.wa - n)).put 6 (b.bu + n), 0) := by rw [mv, if_neg h1, if_neg (show ¬ b.get 5 < n from hl)]; rfl
        rw [e]
        exact move_ok_56 b.f0 b.f1 b.f2 b.f3 b.bo b.wa b.bu n w hg hn.1 hn.2 (by omega)
    · have e : mv b 5 6 n = (b, 2) := by rw [mv, if_pos (.inr hn)]
      rw [e]
      exact move_range_in b.f0 b.f1 b.f2 b.f3 b.bo b.wa b.bu n _ _ w hg hn
  · have e : mv b 5 6 n = (b, 2) := by rw [mv, if_pos (.inl (by simpa using hg))]
    rw [e]
    exact move_range_bad b.f0 b.f1 b.f2 b.f3 b.bo b.wa b.bu n _ _ w (by simpa [Bk.good] using hg)
theorem bond_any (b : Bk) (d n : Int) (w : World) : Calls Tryz.prog 106 #[.agg #[.int .i64 b.f0, .int .i64 b.f1, .int .i64 b.f2, .int .i64 b.f3, .int .i64 b.bo, .int .i64 b.wa, .int .i64 b.bu], .int .i64 d, .int .i64 n] w fun e w' => e = .returned (.tuple #[.agg #[.int .i64 (bondR b d n).1.f0, .int .i64 (bondR b d n).1.f1, .int .i64 (bondR b d n).1.f2, .int .i64 (bondR b d n).1.f3, .int .i64 (bondR b d n).1.bo, .int .i64 (bondR b d n).1.wa, .int .i64 (bondR b d n).1.bu], .int .i64 (bondR b d n).2]) ∧ Below w.heap.size w w' := by
  by_cases h : 0 ≤ d ∧ d < 4
  · rw [bondR, if_pos h]
    refine bond_walk b.f0 b.f1 b.f2 b.f3 b.bo b.wa b.bu d n (mv b d.toNat 4 n).1.f0 (mv b d.toNat 4 n).1.f1 (mv b d.toNat 4 n).1.f2 (mv b d.toNat 4 n).1.f3 (mv b d.toNat 4 n).1.bo (mv b d.toNat 4 n).1.wa (mv b d.toNat 4 n).1.bu (mv b d.toNat 4 n).2 w h.1 h.2 ?_
    intro c w hc hcl
    rcases (show d = 0 ∨ d = 1 ∨ d = 2 ∨ d = 3 by omega) with rfl | rfl | rfl | rfl
    · exact mv_04 b n c w hc hcl
    · exact mv_14 b n c w hc hcl
    · exact mv_24 b n c w hc hcl
    · exact mv_34 b n c w hc hcl
  · rw [bondR, if_neg h]
    exact bond_no b.f0 b.f1 b.f2 b.f3 b.bo b.wa b.bu d n w h
theorem pay_any (b : Bk) (d n : Int) (w : World) : Calls Tryz.prog 69 #[.agg #[.int .i64 b.f0, .int .i64 b.f1, .int .i64 b.f2, .int .i64 b.f3, .int .i64 b.bo, .int .i64 b.wa, .int .i64 b.bu], .int .i64 d, .int .i64 n] w fun e w' => e = .returned (.tuple #[.agg #[.int .i64 (payR b d n).1.f0, .int .i64 (payR b d n).1.f1, .int .i64 (payR b d n).1.f2, .int .i64 (payR b d n).1.f3, .int .i64 (payR b d n).1.bo, .int .i64 (payR b d n).1.wa, .int .i64 (payR b d n).1.bu], .int .i64 (payR b d n).2]) ∧ Below w.heap.size w w' := by
  by_cases h : 0 ≤ d ∧ d < 4
  · rw [payR, if_pos h]
    refine pay_walk b.f0 b.f1 b.f2 b.f3 b.bo b.wa b.bu d n (mv b 5 d.toNat n).1.f0 (mv b 5 d.toNat n).1.f1 (mv b 5 d.toNat n).1.f2 (mv b 5 d.toNat n).1.f3 (mv b 5 d.toNat n).1.bo (mv b 5 d.toNat n).1.wa (mv b 5 d.toNat n).1.bu (mv b 5 d.toNat n).2 w h.1 h.2 ?_
    intro c w hc hcl
    rcases (show d = 0 ∨ d = 1 ∨ d = 2 ∨ d = 3 by omega) with rfl | rfl | rfl | rfl
    · exact mv_50 b n c w hc hcl
    · exact mv_51 b n c w hc hcl
    · exact mv_52 b n c w hc hcl
    · exact mv_53 b n c w hc hcl
  · rw [payR, if_neg h]
    exact pay_no b.f0 b.f1 b.f2 b.f3 b.bo b.wa b.bu d n w h
theorem burn_any (b : Bk) (x y : Int) (w : World) : Calls Tryz.prog 166 #[.agg #[.int .i64 b.f0, .int .i64 b.f1, .int .i64 b.f2, .int .i64 b.f3, .int .i64 b.bo, .int .i64 b.wa, .int .i64 b.bu], .int .i64 x, .int .i64 y] w fun e w' => e = .returned (.tuple #[.agg #[.int .i64 (burnR b x y).1.f0, .int .i64 (burnR b x y).1.f1, .int .i64 (burnR b x y).1.f2, .int .i64 (burnR b x y).1.f3, .int .i64 (burnR b x y).1.bo, .int .i64 (burnR b x y).1.wa, .int .i64 (burnR b x y).1.bu], .int .i64 (burnR b x y).2]) ∧ Below w.heap.size w w' := by
  refine burn_walk b.f0 b.f1 b.f2 b.f3 b.bo b.wa b.bu x y (mv b 4 6 x).1.f0 (mv b 4 6 x).1.f1 (mv b 4 6 x).1.f2 (mv b 4 6 x).1.f3 (mv b 4 6 x).1.bo (mv b 4 6 x).1.wa (mv b 4 6 x).1.bu (mv b 4 6 x).2 (mv (mv b 4 6 x).1 5 6 y).1.f0 (mv (mv b 4 6 x).1 5 6 y).1.f1 (mv (mv b 4 6 x).1 5 6 y).1.f2 (mv (mv b 4 6 x).1 5 6 y).1.f3 (mv (mv b 4 6 x).1 5 6 y).1.bo (mv (mv b 4 6 x).1 5 6 y).1.wa (mv (mv b 4 6 x).1 5 6 y).1.bu (mv (mv b 4 6 x).1 5 6 y).2 (burnR b x y).1.f0 (burnR b x y).1.f1 (burnR b x y).1.f2 (burnR b x y).1.f3 (burnR b x y).1.bo (burnR b x y).1.wa (burnR b x y).1.bu (burnR b x y).2 w ?_ (mv_46 b x) (mv_56 (mv b 4 6 x).1 y)
  unfold burnR
  by_cases h1 : (mv b 4 6 x).2 = 0
  · by_cases h2 : (mv (mv b 4 6 x).1 5 6 y).2 = 0
    · rw [if_pos h1, if_pos h2]
      exact .inr (.inr ⟨h1, h2, rfl, rfl, rfl, rfl, rfl, rfl, rfl, rfl⟩)
    · rw [if_pos h1, if_neg h2]
      exact .inr (.inl ⟨h1, h2, rfl, rfl, rfl, rfl, rfl, rfl, rfl, rfl⟩)
  · rw [if_neg h1]
    exact .inl ⟨h1, rfl, rfl, rfl, rfl, rfl, rfl, rfl, rfl⟩
end Go.Proofs.YtjghbciepinofaaGreat

set_option maxRecDepth 100000
namespace Go.Proofs.YtjghbciepinofaaGreat
open Go.RowKit
set_option maxHeartbeats 4000000 in
theorem insort_V (g cap : Nat) (l : List Pw) (w : World) (h : RowAt w g l) (hn : l.length ≤ 12) :
    Calls Tryz.prog 126 #[.slice (some ⟨g, 0, none⟩) l.length cap, .int .i64 0, .int .i64 (l.length : Int), .func (.func 39) #[] #[]] w fun e w' => e = .returned (.tuple #[]) ∧ RowAt w' g (isort ltV l) ∧ ButB g w w' := by
  have HR0 := hide h
  clear h
  go_enter Tryz.func126, Tryz.ntmps126
  go_wp2
  go_loopw [8] (fun i wl => ∃ m : Nat, i = .int .i64 ((m : Int) + 1) ∧ (m + 1 ≤ l.length ∨ m = 0) ∧ Hid (RowAt wl g (sortTo ltV l m) ∧ ButB g w wl)) (fun i _ => l.length - (intOf i).toNat)
  case atStart => exact ⟨0, rfl, .inr rfl, HR0.out, ButB.refl _ _⟩
  case round =>
    obtain ⟨m, rfl, hm, HR⟩ := hrel
    by_cases hlt : m + 1 < l.length
    · rename World => wo
      have hlt' : (m : Int) + 1 < (l.length : Int) := by omega
      go_wp2_with fail
      go_loopw [9] (fun j wl => ∃ (p : Nat) (l' : List Pw), j = .int .i64 (p : Int) ∧ p ≤ m + 1 ∧ l'.length = l.length ∧ Hid (insG ltV (m + 1) (sortTo ltV l m) = insG ltV p l' ∧ RowAt wl g l' ∧ ButB g w wl)) (fun j _ => (intOf j).toNat)
      case atStart => exact ⟨m + 1, sortTo ltV l m, by go_num, Nat.le_refl _, sortTo_length _ _ _, rfl, HR.out⟩
      case round =>
        obtain ⟨p, l', rfl, hp, hl', HI⟩ := hrel
        have hsz : w.heap.size ≤ wr.heap.size := HI.out.2.2.size
        cases p with
        | zero =>
          have hg0 : decide ((0 : Int) < 0) = false := by decide
          go_upto_region 4 with fail
          go_quiet (fail)
          go_wp2
          go_roundw
          case rel => exact ⟨m + 1, by go_num, .inl (by omega), (by rw [sortTo, HI.out.1]; exact HI.out.2.1), (show ButB g w (wr.drewN nq) from HI.out.2.2.drewN nq)⟩
          case measure => simp [intOf]; omega
        | succ p =>
          have hp1 : p + 1 < l'.length := by omega
          obtain ⟨c0, c1⟩ := HI.out.2.1.cell (i := p + 1) hp1
          obtain ⟨d0, d1⟩ := HI.out.2.1.cell (i := p) (by omega)
          have hC := byNumber_any (l'.getD (p + 1) pz) (l'.getD p pz)
          have hgl := HI.out.2.1.lt
          have HI1 : Hid (insG ltV (m + 1) (sortTo ltV l m) = if ltV (l'.getD (p + 1) pz) (l'.getD p pz) = true then insG ltV p (swapAt l' p) else l') := HI.out.1
          have hlt2 : Hid (ltV (l'.getD (p + 1) pz) (l'.getD p pz) = decide (cmpV (l'.getD (p + 1) pz) (l'.getD p pz) < 0)) := rfl
          have HRow := hide HI.out.2
          clear HI
          generalize cmpV (l'.getD (p + 1) pz) (l'.getD p pz) = r at *
          generalize hA : l'.getD (p + 1) pz = A at *
          generalize hB : l'.getD p pz = B at *
          have HA := hide hA
          have HB := hide hB
          clear hA hB
          have hw1 : IntKind.i64.wrap (((p + 1 : Nat) : Int) - 1) = (p : Int) := by rw [show ((p + 1 : Nat) : Int) - 1 = (p : Int) by omega]; exact wrapI (by omega) (by omega)
          generalize hq : p + 1 = q at *
          have HQ := hide hq
          clear hq
          have hq0 : (0 : Int) ≤ (q : Int) := by omega
          have hq1 : (q : Int) < (l.length : Int) := by omega
          have hp0 : (0 : Int) ≤ (p : Int) := by omega
          have hp2 : (p : Int) < (l.length : Int) := by have := HQ.out; omega
          have hg0 : decide (0 < q) = true := by have := HQ.out; simp; omega
          go_upto_region 4 with fail
          go_region_held3 (fun wx => wx.cell? ⟨g, q * 2, none⟩ = some (.int .i64 A.1) ∧ wx.cell? ⟨g, q * 2 + 1, none⟩ = some (.int .i64 A.2) ∧ wx.cell? ⟨g, p * 2, none⟩ = some (.int .i64 B.1) ∧ wx.cell? ⟨g, p * 2 + 1, none⟩ = some (.int .i64 B.2)) (first | go_keep | (refine ⟨?_, ?_, ?_, ?_⟩ <;> (rw [hbC.cell hgl]; simp [*])))
            (first | (go_at_call 39; refine (hC _).mono ?_; rintro e w1 ⟨rfl, hbC⟩))
          rename_i hh
          obtain ⟨c0', c1', d0', d1'⟩ := hh
          have hR1 := HRow.out.1.later (w' := w1) (show Below wr.heap.size wr w1 from ((Below.refl _ wr).drew.trans hbC))
          have hB1 : ButB g w w1 := HRow.out.2.trans (ButB.of_below (show Below wr.heap.size wr w1 from ((Below.refl _ wr).drew.trans hbC)))
          have HR1 := hide hR1
          have HB1 := hide hB1
          have f0 := hR1.free (q * 2)
          have f1 := hR1.free (q * 2 + 1)
          have f2 := hR1.free (p * 2)
          have f3 := hR1.free (p * 2 + 1)
          clear hR1 hB1 hbC c0 c1 d0 d1 HRow hC
          by_cases hr : r < 0
          · have hd : decide (r < 0) = true := by simpa using hr
            rw [hd]
            have hqp := HQ.out
            have n1 : ¬ p = q := by omega
            have n2 : ¬ q = p := by omega
            have n3 : ¬ p * 2 = q * 2 + 1 := by omega
            have n4 : ¬ q * 2 = p * 2 + 1 := by omega
            have n5 : ¬ p * 2 + 1 = q * 2 := by omega
            have n6 : ¬ q * 2 + 1 = p * 2 := by omega
            have n7 : ¬ p * 2 = q * 2 := by omega
            have n8 : ¬ q * 2 = p * 2 := by omega
            clear hqp
            go_upto_region 6 with fail
            go_region
            have hsw : (l'.set q B).set p A = swapAt l' p := by rw [swapAt, HQ.out, HA.out, HB.out]
            have HR2 : Hid (RowAt (((((w1.setCell ⟨g, q * 2, none⟩ (.int .i64 B.1)).setCell ⟨g, q * 2 + 1, none⟩ (.int .i64 B.2)).setCell ⟨g, p * 2, none⟩ (.int .i64 A.1)).setCell ⟨g, p * 2 + 1, none⟩ (.int .i64 A.2)).drew) g (swapAt l' p)) := by
              rw [← hsw]
              exact (HR1.out.put hp1 B).put (by simp; omega) A
            have HB2 : Hid (ButB g w (((((w1.setCell ⟨g, q * 2, none⟩ (.int .i64 B.1)).setCell ⟨g, q * 2 + 1, none⟩ (.int .i64 B.2)).setCell ⟨g, p * 2, none⟩ (.int .i64 A.1)).setCell ⟨g, p * 2 + 1, none⟩ (.int .i64 A.2)).drew)) := ((((HB1.out.set _ _).set _ _).set _ _).set _ _).drew
            have HE : Hid (insG ltV (m + 1) (sortTo ltV l m) = insG ltV p (swapAt l' p)) := by rw [HI1.out, hlt2.out, hd]; exact if_pos rfl
            clear hsw
            generalize ((((w1.setCell ⟨g, q * 2, none⟩ (.int .i64 B.1)).setCell ⟨g, q * 2 + 1, none⟩ (.int .i64 B.2)).setCell ⟨g, p * 2, none⟩ (.int .i64 A.1)).setCell ⟨g, p * 2 + 1, none⟩ (.int .i64 A.2)).drew = w2 at *
            go_wp2
            go_roundw
            case rel => exact ⟨p, swapAt l' p, rfl, by have := HQ.out; omega, (by rw [swap_length]; exact hl'), HE.out, HR2.out, HB2.out⟩
            case measure => have := HQ.out; simp [intOf]; omega
          · have hd : decide (r < 0) = false := by simpa using hr
            rw [hd]
            have HE : Hid (insG ltV (m + 1) (sortTo ltV l m) = l') := by rw [HI1.out, hlt2.out, hd]; exact if_neg (by simp)
            go_wp2
            go_roundw
            case rel => exact ⟨m + 1, by go_num, .inl (by omega), (by rw [sortTo, HE.out]; exact HR1.out), HB1.out⟩
            case measure => simp [intOf]; omega
    · have hE : isort ltV l = sortTo ltV l m := by
        unfold isort
        rcases hm with h | rfl
        · rw [show l.length - 1 = m by omega]
        · rcases (show l.length = 0 ∨ l.length = 1 by omega) with h | h <;> rw [h]
      have HE := hide hE
      clear hE
      go_wp2
      go_end0
      exact ⟨rfl, by rw [HE.out]; exact HR.out.1, HR.out.2⟩
end Go.Proofs.YtjghbciepinofaaGreat

set_option maxRecDepth 100000
namespace Go.Proofs.YtjghbciepinofaaGreat
open Go.RowKit
set_option maxHeartbeats 4000000 in
theorem pdq_V (g cap : Nat) (lim : Int) (l : List Pw) (w : World) (h : RowAt w g l) (hn : l.length ≤ 12) :
    Calls Tryz.prog 86 #[.slice (some ⟨g, 0, none⟩) l.length cap, .int .i64 0, .int .i64 (l.length : Int), .int .i64 lim, .func (.func 39) #[] #[]] w fun e w' => e = .returned (.tuple #[]) ∧ RowAt w' g (isort ltV l) ∧ ButB g w w' := by
  have hI := insort_V g cap l w h hn
  have hn' : (l.length : Int) ≤ 12 := by omega
  clear h
  go_enter Tryz.func86, Tryz.ntmps86
  go_wp2_with fail
  go_loopw [1, 2] (fun a b wl => a = .int .i64 0 ∧ b = .int .i64 (l.length : Int) ∧ Hid (wl = w)) (fun _ _ _ => 0)
  case atStart => exact ⟨rfl, rfl, rfl⟩
  case round =>
    obtain ⟨rfl, rfl, HW⟩ := hrel
    have e := HW.out
    subst e
    clear HW
    go_wp2_with (go_at_call 126; refine hI.mono ?_; rintro e w1 ⟨rfl, h1⟩; have H1 := hide h1; clear h1)
    exact bodyPost_ret (v := .tuple #[]) (by simp [results, Tryz.results86]) rfl ⟨rfl, H1.out⟩
theorem bitslen_V (n : Nat) (hn : n ≤ 12) (w : World) : Calls Tryz.prog 87 #[.int .u64 (n : Int)] w fun e w' => (∃ k, e = .returned (.int .i64 k)) ∧ w = w' := by
  have hL := Ra.len64 n (by omega)
  go_enter Tryz.func87, Tryz.ntmps87
  go_wp2_with (go_at_call 135; refine (hL _).mono ?_; rintro e w1 ⟨rfl, rfl⟩)
  go_ret
  exact ⟨⟨_, rfl⟩, rfl⟩
set_option maxHeartbeats 1000000 in
theorem sortf_V (g cap : Nat) (l : List Pw) (w : World) (h : RowAt w g l) (hn : l.length ≤ 12) :
    Calls Tryz.prog 37 #[.slice (some ⟨g, 0, none⟩) l.length cap, .func (.func 39) #[] #[]] w fun e w' => e = .returned (.tuple #[]) ∧ RowAt w' g (isort ltV l) ∧ ButB g w w' := by
  have hP := fun lim => pdq_V g cap lim l w h hn
  have hL := bitslen_V l.length hn w
  clear h
  go_enter Tryz.func37, Tryz.ntmps37
  go_wp2_with (first
    | (go_at_call 87; refine hL.mono ?_; rintro e w1 ⟨⟨k, rfl⟩, rfl⟩)
    | (go_at_call 86; refine (hP _).mono ?_; rintro e w2 ⟨rfl, h1⟩; have H1 := hide h1; clear h1))
  go_end0
  exact ⟨rfl, H1.out⟩
end Go.Proofs.YtjghbciepinofaaGreat

