/- Parts of the proof: KLF. -/
import Derived.Test.YtnfigdecgkcgcabRows
import Derived.Test.YtnfigdecgkcgcabAK29
import Derived.Test.YtnfigdecgkcgcabAK35
import Derived.Test.YtnfigdecgkcgcabAK48
set_option maxRecDepth 100000
namespace Go.Proofs.Ytnfigdecgkcgcab.Kc
open Go.RowKit Pv
attribute [local go_sem ↓] loadC_eq storeC_eq
set_option maxHeartbeats 4000000 in
theorem kcflags_no (c : Cs) (v : CsV) (x now : Int) (P : Nat → Prop) (w : World) (hp : CIn P w c v) (he : (downC c x now).2 ≠ 0) :
    Calls Try.prog 3 #[.agg (csC c v), .int .i64 x, .int .i64 now] w fun e w' => e = .returned (.bool true) ∧ Below w.heap.size w w' := by
  have HDN : Hid (∀ (g : Nat) (wx : World), CO w g wx c v → Calls Try.prog 4 #[.agg (csC c v), .int .i64 x, .int .i64 now] wx (AnsQ wx (downC c x now))) := fun g wx h => by
    obtain ⟨Q, hQ, -⟩ := h.cin
    exact (cdown_any c v Q wx x now hQ).mono fun _ _ h => h.q
  have HC0 := hide (CO.par hp)
  have HCO := hide (fun (wx : World) => kconsumes_any wx)
  generalize downC c x now = r at *
  obtain ⟨a, er⟩ := r
  dsimp only at he
  clear hp
  go_enter Try.func3, Try.ntmps3
  go_upto_region 1 with fail
  generalize w.alloc (.cells (csC c v) 33) = w0 at *
  have l0 := HC0.out.load
  go_upto_region 2 with (go_at_call 4; refine (HDN.out _ _ HC0.out).mono ?_; rintro e w1 ⟨v1, rfl, q1, hb1⟩; dsimp only at q1; dsimp only; have sA := (let ⟨_, h⟩ := q1; laid_store h); unfold Z22 at sA; have HB1 := hide (HC0.out.bel.trans (hb1.mono HC0.out.bel.size)); clear q1 hb1)
  clear sA l0
  have HB2 := hide (HB1.out.trans ((laid_below w1 a v1).mono HB1.out.size))
  generalize laidW w1 a v1 = w2 at *
  go_wp2_with (go_at_call 5; refine (HCO.out _).mono ?_; rintro e w3 ⟨rfl, hb3⟩; have HB3 := hide (HB2.out.trans (hb3.mono HB2.out.size)); clear hb3)
  go_ret
  exact ⟨rfl, HB3.out⟩
theorem CO.flag {w0 wl : World} {g : Nat} {c : Cs} {v : CsV} (h : CO w0 g wl c v) {m : Nat} (hm : m < 6) : wl.cell? ⟨g, 8 + m, none⟩ = some (.bool (c.fl m)) := (h.cat.cell _).trans (get_fl _ _ hm)
theorem lies_one (w : World) (x : Int) : Cd.Lies (w.alloc (.cells #[.int .i64 x] 3)) [] [x] none (some ⟨w.heap.size, 0, none⟩) 0 0 w.heap.size 0 := by
  refine ⟨by simp, by show 1 ≤ 2 ^ 63 - 1; omega, by simp, fun _ => rfl, fun i hi => absurd hi (by simp), fun i hi => ?_⟩
  obtain rfl : i = 0 := by simp at hi; omega
  exact (CAt.new 3 w #[.int .i64 x]).cell 0
set_option maxHeartbeats 8000000 in
theorem kcflags_yes (c : Cs) (v : CsV) (x now : Int) (P : Nat → Prop) (w : World) (hp : CIn P w c v) (h80 : c.pd.length * 80 ≤ 140737488351232) (h16 : c.rp.length * 16 ≤ 140737488351232) (he : (downC c x now).2 = 0) :
    Calls Try.prog 3 #[.agg (csC c v), .int .i64 x, .int .i64 now] w fun e w' => e = .returned (.bool true) ∧ Below w.heap.size w w' := by
  obtain ⟨⟨f1, f2⟩, ⟨f3, x0, x1⟩, f4, f5, f6, f7, f8⟩ := flag_facts he
  have HDN : Hid (∀ (g : Nat) (wx : World), CO w g wx c v → Calls Try.prog 4 #[.agg (csC c v), .int .i64 x, .int .i64 now] wx (AnsQ wx (flC c x now, 0))) := fun g wx h => by
    obtain ⟨Q, hQ, -⟩ := h.cin
    rw [← f1]
    exact (cdown_any c v Q wx x now hQ).mono fun _ _ h => h.q
  have HDM : Hid (∀ (g : Nat) (u : CsV) (wx : World), CO w g wx (flC c x now) u → Calls Try.prog 4 #[.agg (csC (flC c x now) u), .int .i64 x, .int .i64 now] wx (AnsQ wx (flC c x now, 5))) := fun g u wx h => by
    obtain ⟨Q, hQ, -⟩ := h.cin
    have := (cdown_any (flC c x now) u Q wx x now hQ).mono fun _ _ h => h.q
    rwa [f2] at this
  have HDC : Hid (∀ (wx : World), Calls Try.prog 6 #[.string (Cd.encS 3 c.id x (powN x c.set) [] [])] wx fun e w' => ∃ sa da cs cd, e = .returned (.tuple #[.agg #[.int .i64 3, .int .i64 c.id, .int .i64 x, .int .i64 (powN x c.set), .slice sa 0 cs, .slice da 0 cd], .int .i64 0]) ∧ Below wx.heap.size wx w') := fun wx => by
    have := Cd.decode_any (Cd.encS 3 c.id x (powN x c.set) [] []) wx (by rw [encS_size f3]; show 17 ≤ 2 ^ 63 - 1; omega)
    rw [(dec_encS f3).1, (dec_encS f3).2] at this
    exact this.mono fun e w' ⟨sa, da, cs, cd, _, _, _, _, he, _, _, hb⟩ => ⟨sa, da, cs, cd, he, hb⟩
  have hd := good_done x0 x1
  have HEC : Hid (∀ (wx : World), Calls Try.prog 7 #[.agg #[.int .i64 1, .int .i64 1, .int .i64 0, .int .i64 0, .slice none 0 0, .slice (some ⟨wx.heap.size, 0, none⟩) 1 1]] (wx.alloc (.cells #[.int .i64 x] 3)) fun e w' => e = .returned (.tuple #[.string (Cd.encS 1 1 0 0 [] [x]), .int .i64 0]) ∧ Below wx.heap.size wx w') := fun wx => by
    have := Cd.encode_any 1 1 0 0 [] [x] none (some ⟨wx.heap.size, 0, none⟩) 0 1 0 0 wx.heap.size 0 _ (lies_one wx x)
    rw [hd] at this
    have hb : Below wx.heap.size wx (wx.alloc (.cells #[.int .i64 x] 3)) := (Below.refl _ wx).alloc (Nat.le_refl _) _
    exact this.mono fun e w' h => ⟨h.1, hb.trans (h.2.mono hb.size)⟩
  have HHR : Hid (∀ (g : Nat) (u : CsV) (wx : World), CO w g wx (flC c x now) u → Calls Try.prog 8 #[.agg (csC (flC c x now) u), .string (Cd.encS 1 1 0 0 [] [x])] wx (AnsQ wx (fhC c x now, 0))) := fun g u wx h => by
    obtain ⟨Q, hQ, -⟩ := h.cin
    have := (chear_any (flC c x now) u Q wx (Cd.encS 1 1 0 0 [] [x]) hQ (by rw [encS_size hd]; show 18 ≤ 2 ^ 63 - 1; omega) h80).mono fun _ _ h => h.q
    rwa [f4] at this
  have HEN : Hid (∀ (m : Int), c.t ≤ m → isT m = true → ∃ d : Cs, d.fl x.toNat = false ∧ ∀ (g : Nat) (u : CsV) (wx : World), CO w g wx (fhC c x now) u → Calls Try.prog 9 #[.agg (csC (fhC c x now) u), .int .i64 m] wx (AnsO g wx d)) := fun m h1 h2 => by
    obtain ⟨d, e1, e2⟩ := f5 m h1 h2
    refine ⟨d, e2, fun g u wx h => ?_⟩
    obtain ⟨Q, hQ, hn⟩ := h.cin
    have hsz : ((fhC c x now).rp.length + (fhC c x now).pd.length) * 16 ≤ 168884986026393 := by
      show (c.rp.length + (c.pd ++ [dnP x]).length) * 16 ≤ _
      rw [List.length_append, List.length_singleton]
      omega
    have := cend_any (fhC c x now) u Q wx m hQ hsz
    rw [e1] at this
    exact this.mono fun _ _ h2 => h2.o hn h.cat.lt
  have HC0 := hide (CO.par hp)
  have HCO := hide (fun (wx : World) => kconsumes_any wx)
  have hid : (flC c x now).id = c.id := rfl
  have hfl : (flC c x now).fl x.toNat = true := by simp [flC, updF]
  have hS : (flC c x now).out.S = c.out.S ++ [Cd.encS 3 c.id x (powN x c.set) [] []] := rfl
  generalize hk : c.out.S.length = k at *
  generalize hs : Cd.encS 3 c.id x (powN x c.set) [] [] = s at *
  generalize Cd.encS 1 1 0 0 [] [x] = s2 at *
  generalize powN x c.set = n at *
  generalize flC c x now = a at *
  generalize fhC c x now = b at *
  obtain ⟨m, rfl⟩ : ∃ m : Nat, x = (m : Int) := ⟨x.toNat, by omega⟩
  rw [Int.toNat_natCast] at *
  have hm6 : m < 6 := by omega
  have HFA := hide hfl
  have HSA := hide hS
  clear hp h80 h16 he f1 f2 f3 f4 f5 hd hid hfl hS hs
  have hk1 : a.out.S.length = k + 1 := by rw [HSA.out, List.length_append, hk]; rfl
  generalize hkk : k + 1 = k1 at *
  go_enter Try.func3, Try.ntmps3
  go_upto_region 1 with fail
  generalize w.alloc (.cells (csC c v) 33) = w0 at *
  have l0 := HC0.out.load
  go_upto_region 2 with (go_at_call 4; refine (HDN.out _ _ HC0.out).mono ?_; rintro e w1 ⟨v1, rfl, q1, hb1⟩; dsimp only at q1; dsimp only; have sA := (let ⟨_, h⟩ := q1; laid_store h); unfold Z22 at sA; have HC1 := hide (HC0.out.over hb1); have HA1 := hide (let ⟨_, h⟩ := q1; CO.new h HC1.out.bel); clear q1 hb1)
  clear sA l0
  have HC2 := hide (HC1.out.over (laid_below w1 a v1))
  generalize laidW w1 a v1 = w2 at *
  generalize w1.heap.size = g1 at *
  clear HC1 HC0 HDN
  go_upto_region 4 with (go_at_call 5; refine (HCO.out _).mono ?_; rintro e w3 ⟨rfl, hb3⟩; have HC3 := hide (HC2.out.over hb3); have HA3 := hide (HA1.out.over hb3); clear hb3)
  have l3 := HA3.out.load
  clear HC2 HA1 HCO
  go_upto_region 5 with (go_at_call 4; refine (HDM.out _ _ _ HA3.out).mono ?_; rintro e w4 ⟨v4, rfl, q4, hb4⟩; dsimp only at q4; dsimp only; have sA := (let ⟨_, h⟩ := q4; laid_store h); unfold Z22 at sA; have HC4 := hide (HC3.out.over hb4); have HA4 := hide (HA3.out.over hb4); clear q4 hb4)
  clear sA l3
  have HC5 := hide (HC4.out.over (laid_below w4 a v4))
  have HA5 := hide (HA4.out.over (laid_below w4 a v4))
  generalize laidW w4 a v4 = w5 at *
  clear HC3 HC4 HA3 HA4 HDM
  obtain ⟨A0, C0, -, -, -, -, -, -, -, -, c14, -⟩ := HC5.out.lens
  rw [hk] at c14
  obtain ⟨A1, C1, A2, C2, -, -, sb, so, db, dO, a14, -, -, LA⟩ := HA5.out.lens
  have hs0 : 0 < a.out.S.length := by omega
  have hA1 := LA.hsa hs0
  subst hA1
  have cS : w5.cell? ⟨sb, so + k, none⟩ = some (.string s) := by
    rw [LA.PS k (by omega), HSA.out]
    simp [hk]
  rw [hk1] at a14
  have aF := HA5.out.flag hm6
  rw [HFA.out] at aF
  have hw1 : IntKind.i64.wrap ((k1 : Int) - (k : Int)) = 1 := by simp [IntKind.wrap, IntKind.bits, IntKind.signed]; omega
  have hw2 : IntKind.i64.wrap ((k1 : Int) - 1) = (k : Int) := by simp [IntKind.wrap, IntKind.bits, IntKind.signed]; omega
  have hkI : (k : Int) < (k1 : Int) := by omega
  have hk0 : (0 : Int) ≤ (k : Int) := by omega
  clear LA hs0 hkk hk1
  go_upto_region 8 with (go_at_call 6; refine (HDC.out _).mono ?_; rintro e wd ⟨sa, da, cs, cd, rfl, hbd⟩; have HCd := hide (HC5.out.over hbd); have HAd := hide (HA5.out.over hbd); clear hbd)
  have K := CAt.new 39 wd #[.int .i64 3, .int .i64 c.id, .int .i64 (m : Int), .int .i64 n, .slice sa 0 cs, .slice da 0 cd]
  have bz : Below wd.heap.size wd (wd.alloc (.cells #[.int .i64 3, .int .i64 c.id, .int .i64 (m : Int), .int .i64 n, .slice sa 0 cs, .slice da 0 cd] 39)) := (Below.refl _ wd).alloc (Nat.le_refl _) _
  generalize wd.alloc (.cells #[.int .i64 3, .int .i64 c.id, .int .i64 (m : Int), .int .i64 n, .slice sa 0 cs, .slice da 0 cd] 39) = we at *
  have k0 : we.cell? ⟨wd.heap.size, 0, none⟩ = some (.int .i64 3) := K.cell 0
  have k1 : we.cell? ⟨wd.heap.size, 1, none⟩ = some (.int .i64 c.id) := K.cell 1
  have k2 : we.cell? ⟨wd.heap.size, 2, none⟩ = some (.int .i64 (m : Int)) := K.cell 2
  have HCe := hide (HCd.out.over bz)
  have HAe := hide (HAd.out.over bz)
  generalize wd.heap.size = g3 at *
  have c4 : we.cell? ⟨w.heap.size, 4, none⟩ = some (.int .i64 c.id) := HCe.out.cat.cell 4
  clear K bz cS a14 c14 aF hw1 hw2 hkI hk0 HCd HAd HC5 HA5 HDC
  go_upto_region 11 with (go_at_call 7; refine (HEC.out _).mono ?_; rintro e wf ⟨rfl, hbf⟩; have HCf := hide (HCe.out.over hbf); have HAf := hide (HAe.out.over hbf); clear hbf)
  have lf := HAf.out.load
  clear k0 k1 k2 c4 HCe HAe HEC
  go_upto_region 12 with (go_at_call 8; refine (HHR.out _ _ _ HAf.out).mono ?_; rintro e w6 ⟨v6, rfl, q6, hb6⟩; dsimp only at q6; dsimp only; have sA := (let ⟨_, h⟩ := q6; laid_store h); unfold Z22 at sA; have HC6 := hide (HCf.out.over hb6); have HB6 := hide (let ⟨_, h⟩ := q6; CO.new h HC6.out.bel); clear q6 hb6)
  clear sA lf
  have HC7 := hide (HC6.out.over (laid_below w6 b v6))
  generalize laidW w6 b v6 = w7 at *
  generalize w6.heap.size = g6 at *
  clear HC6 HCf HAf HHR
  have l7 := HB6.out.load
  have c3 : w7.cell? ⟨w.heap.size, 3, none⟩ = some (.int .i64 c.t) := HC7.out.cat.cell 3
  obtain ⟨mx, hmx, hmt, hmi⟩ : ∃ mx : Int, mx = max now c.t ∧ c.t ≤ mx ∧ isT mx = true := by
    refine ⟨_, rfl, by omega, ?_⟩
    simp only [isT, Bool.and_eq_true, decide_eq_true_eq] at f6 f7 ⊢
    omega
  obtain ⟨d, hdf, hE⟩ := HEN.out mx hmt hmi
  have HE := hide hE
  have HDF := hide hdf
  clear HEN hE hdf hmt hmi
  have hT : (now < c.t ∧ mx = c.t) ∨ (¬ now < c.t ∧ mx = now) := by omega
  clear hmx
  rcases hT with ⟨t1, rfl⟩ | ⟨t1, rfl⟩
  all_goals
    go_upto_region 15 with (go_at_call 9; refine (HE.out _ _ _ HB6.out).mono ?_; rintro e w8 ⟨v8, rfl, q8, hb8⟩; have s8 := HB6.out.store q8 hb8; have HC8 := hide (HB6.out.put q8 hb8); clear q8 hb8)
    clear s8 l7 c3
    generalize w8.setCells g6 0 (csC d v8).toList = w9 at *
    have bF := HC8.out.flag hm6
    rw [HDF.out] at bF
    have HBZ := hide HC8.out.bel
    clear HC8 HB6
    go_wp2
    go_ret
    exact ⟨rfl, HBZ.out⟩
theorem kcflags_any (c : Cs) (v : CsV) (x now : Int) (P : Nat → Prop) (w : World) (hp : CIn P w c v) (h80 : c.pd.length * 80 ≤ 140737488351232) (h16 : c.rp.length * 16 ≤ 140737488351232) :
    Calls Try.prog 3 #[.agg (csC c v), .int .i64 x, .int .i64 now] w fun e w' => e = .returned (.bool true) ∧ Below w.heap.size w w' := by
  by_cases he : (downC c x now).2 = 0
  · exact kcflags_yes c v x now P w hp h80 h16 he
  · exact kcflags_no c v x now P w hp he
end Go.Proofs.Ytnfigdecgkcgcab.Kc

