/- Parts of the proof: KLA. -/
import Derived.Test.YtnfigdecgkcgcaaRows
import Derived.Test.YtnfigdecgkcgcaaCK45
set_option maxRecDepth 100000
namespace Go.Proofs.Ytnfigdecgkcgcaa.Kc
open Go.RowKit Pv
/-- the powers row by row -/
def powF (X : List Int) (L : List (List Int)) : Nat → Nat → Int
  | 0 => Df.madeP X
  | i + 1 => Df.madeP (L.getD i [])
theorem powF_pos (X : List Int) (L : List (List Int)) (i j : Nat) : 0 ≤ powF X L i j ∧ powF X L i j ≤ 3 := by
  cases i with
  | zero => exact Df.madeP_pos _ _
  | succ i => exact Df.madeP_pos _ _
theorem CD.lens {w0 wl : World} {gc gd : Nat} {c d : Cs} {vc vd : CsV} {la : Value} {ls : List (Int × Int)} (h : CD w0 gc gd wl c d vc vd la ls) : ∃ A1 C1 A2 C2 A3 C3, wl.cell? ⟨gc, 7, none⟩ = some (.slice A1 c.rp.length C1) ∧ wl.cell? ⟨gd, 7, none⟩ = some (.slice A2 d.rp.length C2) ∧ wl.cell? ⟨gc, 6, none⟩ = some (.slice A3 c.pd.length C3) := by
  obtain ⟨P, hP, -⟩ := h.jc
  obtain ⟨Q, hQ, -⟩ := h.jd
  obtain ⟨A1, C1, e1, -⟩ := hP.rp.open (pwC_length _) (by decide)
  obtain ⟨A2, C2, e2, -⟩ := hQ.rp.open (pwC_length _) (by decide)
  obtain ⟨z, hz, hr, -⟩ := hP.pd
  obtain ⟨A3, C3, e3, -⟩ := hr.open (n := c.pd.length) (pdL_length _ _ hz) (by decide)
  refine ⟨A1, C1, A2, C2, A3, C3, ?_, ?_, ?_⟩
  · rw [← e1]; exact h.kc.cell 7
  · rw [← e2]; exact h.kd.cell 7
  · rw [← e3]; exact h.kc.cell 6
/-- the sets' slices -/
theorem CD.sets {w0 wl : World} {gc gd : Nat} {c d : Cs} {vc vd : CsV} {la : Value} {ls : List (Int × Int)} (h : CD w0 gc gd wl c d vc vd la ls) : ∃ A1 n1 C1 A2 n2 C2, vc.set = .slice A1 n1 C1 ∧ vd.set = .slice A2 n2 C2 ∧ wl.cell? ⟨gc, 5, none⟩ = some (.slice A1 n1 C1) ∧ wl.cell? ⟨gd, 5, none⟩ = some (.slice A2 n2 C2) := by
  obtain ⟨P, hP, -⟩ := h.jc
  obtain ⟨Q, hQ, -⟩ := h.jd
  obtain ⟨A1, n1, C1, e1, -⟩ := hP.set
  obtain ⟨A2, n2, C2, e2, -⟩ := hQ.set
  refine ⟨A1, n1, C1, A2, n2, C2, e1, e2, ?_, ?_⟩
  · rw [← e1]; exact h.kc.cell 5
  · rw [← e2]; exact h.kd.cell 5
attribute [local go_sem ↓] loadC_eq storeC_eq
set_option maxHeartbeats 8000000 in
theorem kcapplies_any (X : List Int) (L : List (List Int)) (z : List Value) (xA : Option Addr) (xn xC : Nat) (lA : Option Addr) (lC : Nat) (cut0 now0 : Int) (w : World) (hx : Rep (fun _ => True) w (.slice xA xn xC) 1 8 (inC X)) (hzl : z.length = L.length) (hl : Rep (fun _ => True) w (.slice lA L.length lC) 1 24 z) (hz : ∀ (i : Nat) (x : List Int) (y : Value), L[i]? = some x → z[i]? = some y → Rep (fun _ => True) w y 1 8 (inC x)) :
    Calls Try.prog 7 #[.slice xA xn xC, .slice lA L.length lC, .int .i64 cut0, .int .i64 now0] w fun e w' => e = .returned (.bool true) ∧ Below w.heap.size w w' := by
  have HP1 := hide (fun (wx : World) => Pk.pick_any now0 1000 wx (by decide) (by decide))
  have HP2 := hide (fun (wx : World) => Pk.pick_any cut0 9 wx (by decide) (by decide))
  have hn0 := Int.emod_nonneg now0 (show (1000 : Int) ≠ 0 by decide)
  have hn1 := Int.emod_lt_of_pos now0 (show (0 : Int) < 1000 by decide)
  have hc0 := Int.emod_nonneg cut0 (show (9 : Int) ≠ 0 by decide)
  have hc1 := Int.emod_lt_of_pos cut0 (show (0 : Int) < 9 by decide)
  generalize now0 % 1000 = now at *
  generalize cut0 % 9 = cutI at *
  obtain ⟨cut, rfl⟩ : ∃ n : Nat, cutI = (n : Int) := ⟨cutI.toNat, by omega⟩
  have hcut : cut < 9 := by omega
  have hF : ∀ i j, 0 ≤ powF X L i j ∧ powF X L i j ≤ 3 := powF_pos X L
  have HM0 : Hid (∀ (wx : World), Below w.heap.size w wx → Calls Try.prog 29 #[.slice xA xn xC] wx fun e w' => ∃ A n C, e = .returned (.slice A n C) ∧ Rep (fun b => wx.heap.size ≤ b) w' (.slice A n C) 2 16 (pwC (Df.setOf (powF X L 0))) ∧ Below wx.heap.size wx w') := fun wx hb => made_rep X _ _ wx (hx.over hb)
  have HMI : Hid (∀ (k : Nat), k < L.length → ∃ (b off : Nat) (yA : Option Addr) (yn yC : Nat), lA = some ⟨b, off, none⟩ ∧ ∀ (wx : World), Below w.heap.size w wx → wx.cell? ⟨b, off + k, none⟩ = some (.slice yA yn yC) ∧ Calls Try.prog 29 #[.slice yA yn yC] wx fun e w' => ∃ A n C, e = .returned (.slice A n C) ∧ Rep (fun b => wx.heap.size ≤ b) w' (.slice A n C) 2 16 (pwC (Df.setOf (powF X L (k + 1)))) ∧ Below wx.heap.size wx w') := fun k hk => by
    have hzk : k < z.length := by omega
    have r := hz k L[k] z[k] (List.getElem?_eq_getElem hk) (List.getElem?_eq_getElem hzk)
    obtain ⟨yA, yn, yC, ey, -⟩ := id r
    obtain ⟨A9, C9, e9, -, -, hc, -⟩ := hl.open (n := L.length) (by rw [hzl]; omega) (by decide)
    cases e9
    obtain ⟨b, off, e10, -, hbl, hcell⟩ := hc (by omega)
    refine ⟨b, off, yA, yn, yC, e10, fun wx hb => ⟨?_, ?_⟩⟩
    · rw [hb.cell hbl, hcell k z[k] (List.getElem?_eq_getElem hzk), ey]
    · have := made_rep L[k] z[k] _ wx (r.over hb)
      rw [ey] at this
      have e : powF X L (k + 1) = Df.madeP L[k] := by show Df.madeP (L.getD k []) = _; simp [List.getD, hk]
      rw [e]
      exact this
  clear hx hl hz hzl
  generalize powF X L = F at *
  have HBG : Hid (∀ (u : Value) (P : Nat → Prop) (wx : World), Rep P wx u 2 16 (pwC (Df.setOf (F 0))) → Calls Try.prog 24 #[u, .int .i64 1, .int .i64 0] wx (AnsC1 P wx (gC F 0 0 0 0 []) 1)) := fun u P wx h => by
    have := cbegin_any (Df.setOf (F 0)) u 1 0 P wx h
    rwa [g_zero] at this
  have HDF := hide (fun (k : Nat) (v u : Value) (P P' : Nat → Prop) (wx : World) (h1 : Rep P wx v 2 16 (pwC (Df.setOf (F k)))) (h2 : Rep P' wx u 2 16 (pwC (Df.setOf (F (k + 1))))) => diff_rep _ _ v u P P' wx h1 h2)
  have HEC : Hid (∀ (k : Nat), k < 8 → ∀ (A : Option Addr) (n C : Nat) (Q : Nat → Prop) (wx : World), Rep Q wx (.slice A n C) 2 16 (pwC (Df.diffL (Df.setOf (F k)) (Df.setOf (F (k + 1))))) → Calls Try.prog 30 #[.agg #[.int .i64 1, .int .i64 (2 + (k : Int)), .int .i64 0, .int .i64 0, .slice A n C, .slice none 0 0]] wx fun e w' => e = .returned (.tuple #[.string (Cd.encS 1 (2 + (k : Int)) 0 0 (Df.diffL (Df.setOf (F k)) (Df.setOf (F (k + 1)))) []), .int .i64 0]) ∧ Below wx.heap.size wx w') := fun k hk A n C Q wx h => by
    obtain ⟨A1, C1, A2, C2, sb, so, db, dO, e1, e2, LL⟩ := Rep.lies (D := []) h (Rep.nil Q wx 1 8)
    have := Cd.encode_any 1 (2 + (k : Int)) 0 0 _ [] A1 A2 C1 C2 sb so db dO wx LL
    rw [good_chD hF k (by omega), ← e1, ← e2] at this
    exact this
  have HH1 : Hid (∀ (k : Nat), k < 8 → ∀ (gc gd : Nat) (d : Cs) (u ud : CsV) (la : Value) (ls : List (Int × Int)) (wx : World), CD w gc gd wx (gC F 0 k 0 0 []) d u ud la ls → Calls Try.prog 9 #[.agg (csC (gC F 0 k 0 0 []) u), .string (Cd.encS 1 (2 + (k : Int)) 0 0 (Df.diffL (Df.setOf (F k)) (Df.setOf (F (k + 1)))) [])] wx (AnsT gc gd wx (gC F 0 (k + 1) 0 0 []))) := fun k hk gc gd d u ud la ls wx h => by
    obtain ⟨P, hP, n1, n2⟩ := h.jc
    have hs := encS_size (good_chD hF k (by omega))
    have hdl := diff_len (Df.setOf (F k)) (Df.setOf (F (k + 1)))
    have := chear_any (gC F 0 k 0 0 []) u P wx _ hP (by rw [hs]; show 17 + 8 * _ + 0 ≤ 2 ^ 63 - 1; omega) (by show ((List.range' 0 (k - 0)).map (chD F)).length * 80 ≤ _; simp; omega)
    rw [g_hear hF 0 k 0 0 [] hk (by omega) (by omega) (by omega) (by omega) (by omega) rfl] at this
    exact this.mono fun _ _ h2 => h2.t n1 n2 h.kc.lt h.kd.lt
  have HH2 : Hid (∀ (k : Nat), k < 8 → ∀ (gc gd : Nat) (c : Cs) (uc u : CsV) (la : Value) (ls : List (Int × Int)) (wx : World), CD w gc gd wx c (dC F cut k now) uc u la ls → Calls Try.prog 9 #[.agg (csC (dC F cut k now) u), .string (Cd.encS 1 (2 + (k : Int)) 0 0 (Df.diffL (Df.setOf (F k)) (Df.setOf (F (k + 1)))) [])] wx (AnsT gc gd wx (dH F cut k now))) := fun k hk gc gd c uc u la ls wx h => by
    obtain ⟨P, hP, n1, n2⟩ := h.jd
    have hs := encS_size (good_chD hF k (by omega))
    have hdl := diff_len (Df.setOf (F k)) (Df.setOf (F (k + 1)))
    have := chear_any (dC F cut k now) u P wx _ hP (by rw [hs]; show 17 + 8 * _ + 0 ≤ 2 ^ 63 - 1; omega) (by have := (d_len (F := F) (cut := cut) (now := now) (show k ≤ 8 by omega)).1; omega)
    rw [d_hear hF hn0 hn1 hcut hk] at this
    exact this.mono fun _ _ h2 => h2.t n1 n2 h.kc.lt h.kd.lt
  have HE1 : Hid (∀ (k : Nat), k < 8 → k = cut → ∀ (gc gd : Nat) (c : Cs) (uc u : CsV) (la : Value) (ls : List (Int × Int)) (wx : World), CD w gc gd wx c (dH F cut k now) uc u la ls → Calls Try.prog 16 #[.agg (csC (dH F cut k now) u), .int .i64 now] wx (AnsT gc gd wx (dC F cut (k + 1) now))) := fun k hk hkc gc gd c uc u la ls wx h => by
    obtain ⟨P, hP, n1, n2⟩ := h.jd
    have := cend_any (dH F cut k now) u P wx now hP (by have := (d_len (F := F) (cut := cut) (now := now) (show k ≤ 8 by omega)).2; omega)
    rw [(d_cut hF hn0 hn1 hk hkc).1] at this
    exact this.mono fun _ _ h2 => h2.t n1 n2 h.kc.lt h.kd.lt
  have HE2 : Hid (∀ (k : Nat), k ≤ 8 → ∀ (gc gd : Nat) (d : Cs) (u ud : CsV) (la : Value) (ls : List (Int × Int)) (wx : World), CD w gc gd wx (gC F 0 k 0 0 []) d u ud la ls → Calls Try.prog 16 #[.agg (csC (gC F 0 k 0 0 []) u), .int .i64 now] wx (AnsT gc gd wx (gC F k k 1 now (rips now 0 k)))) := fun k hk gc gd d u ud la ls wx h => by
    obtain ⟨P, hP, n1, n2⟩ := h.jc
    have := cend_any (gC F 0 k 0 0 []) u P wx now hP (by show (0 + ((List.range' 0 (k - 0)).map (chD F)).length) * 16 ≤ _; simp; omega)
    rw [c_end hF hn0 hn1 hk] at this
    exact this.mono fun _ _ h2 => h2.t n1 n2 h.kc.lt h.kd.lt
  have HE3 : Hid (∀ (k : Nat), k ≤ 8 → ∃ h rp, rp.length = k ∧ ∀ (gc gd : Nat) (c : Cs) (uc u : CsV) (la : Value) (ls : List (Int × Int)) (wx : World), CD w gc gd wx c (dC F cut k now) uc u la ls → Calls Try.prog 16 #[.agg (csC (dC F cut k now) u), .int .i64 now] wx (AnsT gc gd wx (gC F k k h now rp))) := fun k hk => by
    obtain ⟨h, rp, e1, e2⟩ := d_end (k := k) hF hn0 hn1 hcut hk
    refine ⟨h, rp, e2, fun gc gd c uc u la ls wx h => ?_⟩
    obtain ⟨P, hP, n1, n2⟩ := h.jd
    have := cend_any (dC F cut k now) u P wx now hP (by have := d_len (F := F) (cut := cut) (now := now) hk; omega)
    rw [e1] at this
    exact this.mono fun _ _ h2 => h2.t n1 n2 h.kc.lt h.kd.lt
  have HSM := hide (fun (l : List (Int × Int)) (v u : Value) (P P' : Nat → Prop) (wx : World) (h1 : Rep P wx v 2 16 (pwC l)) (h2 : Rep P' wx u 2 16 (pwC l)) => ksame_rep l v u P P' wx h1 h2)
  have HNX : Hid (∀ k, k ≠ cut → dH F cut k now = dC F cut (k + 1) now) := fun k h => d_next h
  have HCT : Hid (∀ k, k < 8 → k = cut → (dC F cut (k + 1) now).set = Df.setOf (F (k + 1)) ∧ (dC F cut (k + 1) now).id = 2 + (k : Int)) := fun k hk h => (d_cut hF hn0 hn1 hk h).2
  have HCO := hide (fun (wx : World) => kconsumes_any wx)
  have HD0 : Hid (dC F cut 0 now = gC F 0 0 0 0 []) := by show (if 0 ≤ cut then _ else _) = _; rw [if_pos (Nat.zero_le _)]
  go_enter Try.func7, Try.ntmps7
  go_upto_region 6 with (first
    | (go_at_call 27; refine (HCO.out _).mono ?_; rintro e w1 ⟨rfl, hb1⟩; have HB1 := hide hb1; clear hb1 HCO)
    | (go_at_call 28; refine (HP1.out _).mono ?_; rintro e w2 ⟨rfl, rfl⟩; clear HP1)
    | (go_at_call 28; refine (HP2.out _).mono ?_; rintro e w3 ⟨rfl, rfl⟩; clear HP2)
    | (go_at_call 29; refine (HM0.out _ HB1.out).mono ?_; rintro e w3 ⟨A3, n3, C3, rfl, r3, hb3⟩; have HR3 := hide r3; have HB3 := hide (HB1.out.trans (hb3.mono HB1.out.size)); clear r3 hb3)
    | (go_at_call 24; refine (HBG.out _ _ _ HR3.out).mono ?_; rintro e w4 ⟨v4, rfl, I4, hb4⟩; have sA := laid_store I4; unfold Z22 at sA; have HB4 := hide (show Below w.heap.size w w4 from HB3.out.trans (hb4.mono HB3.out.size)); have HI4 := hide I4; clear I4 hb4))
  clear sA
  have l5 := cs_load (laid_cat w4 (gC F 0 0 0 0 []) v4) (csC_size _ _)
  have sB := laid_store (HI4.out.over (laid_below w4 (gC F 0 0 0 0 []) v4))
  unfold Z22 at sB
  have HB6 : Hid (Below w.heap.size w (laidW (laidW w4 (gC F 0 0 0 0 []) v4) (gC F 0 0 0 0 []) v4)) := (HB4.out.trans ((laid_below w4 (gC F 0 0 0 0 []) v4).mono HB4.out.size)).trans ((laid_below _ (gC F 0 0 0 0 []) v4).mono (HB4.out.trans ((laid_below w4 (gC F 0 0 0 0 []) v4).mono HB4.out.size)).size)
  go_upto_region 7 with fail
  clear l5 sB
  generalize he6 : laidW (laidW w4 (gC F 0 0 0 0 []) v4) (gC F 0 0 0 0 []) v4 = w6 at *
  have HE6 := hide he6
  clear he6
  go_upto_region 9 with (go_at_call 29; refine (HM0.out _ HB6.out).mono ?_; rintro e w7 ⟨A7, n7, C7, rfl, r7, hb7⟩; have HC7 := hide (CD.new HI4.out HB4.out HE6.out hb7 r7); clear r7 hb7)
  generalize w4.heap.size = gc at *
  generalize (laidW w4 (gC F 0 0 0 0 []) v4).heap.size = gd at *
  clear HE6 HI4 HB4 HR3 HB3 HB6 HM0 HBG
  go_loopw [11, 12] (fun la i wl => ∃ (k : Nat) (vc vd : CsV) (A : Option Addr) (n C : Nat), k ≤ 8 ∧ k ≤ L.length ∧ la = .slice A n C ∧ i = .int .i64 (k : Int) ∧ Hid (CD w gc gd wl (gC F 0 k 0 0 []) (dC F cut k now) vc vd (.slice A n C) (Df.setOf (F k)))) (fun _ i _ => L.length - (intOf i).toNat)
  case atStart => exact ⟨0, v4, v4, A7, n7, C7, by omega, Nat.zero_le _, rfl, rfl, by rw [HD0.out]; exact HC7.out⟩
  case round =>
    obtain ⟨k, vc, vd, A, n, C, hk, hkL, rfl, rfl, HC⟩ := hrel
    by_cases hlt : k < L.length ∧ k < 8
    · obtain ⟨hlt, hlt8⟩ := hlt
      have hkI : (k : Int) < (L.length : Int) := by omega
      have hk0 : (0 : Int) ≤ (k : Int) := by omega
      have hk8 : (k : Int) < 8 := by omega
      have hw2 : IntKind.i64.wrap (2 + (k : Int)) = 2 + (k : Int) := by simp [IntKind.wrap, IntKind.bits, IntKind.signed]; omega
      have hw1 : IntKind.i64.wrap ((k : Int) + 1) = (k : Int) + 1 := by simp [IntKind.wrap, IntKind.bits, IntKind.signed]; omega
      obtain ⟨b, off, yA, yn, yC, eA, hy⟩ := HMI.out k hlt
      subst eA
      obtain ⟨cY, -⟩ := hy _ HC.out.bel
      have HY := hide hy
      clear hy
      go_upto_region 12 with (go_at_call 29; refine (HY.out _ HC.out.bel).2.mono ?_; rintro e w8 ⟨A8, n8, C8, rfl, r8, hb8⟩; have HC8 := hide (HC.out.over hb8); have HL8 := hide (HC.out.putL hb8 r8); clear r8 hb8)
      clear cY HY
      have HDX : Hid (Calls Try.prog 31 #[.slice A n C, .slice A8 n8 C8] w8 fun e w' => ∃ A9 n9 C9, e = .returned (.slice A9 n9 C9) ∧ Rep (fun b => w8.heap.size ≤ b) w' (.slice A9 n9 C9) 2 16 (pwC (Df.diffL (Df.setOf (F k)) (Df.setOf (F (k + 1))))) ∧ Below w8.heap.size w8 w') := by
        obtain ⟨P1, h1, -⟩ := HC8.out.jl
        obtain ⟨P2, h2, -⟩ := HL8.out.jl
        exact HDF.out k _ _ P1 P2 w8 h1 h2
      clear HC8 HC
      go_upto_region 14 with (first
        | (go_at_call 31; refine HDX.out.mono ?_; rintro e w9 ⟨A9, n9, C9, rfl, r9, hb9⟩; have HL9 := hide (HL8.out.over hb9); have HR9 := hide r9; clear r9 hb9 HDX)
        | (go_at_call 30; refine (HEC.out k hlt8 _ _ _ _ _ HR9.out).mono ?_; rintro e w10 ⟨rfl, hb10⟩; have HL10 := hide (HL9.out.over hb10); clear hb10))
      have l10 := HL10.out.loadC
      clear HL8 HL9 HR9
      go_upto_region 15 with (go_at_call 9; refine (HH1.out k hlt8 _ _ _ _ _ _ _ _ HL10.out).mono ?_; rintro e w11 ⟨v11, rfl, q11, hb11⟩; have s11 := HL10.out.storeC q11 hb11; have HL12 := hide (HL10.out.putC q11 hb11); clear q11 hb11)
      clear s11 l10 HL10
      generalize w11.setCells gc 0 (csC (gC F 0 (k + 1) 0 0 []) v11).toList = w12 at *
      have l12 := HL12.out.loadD
      go_upto_region 16 with (go_at_call 9; refine (HH2.out k hlt8 _ _ _ _ _ _ _ _ HL12.out).mono ?_; rintro e w13 ⟨v13, rfl, q13, hb13⟩; have s13 := HL12.out.storeD q13 hb13; have HL14 := hide (HL12.out.putD q13 hb13); clear q13 hb13)
      clear s13 l12 HL12
      generalize w13.setCells gd 0 (csC (dH F cut k now) v13).toList = w14 at *
      by_cases hkc : k = cut
      · subst hkc
        have l14 := HL14.out.loadD
        go_upto_region 21 with (go_at_call 16; refine (HE1.out k hlt8 rfl _ _ _ _ _ _ _ _ HL14.out).mono ?_; rintro e w15 ⟨v15, rfl, q15, hb15⟩; have s15 := HL14.out.storeD q15 hb15; have HL16 := hide (HL14.out.putD q15 hb15); clear q15 hb15)
        clear s15 l14 HL14
        generalize w15.setCells gd 0 (csC (dC F k (k + 1) now) v15).toList = w16 at *
        obtain ⟨-, -, -, B2, m2, D2, -, e2, -, d5⟩ := HL16.out.sets
        have d4 : w16.cell? ⟨gd, 4, none⟩ = some (.int .i64 (2 + (k : Int))) := by rw [← (HCT.out k hlt8 rfl).2]; exact HL16.out.kd.cell 4
        have HSX : Hid (Calls Try.prog 32 #[.slice B2 m2 D2, .slice A8 n8 C8] w16 fun e w' => e = .returned (.bool true) ∧ Below w16.heap.size w16 w') := by
          obtain ⟨P1, h1, -⟩ := HL16.out.jd
          obtain ⟨P2, h2, -⟩ := HL16.out.jl
          have h3 := h1.set
          rw [(HCT.out k hlt8 rfl).1, e2] at h3
          exact HSM.out _ _ _ P1 P2 w16 h3 h2
        have HGD : Hid (∀ wx, Below w16.heap.size w16 wx → wx.cell? ⟨gd, 4, none⟩ = some (.int .i64 (2 + (k : Int)))) := fun wx hb => (hb.cell HL16.out.kd.lt).trans d4
        clear d4 e2
        go_upto_region 10 with (go_at_call 32; refine HSX.out.mono ?_; rintro e w17 ⟨rfl, hb17⟩; have y4 := HGD.out _ hb17; have HL17 := hide (HL16.out.over hb17); clear hb17)
        clear d5
        go_wp2
        first | exact ⟨⟨k + 1, v11, v15, A8, n8, C8, by omega, by omega, rfl, by go_num, HL17⟩, by simp [intOf]; omega⟩ | ((repeat apply Exists.intro); exact ⟨⟨k + 1, v11, v15, A8, n8, C8, by omega, by omega, rfl, by go_num, HL17⟩, rfl⟩)
      · have hkcI : ¬ (k : Int) = (cut : Int) := by omega
        have HL15 : Hid (CD w gc gd w14 (gC F 0 (k + 1) 0 0 []) (dC F cut (k + 1) now) v11 v13 (.slice A8 n8 C8) (Df.setOf (F (k + 1)))) := by rw [← HNX.out k hkc]; exact HL14.out
        clear HL14
        go_wp2
        first | exact ⟨⟨k + 1, v11, v13, A8, n8, C8, by omega, by omega, rfl, by go_num, HL15⟩, by simp [intOf]; omega⟩ | ((repeat apply Exists.intro); exact ⟨⟨k + 1, v11, v13, A8, n8, C8, by omega, by omega, rfl, by go_num, HL15⟩, rfl⟩)
    · obtain ⟨hh, rp, hrp, hE⟩ := HE3.out k hk
      have HE := hide hE
      have HE' : Hid (∀ (gc gd : Nat) (d : Cs) (u ud : CsV) (la : Value) (ls : List (Int × Int)) (wx : World), CD w gc gd wx (gC F 0 k 0 0 []) d u ud la ls → Calls Try.prog 16 #[.agg (csC (gC F 0 k 0 0 []) u), .int .i64 now] wx (AnsT gc gd wx (gC F k k 1 now (rips now 0 k)))) := HE2.out k hk
      clear HE1 HE2 HE3 HH1 HH2 HEC HDF HMI HNX HCT HC7 hE
      have l9 := HC.out.loadC
      have hT : ((k : Int) < (L.length : Int) ∧ ¬ (k : Int) < 8) ∨ ¬ (k : Int) < (L.length : Int) := by omega
      clear hlt hkL
      rcases hT with ⟨t1, t2⟩ | t1
      all_goals
        go_upto_region 24 with (go_at_call 16; refine (HE'.out _ _ _ _ _ _ _ _ HC.out).mono ?_; rintro e w6 ⟨v6, rfl, q6, hb6⟩; have s6 := HC.out.storeC q6 hb6; have HL7 := hide (HC.out.putC q6 hb6); clear q6 hb6)
        clear s6 l9 HC
        generalize w6.setCells gc 0 (csC (gC F k k 1 now (rips now 0 k)) v6).toList = w7 at *
        have l7 := HL7.out.loadD
        go_upto_region 25 with (go_at_call 16; refine (HE.out _ _ _ _ _ _ _ _ HL7.out).mono ?_; rintro e w8 ⟨v8, rfl, q8, hb8⟩; have s8 := HL7.out.storeD q8 hb8; have HL9 := hide (HL7.out.putD q8 hb8); clear q8 hb8)
        clear s8 l7 HL7 HE HE'
        generalize w8.setCells gd 0 (csC (gC F k k hh now rp) v8).toList = w9 at *
        obtain ⟨B1, m1, D1, B2, m2, D2, e1, e2, c5, d5⟩ := HL9.out.sets
        obtain ⟨R1, Q1, R2, Q2, R3, Q3, c7, d7, c6⟩ := HL9.out.lens
        rw [show (gC F k k 1 now (rips now 0 k)).rp.length = k from rips_length now 0 k] at c7
        rw [show (gC F k k hh now rp).rp.length = k from hrp] at d7
        rw [show (gC F k k 1 now (rips now 0 k)).pd.length = 0 by simp [gC]] at c6
        have c4 : w9.cell? ⟨gc, 4, none⟩ = some (.int .i64 (1 + (k : Int))) := HL9.out.kc.cell 4
        have d4 : w9.cell? ⟨gd, 4, none⟩ = some (.int .i64 (1 + (k : Int))) := HL9.out.kd.cell 4
        have HS1 : Hid (Calls Try.prog 32 #[.slice B1 m1 D1, .slice A n C] w9 fun e w' => e = .returned (.bool true) ∧ Below w9.heap.size w9 w') := by
          obtain ⟨P1, h1, -⟩ := HL9.out.jc
          obtain ⟨P2, h2, -⟩ := HL9.out.jl
          have h3 := h1.set
          rw [e1] at h3
          exact HSM.out _ _ _ P1 P2 w9 h3 h2
        have HS2 : Hid (∀ wx, Below w9.heap.size w9 wx → Calls Try.prog 32 #[.slice B1 m1 D1, .slice B2 m2 D2] wx fun e w' => e = .returned (.bool true) ∧ Below w9.heap.size w9 w') := fun wx hb => by
          obtain ⟨P1, h1, -⟩ := HL9.out.jc
          obtain ⟨P2, h2, -⟩ := HL9.out.jd
          have h3 := h1.set
          have h4 := h2.set
          rw [e1] at h3
          rw [e2] at h4
          exact (HSM.out (Df.setOf (F k)) _ _ P1 P2 wx (h3.over hb) (h4.over hb)).mono fun _ _ hh => ⟨hh.1, hb.trans (hh.2.mono hb.size)⟩
        have HG : Hid (∀ wx, Below w9.heap.size w9 wx → wx.cell? ⟨gc, 5, none⟩ = some (.slice B1 m1 D1) ∧ wx.cell? ⟨gd, 5, none⟩ = some (.slice B2 m2 D2) ∧ wx.cell? ⟨gc, 4, none⟩ = some (.int .i64 (1 + (k : Int))) ∧ wx.cell? ⟨gd, 4, none⟩ = some (.int .i64 (1 + (k : Int))) ∧ wx.cell? ⟨gc, 7, none⟩ = some (.slice R1 k Q1) ∧ wx.cell? ⟨gd, 7, none⟩ = some (.slice R2 k Q2) ∧ wx.cell? ⟨gc, 6, none⟩ = some (.slice R3 0 Q3)) := fun wx hb => ⟨(hb.cell HL9.out.kc.lt).trans c5, (hb.cell HL9.out.kd.lt).trans d5, (hb.cell HL9.out.kc.lt).trans c4, (hb.cell HL9.out.kd.lt).trans d4, (hb.cell HL9.out.kc.lt).trans c7, (hb.cell HL9.out.kd.lt).trans d7, (hb.cell HL9.out.kc.lt).trans c6⟩
        have HBZ := hide HL9.out.bel
        clear HL9 HSM e1 e2 hrp c4 d4 c6 c7 d7 d5
        go_wp2_with (first
          | (go_at_call 32; refine HS1.out.mono ?_; rintro e wa ⟨rfl, hba⟩; obtain ⟨x5, y5, x4, y4, x7, y7, x6⟩ := HG.out _ hba; have HBa := hide hba; clear hba HS1 c5)
          | (go_at_call 32; refine (HS2.out _ HBa.out).mono ?_; rintro e wb ⟨rfl, hbb⟩; clear x5 y5 x4 y4 x7 y7 x6; obtain ⟨x5, y5, x4, y4, x7, y7, x6⟩ := HG.out _ hbb; have HBb := hide hbb; clear hbb HS2))
        go_ret
        exact ⟨rfl, HBZ.out.trans (HBb.out.mono HBZ.out.size)⟩
theorem kcapplies_rep (X : List Int) (L : List (List Int)) (z : List Value) (xv lv : Value) (cut now : Int) (w : World) (hx : Rep (fun _ => True) w xv 1 8 (inC X)) (hzl : z.length = L.length) (hl : Rep (fun _ => True) w lv 1 24 z) (hz : ∀ (i : Nat) (x : List Int) (y : Value), L[i]? = some x → z[i]? = some y → Rep (fun _ => True) w y 1 8 (inC x)) :
    Calls Try.prog 7 #[xv, lv, .int .i64 cut, .int .i64 now] w fun e w' => e = .returned (.bool true) ∧ Below w.heap.size w w' := by
  obtain ⟨xA, xn, xC, rfl, -⟩ := id hx
  obtain ⟨lA, lC, rfl, -⟩ := hl.open (n := L.length) (by rw [hzl]; omega) (by decide)
  exact kcapplies_any X L z xA xn xC lA lC cut now w hx hzl hl hz
end Go.Proofs.Ytnfigdecgkcgcaa.Kc

