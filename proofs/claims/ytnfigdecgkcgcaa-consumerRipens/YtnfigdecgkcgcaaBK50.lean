/- Parts of the proof: KLR. -/
import Derived.Test.YtnfigdecgkcgcaaRows
import Derived.Test.YtnfigdecgkcgcaaBK30
import Derived.Test.YtnfigdecgkcgcaaBK36
import Derived.Test.YtnfigdecgkcgcaaBK42
import Derived.Test.YtnfigdecgkcgcaaBK49
set_option maxRecDepth 100000
namespace Go.Proofs.Ytnfigdecgkcgcaa.Kc
open Go.RowKit Pv
/-- a consumer in a block of its own, in a world behind another -/
structure CO (w0 : World) (g : Nat) (wl : World) (c : Cs) (v : CsV) : Prop where
  cat : CAt 33 wl g (csC c v)
  cin : ∃ P, CIn P wl c v ∧ ¬ P g
  bel : Below w0.heap.size w0 wl
  le : w0.heap.size ≤ g
theorem CO.over {w0 wl wx : World} {g : Nat} {c : Cs} {v : CsV} (h : CO w0 g wl c v) (hb : Below wl.heap.size wl wx) : CO w0 g wx c v := by
  obtain ⟨P, hP, hn⟩ := h.cin
  exact ⟨h.cat.over hb, ⟨P, hP.over hb, hn⟩, h.bel.trans (hb.mono h.bel.size), h.le⟩
theorem CO.put {w0 wl w' : World} {g : Nat} {c d : Cs} {v v' : CsV} (h : CO w0 g wl c v) (q : ∃ Q, CIn Q w' d v' ∧ ¬ Q g) (hb : Below wl.heap.size wl w') : CO w0 g (w'.setCells g 0 (csC d v').toList) d v' := by
  obtain ⟨Q, hQ, hn⟩ := q
  exact ⟨(h.cat.over hb).setAll rfl, ⟨Q, hQ.sets hn _ _, hn⟩, below_sets h.le _ _ _ (h.bel.trans (hb.mono h.bel.size)), h.le⟩
theorem CO.load {w0 wl : World} {g : Nat} {c : Cs} {v : CsV} (h : CO w0 g wl c v) : (loadC (.pointer (some ⟨g, 0, none⟩))).run Try.prog wl = .ok (.agg (csC c v)) wl := cs_load h.cat (csC_size _ _)
theorem CO.store {w0 wl w' : World} {g : Nat} {c d : Cs} {v v' : CsV} (h : CO w0 g wl c v) (q : ∃ Q, CIn Q w' d v' ∧ ¬ Q g) (hb : Below wl.heap.size wl w') : (storeC (.pointer (some ⟨g, 0, none⟩)) (.agg (csC d v'))).run Try.prog w' = .ok () (w'.setCells g 0 (csC d v').toList) := by
  obtain ⟨Q, hQ, hn⟩ := q
  exact cs_store (h.cat.over hb) (csC_size _ _) (csC_size _ _) (cs_one hQ)
theorem CO.new {w0 wl : World} {c : Cs} {v : CsV} {P : Nat → Prop} (I : CIn P wl c v) (hb : Below w0.heap.size w0 wl) : CO w0 wl.heap.size (laidW wl c v) c v :=
  ⟨laid_cat wl c v, ⟨fun b => b < wl.heap.size, (I.mono (P' := fun b => b < wl.heap.size) fun _ h _ => h).over (laid_below wl c v), Nat.lt_irrefl _⟩, hb.trans ((laid_below wl c v).mono hb.size), hb.size⟩
theorem CO.lens {w0 wl : World} {g : Nat} {c : Cs} {v : CsV} (h : CO w0 g wl c v) : ∃ A1 C1 A2 C2 A3 C3 sb so db dO, wl.cell? ⟨g, 14, none⟩ = some (.slice A1 c.out.S.length C1) ∧ wl.cell? ⟨g, 15, none⟩ = some (.slice A2 c.out.D.length C2) ∧ wl.cell? ⟨g, 7, none⟩ = some (.slice A3 c.rp.length C3) ∧ Ln.LAt wl c.out A1 A2 C1 C2 sb so db dO := by
  obtain ⟨P, hP, -⟩ := h.cin
  obtain ⟨A1, C1, A2, C2, sb, so, db, dO, e1, e2, LA, -, -⟩ := RepC.line hP.said hP.due
  obtain ⟨A3, C3, e3, -⟩ := hP.rp.open (pwC_length _) (by decide)
  refine ⟨A1, C1, A2, C2, A3, C3, sb, so, db, dO, ?_, ?_, ?_, LA⟩
  · rw [← e1]; exact h.cat.cell 14
  · rw [← e2]; exact h.cat.cell 15
  · rw [← e3]; exact h.cat.cell 7
def AnsO (g : Nat) (w : World) (d : Cs) (e : Ending) (w' : World) : Prop := ∃ v', e = .returned (.tuple #[.agg (csC d v'), .int .i64 0]) ∧ (∃ Q, CIn Q w' d v' ∧ ¬ Q g) ∧ Below w.heap.size w w'
theorem AnsC.o {P : Nat → Prop} {g : Nat} {w : World} {d : Cs} {e : Ending} {w' : World} (h : AnsC P w (d, 0) e w') (hP : ¬ P g) (hg : g < w.heap.size) : AnsO g w d e w' := by
  obtain ⟨v', h1, h2, h3⟩ := h
  refine ⟨v', h1, ⟨_, h2, fun hn => ?_⟩, h3⟩
  rcases hn with ⟨h, _⟩ | h
  · exact hP h
  · omega
attribute [local go_sem ↓] loadC_eq storeC_eq
set_option maxHeartbeats 8000000 in
theorem kcripens_any (L : List Int) (A : Option Addr) (C : Nat) (now0 later0 : Int) (w : World) :
    Calls Try.prog 8 #[.slice A L.length C, .int .i64 now0, .int .i64 later0] w fun e w' => e = .returned (.bool true) ∧ Below w.heap.size w w' := by
  have HP1 := hide (fun (wx : World) => Pk.pick_any now0 1000 wx (by decide) (by decide))
  have HP2 := hide (fun (wx : World) => Pk.pick_any later0 60 wx (by decide) (by decide))
  have hn0 := Int.emod_nonneg now0 (show (1000 : Int) ≠ 0 by decide)
  have hn1 := Int.emod_lt_of_pos now0 (show (0 : Int) < 1000 by decide)
  have hl0 := Int.emod_nonneg later0 (show (60 : Int) ≠ 0 by decide)
  have hl1 := Int.emod_lt_of_pos later0 (show (0 : Int) < 60 by decide)
  generalize now0 % 1000 = now at *
  generalize later0 % 60 = later at *
  have HBG := hide (fun (u : Value) (P : Nat → Prop) (wx : World) (h : Rep P wx u 2 16 (pwC [(0, 1)])) => cbegin_any [(0, 1)] u 1 0 P wx h)
  rw [hd_zero] at HBG
  have HEC : Hid (∀ (k : Nat), k < 20 → ∀ (wx : World), Calls Try.prog 30 #[.agg #[.int .i64 1, .int .i64 (2 + (k : Int)), .int .i64 0, .int .i64 0, .slice none 0 0, .slice none 0 0]] wx fun e w' => e = .returned (.tuple #[.string (Cd.encS 1 (2 + (k : Int)) 0 0 [] []), .int .i64 0]) ∧ Below wx.heap.size wx w') := fun k hk wx => by
    have := Cd.encode_any 1 (2 + (k : Int)) 0 0 [] [] none none 0 0 0 0 0 0 wx ⟨by simp, by simp, by simp, by simp, fun i hi => absurd hi (by simp), fun i hi => absurd hi (by simp)⟩
    rw [good_chg _ (by omega) (by omega)] at this
    exact this
  have HHR : Hid (∀ (k : Nat), k < 20 → ∀ (u : CsV) (P : Nat → Prop) (wx : World), CIn P wx (hdC k) u → Calls Try.prog 9 #[.agg (csC (hdC k) u), .string (Cd.encS 1 (2 + (k : Int)) 0 0 [] [])] wx (AnsC P wx (hdC (k + 1), 0))) := fun k hk u P wx h => by
    have := chear_any (hdC k) u P wx (Cd.encS 1 (2 + (k : Int)) 0 0 [] []) h (by rw [encS_size (good_chg _ (by omega) (by omega))]; show 17 ≤ 2 ^ 63 - 1; omega) (by show (pdN k).length * 80 ≤ _; rw [pdN_length]; omega)
    rwa [hd_hear k hk] at this
  have HE1 : Hid (∀ (k : Nat), k ≤ 20 → ∀ (u : CsV) (P : Nat → Prop) (wx : World), CIn P wx (hdC k) u → Calls Try.prog 16 #[.agg (csC (hdC k) u), .int .i64 now] wx (AnsC P wx (edC now k, 0))) := fun k hk u P wx h => by
    have := cend_any (hdC k) u P wx now h (by show (0 + (pdN k).length) * 16 ≤ _; rw [pdN_length]; omega)
    rwa [hd_end now hn0 hn1 k hk] at this
  have HE2 : Hid (∀ (k : Nat), k ≤ 20 → ∀ (u : CsV) (P : Nat → Prop) (wx : World), CIn P wx (edC now k) u → Calls Try.prog 16 #[.agg (csC (edC now k) u), .int .i64 (now + later)] wx (AnsC P wx (if later < 15 then eaC now later k else toC now later k, 0))) := fun k hk u P wx h => by
    have := cend_any (edC now k) u P wx (now + later) h (by show ((rpN now k).length + 0) * 16 ≤ _; rw [rpN_length]; omega)
    rwa [ed_end now later hn0 hn1 hl0 hl1 k hk] at this
  have HDC : Hid (∀ (k : Nat), k < 20 → ∀ (wx : World), Calls Try.prog 33 #[.string (Cd.encS 2 (2 + (k : Int)) 0 0 [] [])] wx fun e w' => ∃ sa da cs cd, e = .returned (.tuple #[.agg #[.int .i64 2, .int .i64 (2 + (k : Int)), .int .i64 0, .int .i64 0, .slice sa 0 cs, .slice da 0 cd], .int .i64 0]) ∧ Below wx.heap.size wx w') := fun k hk wx => by
    have hg := good_mat (2 + (k : Int)) (by omega) (by omega)
    have := Cd.decode_any (Cd.encS 2 (2 + (k : Int)) 0 0 [] []) wx (by rw [encS_size hg]; show 17 ≤ 2 ^ 63 - 1; omega)
    rw [(dec_encS hg).1, (dec_encS hg).2] at this
    exact this.mono fun e w' ⟨sa, da, cs, cd, _, _, _, _, he, _, _, hb⟩ => ⟨sa, da, cs, cd, he, hb⟩
  have HH2 : Hid (∀ (k : Nat), k < 20 → ∀ (g : Nat) (u : CsV) (wx : World), CO w g wx (hdC k) u → Calls Try.prog 9 #[.agg (csC (hdC k) u), .string (Cd.encS 1 (2 + (k : Int)) 0 0 [] [])] wx (AnsO g wx (hdC (k + 1)))) := fun k hk g u wx h => by
    obtain ⟨P, hP, hn⟩ := h.cin
    exact (HHR.out k hk u P wx hP).mono fun _ _ h2 => h2.o hn h.cat.lt
  have HF1 : Hid (∀ (k : Nat), k ≤ 20 → ∀ (g : Nat) (u : CsV) (wx : World), CO w g wx (hdC k) u → Calls Try.prog 16 #[.agg (csC (hdC k) u), .int .i64 now] wx (AnsO g wx (edC now k))) := fun k hk g u wx h => by
    obtain ⟨P, hP, hn⟩ := h.cin
    exact (HE1.out k hk u P wx hP).mono fun _ _ h2 => h2.o hn h.cat.lt
  have HF2 : Hid (∀ (k : Nat), k ≤ 20 → ∀ (g : Nat) (u : CsV) (wx : World), CO w g wx (edC now k) u → Calls Try.prog 16 #[.agg (csC (edC now k) u), .int .i64 (now + later)] wx (AnsO g wx (if later < 15 then eaC now later k else toC now later k))) := fun k hk g u wx h => by
    obtain ⟨P, hP, hn⟩ := h.cin
    exact (HE2.out k hk u P wx hP).mono fun _ _ h2 => h2.o hn h.cat.lt
  clear HHR HE1 HE2
  have HRP : Hid (∀ wx : World, Rep (fun _ => True) (wx.alloc (.cells #[.int .i64 0, .int .i64 1] 61)) (.slice (some ⟨wx.heap.size, 0, none⟩) 1 1) 2 16 (pwC [(0, 1)])) := fun wx => pw_one wx 0 1
  have HCO := hide (fun (wx : World) => kconsumes_any wx)
  have hwnl : IntKind.i64.wrap (now + later) = now + later := by simp [IntKind.wrap, IntKind.bits, IntKind.signed]; omega
  go_enter Try.func8, Try.ntmps8
  go_upto_region 5 with (first
    | (go_at_call 27; refine (HCO.out _).mono ?_; rintro e w1 ⟨rfl, hb1⟩; have HB1 := hide hb1; clear hb1)
    | (go_at_call 28; refine (HP1.out _).mono ?_; rintro e w2 ⟨rfl, rfl⟩; clear HP1)
    | (go_at_call 28; refine (HP2.out _).mono ?_; rintro e w3 ⟨rfl, rfl⟩; clear HP2)
    | (go_at_call 24; refine (HBG.out _ _ _ (HRP.out _)).mono ?_; rintro e w4 ⟨v4, rfl, I4, hb4⟩; have sA := laid_store I4; unfold Z22 at sA; have HB4 := hide (show Below w.heap.size w w4 from HB1.out.trans ((((Below.refl _ _).alloc (Nat.le_refl _) _).trans (hb4.mono (by simp))).mono HB1.out.size)); have HI4 := hide I4; clear I4 hb4))
  clear sA
  have HC5 := hide (CO.new HI4.out HB4.out)
  generalize laidW w4 (hdC 0) v4 = w5 at *
  generalize w4.heap.size = g at *
  clear HI4 HB4 HBG HRP HCO
  go_upto_region 7 with fail
  go_loopw [8, 9] (fun n i wl => ∃ (k : Nat) (v : CsV), k ≤ 20 ∧ k ≤ L.length ∧ n = .int .i64 (k : Int) ∧ i = .int .i64 (k : Int) ∧ Hid (CO w g wl (hdC k) v)) (fun _ i _ => L.length - (intOf i).toNat)
  case atStart => exact ⟨0, v4, by omega, Nat.zero_le _, rfl, rfl, HC5.out⟩
  case round =>
    obtain ⟨k, v, hk, hkL, rfl, rfl, HC⟩ := hrel
    by_cases hlt : k < L.length ∧ k < 20
    · obtain ⟨hlt, hlt20⟩ := hlt
      have hkI : (k : Int) < (L.length : Int) := by omega
      have hk20 : (k : Int) < 20 := by omega
      have hw2 : IntKind.i64.wrap (2 + (k : Int)) = 2 + (k : Int) := by simp [IntKind.wrap, IntKind.bits, IntKind.signed]; omega
      have hw1 : IntKind.i64.wrap ((k : Int) + 1) = (k : Int) + 1 := by simp [IntKind.wrap, IntKind.bits, IntKind.signed]; omega
      go_upto_region 11 with (first
        | (go_at_call 30; refine (HEC.out k hlt20 _).mono ?_; rintro e w6 ⟨rfl, hb6⟩; have c6 := HC.out.over hb6; have l6 := c6.load; have HC6 := hide c6; clear c6 hb6)
        | (go_at_call 9; refine (HH2.out k hlt20 g _ _ HC6.out).mono ?_; rintro e w7 ⟨v7, rfl, q7, hb7⟩; have sA := (let ⟨_, h, _⟩ := q7; laid_store h); unfold Z22 at sA; have HQ7 := hide q7; have HB7 := hide hb7; clear q7 hb7 l6))
      clear sA
      have b7 := laid_below w7 (hdC (k + 1)) v7
      have l8 := cs_load (laid_cat w7 (hdC (k + 1)) v7) (csC_size _ _)
      have HQ8 : Hid (∃ Q, CIn Q (laidW w7 (hdC (k + 1)) v7) (hdC (k + 1)) v7 ∧ ¬ Q g) := (let ⟨Q, h, hn⟩ := HQ7.out; ⟨Q, h.over b7, hn⟩)
      have HB8 := hide (HB7.out.trans (b7.mono HB7.out.size))
      generalize laidW w7 (hdC (k + 1)) v7 = w8 at *
      have s8 := HC6.out.store HQ8.out HB8.out
      have HC9 := hide (HC6.out.put HQ8.out HB8.out)
      clear b7 HQ7 HB7 HQ8 HB8 HC6
      go_upto_region 8 with fail
      clear s8 l8
      generalize w8.setCells g 0 (csC (hdC (k + 1)) v7).toList = w9 at *
      go_wp2
      first | exact ⟨⟨k + 1, v7, by omega, by omega, by go_num, by go_num, HC9⟩, by simp [intOf]; omega⟩ | ((repeat apply Exists.intro); exact ⟨⟨k + 1, v7, by omega, by omega, by go_num, by go_num, HC9⟩, rfl⟩)
    · have HE : Hid (∀ (g : Nat) (u : CsV) (wx : World), CO w g wx (hdC k) u → Calls Try.prog 16 #[.agg (csC (hdC k) u), .int .i64 now] wx (AnsO g wx (edC now k))) := HF1.out k hk
      have HE' : Hid (∀ (g : Nat) (u : CsV) (wx : World), CO w g wx (edC now k) u → Calls Try.prog 16 #[.agg (csC (edC now k) u), .int .i64 (now + later)] wx (AnsO g wx (if later < 15 then eaC now later k else toC now later k))) := HF2.out k hk
      clear HF1 HF2 HEC HH2 HC5
      have l9 := HC.out.load
      have hT : ((k : Int) < (L.length : Int) ∧ ¬ (k : Int) < 20) ∨ ¬ (k : Int) < (L.length : Int) := by omega
      clear hlt hkL
      rcases hT with ⟨t1, t2⟩ | t1
      all_goals
        go_upto_region 15 with (go_at_call 16; refine (HE.out g _ _ HC.out).mono ?_; rintro e w6 ⟨v6, rfl, q6, hb6⟩; have s6 := HC.out.store q6 hb6; have HC7 := hide (HC.out.put q6 hb6); clear q6 hb6)
        clear s6 l9
        generalize w6.setCells g 0 (csC (edC now k) v6).toList = w7 at *
        have l7 := HC7.out.load
        generalize hX : (if later < 15 then eaC now later k else toC now later k) = X at *
        go_upto_region 16 with (go_at_call 16; refine (HE'.out g _ _ HC7.out).mono ?_; rintro e w8 ⟨v8, rfl, q8, hb8⟩; have sA := (let ⟨_, h, _⟩ := q8; laid_store h); unfold Z22 at sA; have HC8 := hide (HC7.out.over hb8); have HN9 := hide (let ⟨_, h, _⟩ := q8; CO.new h HC8.out.bel); clear q8 hb8)
        clear sA l7
        have HC9 := hide (HC8.out.over (laid_below w8 X v8))
        generalize laidW w8 X v8 = w9 at *
        generalize w8.heap.size = g2 at *
        clear HC7 HC8 HE HE'
        obtain ⟨A1, C1, -, -, A3, C3, -, -, -, -, e14, -, e7, -⟩ := HC9.out.lens
        rw [show (edC now k).out.S.length = 0 from rfl] at e14
        rw [show (edC now k).rp.length = k from rpN_length now k] at e7
        clear HC9 HC
        by_cases h15 : later < 15
        · rw [if_pos h15] at hX
          subst hX
          obtain ⟨B1, D1, -, -, B3, D3, -, -, -, -, f14, -, f7, -⟩ := HN9.out.lens
          rw [show (eaC now later k).out.S.length = 0 from rfl] at f14
          rw [show (eaC now later k).rp.length = k from rpN_length now k] at f7
          have HBZ := hide HN9.out.bel
          clear HN9
          go_wp2
          go_ret
          exact ⟨rfl, HBZ.out⟩
        · rw [if_neg h15] at hX
          subst hX
          obtain ⟨B1, D1, B2, D2, B3, D3, sb, so, db, dO, f14, f15, f7, LA⟩ := HN9.out.lens
          rw [show (toC now later k).out.S.length = k from txN_length k] at f14
          rw [show (toC now later k).out.D.length = k from duN_length _ k] at f15
          rw [show (toC now later k).rp.length = 0 from rfl] at f7
          have HLA := hide LA
          have HBZ := hide HN9.out.bel
          have hg2 : g2 < w9.heap.size := HN9.out.cat.lt
          clear HN9 LA
          go_upto_region 21 with fail
          clear e14 e7
          have hF : ∀ wx, Below w9.heap.size w9 wx → wx.cell? ⟨g2, 14, none⟩ = some (.slice B1 k D1) ∧ wx.cell? ⟨g2, 15, none⟩ = some (.slice B2 k D2) ∧ wx.cell? ⟨g2, 7, none⟩ = some (.slice B3 0 D3) := fun wx hb => ⟨(hb.cell hg2).trans f14, (hb.cell hg2).trans f15, (hb.cell hg2).trans f7⟩
          have HFF := hide hF
          clear hF
          go_loopw [110] (fun i wl => ∃ (j : Nat), j ≤ k ∧ i = .int .i64 (j : Int) ∧ Hid (Below w9.heap.size w9 wl)) (fun i _ => k - (intOf i).toNat)
          case atStart => exact ⟨0, Nat.zero_le _, rfl, Below.refl _ _⟩
          case round =>
            obtain ⟨j, hj, rfl, HBl⟩ := hrel
            obtain ⟨y14, y15, y7⟩ := HFF.out _ HBl.out
            by_cases hjk : j < k
            · have hjI : (j : Int) < (k : Int) := by omega
              have hj0 : (0 : Int) ≤ (j : Int) := by omega
              have hw2 : IntKind.i64.wrap (2 + (j : Int)) = 2 + (j : Int) := by simp [IntKind.wrap, IntKind.bits, IntKind.signed]; omega
              have hw3 : IntKind.i64.wrap (now + later + 40 - now) = later + 40 := by simp [IntKind.wrap, IntKind.bits, IntKind.signed]; omega
              have hw4 : IntKind.i64.wrap (later + 40 - later) = 40 := by simp [IntKind.wrap, IntKind.bits, IntKind.signed]; omega
              have LL := HLA.out.later HBl.out
              have hs0 : 0 < (toC now later k).out.S.length := by rw [show (toC now later k).out.S.length = k from txN_length k]; omega
              have hd0 : 0 < (toC now later k).out.D.length := by rw [show (toC now later k).out.D.length = k from duN_length _ k]; omega
              obtain rfl := LL.hsa hs0
              obtain rfl := LL.hda hd0
              have cS : wr.cell? ⟨sb, so + j, none⟩ = some (.string (Cd.encS 2 (2 + (j : Int)) 0 0 [] [])) := by
                rw [LL.PS j (by rw [show (toC now later k).out.S.length = k from txN_length k]; omega)]
                simp [toC, txN, hjk]
              clear LL hs0 hd0
              go_upto_region 24 with (go_at_call 33; refine (HDC.out j (by omega) _).mono ?_; rintro e wd ⟨sa, da, cs, cd, rfl, hbd⟩; have HBd := hide (HBl.out.trans (hbd.mono HBl.out.size)); clear hbd)
              have K := CAt.new 57 wd #[.int .i64 2, .int .i64 (2 + (j : Int)), .int .i64 0, .int .i64 0, .slice sa 0 cs, .slice da 0 cd]
              have bz : Below w9.heap.size w9 (wd.alloc (.cells #[.int .i64 2, .int .i64 (2 + (j : Int)), .int .i64 0, .int .i64 0, .slice sa 0 cs, .slice da 0 cd] 57)) := HBd.out.alloc HBd.out.size _
              generalize wd.alloc (.cells #[.int .i64 2, .int .i64 (2 + (j : Int)), .int .i64 0, .int .i64 0, .slice sa 0 cs, .slice da 0 cd] 57) = we at *
              have k0 : we.cell? ⟨wd.heap.size, 0, none⟩ = some (.int .i64 2) := K.cell 0
              have k1 : we.cell? ⟨wd.heap.size, 1, none⟩ = some (.int .i64 (2 + (j : Int))) := K.cell 1
              generalize wd.heap.size = g3 at *
              obtain ⟨-, z15, -⟩ := HFF.out _ bz
              have cD : we.cell? ⟨db, dO + j, none⟩ = some (.int .i64 (now + later + 40)) := by
                rw [(HLA.out.later bz).PD j (by rw [show (toC now later k).out.D.length = k from duN_length _ k]; omega)]
                simp [toC, duN, hjk]
              have HBe := hide bz
              clear K bz cS y14 y15 y7 HBd HBl
              go_wp2
              first | exact ⟨⟨j + 1, by omega, by go_num, HBe⟩, by simp [intOf]; omega⟩ | ((repeat apply Exists.intro); exact ⟨⟨j + 1, by omega, by go_num, HBe⟩, rfl⟩)
            · obtain rfl : j = k := by omega
              have hBZ2 := hide (HBZ.out.trans (HBl.out.mono HBZ.out.size))
              go_wp2
              go_ret
              exact ⟨rfl, hBZ2.out⟩
theorem kcripens_rep (L : List Int) (v : Value) (now later : Int) (P : Nat → Prop) (w : World) (h : Rep P w v 1 8 (inC L)) :
    Calls Try.prog 8 #[v, .int .i64 now, .int .i64 later] w fun e w' => e = .returned (.bool true) ∧ Below w.heap.size w w' := by
  obtain ⟨A, C, rfl, -⟩ := h.open (inC_length _) (by decide)
  exact kcripens_any L A C now later w
end Go.Proofs.Ytnfigdecgkcgcaa.Kc

