/- Parts of the proof: RB1 LG PVS CDP. -/
import Derived.Test.YtkhlihpghbhppaaGreatRows
import Derived.Test.YtkhlihpghbhppaaGreatProviderHearsK3
import Derived.Test.YtkhlihpghbhppaaGreatProviderHearsK20
import Derived.Test.YtkhlihpghbhppaaGreatProviderHearsK21
import Derived.Test.YtkhlihpghbhppaaGreatProviderHearsK36
import Derived.Test.YtkhlihpghbhppaaGreatProviderHearsK45
import Derived.BigQuiet
import Derived.Deep.QuietTactic
import Derived.WalkSmall
set_option maxRecDepth 100000
namespace Go.Proofs.YtkhlihpghbhppaaGreat
open Go.RowKit
set_option maxHeartbeats 4000000 in
theorem same_any (s : St) (aa ba : Option Addr) (ab ao bb bo ca cb : Nat) (w : World) (hA : WsAt w aa ab ao s.W) (hB : WsAt w ba bb bo s.W) :
    Calls Tryz.prog 42 #[.agg (stC s (.slice aa s.W.length ca)), .agg (stC s (.slice ba s.W.length cb))] w fun e w' => e = .returned (.bool true) ∧ Below w.heap.size w w' := by
  have S0 := (SAt.new w (stC s (.slice aa s.W.length ca))).alloc (.cells (stC s (.slice ba s.W.length cb)) 32)
  have T0 := SAt.new2 w (.cells (stC s (.slice aa s.W.length ca)) 32) (stC s (.slice ba s.W.length cb))
  have HB0 : Hid (Below w.heap.size w ((w.alloc (.cells (stC s (.slice aa s.W.length ca)) 32)).alloc (.cells (stC s (.slice ba s.W.length cb)) 32))) := ((Below.refl _ w).alloc (Nat.le_refl _) _).alloc (by simp) _
  have HA := hide hA
  have HB := hide hB
  have hlen := hA.len
  clear hA hB
  have n1 := fun w => neVs w s.V
  have n2 := fun w => neSh w s.S
  have n3 := fun w => neBk w s.b
  go_enter Tryz.func42, Tryz.ntmps42
  go_upto_region 1 with fail
  generalize (w.alloc (.cells (stC s (.slice aa s.W.length ca)) 32)).alloc (.cells (stC s (.slice ba s.W.length cb)) 32) = w0 at *
  obtain ⟨x0, x1, x2, x3, x4, x5, x6, x7, x8⟩ := st_cells S0
  obtain ⟨y0, y1, y2, y3, y4, y5, y6, y7, y8⟩ := st_cells T0
  have r1 := st_vals S0
  have r2 := st_vals T0
  have r3 := st_shares S0
  have r4 := st_shares T0
  go_upto_region 999 with (first
    | (refine wp_load_mid 27 _ rfl _ 7 rfl _ _ r1 Tryz.underlying27 rfl (by rw [infoVs]; rfl) ?_)
    | (refine wp_load_mid 27 _ rfl _ 7 rfl _ _ r2 Tryz.underlying27 rfl (by rw [infoVs]; rfl) ?_)
    | (refine wp_load_mid 29 _ rfl _ 37 rfl _ _ r3 Tryz.underlying29 rfl (by rw [infoSh]; rfl) ?_)
    | (refine wp_load_mid 29 _ rfl _ 37 rfl _ _ r4 Tryz.underlying29 rfl (by rw [infoSh]; rfl) ?_))
  have HS := hide S0
  have HT := hide T0
  have hadA := HA.out.adr
  have hadB := HB.out.adr
  clear x0 x1 x2 x3 x4 x5 x6 x7 x8 y0 y1 y2 y3 y4 y5 y6 y7 y8 r1 r2 r3 r4 n1 n2 n3 S0 T0
  go_loopw [44] (fun i wl => ∃ k : Nat, k ≤ s.W.length ∧ i = .int .i64 (k : Int) ∧ Hid (∃ n, wl = w0.drewN n)) (fun i _ => s.W.length - (intOf i).toNat)
  case atStart => exact ⟨0, by omega, rfl, 0, rfl⟩
  case round =>
    obtain ⟨k, hk, rfl, HN⟩ := hrel
    by_cases hlt : k < s.W.length
    · obtain ⟨n, hn⟩ := HN.out
      subst hn
      obtain ⟨x, hx, _⟩ := drop_at hlt
      have hBw : Below w.heap.size w (w0.drewN n) := ⟨HB0.out.os, HB0.out.tape, HB0.out.output, HB0.out.size, HB0.out.block⟩
      obtain ⟨c0, c1, c2, c3, c4, c5, c6, c7⟩ := (HA.out.over hBw).cell k x hx
      obtain ⟨d0, d1, d2, d3, d4, d5, d6, d7⟩ := (HB.out.over hBw).cell k x hx
      obtain ⟨_, _, _, _, _, _, _, x7, _⟩ := st_cells (show SAt (w0.drewN n) w.heap.size (stC s (.slice aa s.W.length ca)) from HS.out)
      obtain ⟨_, _, _, _, _, _, _, y7, _⟩ := st_cells (show SAt (w0.drewN n) (w.heap.size + 1) (stC s (.slice ba s.W.length cb)) from HT.out)
      have n4 := fun w => neWt w x
      unfold wtC at n4
      obtain rfl := hadA (by omega)
      obtain rfl := hadB (by omega)
      have hk0 : (0 : Int) ≤ (k : Int) := by omega
      have hk1 : (k : Int) < (s.W.length : Int) := by omega
      clear hadA hadB hx hBw HN
      have HX : Hid (∃ m, w0.drewN n = w0.drewN m) := ⟨n, rfl⟩
      generalize w0.drewN n = wx at *
      go_upto_region 6 with fail
      go_quiet (fail)
      go_wp2
      go_roundw
      case rel =>
        obtain ⟨m, hm⟩ := HX.out
        exact ⟨k + 1, by omega, by go_num, m + nq, by rw [hm]; simp⟩
      case measure => simp [intOf]; omega
    · obtain ⟨n, hn⟩ := HN.out
      subst hn
      go_wp2
      go_ret
      exact ⟨rfl, HB0.out.os, HB0.out.tape, HB0.out.output, HB0.out.size, HB0.out.block⟩
end Go.Proofs.YtkhlihpghbhppaaGreat

set_option maxRecDepth 100000
namespace Go.Proofs.YtkhlihpghbhppaaGreat.Ln
open Go.RowKit
theorem goodL_ref (x : Line) : (nonneg x.D = false → goodL x = false) ∧ (nonneg x.D = true → goodL x = (decide (x.S.length = x.D.length) && (decide (x.S.length ≤ 400) && (decide (0 ≤ x.g) && decide (x.g ≤ x.S.length))))) := by
  refine ⟨fun h => by simp [goodL, h], fun h => ?_⟩
  unfold goodL
  rw [h]
  by_cases h1 : x.D.length = x.S.length
  · simp [h1, Bool.and_assoc]
  · have h2 : ¬ x.S.length = x.D.length := fun e => h1 e.symm
    simp [h1, h2]
set_option maxHeartbeats 1000000 in
theorem rgood_any (x : Line) (sa da : Option Addr) (cs cd sb so db dO : Nat) (w : World) (L : LAt w x sa da cs cd sb so db dO) :
    Calls Tryz.prog 54 #[.agg #[.slice sa x.S.length cs, .slice da x.D.length cd, .int .i64 x.g, .bool x.cl]] w fun e w' => e = .returned (.bool (goodL x)) ∧ Below w.heap.size w w' := by
  obtain ⟨S, D, g, cl⟩ := x
  have HG := hide (goodL_ref ⟨S, D, g, cl⟩)
  obtain ⟨hls, hld, hsa, hda, -, -, PS, PD⟩ := L
  have HB0 : Hid (∀ o, Below w.heap.size w (w.alloc o)) := fun o => below_new w o
  have HDA : Hid (0 < D.length → da = some ⟨db, dO, none⟩) := hda
  have HPD : Hid (IntsAt w db dO D) := PD
  clear hsa hda PS PD
  dsimp only at *
  generalize goodL ⟨S, D, g, cl⟩ = G at *
  go_enter Tryz.func54, Tryz.ntmps54
  go_wp2
  go_loop [8] (fun i => ∃ (k : Nat), k ≤ D.length ∧ i = .int .i64 (k : Int) ∧ Hid (nonneg (D.take k) = true)) (fun i => D.length - (intOf i).toNat)
  case atStart => exact ⟨0, Nat.zero_le _, rfl, by simp [Hid, nonneg]⟩
  case round =>
    obtain ⟨k, hk, rfl, HR⟩ := hrel
    by_cases hlt : k < D.length
    · have hcell := (HPD.out.later (HB0.out (.cells #[.slice sa S.length cs, .slice da D.length cd, .int .i64 g, .bool cl] 37))) k hlt
      obtain ⟨y, hy⟩ : ∃ y, D.getD k 0 = y := ⟨_, rfl⟩
      rw [hy] at hcell
      have HY : Hid (D.getD k 0 = y) := hy
      clear hy
      have e := HDA.out (by omega)
      subst e
      by_cases hy0 : y < 0
      · have HF : Hid (G = false) := HG.out.1 (nonneg_not hlt (by rw [HY.out]; exact hy0))
        go_wp2
        go_ret
        exact ⟨by rw [HF.out]; rfl, HB0.out _⟩
      · go_wp2
        go_round
        case rel => exact ⟨k + 1, by omega, by go_num, nonneg_step HR.out hlt (by rw [HY.out]; omega)⟩
        case measure => simp [intOf]; omega
    · have hG := HG.out.2 (by have := HR.out; rwa [List.take_of_length_le (by omega)] at this)
      by_cases h1 : S.length = D.length
      · have h1' : ((S.length : Int) == (D.length : Int)) = true := by simp [h1]
        by_cases h2 : S.length ≤ 400
        · by_cases h3 : 0 ≤ g
          · by_cases h4 : g ≤ (S.length : Int)
            · have HF : Hid (G = true) := by show _ = _; rw [hG]; simp [h1, h3]; omega
              clear hG h1 HG HR
              go_wp2
              go_ret
              exact ⟨by rw [HF.out]; rfl, HB0.out _⟩
            · have HF : Hid (G = false) := by show _ = _; rw [hG]; simp; omega
              clear hG h1 HG HR
              go_wp2
              go_ret
              exact ⟨by rw [HF.out]; rfl, HB0.out _⟩
          · have HF : Hid (G = false) := by show _ = _; rw [hG]; simp; omega
            clear hG h1 HG HR
            go_wp2
            go_ret
            exact ⟨by rw [HF.out]; rfl, HB0.out _⟩
        · have HF : Hid (G = false) := by show _ = _; rw [hG]; simp; omega
          clear hG h1 HG HR
          go_wp2
          go_ret
          exact ⟨by rw [HF.out]; rfl, HB0.out _⟩
      · have h1' : ((S.length : Int) == (D.length : Int)) = false := by simp; omega
        have HF : Hid (G = false) := by show _ = _; rw [hG]; simp; omega
        clear hG h1 HG HR
        go_wp2
        go_ret
        exact ⟨by rw [HF.out]; rfl, HB0.out _⟩
set_option maxHeartbeats 1000000 in
/-- numbers that are alike -/
theorem nums_same (l : List Int) (a a' : Option Addr) (c c' b off b' off' : Nat) (w : World) (hlen : l.length * 8 ≤ 140737488351232) (ha : 0 < l.length → a = some ⟨b, off, none⟩) (ha' : 0 < l.length → a' = some ⟨b', off', none⟩)
    (hc : IntsAt w b off l) (hc' : IntsAt w b' off' l) :
    Calls Tryz.prog 30 #[.slice a l.length c, .slice a' l.length c'] w fun e w' => e = .returned (.bool true) ∧ Below w.heap.size w w' := by
  have HA := hide ha
  have HA' := hide ha'
  have HC := hide hc
  have HC' := hide hc'
  clear ha ha' hc hc'
  go_enter Tryz.func30, Tryz.ntmps30
  go_upto_region 4 with fail
  go_loopw [13] (fun i wl => ∃ (k : Nat), k ≤ l.length ∧ i = .int .i64 (k : Int) ∧ Hid (Below w.heap.size w wl)) (fun i _ => l.length - (intOf i).toNat)
  case atStart => exact ⟨0, Nat.zero_le _, rfl, Below.refl _ _⟩
  case round =>
    obtain ⟨k, hk, rfl, HR⟩ := hrel
    by_cases hlt : k < l.length
    · have c1 := HC.out.later HR.out k hlt
      have c2 := HC'.out.later HR.out k hlt
      have e := HA.out (by omega)
      subst e
      have e := HA'.out (by omega)
      subst e
      generalize l.getD k 0 = n at *
      have hkI : (k : Int) < (l.length : Int) := by omega
      go_upto_region 6 with fail
      go_quiet (fail)
      go_wp2
      exact ⟨⟨k + 1, by omega, by go_num, ⟨HR.out.os, HR.out.tape, HR.out.output, HR.out.size, HR.out.block⟩⟩, by simp [intOf]; omega⟩
    · obtain rfl : k = l.length := by omega
      go_wp2
      go_ret
      exact ⟨rfl, HR.out⟩
set_option maxHeartbeats 1000000 in
/-- lines that are alike -/
theorem same_any (x : Line) (sa da sa' da' : Option Addr) (cs cd sb so db dO cs' cd' sb' so' db' dO' : Nat) (w : World) (L : LAt w x sa da cs cd sb so db dO) (L' : LAt w x sa' da' cs' cd' sb' so' db' dO') :
    Calls Tryz.prog 44 #[.agg #[.slice sa x.S.length cs, .slice da x.D.length cd, .int .i64 x.g, .bool x.cl], .agg #[.slice sa' x.S.length cs', .slice da' x.D.length cd', .int .i64 x.g, .bool x.cl]] w fun e w' => e = .returned (.bool true) ∧ Below w.heap.size w w' := by
  obtain ⟨S, D, g, cl⟩ := x
  dsimp only
  have hlS : S.length * 16 ≤ 140737488351232 := L.hls
  have hlD : D.length * 8 ≤ 140737488351232 := L.hld
  have HL := hide L
  have HL' := hide L'
  have F1 := (FAt.new w (.slice sa S.length cs) (.slice da D.length cd) (.int .i64 g) (.bool cl)).alloc (.cells #[.slice sa' S.length cs', .slice da' D.length cd', .int .i64 g, .bool cl] 37)
  have F2 := FAt.new2 w (.cells #[.slice sa S.length cs, .slice da D.length cd, .int .i64 g, .bool cl] 37) (.slice sa' S.length cs') (.slice da' D.length cd') (.int .i64 g) (.bool cl)
  have BW : Below w.heap.size w ((w.alloc (.cells #[.slice sa S.length cs, .slice da D.length cd, .int .i64 g, .bool cl] 37)).alloc (.cells #[.slice sa' S.length cs', .slice da' D.length cd', .int .i64 g, .bool cl] 37)) := (below_new w _).alloc (by simp) _
  have HX := hide (show _ ∧ _ ∧ _ from ⟨F1, F2, BW⟩)
  clear L L' F1 F2 BW
  go_enter Tryz.func44, Tryz.ntmps44
  go_upto_region 1 with fail
  generalize ((w.alloc (.cells #[.slice sa S.length cs, .slice da D.length cd, .int .i64 g, .bool cl] 37)).alloc (.cells #[.slice sa' S.length cs', .slice da' D.length cd', .int .i64 g, .bool cl] 37)) = w0 at *
  obtain ⟨⟨c0, c1, c2, c3⟩, -⟩ := HX.out.1.facts
  obtain ⟨⟨d0, d1, d2, d3⟩, -⟩ := HX.out.2.1.facts
  go_upto_region 4 with fail
  go_loopw [30] (fun i wl => ∃ (k : Nat), k ≤ S.length ∧ i = .int .i64 (k : Int) ∧ Hid (Below w0.heap.size w0 wl)) (fun i _ => S.length - (intOf i).toNat)
  case atStart => exact ⟨0, Nat.zero_le _, rfl, Below.refl _ _⟩
  case round =>
    obtain ⟨k, hk, rfl, HR⟩ := hrel
    have HBR := hide (below_then HX.out.2.2 HR.out)
    obtain ⟨⟨c0, c1, c2, c3⟩, -⟩ := (HX.out.1.later HR.out HX.out.1.lt).facts
    obtain ⟨⟨d0, d1, d2, d3⟩, -⟩ := (HX.out.2.1.later HR.out HX.out.2.1.lt).facts
    by_cases hlt : k < S.length
    · have s1 := HL.out.PS.later HBR.out k hlt
      have s2 := HL'.out.PS.later HBR.out k hlt
      have e := HL.out.hsa (by show 0 < S.length; omega)
      subst e
      have e := HL'.out.hsa (by show 0 < S.length; omega)
      subst e
      dsimp only at s1 s2
      generalize S.getD k ByteArray.empty = n at *
      have hkI : (k : Int) < (S.length : Int) := by omega
      go_upto_region 6 with fail
      go_quiet (fail)
      go_wp2
      exact ⟨⟨k + 1, by omega, by go_num, ⟨HR.out.os, HR.out.tape, HR.out.output, HR.out.size, HR.out.block⟩⟩, by simp [intOf]; omega⟩
    · have H5 := hide (nums_same D da da' cd cd' db dO db' dO' wr hlD HL.out.hda HL'.out.hda (HL.out.PD.later HBR.out) (HL'.out.PD.later HBR.out))
      go_wp2_with (go_at_call 30; refine H5.out.mono ?_; rintro e w5 ⟨rfl, hb⟩)
      go_ret
      exact ⟨rfl, below_then HBR.out hb⟩
end Go.Proofs.YtkhlihpghbhppaaGreat.Ln

set_option maxRecDepth 100000
namespace Go.Proofs.YtkhlihpghbhppaaGreat.Pv
open Go.RowKit
section
variable {P P' : Nat → Prop} {w : World}
theorem samepw_rep (l : List (Int × Int)) (v v' : Value) (h : Rep P w v 2 16 (pwC l)) (h' : Rep P' w v' 2 16 (pwC l)) : Calls Tryz.prog 43 #[v, v'] w fun e w' => e = .returned (.bool true) ∧ Below w.heap.size w w' := by
  obtain ⟨A1, C1, A2, C2, sb, so, db, dO, rfl, -, L⟩ := Rep.lies (D := []) h (Rep.nil P w 1 8)
  obtain ⟨B1, D1, B2, D2, sb', so', db', dO', rfl, -, L'⟩ := Rep.lies (D := []) h' (Rep.nil P' w 1 8)
  have := Cd.pws30 l l A1 B1 C1 D1 sb so sb' so' w L.hls L.hls L.hsa L'.hsa L.PS L'.PS
  rwa [decide_eq_true rfl] at this
theorem samenm_rep (l : List Int) (v v' : Value) (h : Rep P w v 1 8 (inC l)) (h' : Rep P' w v' 1 8 (inC l)) : Calls Tryz.prog 30 #[v, v'] w fun e w' => e = .returned (.bool true) ∧ Below w.heap.size w w' := by
  obtain ⟨A1, C1, A2, C2, sb, so, db, dO, -, rfl, L⟩ := Rep.lies (S := []) (Rep.nil P w 2 16) h
  obtain ⟨B1, D1, B2, D2, sb', so', db', dO', -, rfl, L'⟩ := Rep.lies (S := []) (Rep.nil P' w 2 16) h'
  have := Cd.nums31 l l A2 B2 C2 D2 db dO db' dO' w L.hld L.hld L.hda L'.hda L.PD L'.PD
  rwa [decide_eq_true rfl] at this
theorem samek_rep (k i n m : Int) (S : List (Int × Int)) (D : List Int) (v1 v2 v1' v2' : Value) (h1 : Rep P w v1 2 16 (pwC S)) (h2 : Rep P w v2 1 8 (inC D)) (h1' : Rep P' w v1' 2 16 (pwC S)) (h2' : Rep P' w v2' 1 8 (inC D)) :
    Calls Tryz.prog 45 #[.agg #[.int .i64 k, .int .i64 i, .int .i64 n, .int .i64 m, v1, v2], .agg #[.int .i64 k, .int .i64 i, .int .i64 n, .int .i64 m, v1', v2']] w fun e w' => e = .returned (.bool true) ∧ Below w.heap.size w w' := by
  obtain ⟨A1, C1, A2, C2, sb, so, db, dO, rfl, rfl, L⟩ := Rep.lies h1 h2
  obtain ⟨B1, D1, B2, D2, sb', so', db', dO', rfl, rfl, L'⟩ := Rep.lies h1' h2'
  have e : decide (k = k ∧ i = i ∧ n = n ∧ m = m ∧ S = S ∧ D = D) = true := decide_eq_true ⟨rfl, rfl, rfl, rfl, rfl, rfl⟩
  have := Cd.same17 k i n m k i n m S S D D A1 A2 B1 B2 C1 C2 sb so db dO D1 D2 sb' so' db' dO' w L.hls L.hld L.hsa L.hda L.PS L.PD L.hls L.hld L'.hsa L'.hda L'.PS L'.PD
  rwa [e] at this
theorem samel_rep (x : Ln.Line) (v1 v2 v1' v2' : Value) (h1 : Rep P w v1 1 16 (txC x.S)) (h2 : Rep P w v2 1 8 (inC x.D)) (h1' : Rep P' w v1' 1 16 (txC x.S)) (h2' : Rep P' w v2' 1 8 (inC x.D)) :
    Calls Tryz.prog 44 #[.agg #[v1, v2, .int .i64 x.g, .bool x.cl], .agg #[v1', v2', .int .i64 x.g, .bool x.cl]] w fun e w' => e = .returned (.bool true) ∧ Below w.heap.size w w' := by
  obtain ⟨A1, C1, A2, C2, sb, so, db, dO, rfl, rfl, L, -, -⟩ := Rep.line h1 h2
  obtain ⟨B1, D1, B2, D2, sb', so', db', dO', rfl, rfl, L', -, -⟩ := Rep.line h1' h2'
  exact Ln.same_any x A1 A2 B1 B2 C1 C2 sb so db dO D1 D2 sb' so' db' dO' w L L'
theorem sames_rep (s : St) (v v' : Value) (h : Rep P w v 8 64 (wsL s.W)) (h' : Rep P' w v' 8 64 (wsL s.W)) : Calls Tryz.prog 42 #[.agg (stC s v), .agg (stC s v')] w fun e w' => e = .returned (.bool true) ∧ Below w.heap.size w w' := by
  obtain ⟨A, C, b, o, rfl, W, -, -⟩ := h.wsAt
  obtain ⟨A', C', b', o', rfl, W', -, -⟩ := h'.wsAt
  exact same_any s A A' b o b' o' C C' w W W'
end
end Go.Proofs.YtkhlihpghbhppaaGreat.Pv

set_option maxRecDepth 100000
namespace Go.Proofs.YtkhlihpghbhppaaGreat.Cd
open Go.RowKit
theorem dp_refused (s : ByteArray) (w : World) (h : (parse (bs s)).2 ≠ ([], false)) : ∀ w', Below w.heap.size w w' → ∃ sa da cs cd sb so db dO,
      refused = .returned (.tuple #[.agg #[.int .i64 (decP (bs s)).1, .int .i64 (decP (bs s)).2.1, .int .i64 (decP (bs s)).2.2.1, .int .i64 (decP (bs s)).2.2.2.1, .slice sa (decP (bs s)).2.2.2.2.1.length cs, .slice da (decP (bs s)).2.2.2.2.2.length cd], .int .i64 (decE (bs s))]) ∧
      Lies w' (decP (bs s)).2.2.2.2.1 (decP (bs s)).2.2.2.2.2 sa da sb so db dO ∧ (Rm w.heap.size sa (decP (bs s)).2.2.2.2.1.length cs sb ∧ Rm w.heap.size da (decP (bs s)).2.2.2.2.2.length cd db) ∧ Below w.heap.size w w' := by
  intro w' hb
  obtain ⟨he1, hp1⟩ := dec_form h
  exact ⟨none, none, 0, 0, 0, 0, 0, 0, by rw [he1, hp1]; rfl, by rw [hp1]; exact lies_nil _, by rw [hp1]; exact rm_nil _, hb⟩
theorem dp_any (s : ByteArray) (w : World) (hs : s.size ≤ maxLen) :
    Calls Tryz.prog 70 #[.string s] w fun e w' => ∃ sa da cs cd sb so db dO,
      e = .returned (.tuple #[.agg #[.int .i64 (decP (bs s)).1, .int .i64 (decP (bs s)).2.1, .int .i64 (decP (bs s)).2.2.1, .int .i64 (decP (bs s)).2.2.2.1, .slice sa (decP (bs s)).2.2.2.2.1.length cs, .slice da (decP (bs s)).2.2.2.2.2.length cd], .int .i64 (decE (bs s))]) ∧
      Lies w' (decP (bs s)).2.2.2.2.1 (decP (bs s)).2.2.2.2.2 sa da sb so db dO ∧ (Rm w.heap.size sa (decP (bs s)).2.2.2.2.1.length cs sb ∧ Rm w.heap.size da (decP (bs s)).2.2.2.2.2.length cd db) ∧ Below w.heap.size w w' := by
  have hby := bs_byte s
  by_cases h17 : s.size < 17
  · refine dp_short s w (by omega) _ (dp_refused s w fun h => ?_)
    obtain ⟨n', m', _, _, h3⟩ := parse_len hby h
    rw [bs_length] at h3
    omega
  · obtain ⟨n, hn⟩ : ∃ n, (s[15]'(by omega)).toNat = n := ⟨_, rfl⟩
    have hn2 : n ≤ 255 := by have := (s[15]'(by omega)).toNat_lt; omega
    by_cases h8 : s.size < 17 + 8 * n
    · refine dp_mid s w (by omega) (by omega) n hn (by omega) (by omega) _ (dp_refused s w fun h => ?_)
      obtain ⟨n', m', h1, _, h3⟩ := parse_len hby h
      rw [bs_get s 15 (by omega), hn] at h1
      rw [bs_length] at h3
      omega
    · obtain ⟨m, hm⟩ : ∃ m, (s[16 + 8 * n]'(by omega)).toNat = m := ⟨_, rfl⟩
      have hm2 : m ≤ 255 := by have := (s[16 + 8 * n]'(by omega)).toNat_lt; omega
      by_cases hT : s.size = 17 + 8 * n + m
      · exact dp_ok s w hs h17 n hn hn2 h8 m hm hm2 hT
      · refine dp_long s w (by omega) (by omega) n hn (by omega) (by omega) (by omega) m hm (by omega) (by rw [bne_iff_ne]; omega) _ (dp_refused s w fun h => ?_)
        obtain ⟨n', m', h1, h2, h3⟩ := parse_len hby h
        rw [bs_get s 15 (by omega), hn] at h1
        have e : n' = n := by omega
        subst e
        rw [bs_get s (16 + 8 * n') (by omega), hm] at h2
        rw [bs_length] at h3
        omega
end Go.Proofs.YtkhlihpghbhppaaGreat.Cd

