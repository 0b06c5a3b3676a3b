/- Parts of the proof: LG. -/
import Derived.Test.YtnamphhchecaeaaGreatRows
import Derived.Test.YtnamphhchecaeaaGreatAK12
import Derived.Deep.QuietTactic
import Derived.BigQuiet
import Derived.WalkSmall
set_option maxRecDepth 100000
namespace Go.Proofs.YtnamphhchecaeaaGreat.Ln
open Go.RowKit
set_option maxHeartbeats 1000000 in
/-- numbers that are alike -/
theorem nums_same (l : List Int) (a a' : Option Addr) (c c' b off b' off' : Nat) (w : World) (hlen : l.length * 8 ≤ 140737488351232) (ha : 0 < l.length → a = some ⟨b, off, none⟩) (ha' : 0 < l.length → a' = some ⟨b', off', none⟩)
    (hc : IntsAt w b off l) (hc' : IntsAt w b' off' l) :
    Calls Tryz.prog 13 #[.slice a l.length c, .slice a' l.length c'] w fun e w' => e = .returned (.bool true) ∧ Below w.heap.size w w' := by
  have HA := hide ha
  have HA' := hide ha'
  have HC := hide hc
  have HC' := hide hc'
  clear ha ha' hc hc'
  go_enter Tryz.func13, Tryz.ntmps13
  go_upto_region 4 with fail
  go_loopw [13] (fun i wl => ∃ (k : Nat), k ≤ l.length ∧ i = .int .i64 (k : Int) ∧ Hid (Below w.heap.size w wl)) (fun i _ => l.length - (intOf i).toNat)
  case atStart => exact ⟨0, Nat.zero_le _, rfl, Below.refl _ _⟩
  case round =>
    obtain ⟨k, hk, rfl, HR⟩ := hrel
    by_cases hlt : k < l.length
    · have c1 := HC.out.later HR.out k hlt
      have c2 := HC'.out.later HR.out k hlt
      have e := HA.out (by omega)
      subst e
      have e := HA'.out (by omega)
      subst e
      generalize l.getD k 0 = n at *
      have hkI : (k : Int) < (l.length : Int) := by omega
      go_upto_region 6 with fail
      go_quiet (fail)
      go_wp2
      exact ⟨⟨k + 1, by omega, by go_num, ⟨HR.out.os, HR.out.tape, HR.out.output, HR.out.size, HR.out.block⟩⟩, by simp [intOf]; omega⟩
    · obtain rfl : k = l.length := by omega
      go_wp2
      go_ret
      exact ⟨rfl, HR.out⟩
set_option maxHeartbeats 1000000 in
/-- lines that are alike -/
theorem same_any (x : Line) (sa da sa' da' : Option Addr) (cs cd sb so db dO cs' cd' sb' so' db' dO' : Nat) (w : World) (L : LAt w x sa da cs cd sb so db dO) (L' : LAt w x sa' da' cs' cd' sb' so' db' dO') :
    Calls Tryz.prog 14 #[.agg #[.slice sa x.S.length cs, .slice da x.D.length cd, .int .i64 x.g, .bool x.cl], .agg #[.slice sa' x.S.length cs', .slice da' x.D.length cd', .int .i64 x.g, .bool x.cl]] w fun e w' => e = .returned (.bool true) ∧ Below w.heap.size w w' := by
  obtain ⟨S, D, g, cl⟩ := x
  dsimp only
  have hlS : S.length * 16 ≤ 140737488351232 := L.hls
  have hlD : D.length * 8 ≤ 140737488351232 := L.hld
  have HL := hide L
  have HL' := hide L'
  have F1 := (FAt.new w (.slice sa S.length cs) (.slice da D.length cd) (.int .i64 g) (.bool cl)).alloc (.cells #[.slice sa' S.length cs', .slice da' D.length cd', .int .i64 g, .bool cl] 46)
  have F2 := FAt.new2 w (.cells #[.slice sa S.length cs, .slice da D.length cd, .int .i64 g, .bool cl] 46) (.slice sa' S.length cs') (.slice da' D.length cd') (.int .i64 g) (.bool cl)
  have BW : Below w.heap.size w ((w.alloc (.cells #[.slice sa S.length cs, .slice da D.length cd, .int .i64 g, .bool cl] 46)).alloc (.cells #[.slice sa' S.length cs', .slice da' D.length cd', .int .i64 g, .bool cl] 46)) := (below_new w _).alloc (by simp) _
  have HX := hide (show _ ∧ _ ∧ _ from ⟨F1, F2, BW⟩)
  clear L L' F1 F2 BW
  go_enter Tryz.func14, Tryz.ntmps14
  go_upto_region 1 with fail
  generalize ((w.alloc (.cells #[.slice sa S.length cs, .slice da D.length cd, .int .i64 g, .bool cl] 46)).alloc (.cells #[.slice sa' S.length cs', .slice da' D.length cd', .int .i64 g, .bool cl] 46)) = w0 at *
  obtain ⟨⟨c0, c1, c2, c3⟩, -⟩ := HX.out.1.facts
  obtain ⟨⟨d0, d1, d2, d3⟩, -⟩ := HX.out.2.1.facts
  go_upto_region 4 with fail
  go_loopw [30] (fun i wl => ∃ (k : Nat), k ≤ S.length ∧ i = .int .i64 (k : Int) ∧ Hid (Below w0.heap.size w0 wl)) (fun i _ => S.length - (intOf i).toNat)
  case atStart => exact ⟨0, Nat.zero_le _, rfl, Below.refl _ _⟩
  case round =>
    obtain ⟨k, hk, rfl, HR⟩ := hrel
    have HBR := hide (below_then HX.out.2.2 HR.out)
    obtain ⟨⟨c0, c1, c2, c3⟩, -⟩ := (HX.out.1.later HR.out HX.out.1.lt).facts
    obtain ⟨⟨d0, d1, d2, d3⟩, -⟩ := (HX.out.2.1.later HR.out HX.out.2.1.lt).facts
    by_cases hlt : k < S.length
    · have s1 := HL.out.PS.later HBR.out k hlt
      have s2 := HL'.out.PS.later HBR.out k hlt
      have e := HL.out.hsa (by show 0 < S.length; omega)
      subst e
      have e := HL'.out.hsa (by show 0 < S.length; omega)
      subst e
      dsimp only at s1 s2
      generalize S.getD k ByteArray.empty = n at *
      have hkI : (k : Int) < (S.length : Int) := by omega
      go_upto_region 6 with fail
      go_quiet (fail)
      go_wp2
      exact ⟨⟨k + 1, by omega, by go_num, ⟨HR.out.os, HR.out.tape, HR.out.output, HR.out.size, HR.out.block⟩⟩, by simp [intOf]; omega⟩
    · have H5 := hide (nums_same D da da' cd cd' db dO db' dO' wr hlD HL.out.hda HL'.out.hda (HL.out.PD.later HBR.out) (HL'.out.PD.later HBR.out))
      go_wp2_with (go_at_call 13; refine H5.out.mono ?_; rintro e w5 ⟨rfl, hb⟩)
      go_ret
      exact ⟨rfl, below_then HBR.out hb⟩
end Go.Proofs.YtnamphhchecaeaaGreat.Ln

