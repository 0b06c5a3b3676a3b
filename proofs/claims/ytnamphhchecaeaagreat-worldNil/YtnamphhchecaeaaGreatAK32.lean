/- Parts of the proof: RB1. -/
import Derived.Test.YtnamphhchecaeaaGreatRows
import Derived.Test.YtnamphhchecaeaaGreatAK31
import Derived.BigQuiet
import Derived.Deep.QuietTactic
set_option maxRecDepth 100000
namespace Go.Proofs.YtnamphhchecaeaaGreat
open Go.RowKit
set_option maxHeartbeats 4000000 in
theorem same_any (s : St) (aa ba : Option Addr) (ab ao bb bo ca cb : Nat) (w : World) (hA : WsAt w aa ab ao s.W) (hB : WsAt w ba bb bo s.W) :
    Calls Tryz.prog 11 #[.agg (stC s (.slice aa s.W.length ca)), .agg (stC s (.slice ba s.W.length cb))] w fun e w' => e = .returned (.bool true) ∧ Below w.heap.size w w' := by
  have S0 := (SAt.new w (stC s (.slice aa s.W.length ca))).alloc (.cells (stC s (.slice ba s.W.length cb)) 41)
  have T0 := SAt.new2 w (.cells (stC s (.slice aa s.W.length ca)) 41) (stC s (.slice ba s.W.length cb))
  have HB0 : Hid (Below w.heap.size w ((w.alloc (.cells (stC s (.slice aa s.W.length ca)) 41)).alloc (.cells (stC s (.slice ba s.W.length cb)) 41))) := ((Below.refl _ w).alloc (Nat.le_refl _) _).alloc (by simp) _
  have HA := hide hA
  have HB := hide hB
  have hlen := hA.len
  clear hA hB
  have n1 := fun w => neVs w s.V
  have n2 := fun w => neSh w s.S
  have n3 := fun w => neBk w s.b
  go_enter Tryz.func11, Tryz.ntmps11
  go_upto_region 1 with fail
  generalize (w.alloc (.cells (stC s (.slice aa s.W.length ca)) 41)).alloc (.cells (stC s (.slice ba s.W.length cb)) 41) = w0 at *
  obtain ⟨x0, x1, x2, x3, x4, x5, x6, x7, x8⟩ := st_cells S0
  obtain ⟨y0, y1, y2, y3, y4, y5, y6, y7, y8⟩ := st_cells T0
  have r1 := st_vals S0
  have r2 := st_vals T0
  have r3 := st_shares S0
  have r4 := st_shares T0
  go_upto_region 999 with (first
    | (refine wp_load_mid 36 _ rfl _ 7 rfl _ _ r1 Tryz.underlying36 rfl (by rw [infoVs]; rfl) ?_)
    | (refine wp_load_mid 36 _ rfl _ 7 rfl _ _ r2 Tryz.underlying36 rfl (by rw [infoVs]; rfl) ?_)
    | (refine wp_load_mid 38 _ rfl _ 37 rfl _ _ r3 Tryz.underlying38 rfl (by rw [infoSh]; rfl) ?_)
    | (refine wp_load_mid 38 _ rfl _ 37 rfl _ _ r4 Tryz.underlying38 rfl (by rw [infoSh]; rfl) ?_))
  have HS := hide S0
  have HT := hide T0
  have hadA := HA.out.adr
  have hadB := HB.out.adr
  clear x0 x1 x2 x3 x4 x5 x6 x7 x8 y0 y1 y2 y3 y4 y5 y6 y7 y8 r1 r2 r3 r4 n1 n2 n3 S0 T0
  go_loopw [44] (fun i wl => ∃ k : Nat, k ≤ s.W.length ∧ i = .int .i64 (k : Int) ∧ Hid (∃ n, wl = w0.drewN n)) (fun i _ => s.W.length - (intOf i).toNat)
  case atStart => exact ⟨0, by omega, rfl, 0, rfl⟩
  case round =>
    obtain ⟨k, hk, rfl, HN⟩ := hrel
    by_cases hlt : k < s.W.length
    · obtain ⟨n, hn⟩ := HN.out
      subst hn
      obtain ⟨x, hx, _⟩ := drop_at hlt
      have hBw : Below w.heap.size w (w0.drewN n) := ⟨HB0.out.os, HB0.out.tape, HB0.out.output, HB0.out.size, HB0.out.block⟩
      obtain ⟨c0, c1, c2, c3, c4, c5, c6, c7⟩ := (HA.out.over hBw).cell k x hx
      obtain ⟨d0, d1, d2, d3, d4, d5, d6, d7⟩ := (HB.out.over hBw).cell k x hx
      obtain ⟨_, _, _, _, _, _, _, x7, _⟩ := st_cells (show SAt (w0.drewN n) w.heap.size (stC s (.slice aa s.W.length ca)) from HS.out)
      obtain ⟨_, _, _, _, _, _, _, y7, _⟩ := st_cells (show SAt (w0.drewN n) (w.heap.size + 1) (stC s (.slice ba s.W.length cb)) from HT.out)
      have n4 := fun w => neWt w x
      unfold wtC at n4
      obtain rfl := hadA (by omega)
      obtain rfl := hadB (by omega)
      have hk0 : (0 : Int) ≤ (k : Int) := by omega
      have hk1 : (k : Int) < (s.W.length : Int) := by omega
      clear hadA hadB hx hBw HN
      have HX : Hid (∃ m, w0.drewN n = w0.drewN m) := ⟨n, rfl⟩
      generalize w0.drewN n = wx at *
      go_upto_region 6 with fail
      go_quiet (fail)
      go_wp2
      go_roundw
      case rel =>
        obtain ⟨m, hm⟩ := HX.out
        exact ⟨k + 1, by omega, by go_num, m + nq, by rw [hm]; simp⟩
      case measure => simp [intOf]; omega
    · obtain ⟨n, hn⟩ := HN.out
      subst hn
      go_wp2
      go_ret
      exact ⟨rfl, HB0.out.os, HB0.out.tape, HB0.out.output, HB0.out.size, HB0.out.block⟩
end Go.Proofs.YtnamphhchecaeaaGreat

