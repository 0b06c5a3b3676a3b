/- follow, case 4. -/
import Derived.Test.YtjmhmmphbcohdaaZFOB
set_option maxRecDepth 100000
namespace Go.Proofs.Ytjmhmmphbcohdaa
open Go.RowKit
attribute [local go_sem ↓] loadS_eq
set_option maxHeartbeats 8000000 in
set_option maxRecDepth 100000 in
theorem follow_4 (s : St) (ao : Option Addr) (sb so c : Nat) (k d v n h : Int) (w : World) (hg : goodS s = true) (hc : s.W.length ≤ c) (hW : WsAt w ao sb so s.W) (hsb : sb ≠ w.heap.size ∧ sb ≠ w.heap.size + 2) (hk : k % 8 = 4) :
    Calls Try.prog 6 #[.agg (stC s (.slice ao s.W.length c)), .agg #[.int .i64 k, .int .i64 d, .int .i64 v, .int .i64 n, .int .i64 h]] w (K2 s sb w) := by
  have SS := ((SAt.new w (stC s (.slice ao s.W.length c))).alloc (.cells #[.int .i64 k, .int .i64 d, .int .i64 v, .int .i64 n, .int .i64 h] 40)).alloc (.cells Z63 34)
  have RR := SAt.new3 w (.cells (stC s (.slice ao s.W.length c)) 34) (.cells #[.int .i64 k, .int .i64 d, .int .i64 v, .int .i64 n, .int .i64 h] 40) Z63
  have OO := OAt.new w (.cells (stC s (.slice ao s.W.length c)) 34) (.cells Z63 34) k d v n h
  have HB : Hid (Below w.heap.size w (((w.alloc (.cells (stC s (.slice ao s.W.length c)) 34)).alloc (.cells #[.int .i64 k, .int .i64 d, .int .i64 v, .int .i64 n, .int .i64 h] 40)).alloc (.cells Z63 34))) := (((Below.refl _ w).alloc (Nat.le_refl _) _).alloc (by simp) _).alloc (by simp; omega) _
  have HW := hide hW
  have HC := hide hc
  have HG := hide hg
  have HSB := hide hsb
  clear hW hc hg hsb
  go_enter Try.func6, Try.ntmps6
  go_upto_region 1 with fail
  change Code.wp Try.prog _ _ _ (((w.alloc (.cells (stC s (.slice ao s.W.length c)) 34)).alloc (.cells #[.int .i64 k, .int .i64 d, .int .i64 v, .int .i64 n, .int .i64 h] 40)).alloc (.cells Z63 34))
  generalize ((w.alloc (.cells (stC s (.slice ao s.W.length c)) 34)).alloc (.cells #[.int .i64 k, .int .i64 d, .int .i64 v, .int .i64 n, .int .i64 h] 40)).alloc (.cells Z63 34) = w0 at *
  obtain ⟨o0, o1, o2, o3, o4⟩ := OO.cells
  go_upto_region 13 with (go_at_call 12; refine (Pk.pick_any _ _ _ (by decide) (by decide)).mono ?_; rintro e w1 ⟨rfl, rfl⟩; rw [hk])
  obtain ⟨q, hq⟩ : ∃ q, IntKind.i64.wrap (h.tdiv 50) = q := ⟨_, rfl⟩
  have HS : (loadS (.pointer (some ⟨w.heap.size, 0, none⟩))).run Try.prog w0.drew = .ok (.agg (stC s (.slice ao s.W.length c))) w0.drew ∧ OAt w0.drew (w.heap.size + 1) k d v n h := ⟨SAt.loadS (w := w0.drew) SS rfl, OO⟩
  refine Od.wp_region_C (c := 4) (S := fun wx => wx = w0.drew) (by kernel_rfl) ?_
  have hS : w0.drew = w0.drew := rfl
  refine Od.anyC_at (i := 0) (v := .agg (stC s (.slice ao s.W.length c))) (some 87) rfl rfl (by kernel_rfl) (by kernel_rfl) (by kernel_rfl) (by kernel_rfl) (by decide) (fun _ _ _ h => h) (Or.inl ⟨by rfl, ?_⟩) hS ?_
  · rintro wx rfl; have l := HS.1; go_simp
  refine Od.anyC_at (i := 1) (v := .pointer (some ⟨w.heap.size + 1, 2, none⟩)) (some 88) rfl rfl (by kernel_rfl) (by kernel_rfl) (by kernel_rfl) (by kernel_rfl) (by decide) (fun _ _ _ h => h) (Or.inl ⟨by rfl, ?_⟩) hS ?_
  · rintro wx rfl; go_simp
  refine Od.anyC_at (i := 2) (v := .int .i64 v) (some 89) rfl rfl (by kernel_rfl) (by kernel_rfl) (by kernel_rfl) (by kernel_rfl) (by decide) (fun _ _ _ h => h) (Or.inl ⟨by rfl, ?_⟩) hS ?_
  · rintro wx rfl; have l := HS.2.cells; go_simp
  refine Od.anyC_one (i := 3) (by kernel_rfl) rfl (by decide) (fun K hK => ?_)
  refine step_wanted rfl ?_
  go_simp
  refine (Pk.pick_any _ _ _ (by decide) (by decide)).mono ?_
  rintro e w1 ⟨rfl, rfl⟩
  refine hK _ _ rfl ?_
  clear hK K
  refine Od.anyC_last (by kernel_rfl) rfl (fun K hK => ?_)
  refine step_wanted rfl ?_
  go_simp
  refine (unjail_K HG.out HC.out (by exact HW.out.over (HB.out.trans ((Below.refl _ w0).drew.mono HB.out.size))) _).mono ?_
  rintro e w2 ⟨⟨t, er⟩, A, ab, ao2, C, kp, rfl, hl⟩
  refine hK _ _ ?_
  clear hK K
  have hl : Ls w0.heap.size sb w0 w2 t A ab ao2 C := ls_drew hl
  have HB2 := hide (HB.out.trans (hl.below.mono HB.out.size))
  have S2 := SS.later hl.below SS.lt
  have R2 := RR.later hl.below RR.lt
  have HL := hide hl
  have hlt := SS.lt
  have hlt2 := RR.lt
  clear hl HS hS o0 o1 o2 o3 o4 OO SS RR
  obtain ⟨ts, hts⟩ : ∃ x, x = stC t (.slice A t.W.length C) := ⟨_, rfl⟩
  have HT := hide hts
  rw [← hts]
  clear hts
  refine Od.any_at (i := 5) (v := .tuple #[.agg ts, .int .i64 er]) (some 86) rfl rfl (by kernel_rfl) (by kernel_rfl) (by kernel_rfl) (fun _ _ _ h => h) (Or.inl ⟨by rfl, ?_⟩) ?_
  · intro wx; go_simp
  refine Od.any_at (i := 6) (v := .agg ts) (some 92) rfl rfl (by kernel_rfl) (by kernel_rfl) (by kernel_rfl) (fun _ _ _ h => h) (Or.inl ⟨by rfl, ?_⟩) ?_
  · intro wx; go_simp
  refine Od.any_at (i := 7) (v := .int .i64 er) (some 93) rfl rfl (by kernel_rfl) (by kernel_rfl) (by kernel_rfl) (fun _ _ _ h => h) (Or.inl ⟨by rfl, ?_⟩) ?_
  · intro wx; go_simp
  have q1 : (Option.map (fun x => x.size) (Try.prog.info? 34)) = some ts.size := by rw [HT.out, infoS]; rfl
  have q2 : ts.all (fun x => x.oneCell') = true := by rw [HT.out]; exact stC_one _ _ _ _
  have q3 : w2.there w.heap.size 0 ts.size := by rw [HT.out, stC_size]; exact S2.there 0 _ (by rw [stC_size]; omega)
  refine Od.any_store (i := 8) (by kernel_rfl) rfl rfl 34 _ _ rfl rfl w.heap.size 0 ts rfl rfl q3 q1 q2 ?_
  refine Od.any_at (i := 9) (v := .int .i64 er) (some 6) rfl rfl (by kernel_rfl) (by kernel_rfl) (by kernel_rfl) (fun _ _ _ h => h) (Or.inl ⟨by rfl, ?_⟩) ?_
  · intro wx; go_simp
  refine wpAny_done (by kernel_rfl) ?_ _
  have S3 : SAt (w2.setCells w.heap.size 0 ts.toList) w.heap.size ts := S2.setAll (by rw [HT.out]; rfl)
  have R3 : SAt (w2.setCells w.heap.size 0 ts.toList) (w.heap.size + 2) Z63 := (heap_sets (by omega) _ _ _).trans R2
  generalize hw3 : w2.setCells w.heap.size 0 ts.toList = w3 at *
  have HW3 := hide hw3
  clear hw3
  go_simp
  go_upto_region 18 with fail
  apply wp_region_lit
  refine wpList_load_mid rfl 34 _ rfl _ 0 rfl _ _ S3.range Try.underlying34 rfl (by rw [HT.out, infoS]; rfl) ?_
  refine wpList_mv rfl _ rfl ?_
  refine wpList_store_mid rfl 34 _ _ rfl _ 0 ts rfl rfl (R3.there 0 _ (by rw [Z63_size, HT.out, stC_size]; omega)) (by rw [HT.out, infoS]; rfl) (by rw [HT.out]; exact stC_one _ _ _ _) ?_
  go_wp2
  rw [← HW3.out, HT.out]
  exact follow_end Try.results6 HSB.out HL.out HB2.out hlt2 R2 kp _ rfl rfl rfl
end Go.Proofs.Ytjmhmmphbcohdaa
