/- Parts of the proof: CDPb. -/
import Derived.Test.YtnfigdecgkcgcaaRows
import Derived.Test.YtnfigdecgkcgcaaAK34
set_option maxRecDepth 100000
namespace Go.Proofs.Ytnfigdecgkcgcaa.Cd
open Go.RowKit
set_option maxHeartbeats 10000000 in
set_option maxRecDepth 100000 in
theorem dp_ok (s : ByteArray) (w : World) (hs : s.size ≤ maxLen) (h17 : ¬ s.size < 17) (n : Nat) (hn : (s[15]'(by omega)).toNat = n) (hn2 : n ≤ 255) (h8 : ¬ s.size < 17 + 8 * n) (m : Nat) (hm : (s[16 + 8 * n]'(by omega)).toNat = m) (hm2 : m ≤ 255) (hT : s.size = 17 + 8 * n + m) :
    Calls Try.prog 38 #[.string s] w fun e w' => ∃ sa da cs cd sb so db dO,
      e = .returned (.tuple #[.agg #[.int .i64 (decP (bs s)).1, .int .i64 (decP (bs s)).2.1, .int .i64 (decP (bs s)).2.2.1, .int .i64 (decP (bs s)).2.2.2.1, .slice sa (decP (bs s)).2.2.2.2.1.length cs, .slice da (decP (bs s)).2.2.2.2.2.length cd], .int .i64 (decE (bs s))]) ∧
      Lies w' (decP (bs s)).2.2.2.2.1 (decP (bs s)).2.2.2.2.2 sa da sb so db dO ∧ (Rm w.heap.size sa (decP (bs s)).2.2.2.2.1.length cs sb ∧ Rm w.heap.size da (decP (bs s)).2.2.2.2.2.length cd db) ∧ Below w.heap.size w w' := by
  unfold maxLen at hs
  have hby := bs_byte s
  have hlen := bs_length s
  have hne : ((s.size : Int) != 17 + 8 * (n : Int) + (m : Int)) = false := by simp; omega
  have HT : Hid _ := hT
  clear hT
  have l0 : 0 < s.size := by omega
  have l7 : 7 < s.size := by omega
  obtain ⟨y0, hy0⟩ : ∃ y, (s[0]'l0).toNat = y := ⟨_, rfl⟩
  obtain ⟨y7, hy7⟩ : ∃ y, (s[7]'l7).toNat = y := ⟨_, rfl⟩
  have HPA : Hid (decE (bs s) = goodN y0 (numF 0 (bs (s.extract 1 7))) y7 (numF 0 (bs (s.extract 8 15))) (pairsAt (bs s) 16 n) (doneAt (bs s) (17 + 8 * n) m) ∧ decP (bs s) = if decE (bs s) = 0 then ((y0 : Int), numF 0 (bs (s.extract 1 7)), (y7 : Int), numF 0 (bs (s.extract 8 15)), pairsAt (bs s) 16 n, doneAt (bs s) (17 + 8 * n) m) else (0, 0, 0, 0, [], [])) := by
    have hpa := parse_at (bs s) n m (by rw [hlen]; exact HT.out) (by rw [bs_get s 15 (by omega), hn]) (by rw [bs_get s (16 + 8 * n) (by omega), hm])
    rw [bs_get s 0 (by omega), bs_get s 7 (by omega), hy0, hy7, show (1 : Nat) = 1 by rfl] at hpa
    have x1 := bs_ext s 1 7
    have x2 := bs_ext s 8 15
    rw [show 7 - 1 = 6 by rfl] at x1
    rw [show 15 - 8 = 7 by rfl] at x2
    rw [← x1, ← x2] at hpa
    refine ⟨?_, ?_⟩
    · rw [decE, hpa, if_pos rfl]
    · rw [decP, hpa]
  generalize decE (bs s) = E0 at *
  generalize decP (bs s) = P0 at *
  clear hby hlen
  go_enter Try.func38, Try.ntmps38
  go_wp2_with fail
  have hx1 : (s.extract 1 7).size ≤ 7 := Nat.le_trans (ext_size s 1 7) (by omega)
  have hx2 : (s.extract 8 15).size ≤ 7 := ext_size s 8 15
  have b1 : (0 : Int) < (s.size : Int) := by omega
  have b2 : (7 : Int) < (s.size : Int) := by omega
  have b3 : (15 : Int) ≤ (s.size : Int) := by omega
  have b4 : (7 : Int) ≤ (s.size : Int) := by omega
  have hy02 : y0 ≤ 255 := by have := s[0].toNat_lt; omega
  have hy72 : y7 ≤ 255 := by have := s[7].toNat_lt; omega
  have ey0 : IntKind.i64.wrap (y0 : Int) = (y0 : Int) := by simp [IntKind.wrap, IntKind.bits, IntKind.signed]; omega
  have ey7 : IntKind.i64.wrap (y7 : Int) = (y7 : Int) := by simp [IntKind.wrap, IntKind.bits, IntKind.signed]; omega
  go_cut [7] (fun p wc => ∃ pb, p = .pointer (some ⟨pb, 0, none⟩) ∧ w.heap.size + 2 ≤ pb ∧ BoxAt wc pb (.int .i64 y0) (.int .i64 (numF 0 (bs (s.extract 1 7)))) (.int .i64 y7) (.int .i64 (numF 0 (bs (s.extract 8 15)))) (.slice none 0 0) (.slice none 0 0) ∧
    Below (w.heap.size + 2) ((w.alloc (Obj.cells #[Value.int IntKind.i64 0, Value.int IntKind.i64 0, Value.int IntKind.i64 0, Value.int IntKind.i64 0, Value.slice none 0 0, Value.slice none 0 0] 57)).alloc (Obj.cells #[Value.int IntKind.i64 0, Value.int IntKind.i64 0, Value.int IntKind.i64 0, Value.int IntKind.i64 0, Value.slice none 0 0, Value.slice none 0 0] 57)) wc)
  case first =>
    refine wp_region_any (by kernel_rfl) ?_
    change wpAny _ _ _ _ _ _ _ (World.drew _)
    refine wpAny_take (i := 0) (v := .string s) rfl (by kernel_rfl) (by kernel_rfl) (by kernel_rfl) (fun _ _ _ h => h) (Or.inl ⟨by rfl, ?_⟩) ?_
    · intro w; go_simp
    refine wpAny_take (i := 1) (v := .int .u8 (y0 : Int)) rfl (by kernel_rfl) (by kernel_rfl) (by kernel_rfl) (fun _ _ _ h => h) (Or.inl ⟨by rfl, ?_⟩) ?_
    · intro w; go_simp
    refine wpAny_take (i := 2) (v := .int .i64 (y0 : Int)) rfl (by kernel_rfl) (by kernel_rfl) (by kernel_rfl) (fun _ _ _ h => h) (Or.inl ⟨by rfl, ?_⟩) ?_
    · intro w; go_simp
    refine wpAny_take (i := 3) (v := .string s) rfl (by kernel_rfl) (by kernel_rfl) (by kernel_rfl) (fun _ _ _ h => h) (Or.inl ⟨by rfl, ?_⟩) ?_
    · intro w; go_simp
    refine wpAny_take (i := 4) (v := .string (s.extract 1 7)) rfl (by kernel_rfl) (by kernel_rfl) (by kernel_rfl) (fun _ _ _ h => h) (Or.inl ⟨by rfl, ?_⟩) ?_
    · intro w; go_simp
    refine wpAny_take (i := 6) (v := .string s) rfl (by kernel_rfl) (by kernel_rfl) (by kernel_rfl) (fun _ _ _ h => h) (Or.inl ⟨by rfl, ?_⟩) ?_
    · intro w; go_simp
    refine wpAny_take (i := 7) (v := .int .u8 (y7 : Int)) rfl (by kernel_rfl) (by kernel_rfl) (by kernel_rfl) (fun _ _ _ h => h) (Or.inl ⟨by rfl, ?_⟩) ?_
    · intro w; go_simp
    refine wpAny_take (i := 8) (v := .int .i64 (y7 : Int)) rfl (by kernel_rfl) (by kernel_rfl) (by kernel_rfl) (fun _ _ _ h => h) (Or.inl ⟨by rfl, ?_⟩) ?_
    · intro w; go_simp
    refine wpAny_take (i := 9) (v := .string s) rfl (by kernel_rfl) (by kernel_rfl) (by kernel_rfl) (fun _ _ _ h => h) (Or.inl ⟨by rfl, ?_⟩) ?_
    · intro w; go_simp
    refine wpAny_take (i := 10) (v := .string (s.extract 8 15)) rfl (by kernel_rfl) (by kernel_rfl) (by kernel_rfl) (fun _ _ _ h => h) (Or.inl ⟨by rfl, ?_⟩) ?_
    · intro w; go_simp
    refine wpAny_ready (rs := [5, 13]) (by kernel_rfl) (by simp) ?_
    refine AllReady.cons rfl (fun K hK => ?_) ?_
    · skip
      refine step_wanted rfl ?_
      go_simp
      refine (numberOf_any _ _ hx1).mono ?_
      rintro e wA ⟨rfl, hbA⟩
      have hcwA := bcell hbA
      (try have hzwA : w.heap.size + 2 < wA.heap.size := (by have := hbA.size; simp at this; omega))
      refine hK _ _ ?_
      clear hK K
      refine wpAny_ready (rs := [11, 13]) (by kernel_rfl) (by simp) ?_
      refine AllReady.cons rfl (fun K hK => ?_) ?_
      · skip
        refine step_wanted rfl ?_
        go_simp
        refine (numberOf_any _ _ hx2).mono ?_
        rintro e wB ⟨rfl, hbB⟩
        have hcwB := bcell hbB
        (try have hzwB : w.heap.size + 2 < wB.heap.size := (by have := hbB.size; simp at this; omega))
        refine hK _ _ ?_
        clear hK K
        refine wpAny_take (i := 12) (v := (.agg #[.int .i64 (y0 : Int), .int .i64 (numF 0 (bs (s.extract 1 7))), .int .i64 (y7 : Int), .int .i64 (numF 0 (bs (s.extract 8 15))), .slice none 0 0, .slice none 0 0])) rfl (by kernel_rfl) (by kernel_rfl) (by kernel_rfl) (fun _ _ _ h => h) (Or.inl ⟨by rfl, ?_⟩) ?_
        · intro w; go_simp
        refine wpAny_ready (rs := [13]) (by kernel_rfl) (by simp) ?_
        refine AllReady.cons rfl (fun K hK => ?_) AllReady.nil
        refine step_wanted rfl ?_
        go_simp
        refine hK _ _ ?_
        clear hK K
        refine wpAny_ready (rs := [14]) (by kernel_rfl) (by simp) ?_
        refine AllReady.cons rfl (fun K hK => ?_) AllReady.nil
        refine step_wanted rfl ?_
        go_simp
        refine hK _ _ ?_
        clear hK K
        refine wpAny_done (by kernel_rfl) ?_ _
        go_wp2_with fail
        go_meet
        have hZ : ((w.alloc (Obj.cells #[Value.int IntKind.i64 0, Value.int IntKind.i64 0, Value.int IntKind.i64 0, Value.int IntKind.i64 0, Value.slice none 0 0, Value.slice none 0 0] 57)).alloc (Obj.cells #[Value.int IntKind.i64 0, Value.int IntKind.i64 0, Value.int IntKind.i64 0, Value.int IntKind.i64 0, Value.slice none 0 0, Value.slice none 0 0] 57)).heap.size = w.heap.size + 2 := by simp
        obtain ⟨z1, z2⟩ := dpA (Obj.cells #[Value.int IntKind.i64 y0, Value.int IntKind.i64 (numF 0 (bs (s.extract 1 7))), Value.int IntKind.i64 y7, Value.int IntKind.i64 (numF 0 (bs (s.extract 8 15))), Value.slice none 0 0, Value.slice none 0 0] 57) hbA hbB
        rw [hZ] at z1 z2
        exact ⟨wB.heap.size, rfl, z1, heap_alloc_new _ _, z2⟩
      refine AllReady.cons rfl (fun K hK => ?_) AllReady.nil
      refine step_wanted rfl ?_
      go_simp
      refine hK _ _ ?_
      clear hK K
      refine wpAny_ready (rs := [11]) (by kernel_rfl) (by simp) ?_
      refine AllReady.cons rfl (fun K hK => ?_) AllReady.nil
      refine step_wanted rfl ?_
      go_simp
      refine (numberOf_any _ _ hx2).mono ?_
      rintro e wB ⟨rfl, hbB⟩
      have hcwB := bcell hbB
      (try have hzwB : w.heap.size + 2 < wB.heap.size := (by have := hbB.size; simp at this; omega))
      refine hK _ _ ?_
      clear hK K
      refine wpAny_take (i := 12) (v := (.agg #[.int .i64 (y0 : Int), .int .i64 (numF 0 (bs (s.extract 1 7))), .int .i64 (y7 : Int), .int .i64 (numF 0 (bs (s.extract 8 15))), .slice none 0 0, .slice none 0 0])) rfl (by kernel_rfl) (by kernel_rfl) (by kernel_rfl) (fun _ _ _ h => h) (Or.inl ⟨by rfl, ?_⟩) ?_
      · intro w; go_simp
      refine wpAny_ready (rs := [14]) (by kernel_rfl) (by simp) ?_
      refine AllReady.cons rfl (fun K hK => ?_) AllReady.nil
      refine step_wanted rfl ?_
      go_simp
      refine hK _ _ ?_
      clear hK K
      refine wpAny_done (by kernel_rfl) ?_ _
      go_wp2_with fail
      go_meet
      have hZ : ((w.alloc (Obj.cells #[Value.int IntKind.i64 0, Value.int IntKind.i64 0, Value.int IntKind.i64 0, Value.int IntKind.i64 0, Value.slice none 0 0, Value.slice none 0 0] 57)).alloc (Obj.cells #[Value.int IntKind.i64 0, Value.int IntKind.i64 0, Value.int IntKind.i64 0, Value.int IntKind.i64 0, Value.slice none 0 0, Value.slice none 0 0] 57)).heap.size = w.heap.size + 2 := by simp
      obtain ⟨z1, z2, z3⟩ := dpB (.int .i64 y0) (.int .i64 (numF 0 (bs (s.extract 1 7)))) (.int .i64 y7) (.int .i64 (numF 0 (bs (s.extract 8 15)))) (.slice none 0 0) (.slice none 0 0) hbA hbB
      rw [hZ] at z1 z3
      exact ⟨wA.heap.size, rfl, z1, z2, z3⟩
    refine AllReady.cons rfl (fun K hK => ?_) AllReady.nil
    refine step_wanted rfl ?_
    go_simp
    refine hK _ _ ?_
    clear hK K
    refine wpAny_ready (rs := [5]) (by kernel_rfl) (by simp) ?_
    refine AllReady.cons rfl (fun K hK => ?_) AllReady.nil
    refine step_wanted rfl ?_
    go_simp
    refine (numberOf_any _ _ hx1).mono ?_
    rintro e wA ⟨rfl, hbA⟩
    have hcwA := bcell hbA
    (try have hzwA : w.heap.size + 2 < wA.heap.size := (by have := hbA.size; simp at this; omega))
    refine hK _ _ ?_
    clear hK K
    refine wpAny_ready (rs := [11]) (by kernel_rfl) (by simp) ?_
    refine AllReady.cons rfl (fun K hK => ?_) AllReady.nil
    refine step_wanted rfl ?_
    go_simp
    refine (numberOf_any _ _ hx2).mono ?_
    rintro e wB ⟨rfl, hbB⟩
    have hcwB := bcell hbB
    (try have hzwB : w.heap.size + 2 < wB.heap.size := (by have := hbB.size; simp at this; omega))
    refine hK _ _ ?_
    clear hK K
    refine wpAny_take (i := 12) (v := (.agg #[.int .i64 (y0 : Int), .int .i64 (numF 0 (bs (s.extract 1 7))), .int .i64 (y7 : Int), .int .i64 (numF 0 (bs (s.extract 8 15))), .slice none 0 0, .slice none 0 0])) rfl (by kernel_rfl) (by kernel_rfl) (by kernel_rfl) (fun _ _ _ h => h) (Or.inl ⟨by rfl, ?_⟩) ?_
    · intro w; go_simp
    refine wpAny_ready (rs := [14]) (by kernel_rfl) (by simp) ?_
    refine AllReady.cons rfl (fun K hK => ?_) AllReady.nil
    refine step_wanted rfl ?_
    go_simp
    refine hK _ _ ?_
    clear hK K
    refine wpAny_done (by kernel_rfl) ?_ _
    go_wp2_with fail
    go_meet
    have hZ : ((w.alloc (Obj.cells #[Value.int IntKind.i64 0, Value.int IntKind.i64 0, Value.int IntKind.i64 0, Value.int IntKind.i64 0, Value.slice none 0 0, Value.slice none 0 0] 57)).alloc (Obj.cells #[Value.int IntKind.i64 0, Value.int IntKind.i64 0, Value.int IntKind.i64 0, Value.int IntKind.i64 0, Value.slice none 0 0, Value.slice none 0 0] 57)).heap.size = w.heap.size + 2 := by simp
    obtain ⟨z2, z3⟩ := dpC (Z := ((w.alloc (Obj.cells #[Value.int IntKind.i64 0, Value.int IntKind.i64 0, Value.int IntKind.i64 0, Value.int IntKind.i64 0, Value.slice none 0 0, Value.slice none 0 0] 57)).alloc (Obj.cells #[Value.int IntKind.i64 0, Value.int IntKind.i64 0, Value.int IntKind.i64 0, Value.int IntKind.i64 0, Value.slice none 0 0, Value.slice none 0 0] 57))) (.int .i64 y0) (.int .i64 (numF 0 (bs (s.extract 1 7)))) (.int .i64 y7) (.int .i64 (numF 0 (bs (s.extract 8 15)))) (.slice none 0 0) (.slice none 0 0) hbA hbB
    rw [hZ] at z2 z3
    exact ⟨w.heap.size + 2, rfl, Nat.le_refl _, z2, z3⟩
  case rest =>
    obtain ⟨pb, rfl, hpb, hbox, hbel⟩ := hcut
    obtain ⟨i0, hi, hz0, hz1, hz2⟩ := info_parts info42
    obtain ⟨j0, hj, jz0, jz1, jz2⟩ := info_parts info3
    have Q0 : QSt (w.heap.size + 2) ((w.alloc (Obj.cells #[Value.int IntKind.i64 0, Value.int IntKind.i64 0, Value.int IntKind.i64 0, Value.int IntKind.i64 0, Value.slice none 0 0, Value.slice none 0 0] 57)).alloc (Obj.cells #[Value.int IntKind.i64 0, Value.int IntKind.i64 0, Value.int IntKind.i64 0, Value.int IntKind.i64 0, Value.slice none 0 0, Value.slice none 0 0] 57)) wc pb (.int .i64 y0) (.int .i64 (numF 0 (bs (s.extract 1 7)))) (.int .i64 y7) (.int .i64 (numF 0 (bs (s.extract 8 15)))) (.slice none 0 0) (.slice none 0 0) := ⟨hbox, hbel, hpb, by simp⟩
    clear hbox hbel
    clear hy0 hy7
    generalize (y0 : Int) = K at *
    generalize (y7 : Int) = V at *
    generalize numF 0 (bs (s.extract 1 7)) = I at *
    generalize numF 0 (bs (s.extract 8 15)) = N at *
    go_wp2_with fail
    go_loopw [8] (fun i wl => ∃ (j : Nat) (u : Value), j ≤ n ∧ i = .int .i64 j ∧ QSt (w.heap.size + 2) ((w.alloc (Obj.cells #[Value.int IntKind.i64 0, Value.int IntKind.i64 0, Value.int IntKind.i64 0, Value.int IntKind.i64 0, Value.slice none 0 0, Value.slice none 0 0] 57)).alloc (Obj.cells #[Value.int IntKind.i64 0, Value.int IntKind.i64 0, Value.int IntKind.i64 0, Value.int IntKind.i64 0, Value.slice none 0 0, Value.slice none 0 0] 57)) wl pb (.int .i64 K) (.int .i64 I) (.int .i64 V) (.int .i64 N) u (.slice none 0 0) ∧ Row2 wl (pb + 1) u (pairsAt (bs s) 16 j)) (fun i _ => n - (intOf i).toNat)
    case atStart => exact ⟨0, _, Nat.zero_le _, rfl, Q0, World.ownsRow_nil _ _ _ _⟩
    case round =>
      obtain ⟨j, u, hjn, rfl, Q1, hrow⟩ := hrel
      clear Q0
      have hTs := HT.out
      by_cases hlt : j < n
      · obtain ⟨a, ha⟩ : ∃ a, 16 + 8 * j = a := ⟨_, rfl⟩
        have hx : (s.extract (a + 1) (a + 8)).size ≤ 7 := Nat.le_trans (ext_size _ _ _) (by omega)
        have hbi : a < s.size := by omega
        obtain ⟨y, hy⟩ : ∃ y, s[a].toNat = y := ⟨_, rfl⟩
        have hy2 : y ≤ 255 := by have := s[a].toNat_lt; omega
        have HX : Hid (pairsAt (bs s) 16 (j + 1) = pairsAt (bs s) 16 j ++ [((y : Int), numF 0 (bs (s.extract (a + 1) (a + 8))))]) := by
          show _ = _
          rw [pairsAt_succ, ha, bs_get s a hbi, hy, bs_ext, show a + 8 - (a + 1) = 7 by omega]
        have ey : IntKind.i64.wrap (y : Int) = (y : Int) := by simp [IntKind.wrap, IntKind.bits, IntKind.signed]; omega
        have HEY : Hid _ := ey
        clear ey
        have hpl := pairsAt_len (bs s) 16 j
        have hpl2 : (pairsAt (bs s) 16 j).length ≤ 255 := by omega
        have HPL : Hid _ := hpl
        clear hpl
        generalize pairsAt (bs s) 16 j = Pj at *
        have q3 : (a : Int) + 8 ≤ (s.size : Int) := by omega
        have ea : 16 + 8 * (j : Int) = (a : Int) := by omega
        have HEA : Hid _ := ea
        have e1 : IntKind.i64.wrap ((a : Int) + 1) = (a : Int) + 1 := by simp [IntKind.wrap, IntKind.bits, IntKind.signed]; omega
        have e8 : IntKind.i64.wrap ((a : Int) + 8) = (a : Int) + 8 := by simp [IntKind.wrap, IntKind.bits, IntKind.signed]; omega
        have HE1 : Hid _ := e1
        have HE8 : Hid _ := e8
        have hj8 : (j : Int) ≤ 254 := by omega
        clear hTs ea e1 e8 ha
        obtain ⟨ua, uc, rfl⟩ := own_form hrow
        obtain ⟨c0, c1, c2, c3, c4, c5, cf⟩ := Q1.Bx.cells
        go_wp2_with fail
        rw [HEA.out]
        have e1 := HE1.out
        have e8 := HE8.out
        have f1 : (a : Int) < (s.size : Int) := by omega
        have f2 : (0 : Int) ≤ (a : Int) := by omega
        have f3 : (a : Int) + 1 ≤ (a : Int) + 8 := by omega
        have f4 : (0 : Int) ≤ (a : Int) + 1 := by omega
        have f5 : (0 : Int) ≤ (a : Int) + 8 := by omega
        have ey := HEY.out
        have Q1d := Q1.later (below_drew wr)
        have hrd : Row2 wr.drew (pb + 1) (.slice ua Pj.length uc) Pj := own_drew hrow
        clear Q1 hrow
        go_region_law (first
          | (refine step_wanted rfl ?_; go_simp; go_at_call 65; refine (numberOf_any _ _ hx).mono ?_; rintro e we ⟨rfl, hbe⟩; have Qe := Q1d.later hbe; have hre : Row2 we (pb + 1) (.slice ua Pj.length uc) Pj := own_later hrd hbe; have hce := Qe.Bx.cells; have hple : pb < we.heap.size := Qe.Bx.lt; clear hbe)
          | (refine step_append_lies _ rfl _ _ 22 rfl (pb + 1) 61 i0 (.agg #[.int .i64 0, .int .i64 0]) 2 16 Try.underlying22 hi hz0 hz1 hz2 rfl (by decide) _ _ _ rfl (World.ownsRow.alloc hre _) ⟨we.heap.size, 0, none⟩ 1 1 [.int .i64 y, .int .i64 (numF 0 (bs (s.extract (a + 1) (a + 8))))] rfl rfl (two_new _ _ _ _) (by intro u hu; simp at hu; rcases hu with rfl | rfl <;> rfl) (by decide) (by unfold maxLen; omega) (by omega) (by simp; omega) _ rfl ?_; intro g cap wf hown hgrow hat hglt; have Qf := (Qe.alloc (Obj.cells #[Value.int IntKind.i64 y, Value.int IntKind.i64 (numF 0 (bs (s.extract (a + 1) (a + 8))))] 61)).own hgrow (fun j hj => (World.ownsRow.lt hre j hj).1); have hcf := Qf.Bx.cells))
        all_goals
          have hrf : Row2 wf (pb + 1) (.slice (some ⟨g, 0, none⟩) (Pj.length + 1) cap) (Pj ++ [((y : Int), numF 0 (bs (s.extract (a + 1) (a + 8))))]) := by simpa [Row2] using hown
          have HP : Hid _ := Qf.set4 (.slice (some ⟨g, 0, none⟩) (Pj.length + 1) cap)
          have HR : Hid _ := own_setb (c := pb) (o := 4) (u := .slice (some ⟨g, 0, none⟩) (Pj.length + 1) cap) hrf (Nat.lt_succ_self _)
          clear hown hgrow hat hglt hrf hre hrd Qe Qf Q1d hce hcf c0 c1 c2 c3 c4 c5 cf e1 e8 ey
          go_wp2
          go_roundw
          case rel => exact ⟨j + 1, _, by omega, by go_num, HP.out, by rw [HX.out]; exact HR.out⟩
          case measure => simp [intOf]; omega
      · have hjn' : j = n := by omega
        subst hjn'
        clear hTs hjn hlt
        obtain ⟨ua, uc, hu⟩ := own_form hrow
        have hpl := pairsAt_len (bs s) 16 j
        rw [hpl] at hu
        subst hu
        have HRow : Hid (Row2 wr (pb + 1) (.slice ua j uc) (pairsAt (bs s) 16 j)) := hrow
        clear hrow hpl
        go_wp2_with fail
        go_loopw [10] (fun i wl => ∃ (q : Nat) (d : Value), q ≤ m ∧ i = .int .i64 q ∧ QSt (w.heap.size + 2) ((w.alloc (Obj.cells #[Value.int IntKind.i64 0, Value.int IntKind.i64 0, Value.int IntKind.i64 0, Value.int IntKind.i64 0, Value.slice none 0 0, Value.slice none 0 0] 57)).alloc (Obj.cells #[Value.int IntKind.i64 0, Value.int IntKind.i64 0, Value.int IntKind.i64 0, Value.int IntKind.i64 0, Value.slice none 0 0, Value.slice none 0 0] 57)) wl pb (.int .i64 K) (.int .i64 I) (.int .i64 V) (.int .i64 N) (.slice ua j uc) d ∧ Hid (Row2 wl (pb + 1) (.slice ua j uc) (pairsAt (bs s) 16 j)) ∧ Row1 wl (pb + 1) d (doneAt (bs s) (17 + 8 * j) q) ∧ Hid ((Value.slice ua j uc).ownBlock = none ∨ (Value.slice ua j uc).ownBlock ≠ d.ownBlock)) (fun i _ => m - (intOf i).toNat)
        case atStart =>
          refine ⟨0, _, Nat.zero_le _, rfl, Q1, HRow, World.ownsRow_nil _ _ _ _, ?_⟩
          cases ua with
          | none => exact .inl rfl
          | some x => exact .inr (by simp [Value.ownBlock])
        case round =>
          obtain ⟨q, d, hq, rfl, Q2, HR2, hrow1, HN⟩ := hrel
          clear Q1 HRow
          have hTs := HT.out
          by_cases hlt : q < m
          · obtain ⟨a, ha⟩ : ∃ a, 17 + 8 * j + q = a := ⟨_, rfl⟩
            have hbi : a < s.size := by omega
            obtain ⟨y, hy⟩ : ∃ y, s[a].toNat = y := ⟨_, rfl⟩
            have hyb : y ≤ 255 := by have := s[a].toNat_lt; omega
            have HX : Hid (doneAt (bs s) (17 + 8 * j) (q + 1) = doneAt (bs s) (17 + 8 * j) q ++ [(y : Int)]) := by
              show _ = _
              rw [doneAt_succ, ha, bs_get s a hbi, hy]
            have ey : IntKind.i64.wrap (y : Int) = (y : Int) := by simp [IntKind.wrap, IntKind.bits, IntKind.signed]; omega
            have HEY : Hid _ := ey
            have hpl := doneAt_len (bs s) (17 + 8 * j) q
            have hpl2 : (doneAt (bs s) (17 + 8 * j) q).length ≤ 255 := by omega
            generalize doneAt (bs s) (17 + 8 * j) q = Dj at *
            have e1 : IntKind.i64.wrap (8 * (j : Int)) = 8 * (j : Int) := by simp [IntKind.wrap, IntKind.bits, IntKind.signed]; omega
            have e2 : IntKind.i64.wrap (17 + 8 * (j : Int)) = 17 + 8 * (j : Int) := by simp [IntKind.wrap, IntKind.bits, IntKind.signed]; omega
            have e3 : IntKind.i64.wrap (17 + 8 * (j : Int) + (q : Int)) = (a : Int) := by simp [IntKind.wrap, IntKind.bits, IntKind.signed]; omega
            have HEE : Hid (IntKind.i64.wrap (8 * (j : Int)) = 8 * (j : Int) ∧ IntKind.i64.wrap (17 + 8 * (j : Int)) = 17 + 8 * (j : Int) ∧ IntKind.i64.wrap (17 + 8 * (j : Int) + (q : Int)) = (a : Int)) := ⟨e1, e2, e3⟩
            have hq8 : (q : Int) ≤ 254 := by omega
            clear hTs e1 e2 e3 ey ha hpl
            obtain ⟨xa, xc, rfl⟩ := own_form hrow1
            obtain ⟨c0, c1, c2, c3, c4, c5, cf⟩ := Q2.Bx.cells
            have hple : pb < wr.heap.size := Q2.Bx.lt
            go_wp2_with fail
            have Q2d := Q2.later (below_drew wr)
            have hr1d : Row1 wr.drew (pb + 1) (.slice xa Dj.length xc) Dj := own_drew hrow1
            have HR2d : Hid (Row2 wr.drew (pb + 1) (.slice ua j uc) (pairsAt (bs s) 16 j)) := own_drew HR2.out
            clear Q2 hrow1 HR2
            have ey := HEY.out
            obtain ⟨e1, e2, e3⟩ := HEE.out
            have f1 : (a : Int) < (s.size : Int) := by omega
            have f2 : (0 : Int) ≤ (a : Int) := by omega
            have hdr : wr.drew.heap.size = wr.heap.size := rfl
            go_region_law (first
              | (refine step_append_lies _ rfl _ _ 27 rfl (pb + 1) 3 j0 (.int .i64 0) 1 8 Try.underlying27 hj jz0 jz1 jz2 rfl (by decide) _ _ _ rfl (World.ownsRow.alloc hr1d _) ⟨wr.heap.size, 0, none⟩ 1 1 [.int .i64 y] rfl rfl (cell_one_new wr.drew _ _) (by intro u hu; simp at hu; subst hu; rfl) (by decide) (by unfold maxLen; omega) (by omega) (by simp; omega) _ rfl ?_; intro g cap wf hown hgrow hat hglt; have Qf := (Q2d.alloc (Obj.cells #[Value.int IntKind.i64 y] 3)).own hgrow (fun j hj => (World.ownsRow.lt hr1d j hj).1); have hcf := Qf.Bx.cells))
            all_goals
              have hr1f : Row1 wf (pb + 1) (.slice (some ⟨g, 0, none⟩) (Dj.length + 1) cap) (Dj ++ [(y : Int)]) := by simpa [Row1] using hown
              have hr2f : Row2 wf (pb + 1) (.slice ua j uc) (pairsAt (bs s) 16 j) := World.ownsRow.kept (World.ownsRow.alloc HR2d.out _) hgrow HN.out
              have hNf : (Value.slice ua j uc).ownBlock = none ∨ (Value.slice ua j uc).ownBlock ≠ (Value.slice (some ⟨g, 0, none⟩) (Dj.length + 1) cap).ownBlock := by
                rcases hat with h | h
                · have e : (Value.slice (some ⟨g, 0, none⟩) (Dj.length + 1) cap).ownBlock = (Value.slice xa Dj.length xc).ownBlock := h.symm
                  rw [e]; exact HN.out
                · right
                  intro e
                  have e2 : (Value.slice ua j uc).ownBlock = some g := e
                  have := (World.ownsRow.lt HR2d.out _ e2).2
                  simp at h this
                  omega
              have HP : Hid _ := Qf.set5 (.slice (some ⟨g, 0, none⟩) (Dj.length + 1) cap)
              have HR1 : Hid _ := own_setb (c := pb) (o := 5) (u := .slice (some ⟨g, 0, none⟩) (Dj.length + 1) cap) hr1f (Nat.lt_succ_self _)
              have HR2 : Hid _ := own_setb (c := pb) (o := 5) (u := .slice (some ⟨g, 0, none⟩) (Dj.length + 1) cap) hr2f (Nat.lt_succ_self _)
              have HNf : Hid _ := hNf
              clear hown hgrow hat hglt hr1f hr2f hr1d HR2d Qf Q2d hcf c0 c1 c2 c3 c4 c5 cf e1 e2 e3 ey hNf
              go_wp2
              go_roundw
              case rel => exact ⟨q + 1, _, by omega, by go_num, HP.out, HR2.out, by rw [HX.out]; exact HR1.out, HNf⟩
              case measure => simp [intOf]; omega
          · have hqm : q = m := by omega
            subst hqm
            clear hTs hq hlt HN
            obtain ⟨xa, xc, hx⟩ := own_form hrow1
            rw [doneAt_len] at hx
            subst hx
            have hr2 := HR2.out
            obtain ⟨a1, a2, ag, au, l1, l2, l3, l4, l5⟩ := hr2.lies
            obtain ⟨x1, x2, xg, xu, m1, m2, m3, m4, m5⟩ := hrow1.lies
            have HNE : Hid ((0 < (pairsAt (bs s) 16 j).length → ag ≠ w.heap.size) ∧ (0 < (doneAt (bs s) (17 + 8 * j) q).length → xg ≠ w.heap.size)) := ⟨fun h e => by have := l4 h; have := Q2.hp; omega, fun h e => by have := m4 h; have := Q2.hp; omega⟩
            have HRM : Hid (Rm w.heap.size ua (pairsAt (bs s) 16 j).length uc ag ∧ Rm w.heap.size xa (doneAt (bs s) (17 + 8 * j) q).length xc xg) := by
              simp only [Value.slice.injEq] at au xu
              rw [au.1, xu.1, au.2.2, xu.2.2]
              exact ⟨⟨l5.1, l5.2, fun h => by have := l4 h; have := Q2.hp; omega⟩, ⟨m5.1, m5.2, fun h => by have := m4 h; have := Q2.hp; omega⟩⟩
            clear l5 m5
            have L2 : Lies wr (pairsAt (bs s) 16 j) (doneAt (bs s) (17 + 8 * j) q) ua xa ag 0 xg 0 := by
              simp only [Value.slice.injEq] at au xu
              rw [au.1, xu.1]
              exact ⟨l1, m1, l2, m2, l3, m3⟩
            have hlS := pairsAt_len (bs s) 16 j
            have hlD := doneAt_len (bs s) (17 + 8 * j) q
            have hgd := gp_any K I V N (pairsAt (bs s) 16 j) (doneAt (bs s) (17 + 8 * j) q) ua xa uc xc ag 0 xg 0 wr L2
            rw [hlS, hlD] at hgd
            have HBE : Hid _ := Q2.Be
            have hbx := Q2.Bx
            have hpb := Q2.hp
            clear Q2 HR2 hrow1 hr2 au xu l1 l2 l3 l4 m1 m2 m3 m4
            obtain ⟨c0, c1, c2, c3, c4, c5, cf⟩ := hbx.cells
            go_wp2_with fail
            refine hgd.mono ?_
            rintro e w5 ⟨rfl, hb5⟩
            clear c0 c1 c2 c3 c4 c5 cf hgd
            have L5 := L2.later hb5
            have hbx5 : BoxAt w5 pb (.int .i64 K) (.int .i64 I) (.int .i64 V) (.int .i64 N) (.slice ua j uc) (.slice xa q xc) := (hb5.block pb hbx.lt).trans hbx
            have hbig : w.heap.size + 2 ≤ wr.heap.size := Nat.le_trans hpb (Nat.le_of_lt hbx.lt)
            have hB5 := HBE.out.trans (hb5.mono hbig)
            have hR5 : BoxAt w5 w.heap.size (.int .i64 0) (.int .i64 0) (.int .i64 0) (.int .i64 0) (.slice none 0 0) (.slice none 0 0) := by
              refine (hB5.block _ (by omega)).trans ?_
              exact (Below.heap_alloc _ _ _ (by simp)).trans (heap_alloc_new _ _)
            have hN5 : BoxAt w5 (w.heap.size + 1) (.int .i64 0) (.int .i64 0) (.int .i64 0) (.int .i64 0) (.slice none 0 0) (.slice none 0 0) := by
              refine (hB5.block _ (by omega)).trans ?_
              have e : w.heap.size + 1 = (w.alloc (Obj.cells #[Value.int IntKind.i64 0, Value.int IntKind.i64 0, Value.int IntKind.i64 0, Value.int IntKind.i64 0, Value.slice none 0 0, Value.slice none 0 0] 57)).heap.size := by simp
              rw [e]; exact heap_alloc_new _ _
            have hBw : Below w.heap.size w w5 := ((below_new w _).alloc (by simp) _).trans (hB5.mono (by omega))
            clear L2 hb5 hbx HBE hB5 hbig
            have HLL : Hid _ := L5
            have HLE : Hid ((pairsAt (bs s) 16 j).length = j ∧ (doneAt (bs s) (17 + 8 * j) q).length = q) := ⟨hlS, hlD⟩
            have HBW : Hid _ := hBw
            clear L5 hlS hlD hBw
            generalize pairsAt (bs s) 16 j = Ps at *
            generalize doneAt (bs s) (17 + 8 * j) q = Ds at *
            obtain ⟨d0, d1, d2, d3, d4, d5, df⟩ := hR5.cells
            obtain ⟨x0, x1, x2, x3, x4, x5, xf⟩ := hN5.cells
            obtain ⟨c0, c1, c2, c3, c4, c5, cf⟩ := hbx5.cells
            by_cases hG : goodN K I V N Ps Ds = 0
            · have HE2 : Hid (E0 = 0) := HPA.out.1.trans hG
              have HP1 : Hid (P0 = (K, I, V, N, Ps, Ds)) := by show _ = _; rw [HPA.out.2, if_pos HE2.out]
              rw [hG]
              have HC : Hid _ := set6_cells (w := w5) (b := w.heap.size) (.int .i64 K) (.int .i64 I) (.int .i64 V) (.int .i64 N) (.slice ua j uc) (.slice xa q xc) hR5.six
              have HBB : Hid _ := set6_below (b := w.heap.size) (.int .i64 K) (.int .i64 I) (.int .i64 V) (.int .i64 N) (.slice ua j uc) (.slice xa q xc) HBW.out (Nat.le_refl _)
              have HL6 : Hid _ := HLL.out.set6 w.heap.size HNE.out (.int .i64 K) (.int .i64 I) (.int .i64 V) (.int .i64 N) (.slice ua j uc) (.slice xa q xc)
              clear HPA hG hR5 hN5 hbx5
              go_wp2
              show bodyPost Try.prog Try.f38 _ Exit.ret _ (set6 w5 w.heap.size (.int .i64 K) (.int .i64 I) (.int .i64 V) (.int .i64 N) (.slice ua j uc) (.slice xa q xc))
              obtain ⟨e0, e1, e2, e3, e4, e5⟩ := HC.out
              have hBB := HBB.out
              have hLL := HL6.out
              clear HC HBB HL6
              generalize set6 w5 w.heap.size (.int .i64 K) (.int .i64 I) (.int .i64 V) (.int .i64 N) (.slice ua j uc) (.slice xa q xc) = w9 at *
              exact bodyPost_ret (v := .tuple #[.agg #[.int .i64 K, .int .i64 I, .int .i64 V, .int .i64 N, .slice ua j uc, .slice xa q xc], .int .i64 0]) (by simp [results, Try.results38, go_sem, e0, e1, e2, e3, e4, e5]) rfl
                ⟨ua, xa, uc, xc, ag, 0, xg, 0, by rw [HE2.out, HP1.out]; dsimp only; rw [HLE.out.1, HLE.out.2], by rw [HP1.out]; exact hLL, by rw [HP1.out]; exact HRM.out, hBB⟩
            · have HP1 : Hid (P0 = (0, 0, 0, 0, [], [])) := by show _ = _; rw [HPA.out.2, HPA.out.1, if_neg hG]
              have HE1 : Hid (E0 = goodN K I V N Ps Ds) := HPA.out.1
              have hGb : (goodN K I V N Ps Ds != 0) = true := by simpa using hG
              have HC : Hid _ := set6_cells (w := w5) (b := w.heap.size) (.int .i64 0) (.int .i64 0) (.int .i64 0) (.int .i64 0) (.slice none 0 0) (.slice none 0 0) hR5.six
              have HBB : Hid _ := set6_below (b := w.heap.size) (.int .i64 0) (.int .i64 0) (.int .i64 0) (.int .i64 0) (.slice none 0 0) (.slice none 0 0) HBW.out (Nat.le_refl _)
              clear HPA hG hR5 hN5 hbx5
              generalize goodN K I V N Ps Ds = G at *
              go_wp2
              show bodyPost Try.prog Try.f38 _ Exit.ret _ (set6 w5 w.heap.size (.int .i64 0) (.int .i64 0) (.int .i64 0) (.int .i64 0) (.slice none 0 0) (.slice none 0 0))
              obtain ⟨e0, e1, e2, e3, e4, e5⟩ := HC.out
              have hBB := HBB.out
              clear HC HBB
              generalize set6 w5 w.heap.size (.int .i64 0) (.int .i64 0) (.int .i64 0) (.int .i64 0) (.slice none 0 0) (.slice none 0 0) = w9 at *
              exact bodyPost_ret (v := .tuple #[.agg #[.int .i64 0, .int .i64 0, .int .i64 0, .int .i64 0, .slice none 0 0, .slice none 0 0], .int .i64 G]) (by simp [results, Try.results38, go_sem, e0, e1, e2, e3, e4, e5]) rfl
                ⟨none, none, 0, 0, 0, 0, 0, 0, by rw [HE1.out, HP1.out]; rfl, by rw [HP1.out]; exact lies_nil _, by rw [HP1.out]; exact rm_nil _, hBB⟩
end Go.Proofs.Ytnfigdecgkcgcaa.Cd

