/- StakeSlashed: the law's walk. -/
import Derived.Test.YtookecjeknpheadXsl
import Derived.Test.YtookecjeknpheadXsd
import Derived.Test.YtookecjeknpheadXsa
import Derived.BigQuiet
import Derived.Deep.RegionHeld3
set_option maxRecDepth 100000
namespace Go.Proofs.Ytookecjeknphead
open Go.RowKit
/-- all shares are loaded -/
def loadSh (v : Value) : Sem Value := Instr.loadAt 29 v
theorem loadSh_eq (v : Value) : Instr.loadAt 29 v = loadSh v := rfl
theorem SAt.loadSh {w : World} {b : Nat} {s : St} {sl : Value} (h : SAt w b (stC s sl)) : (loadSh (.pointer (some ⟨b, 37, none⟩))).run Try.prog w = .ok (.agg (shC s.S)) w := by
  have := run_loadAt_mid (P := Try.prog) w b 37 29 (shC s.S).toList _ (st_shares h) Try.underlying29 rfl (by rw [infoSh]; rfl)
  change (Instr.loadAt 29 _).run Try.prog w = _
  simpa using this
theorem eqShB (w : World) (S : Nat → Nat → Int) : (binOp .eql 29 (.agg (shC S)) (.agg (shC S))).run Try.prog w = .ok (.bool true) w := by
  rw [run_eql_struct, eqSh]
  rfl
theorem neVd (w : World) (t s l : Int) (j d : Bool) : (binOp .neq 26 (.agg #[.int .i64 t, .int .i64 s, .int .i64 l, .bool j, .bool d]) (.agg #[.int .i64 t, .int .i64 s, .int .i64 l, .bool j, .bool d])).run Try.prog w = .ok (.bool false) w := by
  rw [run_neq_struct]
  go_simp
attribute [local go_sem ↓] loadS_eq
attribute [local go_sem ↓] loadSh_eq
set_option maxHeartbeats 4000000 in
theorem kslashed_no (s : St) (ao : Option Addr) (sb so c : Nat) (v h f : Int) (w : World) (hW : WsAt w ao sb so s.W) (er : Int) (he : er ≠ 0)
    (hP : ∀ w : World, WsAt w ao sb so s.W → Calls Try.prog 19 #[.agg (stC s (.slice ao s.W.length c)), .int .i64 v, .int .i64 h, .int .i64 f] w fun e w' => e = .returned (.tuple #[.agg (stC s (.slice ao s.W.length c)), .int .i64 0, .int .i64 er]) ∧ Below w.heap.size w w') :
    Calls Try.prog 6 #[.agg (stC s (.slice ao s.W.length c)), .int .i64 v, .int .i64 h, .int .i64 f] w fun e w' => e = .returned (.bool true) ∧ Below w.heap.size w w' := by
  have S4 := SAt.new w (stC s (.slice ao s.W.length c))
  have HB0 : Hid (Below w.heap.size w (w.alloc (.cells (stC s (.slice ao s.W.length c)) 32))) := (Below.refl _ w).alloc (Nat.le_refl _) _
  have HW := hide hW
  have he' : (er != 0) = true := by simpa using he
  clear hW
  go_enter Try.func6, Try.ntmps6
  go_upto_region 1 with fail
  generalize w.alloc (.cells (stC s (.slice ao s.W.length c)) 32) = w0 at *
  have hz0 : w.heap.size < w0.heap.size := S4.lt
  apply wp_region_lit
  refine wpList_load_mid rfl 32 _ rfl _ 0 rfl _ _ S4.range Try.underlying32 rfl (by rw [infoS]; rfl) ?_
  iterate 11 go_step
  refine (hP _ (by exact HW.out.over HB0.out)).mono ?_
  rintro e w3 ⟨rfl, h3⟩
  dsimp only
  have HB3 := hide (HB0.out.trans (h3.mono HB0.out.size))
  have hz3 : w.heap.size < w3.heap.size := by have := h3.size; omega
  clear h3 S4 hP
  iterate 16 go_step
  refine wpList_store_mid rfl 32 _ _ rfl _ 0 (stC s (.slice ao s.W.length c)) rfl rfl ((SAt.new w3 Z63).there 0 _ (by rw [Z63_size, stC_size]; omega)) (by rw [infoS]; rfl) (stC_one _ _ _ _) ?_
  change wpList Try.prog _ _ _ _ ((w3.alloc (.cells Z63 32)).setCells w3.heap.size 0 (stC s (.slice ao s.W.length c)).toList)
  have HB4 := hide (below_sets (b := w3.heap.size) (by omega) (stC s (.slice ao s.W.length c)).toList 0 _ (HB3.out.alloc (by omega) (.cells Z63 32)))
  generalize (w3.alloc (.cells Z63 32)).setCells w3.heap.size 0 (stC s (.slice ao s.W.length c)).toList = w4 at *
  clear HB3
  go_wp2_with (go_at_call 16; refine (stakes_any _).mono ?_; rintro e w5 ⟨rfl, h5⟩)
  go_ret
  exact ⟨rfl, HB4.out.trans (h5.mono HB4.out.size)⟩
set_option maxHeartbeats 8000000 in
theorem kslashed_yes (s : St) (ao : Option Addr) (sb so c v : Nat) (h f : Int) (w : World) (hW : WsAt w ao sb so s.W) (hg : goodS s = true) (hv : v < 6) (hf : 0 ≤ f ∧ f ≤ 1000) :
    Calls Try.prog 6 #[.agg (stC s (.slice ao s.W.length c)), .int .i64 (v : Int), .int .i64 h, .int .i64 f] w fun e w' => e = .returned (.bool true) ∧ Below w.heap.size w w' := by
  have S4 := SAt.new w (stC s (.slice ao s.W.length c))
  have HB0 : Hid (Below w.heap.size w (w.alloc (.cells (stC s (.slice ao s.W.length c)) 32))) := (Below.refl _ w).alloc (Nat.le_refl _) _
  have HW := hide hW
  have hP := fun w h1 => sslash_yes s ao sb so c v h f w h1 hg hv hf
  obtain ⟨b0, b1, b2, b3, b4⟩ := slash_burn hg hv h hf
  obtain ⟨n1, n2, n3, n4, n5, n6, n7, n8, n9, n10, n11⟩ := slash_nums hg hv h hf
  have hGd := slash_good hg hv h hf
  have eV : ∀ i, i ≠ v → (slashS s v h f).V i = s.V i := fun i hi => if_neg hi
  have eVv : ((slashS s v h f).V v).lost = (s.V v).lost + (ptN (s.V v).tok f + slN v h f s.W) := by show (setV s.V v _ v).lost = _; rw [setV_at]; rfl
  have eSh : (slashS s v h f).S = s.S := rfl
  have eW : (slashS s v h f).W = slW v h f s.W := rfl
  have HSl : Hid (∀ k x, s.W[k]? = some x → (slashS s v h f).W[k]? = some (slX v h f x)) := fun k x hx => by rw [eW]; unfold slW; rw [List.getElem?_map, hx]; rfl
  have HAm : Hid (∀ x, x ∈ s.W → (slX v h f x).amt ≤ x.amt) := fun x hx => by have := slP_in (v := v) (h := h) (n10 x hx) hf; have := (slX_keeps v h f x).2.2.2.2.2; omega
  have hlen : (slashS s v h f).W.length = s.W.length := by rw [eW]; unfold slW; rw [List.length_map]
  have HLen := hide hlen
  clear hlen
  generalize slashS s v h f = a at *
  generalize hn : ptN (s.V v).tok f + slN v h f s.W = n at *
  have hnb : 0 ≤ n ∧ n ≤ 800000 := by omega
  clear hW hg hf b0 b1 b2 b3 n1 n2 n3 n4 n9 n10 eW hn
  have hv' : (v : Int) < 6 := by omega
  have hv0 : (0 : Int) ≤ (v : Int) := by omega
  go_enter Try.func6, Try.ntmps6
  go_upto_region 1 with fail
  generalize w.alloc (.cells (stC s (.slice ao s.W.length c)) 32) = w0 at *
  have hz0 : w.heap.size < w0.heap.size := S4.lt
  apply wp_region_lit
  refine wpList_load_mid rfl 32 _ rfl _ 0 rfl _ _ S4.range Try.underlying32 rfl (by rw [infoS]; rfl) ?_
  iterate 11 go_step
  refine (hP _ (by exact HW.out.over HB0.out)).mono ?_
  rintro e w3 ⟨A, C, rfl, hO9, h3⟩
  dsimp only
  have S4c := S4.later h3 S4.lt
  have HB3 := hide (HB0.out.trans (h3.mono HB0.out.size))
  have hz3 : w.heap.size < w3.heap.size := S4c.lt
  clear h3 S4 hP HB0
  iterate 16 go_step
  refine wpList_store_mid rfl 32 _ _ rfl _ 0 (stC a (.slice A a.W.length C)) rfl rfl ((SAt.new w3 Z63).there 0 _ (by rw [Z63_size, stC_size]; omega)) (by rw [infoS]; rfl) (stC_one _ _ _ _) ?_
  change wpList Try.prog _ _ _ _ ((w3.alloc (.cells Z63 32)).setCells w3.heap.size 0 (stC a (.slice A a.W.length C)).toList)
  have S10 := (SAt.new w3 Z63).setAll (ds := (stC a (.slice A a.W.length C))) rfl
  have S4d : SAt ((w3.alloc (.cells Z63 32)).setCells w3.heap.size 0 (stC a (.slice A a.W.length C)).toList) w.heap.size (stC s (.slice ao s.W.length c)) := (heap_sets (by omega) _ _ _).trans (S4c.alloc _)
  have HB4 := hide (below_sets (b := w3.heap.size) (by omega) (stC a (.slice A a.W.length C)).toList 0 _ (HB3.out.alloc (by omega) (.cells Z63 32)))
  have HO9 : Hid (OwnW w0.heap.size ((w3.alloc (.cells Z63 32)).setCells w3.heap.size 0 (stC a (.slice A a.W.length C)).toList) A C a.W) := own_of hO9 fun k hk => (heap_sets (by have := (World.ownsRow.lt hO9 k hk).2; omega) _ _ _).trans (Below.heap_alloc w3 _ k (World.ownsRow.lt hO9 k hk).2)
  generalize (w3.alloc (.cells Z63 32)).setCells w3.heap.size 0 (stC a (.slice A a.W.length C)).toList = w4 at *
  have hz4 : w3.heap.size < w4.heap.size := S10.lt
  clear S4c HB3 hO9
  go_upto_region 4 with (go_at_call 16; refine (stakes_any _).mono ?_; rintro e w5 ⟨rfl, h5⟩)
  have S4e := S4d.later h5 (by omega)
  have S10e := S10.later h5 S10.lt
  have HB5 := hide (HB4.out.trans (h5.mono (by omega)))
  obtain ⟨gA, hWA, _⟩ := (HO9.out.over h5).ws (by have := HLen.out; omega)
  have HWA := hide hWA
  have HWS := hide (HW.out.over HB5.out)
  have hz5 : w3.heap.size < w5.heap.size := S10e.lt
  have hz5a : w.heap.size < w5.heap.size := by omega
  clear S4d S10 HB4 HO9 h5 HW hWA
  have HS4 := hide S4e
  have HS10 := hide S10e
  clear S4e S10e
  go_upto_region 5 with fail
  go_loopw [12] (fun i wl => ∃ (k : Nat), k ≤ 6 ∧ i = .int .i64 (k : Int) ∧ Hid (Below w5.heap.size w5 wl)) (fun i _ => 6 - (intOf i).toNat)
  case atStart => exact ⟨0, by omega, rfl, Below.refl _ _⟩
  case round =>
    obtain ⟨k, hk, rfl, HP⟩ := hrel
    have hwr := HP.out.size
    by_cases hlt : k < 6
    · have S4r := HS4.out.later HP.out (by omega)
      have S10r := HS10.out.later HP.out (by omega)
      have hk' : (k : Int) < 6 := by omega
      have hk0 : (0 : Int) ≤ (k : Int) := by omega
      have hzr : w3.heap.size < wr.heap.size := by omega
      have hzra : w.heap.size < wr.heap.size := by omega
      by_cases hkv : k = v
      · subst hkv
        go_upto_region 7 with fail
        go_quiet (fail)
        go_wp2
        exact ⟨⟨k + 1, by omega, by go_num, ⟨HP.out.os, HP.out.tape, HP.out.output, HP.out.size, HP.out.block⟩⟩, by simp [intOf]; omega⟩
      · have hkv' : ((k : Int) == (v : Int)) = false := by simp; omega
        have hkv2 : ((k : Int) != (v : Int)) = true := by simp; omega
        obtain ⟨p0, p1, p2, p3, p4⟩ := S4r.val k hlt
        obtain ⟨q0, q1, q2, q3, q4⟩ := S10r.val k hlt
        rw [eV k hkv] at q0 q1 q2 q3 q4
        have hne := fun w => neVd w (s.V k).tok (s.V k).sh (s.V k).lost (s.V k).jail (s.V k).dead
        go_upto_region 7 with fail
        go_quiet (fail)
        go_wp2
        exact ⟨⟨k + 1, by omega, by go_num, ⟨HP.out.os, HP.out.tape, HP.out.output, HP.out.size, HP.out.block⟩⟩, by simp [intOf]; omega⟩
    · obtain rfl : k = 6 := by omega
      have hx7 := (st_cells (HS4.out.later HP.out (by omega))).2.2.2.2.2.2.2.1
      have hzr : w.heap.size < wr.heap.size := by omega
      have HP0 := hide HP.out
      clear HP
      go_upto_region 10 with fail
      clear hx7
      go_loopw [57] (fun i wl => ∃ (k : Nat), k ≤ s.W.length ∧ i = .int .i64 (k : Int) ∧ Hid (Below w5.heap.size w5 wl)) (fun i _ => s.W.length - (intOf i).toNat)
      case atStart => exact ⟨0, Nat.zero_le _, rfl, HP0⟩
      case round =>
        rename_i wr0
        obtain ⟨k, hk, rfl, HP⟩ := hrel
        have hwr := HP.out.size
        clear HP0 hzr
        have S4r := HS4.out.later HP.out (by omega)
        have S10r := HS10.out.later HP.out (by omega)
        have hzr : w3.heap.size < wr.heap.size := by omega
        have hzra : w.heap.size < wr.heap.size := by omega
        by_cases hlt : k < s.W.length
        · obtain ⟨x, hx, _⟩ := drop_at hlt
          have hmem : x ∈ s.W := by obtain ⟨h1, h2⟩ := List.getElem?_eq_some_iff.1 hx; exact h2 ▸ List.getElem_mem h1
          have ham := HAm.out x hmem
          have hka : k < a.W.length := by have := HLen.out; omega
          have hkaI : (k : Int) < (a.W.length : Int) := by omega
          obtain ⟨c0, c1, c2, c3, c4, c5, c6, c7⟩ := (HWS.out.over HP.out).cell k x hx
          obtain ⟨d0, d1, d2, d3, d4, d5, d6, d7⟩ := (HWA.out.over HP.out).cell k _ (HSl.out k x hx)
          have hao := HWS.out.adr (by omega)
          have hA := HWA.out.adr (by omega)
          subst hao
          subst hA
          simp only [Nat.zero_add] at d0 d1 d2 d3 d4 d5 d6 d7
          have x7 := (st_cells S10r).2.2.2.2.2.2.2.1
          have hcases : (x.v = v ∧ h ≤ x.hei) ∨ slX v h f x = x := by
            by_cases hh : x.v = v ∧ h ≤ x.hei
            · exact .inl hh
            · refine .inr (sl_same ?_).1
              simp only [hitW, Bool.and_eq_false_iff, decide_eq_false_iff_not]
              by_cases h1 : x.v = v
              · exact .inr (fun h2 => hh ⟨h1, h2⟩)
              · exact .inl h1
          have hnw := fun w => eqH w x.h0 x.h1
          generalize slX v h f x = x' at *
          clear hmem hx
          have HC := hide hcases
          clear hcases
          go_upto_region 12 with fail
          have Yq : YAt (wr.alloc (.cells #[.int .i64 x.num, .int .i64 x.d, .int .i64 x.v, .int .i64 x.amt, .int .i64 x.hei, .int .i64 x.due, .int .i64 x.h0, .int .i64 x.h1] 45)) wr.heap.size x := heap_alloc_new _ _
          have hbq := (Below.refl wr.heap.size wr).alloc (Nat.le_refl _) (.cells #[.int .i64 x.num, .int .i64 x.d, .int .i64 x.v, .int .i64 x.amt, .int .i64 x.hei, .int .i64 x.due, .int .i64 x.h0, .int .i64 x.h1] 45)
          have HQ := hide (HP.out.trans (hbq.mono (by omega)))
          have S10q := S10r.later hbq (by omega)
          have e0 := (hbq.cell (World.block_lt_of_cell? wr _ d0)).trans d0
          have e1 := (hbq.cell (World.block_lt_of_cell? wr _ d1)).trans d1
          have e2 := (hbq.cell (World.block_lt_of_cell? wr _ d2)).trans d2
          have e3 := (hbq.cell (World.block_lt_of_cell? wr _ d3)).trans d3
          have e4 := (hbq.cell (World.block_lt_of_cell? wr _ d4)).trans d4
          have e5 := (hbq.cell (World.block_lt_of_cell? wr _ d5)).trans d5
          have e6 := (hbq.cell (World.block_lt_of_cell? wr _ d6)).trans d6
          have e7 := (hbq.cell (World.block_lt_of_cell? wr _ d7)).trans d7
          generalize wr.alloc (.cells #[.int .i64 x.num, .int .i64 x.d, .int .i64 x.v, .int .i64 x.amt, .int .i64 x.hei, .int .i64 x.due, .int .i64 x.h0, .int .i64 x.h1] 45) = wq at *
          clear c0 c1 c2 c3 c4 c5 c6 c7 d0 d1 d2 d3 d4 d5 d6 d7 x7 S4r S10r hbq
          have x7 := (st_cells S10q).2.2.2.2.2.2.2.1
          have hzq := S10q.lt
          have hzq2 := Yq.lt
          go_upto_region 13 with fail
          have Yp : YAt (wq.alloc (.cells #[.int .i64 x'.num, .int .i64 x'.d, .int .i64 x'.v, .int .i64 x'.amt, .int .i64 x'.hei, .int .i64 x'.due, .int .i64 x'.h0, .int .i64 x'.h1] 45)) wq.heap.size x' := heap_alloc_new _ _
          have hbp := (Below.refl wq.heap.size wq).alloc (Nat.le_refl _) (.cells #[.int .i64 x'.num, .int .i64 x'.d, .int .i64 x'.v, .int .i64 x'.amt, .int .i64 x'.hei, .int .i64 x'.due, .int .i64 x'.h0, .int .i64 x'.h1] 45)
          have HQ2 := hide (HQ.out.trans (hbp.mono (by omega)))
          have Yq2 := Yq.later hbp hzq2
          generalize wq.alloc (.cells #[.int .i64 x'.num, .int .i64 x'.d, .int .i64 x'.v, .int .i64 x'.amt, .int .i64 x'.hei, .int .i64 x'.due, .int .i64 x'.h0, .int .i64 x'.h1] 45) = wp at *
          clear e0 e1 e2 e3 e4 e5 e6 e7 x7 Yq HQ hbp S10q
          obtain ⟨c0, c1, c2, c3, c4, c5, c6, c7⟩ := Yq2.cells
          obtain ⟨d0, d1, d2, d3, d4, d5, d6, d7⟩ := Yp.cells
          have hzp := Yq2.lt
          have hzp2 := Yp.lt
          rcases HC.out with ⟨hh1, hh2⟩ | hxe
          · rw [hh1] at c2
            clear HC
            go_wp2
            refine ⟨?_, by simp [intOf]; omega⟩
            repeat apply Exists.intro
            refine And.intro ?ra ?rb
            case rb => repeat (first | exact rfl | refine And.intro rfl ?_)
            case ra => exact ⟨k + 1, by omega, by go_num⟩
          · subst hxe
            clear HC
            go_wp2
            all_goals
              refine ⟨?_, by simp [intOf]; omega⟩
              repeat apply Exists.intro
              refine And.intro ?ra ?rb
              case rb => repeat (first | exact rfl | refine And.intro rfl ?_)
              case ra => exact ⟨k + 1, by omega, by go_num⟩
        · obtain rfl : k = s.W.length := by omega
          go_upto_region 16 with fail
          have HBr := hide (HB5.out.trans (HP.out.mono (by omega)))
          have hc3 : ∀ wx, Below wr.heap.size wr wx → Calls Try.prog 20 #[.agg (stC a (.slice A a.W.length C))] wx fun e w' => e = .returned (.bool true) ∧ Below wr.heap.size wr w' := fun wx h1 => (sgood_any a A gA 0 C wx ((HWA.out.over HP.out).over h1)).mono fun _ _ hh => ⟨by rw [← hGd]; exact hh.1, h1.trans (hh.2.mono h1.size)⟩
          have hw1 : IntKind.i64.wrap (a.b.bu - s.b.bu) = n := by rw [b4, show s.b.bu + n - s.b.bu = n by omega]; exact wrapI (by omega) (by omega)
          have hw2 : IntKind.i64.wrap ((a.V v).lost - (s.V v).lost) = n := by rw [eVv, show (s.V v).lost + n - (s.V v).lost = n by omega]; exact wrapI (by omega) (by omega)
          have heq := fun w => eqShB w s.S
          have hS : ∀ wx, Below wr.heap.size wr wx → (loadS (.pointer (some ⟨w3.heap.size, 0, none⟩))).run Try.prog wx = .ok (.agg (stC a (.slice A a.W.length C))) wx ∧ (loadSh (.pointer (some ⟨w3.heap.size, 37, none⟩))).run Try.prog wx = .ok (.agg (shC s.S)) wx ∧ (loadSh (.pointer (some ⟨w.heap.size, 37, none⟩))).run Try.prog wx = .ok (.agg (shC s.S)) wx ∧ wx.cell? ⟨w3.heap.size, 6, none⟩ = some (.int .i64 a.b.bu) ∧ wx.cell? ⟨w.heap.size, 6, none⟩ = some (.int .i64 s.b.bu) ∧ wx.cell? ⟨w3.heap.size, 7 + v * 5 + 2, none⟩ = some (.int .i64 (a.V v).lost) ∧ wx.cell? ⟨w.heap.size, 7 + v * 5 + 2, none⟩ = some (.int .i64 (s.V v).lost) := fun wx h1 => by
            have S1 := S4r.later h1 (by omega)
            have S2 := S10r.later h1 (by omega)
            have l2 := S2.loadSh
            rw [eSh] at l2
            exact ⟨S2.loadS rfl, l2, S1.loadSh, (st_cells S2).2.2.2.2.2.2.1, (st_cells S1).2.2.2.2.2.2.1, (S2.val v hv).2.2.1, (S1.val v hv).2.2.1⟩
          generalize a.b.bu = abu at *
          generalize s.b.bu = sbu at *
          generalize (a.V v).lost = al at *
          generalize (s.V v).lost = sl at *
          clear S4r S10r HS4 HS10 HAm HSl eV HWA HWS HB5 HP b4 eVv
          go_region_held3 (fun wx => (loadS (.pointer (some ⟨w3.heap.size, 0, none⟩))).run Try.prog wx = .ok (.agg (stC a (.slice A a.W.length C))) wx ∧ (loadSh (.pointer (some ⟨w3.heap.size, 37, none⟩))).run Try.prog wx = .ok (.agg (shC s.S)) wx ∧ (loadSh (.pointer (some ⟨w.heap.size, 37, none⟩))).run Try.prog wx = .ok (.agg (shC s.S)) wx ∧ wx.cell? ⟨w3.heap.size, 6, none⟩ = some (.int .i64 abu) ∧ wx.cell? ⟨w.heap.size, 6, none⟩ = some (.int .i64 sbu) ∧ wx.cell? ⟨w3.heap.size, 7 + v * 5 + 2, none⟩ = some (.int .i64 al) ∧ wx.cell? ⟨w.heap.size, 7 + v * 5 + 2, none⟩ = some (.int .i64 sl)) (first | exact hS _ hb | exact hS _ hb.drew | exact hS _ (Below.refl _ _).drew | exact hS _ (Below.refl _ _))
            (first | (go_at_call 20; refine (hc3 _ (by first | exact hb | exact hb.drew | exact (Below.refl _ _).drew | exact Below.refl _ _)).mono ?_; rintro e wy ⟨rfl, hb⟩))
          have HBz := hide (HBr.out.trans (hb.mono HBr.out.size))
          clear hc3 hS
          go_wp2
          go_ret
          exact ⟨rfl, HBz.out⟩
theorem kslashed_walk (s : St) (ao : Option Addr) (sb so c : Nat) (v h f : Int) (w : World) (_ : s.W.length ≤ c) (hW : WsAt w ao sb so s.W) :
    Calls Try.prog 6 #[.agg (stC s (.slice ao s.W.length c)), .int .i64 v, .int .i64 h, .int .i64 f] w fun e w' => e = .returned (.bool true) ∧ Below w.heap.size w w' := by
  by_cases hr : refE s v = 0
  · obtain ⟨hg, v0, v1⟩ := refE_zero hr
    obtain ⟨v, rfl⟩ := Int.eq_ofNat_of_zero_le v0
    have hv : v < 6 := by omega
    by_cases hf : 0 ≤ f ∧ f ≤ 1000
    · exact kslashed_yes s ao sb so c v h f w hW hg hv hf
    · exact kslashed_no s ao sb so c v h f w hW 2 (by decide) fun w h1 => sslash_out s ao sb so c v h f w h1 hg hv hf
  · exact kslashed_no s ao sb so c v h f w hW _ hr fun w h1 => sslash_no s ao sb so c v h f w h1 hr
end Go.Proofs.Ytookecjeknphead
