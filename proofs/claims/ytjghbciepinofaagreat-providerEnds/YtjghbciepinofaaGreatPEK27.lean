/- Parts of the proof: LG LH LHS RC1. -/
import Derived.Test.YtjghbciepinofaaGreatRows
import Derived.Test.YtjghbciepinofaaGreatPEK21
import Derived.Test.YtjghbciepinofaaGreatPEK29
import Derived.Deep.QuietTactic
import Derived.BigQuiet
import Derived.WalkSmall
import Derived.WalkKit
import Derived.Below
import Derived.Maps.AppendAt
import Derived.Deep.MidRow
import Derived.Deep.DeepCutAuto
set_option maxRecDepth 100000
namespace Go.Proofs.YtjghbciepinofaaGreat.Ln
open Go.RowKit
theorem goodL_ref (x : Line) : (nonneg x.D = false → goodL x = false) ∧ (nonneg x.D = true → goodL x = (decide (x.S.length = x.D.length) && (decide (x.S.length ≤ 400) && (decide (0 ≤ x.g) && decide (x.g ≤ x.S.length))))) := by
  refine ⟨fun h => by simp [goodL, h], fun h => ?_⟩
  unfold goodL
  rw [h]
  by_cases h1 : x.D.length = x.S.length
  · simp [h1, Bool.and_assoc]
  · have h2 : ¬ x.S.length = x.D.length := fun e => h1 e.symm
    simp [h1, h2]
set_option maxHeartbeats 1000000 in
theorem rgood_any (x : Line) (sa da : Option Addr) (cs cd sb so db dO : Nat) (w : World) (L : LAt w x sa da cs cd sb so db dO) :
    Calls Tryz.prog 93 #[.agg #[.slice sa x.S.length cs, .slice da x.D.length cd, .int .i64 x.g, .bool x.cl]] w fun e w' => e = .returned (.bool (goodL x)) ∧ Below w.heap.size w w' := by
  obtain ⟨S, D, g, cl⟩ := x
  have HG := hide (goodL_ref ⟨S, D, g, cl⟩)
  obtain ⟨hls, hld, hsa, hda, -, -, PS, PD⟩ := L
  have HB0 : Hid (∀ o, Below w.heap.size w (w.alloc o)) := fun o => below_new w o
  have HDA : Hid (0 < D.length → da = some ⟨db, dO, none⟩) := hda
  have HPD : Hid (IntsAt w db dO D) := PD
  clear hsa hda PS PD
  dsimp only at *
  generalize goodL ⟨S, D, g, cl⟩ = G at *
  go_enter Tryz.func93, Tryz.ntmps93
  go_wp2
  go_loop [8] (fun i => ∃ (k : Nat), k ≤ D.length ∧ i = .int .i64 (k : Int) ∧ Hid (nonneg (D.take k) = true)) (fun i => D.length - (intOf i).toNat)
  case atStart => exact ⟨0, Nat.zero_le _, rfl, by simp [Hid, nonneg]⟩
  case round =>
    obtain ⟨k, hk, rfl, HR⟩ := hrel
    by_cases hlt : k < D.length
    · have hcell := (HPD.out.later (HB0.out (.cells #[.slice sa S.length cs, .slice da D.length cd, .int .i64 g, .bool cl] 37))) k hlt
      obtain ⟨y, hy⟩ : ∃ y, D.getD k 0 = y := ⟨_, rfl⟩
      rw [hy] at hcell
      have HY : Hid (D.getD k 0 = y) := hy
      clear hy
      have e := HDA.out (by omega)
      subst e
      by_cases hy0 : y < 0
      · have HF : Hid (G = false) := HG.out.1 (nonneg_not hlt (by rw [HY.out]; exact hy0))
        go_wp2
        go_ret
        exact ⟨by rw [HF.out]; rfl, HB0.out _⟩
      · go_wp2
        go_round
        case rel => exact ⟨k + 1, by omega, by go_num, nonneg_step HR.out hlt (by rw [HY.out]; omega)⟩
        case measure => simp [intOf]; omega
    · have hG := HG.out.2 (by have := HR.out; rwa [List.take_of_length_le (by omega)] at this)
      by_cases h1 : S.length = D.length
      · have h1' : ((S.length : Int) == (D.length : Int)) = true := by simp [h1]
        by_cases h2 : S.length ≤ 400
        · by_cases h3 : 0 ≤ g
          · by_cases h4 : g ≤ (S.length : Int)
            · have HF : Hid (G = true) := by show _ = _; rw [hG]; simp [h1, h3]; omega
              clear hG h1 HG HR
              go_wp2
              go_ret
              exact ⟨by rw [HF.out]; rfl, HB0.out _⟩
            · have HF : Hid (G = false) := by show _ = _; rw [hG]; simp; omega
              clear hG h1 HG HR
              go_wp2
              go_ret
              exact ⟨by rw [HF.out]; rfl, HB0.out _⟩
          · have HF : Hid (G = false) := by show _ = _; rw [hG]; simp; omega
            clear hG h1 HG HR
            go_wp2
            go_ret
            exact ⟨by rw [HF.out]; rfl, HB0.out _⟩
        · have HF : Hid (G = false) := by show _ = _; rw [hG]; simp; omega
          clear hG h1 HG HR
          go_wp2
          go_ret
          exact ⟨by rw [HF.out]; rfl, HB0.out _⟩
      · have h1' : ((S.length : Int) == (D.length : Int)) = false := by simp; omega
        have HF : Hid (G = false) := by show _ = _; rw [hG]; simp; omega
        clear hG h1 HG HR
        go_wp2
        go_ret
        exact ⟨by rw [HF.out]; rfl, HB0.out _⟩
set_option maxHeartbeats 1000000 in
/-- numbers that are alike -/
theorem nums_same (l : List Int) (a a' : Option Addr) (c c' b off b' off' : Nat) (w : World) (hlen : l.length * 8 ≤ 140737488351232) (ha : 0 < l.length → a = some ⟨b, off, none⟩) (ha' : 0 < l.length → a' = some ⟨b', off', none⟩)
    (hc : IntsAt w b off l) (hc' : IntsAt w b' off' l) :
    Calls Tryz.prog 18 #[.slice a l.length c, .slice a' l.length c'] w fun e w' => e = .returned (.bool true) ∧ Below w.heap.size w w' := by
  have HA := hide ha
  have HA' := hide ha'
  have HC := hide hc
  have HC' := hide hc'
  clear ha ha' hc hc'
  go_enter Tryz.func18, Tryz.ntmps18
  go_upto_region 4 with fail
  go_loopw [13] (fun i wl => ∃ (k : Nat), k ≤ l.length ∧ i = .int .i64 (k : Int) ∧ Hid (Below w.heap.size w wl)) (fun i _ => l.length - (intOf i).toNat)
  case atStart => exact ⟨0, Nat.zero_le _, rfl, Below.refl _ _⟩
  case round =>
    obtain ⟨k, hk, rfl, HR⟩ := hrel
    by_cases hlt : k < l.length
    · have c1 := HC.out.later HR.out k hlt
      have c2 := HC'.out.later HR.out k hlt
      have e := HA.out (by omega)
      subst e
      have e := HA'.out (by omega)
      subst e
      generalize l.getD k 0 = n at *
      have hkI : (k : Int) < (l.length : Int) := by omega
      go_upto_region 6 with fail
      go_quiet (fail)
      go_wp2
      exact ⟨⟨k + 1, by omega, by go_num, ⟨HR.out.os, HR.out.tape, HR.out.output, HR.out.size, HR.out.block⟩⟩, by simp [intOf]; omega⟩
    · obtain rfl : k = l.length := by omega
      go_wp2
      go_ret
      exact ⟨rfl, HR.out⟩
set_option maxHeartbeats 1000000 in
/-- lines that are alike -/
theorem same_any (x : Line) (sa da sa' da' : Option Addr) (cs cd sb so db dO cs' cd' sb' so' db' dO' : Nat) (w : World) (L : LAt w x sa da cs cd sb so db dO) (L' : LAt w x sa' da' cs' cd' sb' so' db' dO') :
    Calls Tryz.prog 56 #[.agg #[.slice sa x.S.length cs, .slice da x.D.length cd, .int .i64 x.g, .bool x.cl], .agg #[.slice sa' x.S.length cs', .slice da' x.D.length cd', .int .i64 x.g, .bool x.cl]] w fun e w' => e = .returned (.bool true) ∧ Below w.heap.size w w' := by
  obtain ⟨S, D, g, cl⟩ := x
  dsimp only
  have hlS : S.length * 16 ≤ 140737488351232 := L.hls
  have hlD : D.length * 8 ≤ 140737488351232 := L.hld
  have HL := hide L
  have HL' := hide L'
  have F1 := (FAt.new w (.slice sa S.length cs) (.slice da D.length cd) (.int .i64 g) (.bool cl)).alloc (.cells #[.slice sa' S.length cs', .slice da' D.length cd', .int .i64 g, .bool cl] 37)
  have F2 := FAt.new2 w (.cells #[.slice sa S.length cs, .slice da D.length cd, .int .i64 g, .bool cl] 37) (.slice sa' S.length cs') (.slice da' D.length cd') (.int .i64 g) (.bool cl)
  have BW : Below w.heap.size w ((w.alloc (.cells #[.slice sa S.length cs, .slice da D.length cd, .int .i64 g, .bool cl] 37)).alloc (.cells #[.slice sa' S.length cs', .slice da' D.length cd', .int .i64 g, .bool cl] 37)) := (below_new w _).alloc (by simp) _
  have HX := hide (show _ ∧ _ ∧ _ from ⟨F1, F2, BW⟩)
  clear L L' F1 F2 BW
  go_enter Tryz.func56, Tryz.ntmps56
  go_upto_region 1 with fail
  generalize ((w.alloc (.cells #[.slice sa S.length cs, .slice da D.length cd, .int .i64 g, .bool cl] 37)).alloc (.cells #[.slice sa' S.length cs', .slice da' D.length cd', .int .i64 g, .bool cl] 37)) = w0 at *
  obtain ⟨⟨c0, c1, c2, c3⟩, -⟩ := HX.out.1.facts
  obtain ⟨⟨d0, d1, d2, d3⟩, -⟩ := HX.out.2.1.facts
  go_upto_region 4 with fail
  go_loopw [30] (fun i wl => ∃ (k : Nat), k ≤ S.length ∧ i = .int .i64 (k : Int) ∧ Hid (Below w0.heap.size w0 wl)) (fun i _ => S.length - (intOf i).toNat)
  case atStart => exact ⟨0, Nat.zero_le _, rfl, Below.refl _ _⟩
  case round =>
    obtain ⟨k, hk, rfl, HR⟩ := hrel
    have HBR := hide (below_then HX.out.2.2 HR.out)
    obtain ⟨⟨c0, c1, c2, c3⟩, -⟩ := (HX.out.1.later HR.out HX.out.1.lt).facts
    obtain ⟨⟨d0, d1, d2, d3⟩, -⟩ := (HX.out.2.1.later HR.out HX.out.2.1.lt).facts
    by_cases hlt : k < S.length
    · have s1 := HL.out.PS.later HBR.out k hlt
      have s2 := HL'.out.PS.later HBR.out k hlt
      have e := HL.out.hsa (by show 0 < S.length; omega)
      subst e
      have e := HL'.out.hsa (by show 0 < S.length; omega)
      subst e
      dsimp only at s1 s2
      generalize S.getD k ByteArray.empty = n at *
      have hkI : (k : Int) < (S.length : Int) := by omega
      go_upto_region 6 with fail
      go_quiet (fail)
      go_wp2
      exact ⟨⟨k + 1, by omega, by go_num, ⟨HR.out.os, HR.out.tape, HR.out.output, HR.out.size, HR.out.block⟩⟩, by simp [intOf]; omega⟩
    · have H5 := hide (nums_same D da da' cd cd' db dO db' dO' wr hlD HL.out.hda HL'.out.hda (HL.out.PD.later HBR.out) (HL'.out.PD.later HBR.out))
      go_wp2_with (go_at_call 18; refine H5.out.mono ?_; rintro e w5 ⟨rfl, hb⟩)
      go_ret
      exact ⟨rfl, below_then HBR.out hb⟩
end Go.Proofs.YtjghbciepinofaaGreat.Ln

set_option maxRecDepth 100000
namespace Go.Proofs.YtjghbciepinofaaGreat.Ln
open Go.RowKit
/-- a row's block is none that holds cells of another type -/
theorem own_ne {w : World} {b e e' z n k : Nat} {v : Value} {xs : List Value} {cs : Array Value} {f : Nat × Nat} (h : w.ownsRow b e z v n xs) (hf : w.heap[k]? = some (.cells cs e' f)) (he : e ≠ e') : some k ≠ v.ownBlock := by
  rcases h.2 with ⟨rfl, _⟩ | ⟨g, cap, cur, rfl, hb, hg, rest⟩
  · simp [Value.ownBlock]
  · intro h2
    have e2 : k = g := by simpa [Value.ownBlock] using h2
    subst e2
    rw [hg] at hf
    cases hf
    exact he rfl
theorem own_apart {w : World} {b e e' z n b' z' n' : Nat} {v v' : Value} {xs xs' : List Value} (h : w.ownsRow b e z v n xs) (h' : w.ownsRow b' e' z' v' n' xs') (he : e ≠ e') : ∀ k, v'.ownBlock = some k → some k ≠ v.ownBlock := by
  intro k hk
  rcases h'.2 with ⟨rfl, _⟩ | ⟨g, cap, cur, rfl, hb, hg, rest⟩
  · simp [Value.ownBlock] at hk
  · obtain rfl : g = k := by simpa [Value.ownBlock] using hk
    exact own_ne h hg he
/-- the copy lies in a block, and its two lists are rows of their own -/
structure Mid (w wq : World) (b8 : Nat) (v0 v1 : Value) (g : Int) (cl : Bool) (S : List ByteArray) (A1 : Option Addr) (C1 : Nat) (D : List Int) (A2 : Option Addr) (C2 : Nat) : Prop where
  F8 : FAt wq b8 v0 v1 (.int .i64 g) (.bool cl)
  F2 : FAt wq (w.heap.size + 1) (.slice none 0 0) (.slice none 0 0) (.int .i64 0) (.bool false)
  oS : OwnS (w.heap.size + 2) wq A1 C1 S
  oD : OwnI (w.heap.size + 2) wq A2 C2 D
  below : Below w.heap.size w wq
  hb8 : w.heap.size + 2 ≤ b8
section
variable {w wq : World} {b8 : Nat} {v0 v1 : Value} {g : Int} {cl : Bool} {S : List ByteArray} {A1 : Option Addr} {C1 : Nat} {D : List Int} {A2 : Option Addr} {C2 : Nat}
theorem Mid.alloc (h : Mid w wq b8 v0 v1 g cl S A1 C1 D A2 C2) (o : Obj) : Mid w (wq.alloc o) b8 v0 v1 g cl S A1 C1 D A2 C2 :=
  ⟨h.F8.alloc o, h.F2.alloc o, World.ownsRow.alloc h.oS o, World.ownsRow.alloc h.oD o, h.below.alloc h.below.size o, h.hb8⟩
theorem Mid.drew (h : Mid w wq b8 v0 v1 g cl S A1 C1 D A2 C2) : Mid w wq.drew b8 v0 v1 g cl S A1 C1 D A2 C2 := ⟨h.F8, h.F2, h.oS, h.oD, h.below.drew, h.hb8⟩
theorem Mid.appS (h : Mid w wq b8 v0 v1 g cl S A1 C1 D A2 C2) {w' : World} {A' : Option Addr} {C' : Nat} {s : ByteArray} (ho : w'.ownsRow (w.heap.size + 2) 9 1 (.slice A' (S.length + 1) C') (S.length + 1) (S.map .string ++ [.string s])) (hg : wq.grownBy w' (Value.slice A1 S.length C1).ownBlock) : Mid w w' b8 v0 v1 g cl (S ++ [s]) A' C' D A2 C2 := by
  refine ⟨(hg.block b8 h.F8.lt (own_ne h.oS h.F8 (by decide))).trans h.F8, (hg.block _ h.F2.lt (own_ne h.oS h.F2 (by decide))).trans h.F2, ?_, ?_, h.below.grown hg h.below.size (fun k hk => by have := (World.ownsRow.lt h.oS k hk).1; omega), h.hb8⟩
  · unfold OwnS
    simpa using ho
  · exact own_of h.oD fun k hk => hg.block k (World.ownsRow.lt h.oD k hk).2 (own_apart h.oS h.oD (by decide) k hk)
theorem Mid.appD (h : Mid w wq b8 v0 v1 g cl S A1 C1 D A2 C2) {w' : World} {A' : Option Addr} {C' : Nat} {s : Int} (ho : w'.ownsRow (w.heap.size + 2) 3 1 (.slice A' (D.length + 1) C') (D.length + 1) (D.map (.int .i64) ++ [.int .i64 s])) (hg : wq.grownBy w' (Value.slice A2 D.length C2).ownBlock) : Mid w w' b8 v0 v1 g cl S A1 C1 (D ++ [s]) A' C' := by
  refine ⟨(hg.block b8 h.F8.lt (own_ne h.oD h.F8 (by decide))).trans h.F8, (hg.block _ h.F2.lt (own_ne h.oD h.F2 (by decide))).trans h.F2, ?_, ?_, h.below.grown hg h.below.size (fun k hk => by have := (World.ownsRow.lt h.oD k hk).1; omega), h.hb8⟩
  · exact own_of h.oS fun k hk => hg.block k (World.ownsRow.lt h.oS k hk).2 (own_apart h.oD h.oS (by decide) k hk)
  · unfold OwnI
    simpa using ho
theorem Mid.set {v0' v1' : Value} {g' : Int} {cl' : Bool} (h : Mid w wq b8 v0 v1 g cl S A1 C1 D A2 C2) {w' : World} (hF : FAt w' b8 v0' v1' (.int .i64 g') (.bool cl')) (hk : ∀ k, k ≠ b8 → w'.heap[k]? = wq.heap[k]?) (hb : Below w.heap.size w w') : Mid w w' b8 v0' v1' g' cl' S A1 C1 D A2 C2 :=
  ⟨hF, (hk _ (by have := h.hb8; omega)).trans h.F2, own_of h.oS fun k e => hk k (fun e2 => own_ne h.oS h.F8 (by decide) (e2 ▸ e).symm), own_of h.oD fun k e => hk k (fun e2 => own_ne h.oD h.F8 (by decide) (e2 ▸ e).symm), hb, h.hb8⟩
/-- how it ends -/
theorem Mid.fin {sb0 db0 : Nat} {x0 : Line} {f : Func} {p q : Tmp} (hres : f.results = #[.cell p 37, .tmp q]) (h : Mid w wq b8 v0 v1 g cl S A1 C1 D A2 C2) (hlS : S.length * 16 ≤ 140737488351232) (hlD : D.length * 8 ≤ 140737488351232) (nS nD : Nat) (eS : nS = S.length) (eD : nD = D.length) (er : Int) (r : Line × Int) (hr : r = (⟨S, D, g, cl⟩, er)) (act : Act)
    (h8 : act.tmps.getD p undef = .pointer (some ⟨w.heap.size + 1, 0, none⟩)) (h9 : act.tmps.getD q undef = .int .i64 er) (hd : act.defers = []) :
    bodyPost Tryz.prog f (fun e w' => Ans sb0 db0 x0 w r e w') Exit.ret act (set4 wq (w.heap.size + 1) (.slice A1 nS C1) (.slice A2 nD C2) (.int .i64 g) (.bool cl)) := by
  obtain ⟨g1, g2, L, l1, l2⟩ := OwnL.at (x := ⟨S, D, g, cl⟩) ⟨h.oS, h.oD, fun k h1 h2 => own_apart h.oD h.oS (by decide) k h1 h2.symm⟩ hlS hlD
  exact line_end hres h.F2 h.below (Nat.le_succ _) ⟨S, D, g, cl⟩ A1 A2 C1 C2 g1 0 g2 0 L (fun h0 => by have := (l1 h0).1; omega) (fun h0 => by have := (l2 h0).1; omega) (fun h0 => .inr (by have := (l1 h0).1; omega)) (fun h0 => .inr (by have := (l2 h0).1; omega)) nS nD eS eD er r hr act h8 h9 hd
end
theorem one_new {w : World} {q : Nat} {v : Value} (hc : w.cell? ⟨q, 0, none⟩ = some v) : ∀ ad, some (⟨q, 0, none⟩ : Addr) = some ad → ∀ j u, [v][j]? = some u → w.cell? (ad.add j) = some u := by
  intro ad e j u hu
  cases e
  match j with
  | 0 => simp at hu; subst hu; rw [Addr.add_lit]; exact hc
  | j + 1 => simp at hu
section
variable {w wq : World} {b8 : Nat} {v0 v1 : Value} {g : Int} {cl : Bool} {S : List ByteArray} {A1 : Option Addr} {C1 : Nat} {D : List Int} {A2 : Option Addr} {C2 : Nat}
theorem stepS {ops : Array Oper} {o : Oper} {a : Act} {K : Act → World → Prop} {Q : Exit → Act → World → Prop} {E : Prop} (hg : o.guard = none) (x y : Operand)
    (hop : o.op = Op.call { callee := Callee.builtin Builtin.append, args := #[x, y], argTypes := #[35, 35] }) (hM : Mid w wq b8 v0 v1 g cl S A1 C1 D A2 C2) (hx : a.eval x = .slice A1 S.length C1) (q : Nat) (hy : a.eval y = .slice (some ⟨q, 0, none⟩) 1 1) (s : ByteArray)
    (hc : wq.cell? ⟨q, 0, none⟩ = some (.string s)) (hl : S.length < 400)
    (hK : ∀ A C w', Mid w w' b8 v0 v1 g cl (S ++ [s]) A C D A2 C2 ∧ (∀ (k : Nat) (u : Value), wq.heap[k]? = some (Obj.cells #[u] 3) → w'.heap[k]? = some (Obj.cells #[u] 3)) → K (a.put o.dst (.slice A (S.length + 1) C)) w') :
    if Region.wanted o (yielded ops a.tmps) = true then Oper.wp Tryz.prog o a wq K Q else E := by
  obtain ⟨i0, hi, hz0, hz1, hz2⟩ := info_parts infoStr
  refine step_app hg x y 35 hop (w.heap.size + 2) 9 i0 _ 1 16 Tryz.underlying35 hi hz0 hz1 hz2 rfl (by decide) _ S.length (S.map .string) hx hM.oS (some ⟨q, 0, none⟩) 1 1 [.string s] hy rfl (fun h => by cases h) (one_new hc) (by simp [Value.oneCell']) (by unfold maxLen; omega) (by omega) (by have := hM.F2.lt; omega) ?_
  intro A C w' ho hgr
  refine hK A C w' ⟨hM.appS ho hgr, fun k u hk => (hgr.block k (Array.getElem?_eq_some_iff.1 hk).1 (own_ne hM.oS hk (by decide))).trans hk⟩
theorem stepD {ops : Array Oper} {o : Oper} {a : Act} {K : Act → World → Prop} {Q : Exit → Act → World → Prop} {E : Prop} (hg : o.guard = none) (x y : Operand)
    (hop : o.op = Op.call { callee := Callee.builtin Builtin.append, args := #[x, y], argTypes := #[34, 34] }) (hM : Mid w wq b8 v0 v1 g cl S A1 C1 D A2 C2) (hx : a.eval x = .slice A2 D.length C2) (q : Nat) (hy : a.eval y = .slice (some ⟨q, 0, none⟩) 1 1) (s : Int)
    (hc : wq.cell? ⟨q, 0, none⟩ = some (.int .i64 s)) (hl : D.length < 400)
    (hK : ∀ A C w', Mid w w' b8 v0 v1 g cl S A1 C1 (D ++ [s]) A C → K (a.put o.dst (.slice A (D.length + 1) C)) w') :
    if Region.wanted o (yielded ops a.tmps) = true then Oper.wp Tryz.prog o a wq K Q else E := by
  obtain ⟨i0, hi, hz0, hz1, hz2⟩ := info_parts infoI
  refine step_app hg x y 34 hop (w.heap.size + 2) 3 i0 _ 1 8 Tryz.underlying34 hi hz0 hz1 hz2 rfl (by decide) _ D.length (D.map (.int .i64)) hx hM.oD (some ⟨q, 0, none⟩) 1 1 [.int .i64 s] hy rfl (fun h => by cases h) (one_new hc) (by simp [Value.oneCell']) (by unfold maxLen; omega) (by omega) (by have := hM.F2.lt; omega) ?_
  intro A C w' ho hgr
  exact hK A C w' (hM.appD ho hgr)
end
theorem q_new (w : World) (u : Value) (e : TypeId) : (w.alloc (.cells #[u] e)).heap[w.heap.size]? = some (.cells #[u] e) := heap_alloc_new _ _
theorem q_new1 (w : World) (o : Obj) (u : Value) (e : TypeId) : ((w.alloc o).alloc (.cells #[u] e)).heap[w.heap.size + 1]? = some (.cells #[u] e) := by
  have := heap_alloc_new (w.alloc o) (.cells #[u] e)
  rwa [show (w.alloc o).heap.size = w.heap.size + 1 by simp] at this
theorem q_old (w : World) (o : Obj) (u : Value) (e : TypeId) : ((w.alloc (.cells #[u] e)).alloc o).heap[w.heap.size]? = some (.cells #[u] e) := (Below.heap_alloc _ _ _ (by simp)).trans (heap_alloc_new _ _)
theorem q_cell {w : World} {q : Nat} {u : Value} {e : TypeId} (h : w.heap[q]? = some (.cells #[u] e)) : w.cell? ⟨q, 0, none⟩ = some u := by simp [World.cell?, h]
end Go.Proofs.YtjghbciepinofaaGreat.Ln

set_option maxRecDepth 100000
namespace Go.Proofs.YtjghbciepinofaaGreat.Ln
open Go.RowKit
theorem rsay_cases (x : Line) (s : ByteArray) (due : Int) :
    (goodL x = false ∧ (sayL x s due, sayE x due) = (x, 2)) ∨ (goodL x = true ∧ ((due < 0 ∧ (sayL x s due, sayE x due) = (x, 2)) ∨ (0 ≤ due ∧ ((x.cl = true ∧ (sayL x s due, sayE x due) = (x, 11)) ∨ (x.cl = false ∧
      ((x.S.length = 400 ∧ (sayL x s due, sayE x due) = (x, 6)) ∨ (x.S.length < 400 ∧ (sayL x s due, sayE x due) = (⟨x.S ++ [s], x.D ++ [due], x.g, x.cl⟩, 0)))))))) := by
  have hc := say_cases x s due
  by_cases hg : goodL x = true
  · right
    have hl := goodL_len hg
    refine ⟨hg, ?_⟩
    rcases hc with ⟨h1, hr⟩ | ⟨h1, h2, hr⟩ | ⟨h1, h2, h3, hr⟩ | ⟨h1, h2, h3, hr⟩
    · exact .inl ⟨h1, hr⟩
    · refine .inr ⟨h1, .inl ?_⟩
      unfold refN at h2 hr
      rw [if_neg (by simp [hg])] at h2 hr
      cases hc : x.cl
      · rw [hc] at h2; exact absurd rfl h2
      · rw [hc, if_pos rfl] at hr; exact ⟨rfl, hr⟩
    · exact .inr ⟨h1, .inr ⟨(refN_good h2).2, .inl ⟨by omega, hr⟩⟩⟩
    · exact .inr ⟨h1, .inr ⟨(refN_good h2).2, .inr ⟨h3, hr⟩⟩⟩
  · left
    have hg' : goodL x = false := by simpa using hg
    refine ⟨hg', ?_⟩
    have hn : refN x = 2 := by unfold refN; rw [if_pos hg']
    rcases hc with ⟨h1, hr⟩ | ⟨h1, h2, hr⟩ | ⟨h1, h2, h3, hr⟩ | ⟨h1, h2, h3, hr⟩
    · exact hr
    · rw [hn] at hr; exact hr
    · rw [hn] at h2; cases h2
    · rw [hn] at h2; cases h2
set_option maxHeartbeats 8000000 in
theorem rsay_any (x : Line) (sa da : Option Addr) (cs cd sb so db dO : Nat) (s : ByteArray) (due : Int) (w : World) (L : LAt w x sa da cs cd sb so db dO) :
    Calls Tryz.prog 53 #[.agg #[.slice sa x.S.length cs, .slice da x.D.length cd, .int .i64 x.g, .bool x.cl], .string s, .int .i64 due] w fun e w' => Ans sb db x w (sayL x s due, sayE x due) e w' := by
  have hcs := rsay_cases x s due
  generalize (sayL x s due, sayE x due) = r at *
  have HB := hide (begun L)
  have HGOOD := hide (fun w (L : LAt w x sa da cs cd sb so db dO) => rgood_any x sa da cs cd sb so db dO w L)
  have HLEN := hide (goodL_len (x := x))
  clear L
  obtain ⟨i0, hi, hz0, hz1, hz2⟩ := info_parts infoStr
  obtain ⟨j0, hj, hy0, hy1, hy2⟩ := info_parts infoI
  go_enter Tryz.func53, Tryz.ntmps53
  go_upto_region 1 with fail
  generalize ((w.alloc (.cells #[.slice sa x.S.length cs, .slice da x.D.length cd, .int .i64 x.g, .bool x.cl] 37)).alloc (.cells #[.slice none 0 0, .slice none 0 0, .int .i64 0, .bool false] 37)) = w0 at *
  obtain ⟨⟨c0, c1, c2, c3⟩, -⟩ := HB.out.F1.facts
  obtain ⟨⟨d0, d1, d2, d3⟩, ⟨f0, f1, f2, f3⟩⟩ := HB.out.F2.facts
  generalize goodL x = G at *
  rcases hcs with ⟨rfl, hr⟩ | ⟨rfl, hcs⟩
  · have HR := hide hr
    clear hr
    go_wp2_with (go_at_call 93; refine (HGOOD.out _ HB.out.L).mono ?_; rintro e w1 ⟨rfl, hb⟩; have HB1 := hide (HB.out.over hb); clear hb c0 c1 c2 c3 d0 d1 d2 d3 f0 f1 f2 f3; obtain ⟨⟨c0, c1, c2, c3⟩, -⟩ := HB1.out.F1.facts; obtain ⟨⟨d0, d1, d2, d3⟩, ⟨f0, f1, f2, f3⟩⟩ := HB1.out.F2.facts)
    exact HB1.out.asItWas rfl _ _ HR.out _ rfl rfl rfl
  obtain ⟨hl1, hl2, -, -⟩ := HLEN.out rfl
  have HL1 := hide hl1
  clear hl1
  rcases hcs with ⟨h2, hr⟩ | ⟨h2, hcs⟩
  · have HR := hide hr
    clear hr
    go_wp2_with (go_at_call 93; refine (HGOOD.out _ HB.out.L).mono ?_; rintro e w1 ⟨rfl, hb⟩; have HB1 := hide (HB.out.over hb); clear hb c0 c1 c2 c3 d0 d1 d2 d3 f0 f1 f2 f3; obtain ⟨⟨c0, c1, c2, c3⟩, -⟩ := HB1.out.F1.facts; obtain ⟨⟨d0, d1, d2, d3⟩, ⟨f0, f1, f2, f3⟩⟩ := HB1.out.F2.facts)
    exact HB1.out.asItWas rfl _ _ HR.out _ rfl rfl rfl
  go_upto_region 3 with (go_at_call 93; refine (HGOOD.out _ HB.out.L).mono ?_; rintro e w1 ⟨rfl, hb⟩; have HB1 := hide (HB.out.over hb); clear hb c0 c1 c2 c3 d0 d1 d2 d3 f0 f1 f2 f3; obtain ⟨⟨c0, c1, c2, c3⟩, -⟩ := HB1.out.F1.facts; obtain ⟨⟨d0, d1, d2, d3⟩, ⟨f0, f1, f2, f3⟩⟩ := HB1.out.F2.facts)
  clear HB HGOOD w0
  obtain ⟨S, D, g, cl⟩ := x
  dsimp only at *
  rcases hcs with ⟨rfl, hr⟩ | ⟨rfl, hcs⟩
  · have HR := hide hr
    clear hr
    go_wp2
    exact HB1.out.asItWas rfl _ _ HR.out _ rfl rfl rfl
  rcases hcs with ⟨h4, hr⟩ | ⟨h4, hr⟩
  · have HR := hide hr
    have h4' : ((S.length : Int) == 400) = true := by simp; omega
    clear hr h4 hl2 HL1 HLEN
    go_wp2
    exact HB1.out.asItWas rfl _ _ HR.out _ rfl rfl rfl
  have HR := hide hr
  have h4' : ((S.length : Int) == 400) = false := by simp; omega
  clear hr
  have HCOPY := hide (copy_any ⟨S, D, g, false⟩ sa da cs cd sb so db dO w1 HB1.out.L)
  dsimp only at HCOPY
  go_upto_region 8 with (go_at_call 43; refine HCOPY.out.mono ?_; rintro e w2 ⟨A1, C1, A2, C2, rfl, hO, hb⟩; have HO := hide hO; have HB2 := hide (HB1.out.over hb); clear hb hO c0 c1 c2 c3 d0 d1 d2 d3 f0 f1 f2 f3)
  have M0 : Mid w (w2.alloc (.cells #[.slice A1 S.length C1, .slice A2 D.length C2, .int .i64 g, .bool false] 37)) w2.heap.size (.slice A1 S.length C1) (.slice A2 D.length C2) g false S A1 C1 D A2 C2 :=
    ⟨FAt.new w2 _ _ _ _, HB2.out.F2.alloc _, World.ownsRow.alloc (own_base HO.out.oS (by have := HB1.out.size; omega)) _, World.ownsRow.alloc (own_base HO.out.oD (by have := HB1.out.size; omega)) _, HB2.out.below.alloc HB2.out.below.size _, HB2.out.size⟩
  have hb8 := HB2.out.size
  clear HO HB2 HB1 HCOPY
  generalize w2.heap.size = b8 at *
  generalize w2.alloc (.cells #[.slice A1 S.length C1, .slice A2 D.length C2, .int .i64 g, .bool false] 37) = w3 at *
  have HM := hide M0
  obtain ⟨⟨c0, c1, c2, c3⟩, -⟩ := M0.F8.facts
  have z3 := M0.F8.lt
  clear M0
  have hlD : D.length < 400 := by rw [HL1.out]; exact h4
  go_region_law (first
    | (refine stepS rfl _ _ rfl (HM.out.alloc (.cells #[.string s] 9)).drew rfl _ rfl s (q_cell (q_new w3 _ _)) h4 ?_; rintro A3 C3 w4 ⟨hM, hq⟩; have HM4 := hide hM; have z4 := hM.F8.lt; clear c0 c1 c2 c3; obtain ⟨⟨c0, c1, c2, c3⟩, ⟨e0, e1, e2, e3⟩⟩ := hM.F8.facts; clear hM hq)
    | (refine stepS rfl _ _ rfl ((HM.out.alloc (.cells #[.string s] 9)).alloc (.cells #[.int .i64 due] 3)).drew rfl _ rfl s (q_cell (q_old w3 _ _ _)) h4 ?_; rintro A3 C3 w4 ⟨hM, hq⟩; have HM4 := hide hM; have z4 := hM.F8.lt; clear c0 c1 c2 c3; obtain ⟨⟨c0, c1, c2, c3⟩, ⟨e0, e1, e2, e3⟩⟩ := hM.F8.facts; have kq := hq _ _ (q_new1 w3 (.cells #[.string s] 9) (.int .i64 due) _); clear hM hq)
    | (refine stepS rfl _ _ rfl ((HM.out.alloc (.cells #[.int .i64 due] 3)).alloc (.cells #[.string s] 9)).drew rfl _ rfl s (q_cell (q_new1 w3 _ _ _)) h4 ?_; rintro A3 C3 w4 ⟨hM, hq⟩; have HM4 := hide hM; have z4 := hM.F8.lt; clear c0 c1 c2 c3; obtain ⟨⟨c0, c1, c2, c3⟩, ⟨e0, e1, e2, e3⟩⟩ := hM.F8.facts; have kq := hq _ _ (q_old w3 (.cells #[.string s] 9) (.int .i64 due) _); clear hM hq)
    | (refine stepD rfl _ _ rfl HM4.out rfl _ rfl due (q_cell kq) hlD ?_; rintro A4 C4 w5 hM; have HM5 := hide hM; have z5 := hM.F8.lt; clear c0 c1 c2 c3 e0 e1 e2 e3; obtain ⟨⟨c0, c1, c2, c3⟩, ⟨e0, e1, e2, e3⟩⟩ := hM.F8.facts; clear hM)
    | (refine stepD rfl _ _ rfl (HM4.out.alloc (.cells #[.int .i64 due] 3)) rfl _ rfl due (q_cell (q_new w4 _ _)) hlD ?_; rintro A4 C4 w5 hM; have HM5 := hide hM; have z5 := hM.F8.lt; clear c0 c1 c2 c3 e0 e1 e2 e3; obtain ⟨⟨c0, c1, c2, c3⟩, ⟨e0, e1, e2, e3⟩⟩ := hM.F8.facts; clear hM))
  all_goals
    have M6 := HM5.out.set ((HM5.out.F8.set_0 (.slice A3 (S.length + 1) C3)).set_1 (.slice A4 (D.length + 1) C4)) (fun k hk => by rw [Below.heap_setCell _ _ _ _ hk, Below.heap_setCell _ _ _ _ hk]) ((HM5.out.below.setCell (p := ⟨b8, 0, none⟩) (by show w.heap.size ≤ b8; omega) (.slice A3 (S.length + 1) C3)).setCell (p := ⟨b8, 1, none⟩) (by show w.heap.size ≤ b8; omega) (.slice A4 (D.length + 1) C4))
    clear c0 c1 c2 c3 e0 e1 e2 e3
    generalize (w5.setCell ⟨b8, 0, none⟩ (.slice A3 (S.length + 1) C3)).setCell ⟨b8, 1, none⟩ (.slice A4 (D.length + 1) C4) = w6 at *
    obtain ⟨⟨c0, c1, c2, c3⟩, -⟩ := M6.F8.facts
    obtain ⟨⟨d0, d1, d2, d3⟩, ⟨f0, f1, f2, f3⟩⟩ := M6.F2.facts
    have HM6 := hide M6
    clear M6
    go_wp2
    exact HM6.out.fin rfl (by simp; omega) (by simp; omega) _ _ (by simp) (by simp) _ _ HR.out _ rfl rfl rfl
end Go.Proofs.YtjghbciepinofaaGreat.Ln

set_option maxRecDepth 100000
namespace Go.Proofs.YtjghbciepinofaaGreat
open Go.RowKit
/-- the cells behind an address -/
def srcCells (w : World) (ao : Option Addr) (m : Nat) : List Value := (List.range m).map fun j => (ao.bind fun a => w.cell? (a.add j)).getD undef
/-- what may be copied: nothing, or cells that are there, not too many -/
def Src (w : World) (ao : Option Addr) (n size bytes : Nat) : Prop := n * bytes ≤ 140737488351232 ∧ (n = 0 ∨ ∃ a, ao = some a ∧ ∀ j, j < n * size → ∃ u, w.cell? (a.add j) = some u)
def cpA (w : World) (n : Nat) : Option Addr := if n = 0 then none else some ⟨w.heap.size, 0, none⟩
def cpC (w : World) (n e : Nat) : Nat := if n = 0 then 0 else grownCap w n 0 e
def cpW (w : World) (ao : Option Addr) (n size e : Nat) (z : Value) : World := if n = 0 then w else w.drew.alloc (.cells ((srcCells w ao (n * size)).toArray ++ Builtin.zeroCells z.cells (grownCap w n 0 e - n)) e)
theorem src_hnews {w : World} {a : Addr} {m : Nat} (h : ∀ j, j < m → ∃ u, w.cell? (a.add j) = some u) : ∀ j u, (srcCells w (some a) m)[j]? = some u → w.cell? (a.add j) = some u := by
  intro j u hj
  have hjm : j < m := by
    rcases Nat.lt_or_ge j m with h | h
    · exact h
    · rw [List.getElem?_eq_none (by simp [srcCells]; exact h)] at hj; cases hj
  obtain ⟨v, hv⟩ := h j hjm
  simp [srcCells, hjm, hv] at hj
  rw [hv, hj]
theorem append_copy (t ty e : TypeId) (i : TypeInfo) (z : Value) (size bytes : Nat) (ht : Tryz.prog.underlying t = some (.slice e)) (hi : Tryz.prog.info? e = some i) (hz : i.zero = some z) (hsz : i.size = size) (hby : i.bytes = bytes)
    (hb8 : 8 ≤ bytes) (w : World) (ao : Option Addr) (n c : Nat) (h : Src w ao n size bytes) :
    (Builtin.append_ #[t, t] ty #[.slice none 0 0, .slice ao n c]).run Tryz.prog w = .ok (.slice (cpA w n) n (cpC w n e)) (cpW w ao n size e z) := by
  by_cases h0 : n = 0
  · subst h0
    simp only [cpA, cpC, cpW, if_pos]
    cases ao <;> simp [Builtin.append_, run_underlying ht, sizeOf, typeInfo, hi, Builtin.lenOf, Builtin.firstCells, loadCells, loadCellsFrom]
  · obtain ⟨hb, hs⟩ := h
    rcases hs with hs | ⟨a, rfl, hs⟩
    · exact absurd hs h0
    subst hsz hby
    have hle : n ≤ 140737488351232 := by
      have : n * 1 ≤ n * i.bytes := Nat.mul_le_mul_left n (by omega)
      omega
    have hr := run_append_nil (P := Tryz.prog) w t ty e i z ht hi hz a n c (srcCells w (some a) (n * i.size)) (by simp [srcCells]) (src_hnews hs) (by omega) (by omega) (by omega)
    rw [hr, cpA, cpC, cpW, if_neg h0, if_neg h0, if_neg h0]
theorem info44 : (Tryz.prog.info? 127).map (fun i => (i.zero, i.size, i.bytes)) = some (some (.agg #[.int .i64 0, .int .i64 0, .int .i64 0, .int .i64 0, .int .i64 0, .int .i64 0, .int .i64 0, .int .i64 0]), 8, 64) := by kernel_rfl
theorem apW (w : World) (ao : Option Addr) (n c : Nat) (h : Src w ao n 8 64) :
    (Builtin.append_ #[30, 30] 30 #[.slice none 0 0, .slice ao n c]).run Tryz.prog w = .ok (.slice (cpA w n) n (cpC w n 127)) (cpW w ao n 8 127 (.agg #[.int .i64 0, .int .i64 0, .int .i64 0, .int .i64 0, .int .i64 0, .int .i64 0, .int .i64 0, .int .i64 0])) := by
  obtain ⟨i0, hi, hz0, hz1, hz2⟩ := info_parts info44
  exact append_copy 30 30 127 i0 _ 8 64 Tryz.underlying30 hi hz0 hz1 hz2 (by omega) w ao n c h
theorem cpW_below (w : World) (ao : Option Addr) (n size e : Nat) (z : Value) : Below w.heap.size w (cpW w ao n size e z) := by
  unfold cpW
  split
  · exact Below.refl _ _
  · exact (Below.refl _ _).drew.alloc (Nat.le_refl _) _
theorem Src.later {w w' : World} {ao : Option Addr} {n size bytes : Nat} (h : Src w ao n size bytes) (hb : Below w.heap.size w w') : Src w' ao n size bytes := by
  refine ⟨h.1, ?_⟩
  rcases h.2 with h0 | ⟨a, rfl, hs⟩
  · exact .inl h0
  · refine .inr ⟨a, rfl, fun j hj => ?_⟩
    obtain ⟨u, hu⟩ := hs j hj
    exact ⟨u, (hb.cell (p := a.add j) (World.block_lt_of_cell? w _ hu)).trans hu⟩
/-- n elements have been copied behind an address: into new memory; old memory is as it was -/
structure Copied (w : World) (ao : Option Addr) (n size : Nat) (A : Option Addr) (w' : World) : Prop where
  below : Below w.heap.size w w'
  cells : 0 < n → ∃ a g, ao = some a ∧ A = some ⟨g, 0, none⟩ ∧ w.heap.size ≤ g ∧ ∀ j, j < n * size → w'.cell? ⟨g, j, none⟩ = w.cell? (a.add j)
theorem copied_of (w : World) (ao : Option Addr) (n size bytes e : Nat) (z : Value) (h : Src w ao n size bytes) : Copied w ao n size (cpA w n) (cpW w ao n size e z) := by
  refine ⟨cpW_below _ _ _ _ _ _, fun h0 => ?_⟩
  rcases h.2 with hn | ⟨a, rfl, hs⟩
  · omega
  refine ⟨a, w.heap.size, rfl, by rw [cpA, if_neg (by omega)], Nat.le_refl _, fun j hj => ?_⟩
  obtain ⟨u, hu⟩ := hs j hj
  rw [cpW, if_neg (by omega), hu, show (⟨w.heap.size, j, none⟩ : Addr) = ⟨w.drew.heap.size, j, none⟩ from rfl, World.cell?_alloc_at _ _ _ _ rfl]
  rw [Array.getElem?_append_left (by simp [srcCells]; exact hj)]
  simp [srcCells, hj, hu]
theorem wpList_copyW {ops : Array Oper} {rest : List Oper} {o : Oper} {a : Act} {w : World} {Q : Exit → Act → World → Prop} (hg : o.guard = none) (hty : o.type = 30) (s x : Operand)
    (hop : o.op = Op.call { callee := Callee.builtin Builtin.append, args := #[s, x], argTypes := #[30, 30] }) (ao : Option Addr) (n c : Nat) (hs : a.eval s = .slice none 0 0) (hx : a.eval x = .slice ao n c) (h : Src w ao n 8 64)
    (hK : ∀ A C w', Copied w ao n 8 A w' → wpList Tryz.prog ops Q rest (a.put o.dst (.slice A n C)) w') : wpList Tryz.prog ops Q (o :: rest) a w := by
  refine wpList_plain hg fun _ hK' => ?_
  unfold Oper.wp
  have hr := apW w ao n c h
  simp [execOp, hop, resolve, invoke, builtin, hs, hx, hty, hr, Result.andThen]
  exact hK' _ _ (hK _ _ _ (copied_of w ao n 8 64 127 _ h))
theorem copy_facts {w w1 : World} {cs : Array Value} {sa A : Option Addr} {n cp C : Nat} (hcp : Copied ((w.alloc (.cells cs 32)).alloc (.cells Z63 32)) sa n 8 A w1) (h61 : cs[61]? = some (.slice sa n cp)) :
    w1.cell? ⟨w.heap.size, 61, none⟩ = some (.slice sa n cp) ∧ w1.frozen? ⟨w.heap.size, 61, none⟩ = false ∧ SAt (w1.setCell ⟨w.heap.size, 61, none⟩ (.slice A n C)) w.heap.size (cs.setIfInBounds 61 (.slice A n C)) ∧ SAt (w1.setCell ⟨w.heap.size, 61, none⟩ (.slice A n C)) (w.heap.size + 1) Z63 := by
  have S1 := ((SAt.new w cs).alloc (.cells Z63 32)).later hcp.below (by simp; omega)
  have R1 : SAt w1 (w.heap.size + 1) Z63 := (SAt.new2 w (.cells cs 32) Z63).later hcp.below (by simp)
  exact ⟨(S1.cell 61).trans h61, S1.free 61, S1.set 61 _, R1.other (by omega) _⟩
set_option maxHeartbeats 1000000 in
theorem copy_any (cs : Array Value) (sa : Option Addr) (n cp : Nat) (w : World) (hsz : cs.size = 63) (h61 : cs[61]? = some (.slice sa n cp)) (hone : cs.all (·.oneCell') = true) (hsrc : Src w sa n 8 64) :
    Calls Tryz.prog 42 #[.agg cs] w fun e w' => ∃ A C w0 w1, e = .returned (.agg (cs.setIfInBounds 61 (.slice A n C))) ∧ Below w.heap.size w w0 ∧ w.heap.size + 2 ≤ w0.heap.size ∧ Copied w0 sa n 8 A w1 ∧ Below w.heap.size w w' ∧ (∀ b, w.heap.size + 2 ≤ b → w'.heap[b]? = w1.heap[b]?) := by
  have h61' : cs[61]'(by omega) = .slice sa n cp := by simpa [Array.getElem?_eq_getElem (show 61 < cs.size by omega)] using h61
  go_enter Tryz.func42, Tryz.ntmps42
  go_upto_region 2 with (first
    | (at_builtin; refine wpList_copyW rfl rfl _ _ rfl sa n cp rfl (by simp [Act.eval]) (hsrc.later (((Below.refl _ w).alloc (Nat.le_refl _) _).alloc (by simp) _)) ?_; intro A C w1 hcp; obtain ⟨hx1, hy1, hS2, hR2⟩ := copy_facts (C := C) hcp h61; have hrg := hS2.range; have HR2 : Hid (SAt (w1.setCell ⟨w.heap.size, 61, none⟩ (.slice A n C)) (w.heap.size + 1) Z63) := hR2; have HCP : Hid (Copied _ sa n 8 A w1) := hcp; clear hS2 hR2 hcp))
  have HBw : Hid (Below w.heap.size w w1) := (((Below.refl _ w).alloc (Nat.le_refl _) _).alloc (by simp) _).trans (HCP.out.below.mono (by simp; omega))
  apply wp_region_lit
  refine wpList_load_mid rfl 32 _ rfl w.heap.size 0 rfl _ _ hrg Tryz.underlying32 rfl (by rw [infoS]; simp [hsz]) ?_
  refine wpList_store_mid rfl 32 _ _ rfl (w.heap.size + 1) 0 (cs.setIfInBounds 61 (.slice A n C)) rfl rfl (HR2.out.there 0 _ (by simp [Z63, hsz])) (by rw [infoS]; simp [hsz]) (all_set hone rfl) ?_
  go_wp2
  have R3 := HR2.out.setAll (ds := cs.setIfInBounds 61 (.slice A n C)) (by simp [Z63, hsz])
  refine bodyPost_ret (v := .agg (cs.setIfInBounds 61 (.slice A n C))) ?_ rfl ⟨A, C, _, w1, rfl, ((Below.refl _ w).alloc (Nat.le_refl _) _).alloc (by simp) _, by simp, HCP.out, below_sets (by omega) _ _ _ (HBw.out.setCell (by simp) _), fun b hb => (heap_sets (by omega) _ _ _).trans (Below.heap_setCell _ _ _ _ (by simp; omega))⟩
  exact results_cell_row rfl _ _ _ _ _ _ _ rfl R3 Tryz.underlying32 rfl (by rw [infoS]; simp [hsz])
theorem ws_src {w : World} {ao : Option Addr} {b o : Nat} {W : List Wt} (h : WsAt w ao b o W) : Src w ao W.length 8 64 := by
  refine ⟨h.len, ?_⟩
  rcases Nat.eq_zero_or_pos W.length with h0 | h0
  · exact .inl h0
  · refine .inr ⟨_, h.adr h0, fun j hj => ?_⟩
    have hi : j / 8 < W.length := by omega
    obtain ⟨c0, c1, c2, c3, c4, c5, c6, c7⟩ := h.cell (j / 8) _ (List.getElem?_eq_getElem hi)
    rw [Addr.add_lit]
    rcases (show j % 8 = 0 ∨ j % 8 = 1 ∨ j % 8 = 2 ∨ j % 8 = 3 ∨ j % 8 = 4 ∨ j % 8 = 5 ∨ j % 8 = 6 ∨ j % 8 = 7 by omega) with e | e | e | e | e | e | e | e
    · rw [show o + j = o + j / 8 * 8 by omega]; exact ⟨_, c0⟩
    · rw [show o + j = o + j / 8 * 8 + 1 by omega]; exact ⟨_, c1⟩
    · rw [show o + j = o + j / 8 * 8 + 2 by omega]; exact ⟨_, c2⟩
    · rw [show o + j = o + j / 8 * 8 + 3 by omega]; exact ⟨_, c3⟩
    · rw [show o + j = o + j / 8 * 8 + 4 by omega]; exact ⟨_, c4⟩
    · rw [show o + j = o + j / 8 * 8 + 5 by omega]; exact ⟨_, c5⟩
    · rw [show o + j = o + j / 8 * 8 + 6 by omega]; exact ⟨_, c6⟩
    · rw [show o + j = o + j / 8 * 8 + 7 by omega]; exact ⟨_, c7⟩
/-- the copied cells are the waits -/
theorem ws_copied {w w' : World} {b o g : Nat} {W : List Wt} {ao : Option Addr} (h : WsAt w ao b o W) (hc : ∀ j, j < W.length * 8 → w'.cell? ⟨g, j, none⟩ = w.cell? ⟨b, o + j, none⟩) : WsAt w' (some ⟨g, 0, none⟩) g 0 W := by
  refine ⟨fun _ => rfl, h.len, fun i x hx => ?_⟩
  have hi := (List.getElem?_eq_some_iff.1 hx).1
  obtain ⟨c0, c1, c2, c3, c4, c5, c6, c7⟩ := h.cell i x hx
  rw [Nat.zero_add]
  refine ⟨?_, ?_, ?_, ?_, ?_, ?_, ?_, ?_⟩
  · rw [hc _ (by omega)]; exact c0
  · rw [hc _ (by omega), show o + (i * 8 + 1) = o + i * 8 + 1 by omega]; exact c1
  · rw [hc _ (by omega), show o + (i * 8 + 2) = o + i * 8 + 2 by omega]; exact c2
  · rw [hc _ (by omega), show o + (i * 8 + 3) = o + i * 8 + 3 by omega]; exact c3
  · rw [hc _ (by omega), show o + (i * 8 + 4) = o + i * 8 + 4 by omega]; exact c4
  · rw [hc _ (by omega), show o + (i * 8 + 5) = o + i * 8 + 5 by omega]; exact c5
  · rw [hc _ (by omega), show o + (i * 8 + 6) = o + i * 8 + 6 by omega]; exact c6
  · rw [hc _ (by omega), show o + (i * 8 + 7) = o + i * 8 + 7 by omega]; exact c7
theorem copy_st (s : St) (ao : Option Addr) (sb so c : Nat) (w : World) (hW : WsAt w ao sb so s.W) :
    Calls Tryz.prog 42 #[.agg (stC s (.slice ao s.W.length c))] w fun e w' => ∃ A C g, e = .returned (.agg (stC s (.slice A s.W.length C))) ∧ WsAt w' A g 0 s.W ∧ (0 < s.W.length → w.heap.size ≤ g) ∧ Below w.heap.size w w' := by
  refine (copy_any (stC s (.slice ao s.W.length c)) ao s.W.length c w (stC_size _ _) (stC_61 _ _) (stC_one _ _ _ _) (ws_src hW)).mono ?_
  rintro e w' ⟨A, C, w0, w1, rfl, h0, h2, hcp, hb, hsame⟩
  rcases Nat.eq_zero_or_pos s.W.length with hz | hz
  · refine ⟨A, C, 0, rfl, ⟨fun h => by omega, hW.len, fun i x hx => ?_⟩, fun h => by omega, hb⟩
    have := (List.getElem?_eq_some_iff.1 hx).1
    omega
  · obtain ⟨a, g, ha, rfl, hg, hc⟩ := hcp.cells hz
    have had := hW.adr hz
    rw [had] at ha
    cases ha
    have hlt := hW.lt hz
    refine ⟨some ⟨g, 0, none⟩, C, g, rfl, ws_copied hW fun j hj => ?_, fun _ => Nat.le_trans h0.size hg, hb⟩
    have e1 : w'.cell? ⟨g, j, none⟩ = w1.cell? ⟨g, j, none⟩ := World.cell?_of_block (w := w1) (hsame g (by omega))
    rw [e1, hc j hj, Addr.add_lit, h0.cell (p := ⟨sb, so + j, none⟩) hlt]
end Go.Proofs.YtjghbciepinofaaGreat

