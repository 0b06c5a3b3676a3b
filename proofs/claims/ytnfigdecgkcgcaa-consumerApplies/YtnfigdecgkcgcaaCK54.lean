/- Parts of the proof: LF LG. -/
import Derived.Test.YtnfigdecgkcgcaaRows
import Derived.Test.YtnfigdecgkcgcaaCK53
import Derived.Deep.RegionLaw
import Derived.Laws.OwnMore
import Derived.OneCell
import Derived.Deep.QuietTactic
import Derived.BigQuiet
import Derived.WalkSmall
set_option maxRecDepth 100000
namespace Go.Proofs.Ytnfigdecgkcgcaa.Ln
open Go.RowKit
/-- texts lie in a row of the call's own -/
def OwnS (B : Nat) (w : World) (A : Option Addr) (C : Nat) (l : List ByteArray) : Prop := w.ownsRow B 9 1 (.slice A l.length C) l.length (l.map .string)
/-- numbers lie in a row of the call's own -/
def OwnI (B : Nat) (w : World) (A : Option Addr) (C : Nat) (l : List Int) : Prop := w.ownsRow B 3 1 (.slice A l.length C) l.length (l.map (.int .i64))
theorem own_of {w w' : World} {b e z n : Nat} {v : Value} {xs : List Value} (h : w.ownsRow b e z v n xs) (hk : ∀ k, v.ownBlock = some k → w'.heap[k]? = w.heap[k]?) : w'.ownsRow b e z v n xs := by
  refine ⟨h.1, ?_⟩
  rcases h.2 with hn | ⟨g, cap, cur, rfl, hb, hg, rest⟩
  · exact .inl hn
  · exact .inr ⟨g, cap, cur, rfl, hb, (hk g rfl).trans hg, rest⟩
theorem own_over {w w' : World} {b e z n : Nat} {v : Value} {xs : List Value} (h : w.ownsRow b e z v n xs) (hb : Below w.heap.size w w') : w'.ownsRow b e z v n xs := own_of h fun k hk => hb.block k (World.ownsRow.lt h k hk).2
theorem own_form {w : World} {b e z n : Nat} {v : Value} {xs : List Value} (h : w.ownsRow b e z v n xs) : ∃ A C, v = .slice A n C := by
  rcases h.2 with ⟨hv, hn⟩ | ⟨g, cap, cur, hv, _⟩
  · subst hn; exact ⟨_, _, hv⟩
  · exact ⟨_, _, hv⟩
theorem OwnS.facts {B : Nat} {w : World} {A : Option Addr} {C : Nat} {l : List ByteArray} (h : OwnS B w A C l) : (A = none → C = 0) ∧ ∃ g, (0 < l.length → A = some ⟨g, 0, none⟩ ∧ B ≤ g ∧ g < w.heap.size) ∧ StrsAt w g 0 l := by
  rcases h.2 with ⟨hv, hn⟩ | ⟨g, cap, cur, hv, hb, hg, _⟩
  · simp at hv
    exact ⟨fun _ => hv.2.2, 0, fun h0 => by omega, fun i hi => by omega⟩
  · cases hv
    obtain ⟨o1, o2, o3⟩ := own_strs h
    exact ⟨fun h => (by cases h), g, fun _ => ⟨rfl, o1, o2⟩, o3⟩
theorem OwnI.facts {B : Nat} {w : World} {A : Option Addr} {C : Nat} {l : List Int} (h : OwnI B w A C l) : (A = none → C = 0) ∧ ∃ g, (0 < l.length → A = some ⟨g, 0, none⟩ ∧ B ≤ g ∧ g < w.heap.size) ∧ IntsAt w g 0 l := by
  rcases h.2 with ⟨hv, hn⟩ | ⟨g, cap, cur, hv, hb, hg, _⟩
  · simp at hv
    exact ⟨fun _ => hv.2.2, 0, fun h0 => by omega, fun i hi => by omega⟩
  · cases hv
    obtain ⟨o1, o2, o3⟩ := own_ints h
    exact ⟨fun h => (by cases h), g, fun _ => ⟨rfl, o1, o2⟩, o3⟩
/-- a line whose lists are rows of the call's own -/
structure OwnL (B : Nat) (w : World) (x : Line) (A1 A2 : Option Addr) (C1 C2 : Nat) : Prop where
  oS : OwnS B w A1 C1 x.S
  oD : OwnI B w A2 C2 x.D
  apart : ∀ k, (Value.slice A1 x.S.length C1).ownBlock = some k → (Value.slice A2 x.D.length C2).ownBlock ≠ some k
theorem OwnL.at {B : Nat} {w : World} {x : Line} {A1 A2 : Option Addr} {C1 C2 : Nat} (h : OwnL B w x A1 A2 C1 C2) (h1 : x.S.length * 16 ≤ 140737488351232) (h2 : x.D.length * 8 ≤ 140737488351232) : ∃ g1 g2, LAt w x A1 A2 C1 C2 g1 0 g2 0 ∧ (0 < x.S.length → B ≤ g1 ∧ g1 < w.heap.size) ∧ (0 < x.D.length → B ≤ g2 ∧ g2 < w.heap.size) := by
  obtain ⟨n1, g1, f1, p1⟩ := h.oS.facts
  obtain ⟨n2, g2, f2, p2⟩ := h.oD.facts
  exact ⟨g1, g2, ⟨h1, h2, fun h => (f1 h).1, fun h => (f2 h).1, n1, n2, p1, p2⟩, fun h => (f1 h).2, fun h => (f2 h).2⟩
theorem OwnL.over {B : Nat} {w w' : World} {x : Line} {A1 A2 : Option Addr} {C1 C2 : Nat} (h : OwnL B w x A1 A2 C1 C2) (hb : Below w.heap.size w w') : OwnL B w' x A1 A2 C1 C2 := ⟨own_over h.oS hb, own_over h.oD hb, h.apart⟩
/-- stores below the base change no own row -/
theorem OwnL.set {B : Nat} {w : World} {x : Line} {A1 A2 : Option Addr} {C1 C2 : Nat} (h : OwnL B w x A1 A2 C1 C2) {w' : World} (hk : ∀ k, B ≤ k → k < w.heap.size → w'.heap[k]? = w.heap[k]?) : OwnL B w' x A1 A2 C1 C2 :=
  ⟨own_of h.oS fun k e => hk k (World.ownsRow.lt h.oS k e).1 (World.ownsRow.lt h.oS k e).2, own_of h.oD fun k e => hk k (World.ownsRow.lt h.oD k e).1 (World.ownsRow.lt h.oD k e).2, h.apart⟩
end Go.Proofs.Ytnfigdecgkcgcaa.Ln

set_option maxRecDepth 100000
namespace Go.Proofs.Ytnfigdecgkcgcaa.Ln
open Go.RowKit
set_option maxHeartbeats 1000000 in
/-- numbers that are alike -/
theorem nums_same (l : List Int) (a a' : Option Addr) (c c' b off b' off' : Nat) (w : World) (hlen : l.length * 8 ≤ 140737488351232) (ha : 0 < l.length → a = some ⟨b, off, none⟩) (ha' : 0 < l.length → a' = some ⟨b', off', none⟩)
    (hc : IntsAt w b off l) (hc' : IntsAt w b' off' l) :
    Calls Try.prog 66 #[.slice a l.length c, .slice a' l.length c'] w fun e w' => e = .returned (.bool true) ∧ Below w.heap.size w w' := by
  have HA := hide ha
  have HA' := hide ha'
  have HC := hide hc
  have HC' := hide hc'
  clear ha ha' hc hc'
  go_enter Try.func66, Try.ntmps66
  go_upto_region 4 with fail
  go_loopw [13] (fun i wl => ∃ (k : Nat), k ≤ l.length ∧ i = .int .i64 (k : Int) ∧ Hid (Below w.heap.size w wl)) (fun i _ => l.length - (intOf i).toNat)
  case atStart => exact ⟨0, Nat.zero_le _, rfl, Below.refl _ _⟩
  case round =>
    obtain ⟨k, hk, rfl, HR⟩ := hrel
    by_cases hlt : k < l.length
    · have c1 := HC.out.later HR.out k hlt
      have c2 := HC'.out.later HR.out k hlt
      have e := HA.out (by omega)
      subst e
      have e := HA'.out (by omega)
      subst e
      generalize l.getD k 0 = n at *
      have hkI : (k : Int) < (l.length : Int) := by omega
      go_upto_region 6 with fail
      go_quiet (fail)
      go_wp2
      exact ⟨⟨k + 1, by omega, by go_num, ⟨HR.out.os, HR.out.tape, HR.out.output, HR.out.size, HR.out.block⟩⟩, by simp [intOf]; omega⟩
    · obtain rfl : k = l.length := by omega
      go_wp2
      go_ret
      exact ⟨rfl, HR.out⟩
set_option maxHeartbeats 1000000 in
/-- lines that are alike -/
theorem same_any (x : Line) (sa da sa' da' : Option Addr) (cs cd sb so db dO cs' cd' sb' so' db' dO' : Nat) (w : World) (L : LAt w x sa da cs cd sb so db dO) (L' : LAt w x sa' da' cs' cd' sb' so' db' dO') :
    Calls Try.prog 40 #[.agg #[.slice sa x.S.length cs, .slice da x.D.length cd, .int .i64 x.g, .bool x.cl], .agg #[.slice sa' x.S.length cs', .slice da' x.D.length cd', .int .i64 x.g, .bool x.cl]] w fun e w' => e = .returned (.bool true) ∧ Below w.heap.size w w' := by
  obtain ⟨S, D, g, cl⟩ := x
  dsimp only
  have hlS : S.length * 16 ≤ 140737488351232 := L.hls
  have hlD : D.length * 8 ≤ 140737488351232 := L.hld
  have HL := hide L
  have HL' := hide L'
  have F1 := (FAt.new w (.slice sa S.length cs) (.slice da D.length cd) (.int .i64 g) (.bool cl)).alloc (.cells #[.slice sa' S.length cs', .slice da' D.length cd', .int .i64 g, .bool cl] 29)
  have F2 := FAt.new2 w (.cells #[.slice sa S.length cs, .slice da D.length cd, .int .i64 g, .bool cl] 29) (.slice sa' S.length cs') (.slice da' D.length cd') (.int .i64 g) (.bool cl)
  have BW : Below w.heap.size w ((w.alloc (.cells #[.slice sa S.length cs, .slice da D.length cd, .int .i64 g, .bool cl] 29)).alloc (.cells #[.slice sa' S.length cs', .slice da' D.length cd', .int .i64 g, .bool cl] 29)) := (below_new w _).alloc (by simp) _
  have HX := hide (show _ ∧ _ ∧ _ from ⟨F1, F2, BW⟩)
  clear L L' F1 F2 BW
  go_enter Try.func40, Try.ntmps40
  go_upto_region 1 with fail
  generalize ((w.alloc (.cells #[.slice sa S.length cs, .slice da D.length cd, .int .i64 g, .bool cl] 29)).alloc (.cells #[.slice sa' S.length cs', .slice da' D.length cd', .int .i64 g, .bool cl] 29)) = w0 at *
  obtain ⟨⟨c0, c1, c2, c3⟩, -⟩ := HX.out.1.facts
  obtain ⟨⟨d0, d1, d2, d3⟩, -⟩ := HX.out.2.1.facts
  go_upto_region 4 with fail
  go_loopw [30] (fun i wl => ∃ (k : Nat), k ≤ S.length ∧ i = .int .i64 (k : Int) ∧ Hid (Below w0.heap.size w0 wl)) (fun i _ => S.length - (intOf i).toNat)
  case atStart => exact ⟨0, Nat.zero_le _, rfl, Below.refl _ _⟩
  case round =>
    obtain ⟨k, hk, rfl, HR⟩ := hrel
    have HBR := hide (below_then HX.out.2.2 HR.out)
    obtain ⟨⟨c0, c1, c2, c3⟩, -⟩ := (HX.out.1.later HR.out HX.out.1.lt).facts
    obtain ⟨⟨d0, d1, d2, d3⟩, -⟩ := (HX.out.2.1.later HR.out HX.out.2.1.lt).facts
    by_cases hlt : k < S.length
    · have s1 := HL.out.PS.later HBR.out k hlt
      have s2 := HL'.out.PS.later HBR.out k hlt
      have e := HL.out.hsa (by show 0 < S.length; omega)
      subst e
      have e := HL'.out.hsa (by show 0 < S.length; omega)
      subst e
      dsimp only at s1 s2
      generalize S.getD k ByteArray.empty = n at *
      have hkI : (k : Int) < (S.length : Int) := by omega
      go_upto_region 6 with fail
      go_quiet (fail)
      go_wp2
      exact ⟨⟨k + 1, by omega, by go_num, ⟨HR.out.os, HR.out.tape, HR.out.output, HR.out.size, HR.out.block⟩⟩, by simp [intOf]; omega⟩
    · have H5 := hide (nums_same D da da' cd cd' db dO db' dO' wr hlD HL.out.hda HL'.out.hda (HL.out.PD.later HBR.out) (HL'.out.PD.later HBR.out))
      go_wp2_with (go_at_call 66; refine H5.out.mono ?_; rintro e w5 ⟨rfl, hb⟩)
      go_ret
      exact ⟨rfl, below_then HBR.out hb⟩
end Go.Proofs.Ytnfigdecgkcgcaa.Ln

