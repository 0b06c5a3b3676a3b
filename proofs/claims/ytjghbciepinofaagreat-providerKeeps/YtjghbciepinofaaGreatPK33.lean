/- Parts of the proof: DF3 PLO. -/
import Derived.Test.YtjghbciepinofaaGreatRows
import Derived.Test.YtjghbciepinofaaGreatPK6
import Derived.Test.YtjghbciepinofaaGreatPK20
import Derived.Test.YtjghbciepinofaaGreatPK22
import Derived.Test.YtjghbciepinofaaGreatPK30
import Derived.Test.YtjghbciepinofaaGreatPK32
import Derived.Test.YtjghbciepinofaaGreatPK37
import Derived.Test.YtjghbciepinofaaGreatPK38
import Derived.Test.YtjghbciepinofaaGreatPK45
import Derived.Deep.QuietTactic
import Derived.BigQuiet
import Derived.WalkKit
import Derived.WalkSpells
import Derived.WalkLawsBesides
set_option maxRecDepth 100000
namespace Go.Proofs.YtjghbciepinofaaGreat.Df
open Go.RowKit
def IntsAt (w : World) (b off : Nat) (l : List Int) : Prop := ∀ i, i < l.length → w.cell? ⟨b, off + i, none⟩ = some (.int .i64 (l.getD i 0))
theorem IntsAt.later {w w' : World} {b off : Nat} {l : List Int} (h : IntsAt w b off l) (hb : Below w.heap.size w w') : IntsAt w' b off l := fun i hi =>
  (hb.cell (p := ⟨b, off + i, none⟩) (World.block_lt_of_cell? w _ (h i hi))).trans (h i hi)
set_option maxHeartbeats 2000000 in
/-- lists that are alike -/
theorem same_any (l : List Pw) (a a' : Option Addr) (c c' b off b' off' : Nat) (w : World) (h1 : PIn w l a b off) (h2 : PIn w l a' b' off') :
    Calls Tryz.prog 12 #[.slice a l.length c, .slice a' l.length c'] w fun e w' => e = .returned (.bool true) ∧ Below w.heap.size w w' := by
  have hlen := h1.len
  have H1 := hide h1
  have H2 := hide h2
  clear h1 h2
  go_enter Tryz.func12, Tryz.ntmps12
  go_upto_region 4 with fail
  go_loopw [5] (fun i wl => ∃ (k : Nat), k ≤ l.length ∧ i = .int .i64 (k : Int) ∧ Hid (Below w.heap.size w wl)) (fun i _ => l.length - (intOf i).toNat)
  case atStart => exact ⟨0, Nat.zero_le _, rfl, Below.refl _ _⟩
  case round =>
    obtain ⟨k, hk, rfl, HR⟩ := hrel
    by_cases hlt : k < l.length
    · obtain ⟨c0, c1⟩ := (H1.out.over HR.out).cells k hlt
      obtain ⟨d0, d1⟩ := (H2.out.over HR.out).cells k hlt
      have e := H1.out.adr (by omega)
      subst e
      have e := H2.out.adr (by omega)
      subst e
      generalize l.getD k (0, 0) = x at *
      obtain ⟨v, n⟩ := x
      dsimp only at c0 c1 d0 d1
      have hkI : (k : Int) < (l.length : Int) := by omega
      go_upto_region 6 with fail
      go_quiet (fail)
      go_wp2
      exact ⟨⟨k + 1, by omega, by go_num, ⟨HR.out.os, HR.out.tape, HR.out.output, HR.out.size, HR.out.block⟩⟩, by simp [intOf]; omega⟩
    · obtain rfl : k = l.length := by omega
      go_wp2
      go_ret
      exact ⟨rfl, HR.out⟩
end Go.Proofs.YtjghbciepinofaaGreat.Df

set_option maxRecDepth 100000
namespace Go.Proofs.YtjghbciepinofaaGreat.Pv
open Go.RowKit
/-- a provider laid into a new block -/
theorem pr_laid {P : Nat → Prop} {w2 : World} {r : Pr} {v2 : PrV} (P2 : PIn P w2 r v2) : ∃ w3, (storeP (.pointer (some ⟨w2.heap.size, 0, none⟩)) (.agg (prC r v2))).run Tryz.prog (w2.alloc (.cells Tryz.zeroCells47 47)) = .ok () w3 ∧ CAt 47 w3 w2.heap.size (prC r v2) ∧ PIn (fun b => b ≠ w2.heap.size) w3 r v2 ∧ Below w2.heap.size w2 w3 := by
  have bS : Below w2.heap.size w2 ((w2.alloc (.cells Tryz.zeroCells47 47)).setCells w2.heap.size 0 (prC r v2).toList) := below_sets (Nat.le_refl _) _ _ _ ((Below.refl _ w2).alloc (Nat.le_refl _) _)
  exact ⟨_, pr_storeP (CAt.new 47 w2 Tryz.zeroCells47) Z97_size (prC_size r v2) (pr_one P2), (CAt.new 47 w2 Tryz.zeroCells47).setAll (by rw [Z97_size]; rfl), (P2.mono fun b hl _ => (by omega : b ≠ w2.heap.size)).over bS, bS⟩
attribute [local go_sem ↓] loadS_eq loadP_eq storeP_eq storeS_eq
end Go.Proofs.YtjghbciepinofaaGreat.Pv

