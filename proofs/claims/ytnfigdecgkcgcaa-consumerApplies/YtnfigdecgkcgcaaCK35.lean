/- Parts of the proof: DF3. -/
import Derived.Test.YtnfigdecgkcgcaaRows
import Derived.Test.YtnfigdecgkcgcaaCK33
import Derived.Test.YtnfigdecgkcgcaaCK34
import Derived.Deep.QuietTactic
import Derived.BigQuiet
set_option maxRecDepth 100000
namespace Go.Proofs.Ytnfigdecgkcgcaa.Df
open Go.RowKit
def IntsAt (w : World) (b off : Nat) (l : List Int) : Prop := ∀ i, i < l.length → w.cell? ⟨b, off + i, none⟩ = some (.int .i64 (l.getD i 0))
theorem IntsAt.later {w w' : World} {b off : Nat} {l : List Int} (h : IntsAt w b off l) (hb : Below w.heap.size w w') : IntsAt w' b off l := fun i hi =>
  (hb.cell (p := ⟨b, off + i, none⟩) (World.block_lt_of_cell? w _ (h i hi))).trans (h i hi)
set_option maxHeartbeats 4000000 in
theorem made_any (l : List Int) (ao : Option Addr) (c b off : Nat) (w : World) (hlen : l.length ≤ maxLen) (ha : 0 < l.length → ao = some ⟨b, off, none⟩) (hc : IntsAt w b off l) :
    Calls Try.prog 29 #[.slice ao l.length c] w fun e w' => ∃ v, e = .returned v ∧ Pows w' w.heap.size v (setOf (madeP l)) ∧ Below w.heap.size w w' := by
  obtain ⟨i0, hi, hz0, hz1, hz2⟩ := info_parts infoPw
  unfold maxLen at hlen
  have HA := hide ha
  have HC := hide hc
  clear ha hc
  go_enter Try.func29, Try.ntmps29
  go_upto_region 3 with fail
  go_loopw [3, 4] (fun v i wl => ∃ k : Nat, k ≤ 6 ∧ i = .int .i64 (k : Int) ∧ Pows wl w.heap.size v (those (fun v => decide (0 < madeP l v)) (madeP l) k) ∧ Hid (Below w.heap.size w wl)) (fun _ i _ => (6 - intOf i).toNat)
  case atStart => exact ⟨0, by omega, rfl, Pows.nil _ _, Below.refl _ _⟩
  case round =>
    obtain ⟨k, hk, rfl, hown, HB⟩ := hrel
    have hsz : w.heap.size ≤ wr.heap.size := HB.out.size
    by_cases hk6 : k < 6
    · have hkk : (k : Int) < 6 := by omega
      by_cases hkl : k < l.length
      · have hkL : (k : Int) < (l.length : Int) := by omega
        have cl := HC.out.later HB.out k hkl
        have eao := HA.out (by omega)
        subst eao
        have hm : madeP l k = l.getD k 0 % 4 := by unfold madeP; rw [if_pos hkl]
        have hp := fun w => Pk.pick_any (l.getD k 0) 4 w (by decide) (by decide)
        rw [← hm] at hp
        have h3 := madeP_pos l k
        have HS := hide (those_succ (fun v => decide (0 < madeP l v)) (madeP l) k)
        have hln := those_len (fun v => decide (0 < madeP l v)) (madeP l) k
        clear hm
        generalize l.getD k 0 = lk at *
        generalize madeP l k = mk at *
        by_cases hpos : 0 < mk
        · go_wp2_with (first
            | (go_at_call 28; refine (hp _).mono ?_; rintro e wy ⟨rfl, rfl⟩)
            | (at_builtin; refine wpList_append_own_at _ rfl _ _ 22 rfl w.heap.size 61 i0 (.agg #[.int .i64 0, .int .i64 0]) 2 16 Try.underlying22 hi hz0 hz1 hz2 rfl (by decide) _ _ _ rfl (World.ownsRow.alloc hown _) ⟨wr.heap.size, 0, none⟩ 1 1 [.int .i64 (k : Int), .int .i64 mk] rfl rfl (pw_news _ _ _ _) (by intro u hu; simp at hu; rcases hu with rfl | rfl <;> rfl) (by unfold maxLen; omega) (by omega) (by simp; omega) ?_; intro v' w1 hown' hgrow _ hat))
          have hb : Below w.heap.size w w1 := Pows.grow hown HB.out hgrow (Nat.le_refl _) hsz
          refine ⟨⟨k + 1, by omega, by go_num, ?_, hb⟩, by simp [intOf]; omega⟩
          rw [HS.out, if_pos (by simpa using hpos)]
          exact Pows.append hown' rfl
        · go_wp2_with (go_at_call 28; refine (hp _).mono ?_; rintro e wy ⟨rfl, rfl⟩)
          exact ⟨⟨k + 1, by omega, by go_num, by rw [HS.out, if_neg (by simpa using hpos)]; exact hown, HB.out⟩, by simp [intOf]; omega⟩
      · have HE : Hid (setOf (madeP l) = those (fun v => decide (0 < madeP l v)) (madeP l) k) := by
          show _ = _
          unfold setOf
          have := made_end l (n := k) (by omega) (6 - k)
          rwa [show k + (6 - k) = 6 by omega] at this
        go_wp2
        go_ret
        exact ⟨_, rfl, by rw [HE.out]; exact hown, HB.out⟩
    · obtain rfl : k = 6 := by omega
      go_wp2
      go_ret
      exact ⟨_, rfl, hown, HB.out⟩
set_option maxHeartbeats 2000000 in
/-- lists that are alike -/
theorem same_any (l : List Pw) (a a' : Option Addr) (c c' b off b' off' : Nat) (w : World) (h1 : PIn w l a b off) (h2 : PIn w l a' b' off') :
    Calls Try.prog 32 #[.slice a l.length c, .slice a' l.length c'] w fun e w' => e = .returned (.bool true) ∧ Below w.heap.size w w' := by
  have hlen := h1.len
  have H1 := hide h1
  have H2 := hide h2
  clear h1 h2
  go_enter Try.func32, Try.ntmps32
  go_upto_region 4 with fail
  go_loopw [5] (fun i wl => ∃ (k : Nat), k ≤ l.length ∧ i = .int .i64 (k : Int) ∧ Hid (Below w.heap.size w wl)) (fun i _ => l.length - (intOf i).toNat)
  case atStart => exact ⟨0, Nat.zero_le _, rfl, Below.refl _ _⟩
  case round =>
    obtain ⟨k, hk, rfl, HR⟩ := hrel
    by_cases hlt : k < l.length
    · obtain ⟨c0, c1⟩ := (H1.out.over HR.out).cells k hlt
      obtain ⟨d0, d1⟩ := (H2.out.over HR.out).cells k hlt
      have e := H1.out.adr (by omega)
      subst e
      have e := H2.out.adr (by omega)
      subst e
      generalize l.getD k (0, 0) = x at *
      obtain ⟨v, n⟩ := x
      dsimp only at c0 c1 d0 d1
      have hkI : (k : Int) < (l.length : Int) := by omega
      go_upto_region 6 with fail
      go_quiet (fail)
      go_wp2
      exact ⟨⟨k + 1, by omega, by go_num, ⟨HR.out.os, HR.out.tape, HR.out.output, HR.out.size, HR.out.block⟩⟩, by simp [intOf]; omega⟩
    · obtain rfl : k = l.length := by omega
      go_wp2
      go_ret
      exact ⟨rfl, HR.out⟩
end Go.Proofs.Ytnfigdecgkcgcaa.Df

