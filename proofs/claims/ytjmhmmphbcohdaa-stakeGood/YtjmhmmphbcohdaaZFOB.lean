/- What each order does to a good stake, in one shape: for the walk of follow. -/
import Derived.Test.YtjmhmmphbcohdaaZMG1
import Derived.Test.YtjmhmmphbcohdaaZOR1
import Derived.Test.YtjmhmmphbcohdaaZLK
import Derived.Test.YtjmhmmphbcohdaaZSW4
import Derived.Test.YtjmhmmphbcohdaaZSSL
import Derived.Test.YtjmhmmphbcohdaaZSPY1
import Derived.Test.YtjmhmmphbcohdaaZSRL2
import Derived.Test.YtjmhmmphbcohdaaZSV
import Derived.Test.YtjmhmmphbcohdaaXsb
import Derived.Test.YtjmhmmphbcohdaaXsa
import Derived.Deep.MidRow
set_option maxRecDepth 100000
namespace Go.Proofs.Ytjmhmmphbcohdaa
open Go.RowKit
/-- an order's five numbers lie in a block -/
def OAt (w : World) (g : Nat) (k d v n h : Int) : Prop := w.heap[g]? = some (.cells #[.int .i64 k, .int .i64 d, .int .i64 v, .int .i64 n, .int .i64 h] 40)
theorem OAt.later {w w' : World} {g B : Nat} {k d v n h : Int} (x : OAt w g k d v n h) (hb : Below B w w') (hB : g < B) : OAt w' g k d v n h := (hb.block g hB).trans x
theorem OAt.lt {w : World} {g : Nat} {k d v n h : Int} (x : OAt w g k d v n h) : g < w.heap.size := (Array.getElem?_eq_some_iff.1 x).1
theorem OAt.cells {w : World} {g : Nat} {k d v n h : Int} (x : OAt w g k d v n h) : w.cell? ⟨g, 0, none⟩ = some (.int .i64 k) ∧ w.cell? ⟨g, 1, none⟩ = some (.int .i64 d) ∧ w.cell? ⟨g, 2, none⟩ = some (.int .i64 v) ∧ w.cell? ⟨g, 3, none⟩ = some (.int .i64 n) ∧ w.cell? ⟨g, 4, none⟩ = some (.int .i64 h) := by
  unfold OAt at x
  simp [World.cell?, x]
theorem OAt.new (w : World) (o p : Obj) (k d v n h : Int) : OAt (((w.alloc o).alloc (.cells #[.int .i64 k, .int .i64 d, .int .i64 v, .int .i64 n, .int .i64 h] 40)).alloc p) (w.heap.size + 1) k d v n h := by
  have x : OAt ((w.alloc o).alloc (.cells #[.int .i64 k, .int .i64 d, .int .i64 v, .int .i64 n, .int .i64 h] 40)) (w.alloc o).heap.size k d v n h := heap_alloc_new _ _
  rw [show (w.alloc o).heap.size = w.heap.size + 1 by simp] at x
  exact x.later ((Below.refl _ _).alloc (Nat.le_refl _) _) x.lt
/-- where the answer's list lies -/
structure Ls (B sb : Nat) (w w' : World) (r : St) (A : Option Addr) (ab ao C : Nat) : Prop where
  room : r.W.length ≤ C
  ws : WsAt w' A ab ao r.W
  at_ : 0 < r.W.length → ab < w'.heap.size ∧ (ab = sb ∨ B ≤ ab)
  below : Below B w w'
theorem ls_drew {sb : Nat} {w w' : World} {r : St} {A : Option Addr} {ab ao C : Nat} (h : Ls w.drew.heap.size sb w.drew w' r A ab ao C) : Ls w.heap.size sb w w' r A ab ao C :=
  ⟨h.room, h.ws, h.at_, (Below.refl _ w).drew.trans h.below⟩
theorem good_len {s : St} (hg : goodS s = true) : s.W.length * 64 ≤ 140737488351232 := by
  have := ((goodS_iff _).1 hg).2.2.2.1
  omega
def K2 (s : St) (sb : Nat) (w : World) (e : Ending) (w' : World) : Prop := ∃ (r : St × Int) (A : Option Addr) (ab ao C : Nat), Kp s r ∧ e = .returned (.tuple #[.agg (stC r.1 (.slice A r.1.W.length C)), .int .i64 r.2]) ∧ Ls w.heap.size sb w w' r.1 A ab ao C
def K3 (s : St) (sb : Nat) (w : World) (e : Ending) (w' : World) : Prop := ∃ (r : St × Int) (A : Option Addr) (ab ao C : Nat) (x : Value), Kp s r ∧ e = .returned (.tuple #[.agg (stC r.1 (.slice A r.1.W.length C)), x, .int .i64 r.2]) ∧ Ls w.heap.size sb w w' r.1 A ab ao C
def K1 (s : St) (sb : Nat) (w : World) (e : Ending) (w' : World) : Prop := ∃ (r : St) (A : Option Addr) (ab ao C : Nat), Kp s (r, 0) ∧ e = .returned (.agg (stC r (.slice A r.W.length C))) ∧ Ls w.heap.size sb w w' r A ab ao C
theorem same_ls {s : St} {ao : Option Addr} {sb so c : Nat} {w : World} (hc : s.W.length ≤ c) (hW : WsAt w ao sb so s.W) {r : St} (hr : r.W = s.W) {w' : World} (hb : Below w.heap.size w w') : Ls w.heap.size sb w w' r ao sb so c := by
  have h := hW.over hb
  exact ⟨by rw [hr]; exact hc, by rw [hr]; exact h, fun h0 => ⟨h.lt (by rw [hr] at h0; exact h0), .inl rfl⟩, hb⟩
theorem own_ls {sb : Nat} {w : World} {r : St} {A : Option Addr} {C : Nat} (hr : goodS r = true) {w' : World} (h : OwnW w.heap.size w' A C r.W) (hb : Below w.heap.size w w') : ∃ ab, Ls w.heap.size sb w w' r A ab 0 C := by
  obtain ⟨g, h1, h2⟩ := h.ws (good_len hr)
  exact ⟨g, h.cap, h1, fun h0 => ⟨(h2 h0).2, .inr (h2 h0).1⟩, hb⟩
section
variable {s : St} {ao : Option Addr} {sb so c : Nat} {w : World} (hg : goodS s = true) (hc : s.W.length ≤ c) (hW : WsAt w ao sb so s.W)
include hg hc hW
theorem deleg_K (d v n : Int) : Calls Try.prog 9 #[.agg (stC s (.slice ao s.W.length c)), .int .i64 d, .int .i64 v, .int .i64 n] w (K2 s sb w) := by
  refine (deleg_any s ao sb so c d v n w hW).mono ?_
  rintro e w' ⟨rfl, hb⟩
  have e : (delegS s d v n).1.W = s.W := by
    unfold delegS
    repeat' split
    all_goals rfl
  exact ⟨delegS s d v n, ao, sb, so, c, kp_deleg hg d v n, by rw [e], same_ls hc hW e hb⟩
theorem undel_K (d v n : Int) (hd : 0 ≤ d ∧ d < 4) (hv : 0 ≤ v ∧ v < 6) (y : Wt) : Calls Try.prog 13 #[.agg (stC s (.slice ao s.W.length c)), .int .i64 d, .int .i64 v, .int .i64 n, .agg #[.int .i64 y.num, .int .i64 y.d, .int .i64 y.v, .int .i64 y.amt, .int .i64 y.hei, .int .i64 y.due, .int .i64 y.h0, .int .i64 y.h1]] w (K2 s sb w) := by
  refine (undel_any s ao sb so c d v n y w hc hW).mono ?_
  rintro e w' ⟨A, ab, ao', C, rfl, h1, h2, h3, hb⟩
  obtain ⟨i, rfl⟩ := Int.eq_ofNat_of_zero_le hd.1
  obtain ⟨j, rfl⟩ := Int.eq_ofNat_of_zero_le hv.1
  exact ⟨_, A, ab, ao', C, kp_undel hg (by omega) (by omega) n y, rfl, h1, h2, h3, hb⟩
omit hc in
theorem slash_K (v h f : Int) (hv : 0 ≤ v ∧ v < 6) (hf : 0 ≤ f ∧ f ≤ 1000) : Calls Try.prog 14 #[.agg (stC s (.slice ao s.W.length c)), .int .i64 v, .int .i64 h, .int .i64 f] w (K3 s sb w) := by
  obtain ⟨j, rfl⟩ := Int.eq_ofNat_of_zero_le hv.1
  refine (sslash_yes s ao sb so c j h f w hW hg (by omega) hf).mono ?_
  rintro e w' ⟨A, C, rfl, h1, hb⟩
  have k := kp_slash hg (v := j) (by omega) h hf
  obtain ⟨ab, l⟩ := own_ls (sb := sb) k.good h1 hb
  exact ⟨_, A, ab, 0, C, _, k, rfl, l⟩
theorem jail_K (v : Int) : Calls Try.prog 15 #[.agg (stC s (.slice ao s.W.length c)), .int .i64 v] w (K2 s sb w) := by
  refine (sjail_any s ao sb so c v w hW).mono ?_
  rintro e w' ⟨rfl, hb⟩
  have e : (jailS s v).1.W = s.W := by
    unfold jailS
    repeat' split
    all_goals rfl
  exact ⟨_, ao, sb, so, c, kp_jail hg v, by rw [e], same_ls hc hW e hb⟩
theorem unjail_K (v : Int) : Calls Try.prog 16 #[.agg (stC s (.slice ao s.W.length c)), .int .i64 v] w (K2 s sb w) := by
  refine (sunjail_any s ao sb so c v w hW).mono ?_
  rintro e w' ⟨rfl, hb⟩
  have e : (unjailS s v).1.W = s.W := by
    unfold unjailS
    repeat' split
    all_goals rfl
  exact ⟨_, ao, sb, so, c, kp_unjail hg v, by rw [e], same_ls hc hW e hb⟩
theorem bury_K (v : Int) : Calls Try.prog 17 #[.agg (stC s (.slice ao s.W.length c)), .int .i64 v] w (K2 s sb w) := by
  refine (sbury_any s ao sb so c v w hW).mono ?_
  rintro e w' ⟨rfl, hb⟩
  have e : (buryS s v).1.W = s.W := by
    unfold buryS
    repeat' split
    all_goals rfl
  exact ⟨_, ao, sb, so, c, kp_bury hg v, by rw [e], same_ls hc hW e hb⟩
omit hc in
theorem pay_K (t : Int) : Calls Try.prog 18 #[.agg (stC s (.slice ao s.W.length c)), .int .i64 t] w (K3 s sb w) := by
  refine (spay_yes s ao sb so c t w hW hg).mono ?_
  rintro e w' ⟨A, C, A', C', rfl, h1, -, hb⟩
  have k := kp_pay hg t
  obtain ⟨ab, l⟩ := own_ls (sb := sb) k.good h1 hb
  exact ⟨_, A, ab, 0, C, _, k, rfl, l⟩
omit hc in
theorem rel_K (h : Int) : Calls Try.prog 19 #[.agg (stC s (.slice ao s.W.length c)), .int .i64 0, .int .i64 h] w (K1 s sb w) := by
  refine (srelease_0 s ao sb so c h w hW (good_len hg)).mono ?_
  rintro e w' ⟨A, C, rfl, h1, hb⟩
  have k := kp_rel hg 0 h
  obtain ⟨ab, l⟩ := own_ls (sb := sb) k.good h1 hb
  have e : (relW 0 h s.W).length = s.W.length := List.length_map _
  exact ⟨{ s with W := relW 0 h s.W }, A, ab, 0, C, k, by show Ending.returned _ = Ending.returned (.agg (stC s (.slice A (relW 0 h s.W).length C))); rw [e], l⟩
end
/-- how follow ends -/
theorem follow_end {f : Func} {p q : Tmp} (hres : f.results = #[.cell p 34, .tmp q]) {s t : St} {sb : Nat} {w w0 w2 : World} {A : Option Addr} {ab ao2 C : Nat} {er : Int} (hsb : sb ≠ w.heap.size ∧ sb ≠ w.heap.size + 2) (HL : Ls w0.heap.size sb w0 w2 t A ab ao2 C) (HB2 : Below w.heap.size w w2) (h0 : w.heap.size + 2 < w0.heap.size) (R2 : SAt w2 (w.heap.size + 2) Z63)
    (kp : Kp s (t, er)) (act : Act) (h8 : act.tmps.getD p undef = .pointer (some ⟨w.heap.size + 2, 0, none⟩)) (h9 : act.tmps.getD q undef = .int .i64 er) (hd : act.defers = []) :
    bodyPost Try.prog f (K2 s sb w) Exit.ret act ((w2.setCells w.heap.size 0 (stC t (.slice A t.W.length C)).toList).setCells (w.heap.size + 2) 0 (stC t (.slice A t.W.length C)).toList) := by
  have R3 : SAt (w2.setCells w.heap.size 0 (stC t (.slice A t.W.length C)).toList) (w.heap.size + 2) Z63 := (heap_sets (by omega) _ _ _).trans R2
  have R4 := R3.setAll (ds := stC t (.slice A t.W.length C)) rfl
  have hne : 0 < t.W.length → ab ≠ w.heap.size ∧ ab ≠ w.heap.size + 2 := fun h => by
    have := (HL.at_ h).2
    omega
  have hW' := (HL.ws.sets (fun h => (hne h).1) (stC t (.slice A t.W.length C)).toList 0).sets (fun h => (hne h).2) (stC t (.slice A t.W.length C)).toList 0
  refine bodyPost_ret (v := .tuple #[.agg (stC t (.slice A t.W.length C)), .int .i64 er]) (results_stake2 hres _ _ _ _ _ h8 h9 R4 rfl) hd ⟨(t, er), A, ab, ao2, C, kp, rfl, HL.room, hW', fun h => ⟨hW'.lt h, ?_⟩, below_sets (by omega) _ _ _ (below_sets (Nat.le_refl _) _ _ _ HB2)⟩
  rcases (HL.at_ h).2 with h | h
  · exact .inl h
  · exact .inr (by omega)
end Go.Proofs.Ytjmhmmphbcohdaa
