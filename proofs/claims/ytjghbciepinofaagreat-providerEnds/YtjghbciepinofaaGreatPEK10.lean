/- Parts of the proof: PLO PRY. -/
import Derived.Test.YtjghbciepinofaaGreatRows
import Derived.Test.YtjghbciepinofaaGreatPEK6
import Derived.Test.YtjghbciepinofaaGreatPEK7
import Derived.Test.YtjghbciepinofaaGreatPEK8
import Derived.Test.YtjghbciepinofaaGreatPEK19
import Derived.Test.YtjghbciepinofaaGreatPEK22
import Derived.Test.YtjghbciepinofaaGreatPEK52
import Derived.Test.YtjghbciepinofaaGreatPEK54
import Derived.Deep.RegionHeld3
set_option maxRecDepth 100000
namespace Go.Proofs.YtjghbciepinofaaGreat.Pv
open Go.RowKit
theorem pr_val5 {w : World} {g : Nat} {p : Pr} {v : PrV} (h : CAt 47 w g (prC p v)) {y : Nat} (hy : y < 6) : w.cell? ⟨g, 9 + y * 5, none⟩ = some (.int .i64 (p.s.V y).tok) ∧ w.cell? ⟨g, 9 + y * 5 + 1, none⟩ = some (.int .i64 (p.s.V y).sh) ∧ w.cell? ⟨g, 9 + y * 5 + 2, none⟩ = some (.int .i64 (p.s.V y).lost) ∧ w.cell? ⟨g, 9 + y * 5 + 3, none⟩ = some (.bool (p.s.V y).jail) ∧ w.cell? ⟨g, 9 + y * 5 + 4, none⟩ = some (.bool (p.s.V y).dead) := by
  rcases (show y = 0 ∨ y = 1 ∨ y = 2 ∨ y = 3 ∨ y = 4 ∨ y = 5 by omega) with rfl | rfl | rfl | rfl | rfl | rfl <;> exact ⟨h.cell _, h.cell _, h.cell _, h.cell _, h.cell _⟩
attribute [local go_sem ↓] loadS_eq loadP_eq storeP_eq storeS_eq
end Go.Proofs.YtjghbciepinofaaGreat.Pv

set_option maxRecDepth 100000
namespace Go.Proofs.YtjghbciepinofaaGreat.Pv
open Go.RowKit
theorem rt_rel {P : Nat → Prop} {w : World} {s : St} {u : Value} (hu : Rep P w u 8 64 (wsL s.W)) (c : Nat) (hc : c < 2) (h : Int) (hg : goodS s = true) : Calls Tryz.prog 96 #[.agg (stC s u), .int .i64 (c : Int), .int .i64 h] w fun e w' => ∃ u', e = .returned (.agg (stC { s with W := relW c h s.W } u')) ∧ Rep (fun b => w.heap.size ≤ b) w' u' 8 64 (wsL (relW c h s.W)) ∧ Below w.heap.size w w' := by
  obtain ⟨A, C, b, o, rfl, W, -, -⟩ := hu.wsAt
  have hl := good_len hg
  rcases (show c = 0 ∨ c = 1 by omega) with rfl | rfl
  · refine (rrelease_0 s A b o C h w W).mono ?_
    rintro e w' ⟨A', C', rfl, h1, hb⟩
    have e1 : (s.W.map (relX 0 h)).length = s.W.length := List.length_map _
    have hr := OwnW.rep h1 (by rw [e1]; exact hl)
    rw [e1] at hr
    exact ⟨_, rfl, hr, hb⟩
  · refine (rrelease_1 s A b o C h w W).mono ?_
    rintro e w' ⟨A', C', rfl, h1, hb⟩
    have e1 : (s.W.map (relX 1 h)).length = s.W.length := List.length_map _
    have hr := OwnW.rep h1 (by rw [e1]; exact hl)
    rw [e1] at hr
    exact ⟨_, rfl, hr, hb⟩
/-- what the reference's deal answers -/
def AnsD (P : Nat → Prop) (w : World) (q0 : Value) (r : Pr × Bool) (e : Ending) (w' : World) : Prop := ∃ v', e = .returned (.tuple #[.agg (prC r.1 v'), .bool r.2]) ∧ PInQ (New P w 3) w' r.1 v' ∧ v'.q = q0 ∧ Below w.heap.size w w'
theorem prov_endD {f : Func} {t q : Tmp} (hres : f.results = #[.cell t 47, .tmp q]) {P : Nat → Prop} {w wq : World} {zs : Array Value} (R : CAt 47 wq (w.heap.size + 2) zs) (hz : zs.size = 97) (H : Below w.heap.size w wq) (p' : Pr) (v' : PrV) (b : Bool) (r : Pr × Bool) (hr : r = (p', b)) (hp : PInQ (New P w 3) wq p' v') (q0 : Value) (hq : v'.q = q0) (act : Act)
    (h8 : act.tmps.getD t undef = .pointer (some ⟨w.heap.size + 2, 0, none⟩)) (h9 : act.tmps.getD q undef = .bool b) (hd : act.defers = []) :
    bodyPost Tryz.prog f (AnsD P w q0 r) Exit.ret act (wq.setCells (w.heap.size + 2) 0 (prC p' v').toList) := by
  subst hr
  have R3 := R.setAll (ds := prC p' v') (by rw [hz]; rfl)
  refine bodyPost_ret (v := .tuple #[.agg (prC p' v'), .bool b]) (results_prov2 hres _ _ _ _ _ h8 h9 R3 rfl) hd ⟨v', rfl, hp.sets (fun h => ?_) _ _, hq, below_sets (by omega) _ _ _ H⟩
  rcases h with ⟨_, h⟩ | h <;> omega
/-- the beginning of deal: provider, packet and answer in memory -/
structure DBeg (P : Nat → Prop) (w : World) (p : Pr) (v : PrV) (c : Nat) (x : Pkt) (y1 y2 : Value) (wx : World) : Prop where
  C : CAt 47 wx w.heap.size (prC p v)
  K : CAt 79 wx (w.heap.size + 1) #[.int .i64 (c : Int), .int .i64 x.k, .int .i64 x.i, .int .i64 x.v, .int .i64 x.n, y1, y2]
  R : CAt 47 wx (w.heap.size + 2) Tryz.zeroCells47
  B : Below w.heap.size w wx
  I : PInQ (New P w 3) wx p v
theorem New.no {P : Nat → Prop} {w : World} {j g : Nat} (h0 : w.heap.size ≤ g) (h1 : g < w.heap.size + j) : ¬ New P w j g := fun h => by
  rcases h with ⟨_, h⟩ | h <;> omega
theorem DBeg.over {P : Nat → Prop} {w : World} {p : Pr} {v : PrV} {c : Nat} {x : Pkt} {y1 y2 : Value} {wx w' : World} (h : DBeg P w p v c x y1 y2 wx) (hb : Below wx.heap.size wx w') : DBeg P w p v c x y1 y2 w' := ⟨h.C.over hb, h.K.over hb, h.R.over hb, h.B.trans (hb.mono h.B.size), h.I.over hb⟩
theorem DBeg.new {P : Nat → Prop} {w : World} {p : Pr} {v : PrV} (hp : PInQ P w p v) (c : Nat) (x : Pkt) (y1 y2 : Value) : DBeg P w p v c x y1 y2 (((w.alloc (.cells (prC p v) 47)).alloc (.cells #[.int .i64 (c : Int), .int .i64 x.k, .int .i64 x.i, .int .i64 x.v, .int .i64 x.n, y1, y2] 79)).alloc (.cells Tryz.zeroCells47 47)) := by
  have B : Below w.heap.size w (((w.alloc (.cells (prC p v) 47)).alloc (.cells #[.int .i64 (c : Int), .int .i64 x.k, .int .i64 x.i, .int .i64 x.v, .int .i64 x.n, y1, y2] 79)).alloc (.cells Tryz.zeroCells47 47)) := (((Below.refl _ w).alloc (Nat.le_refl _) _).alloc (by simp) _).alloc (by simp; omega) _
  refine ⟨((CAt.new _ w _).alloc _).alloc _, (CAt.new2 _ w _ _).alloc _, ?_, B, hp.ofNew B 3⟩
  have h := CAt.new 47 ((w.alloc (.cells (prC p v) 47)).alloc (.cells #[.int .i64 (c : Int), .int .i64 x.k, .int .i64 x.i, .int .i64 x.v, .int .i64 x.n, y1, y2] 79)) Tryz.zeroCells47
  rw [show ((w.alloc (.cells (prC p v) 47)).alloc (.cells #[.int .i64 (c : Int), .int .i64 x.k, .int .i64 x.i, .int .i64 x.v, .int .i64 x.n, y1, y2] 79)).heap.size = w.heap.size + 2 by simp] at h
  exact h
/-- another stake -/
theorem DBeg.stake {P : Nat → Prop} {w : World} {p : Pr} {v : PrV} {c : Nat} {x : Pkt} {y1 y2 : Value} {wx : World} (h : DBeg P w p v c x y1 y2 wx) (s : St) (u : Value) (hu : Rep (New P w 3) wx u 8 64 (wsL s.W)) : DBeg P w { p with s := s } { v with ws := u } c x y1 y2 (wx.setCells w.heap.size 2 (stC s u).toList) := by
  have hn : ¬ New P w 3 w.heap.size := New.no (Nat.le_refl _) (by omega)
  have I := h.I.sets hn 2 (stC s u).toList
  exact ⟨h.C.stake s u, h.K.others (by omega) _, h.R.others (by omega) _, below_sets (Nat.le_refl _) _ _ _ h.B, hu.sets hn _ _, I.set, I.lk, I.q⟩
attribute [local go_sem ↓] loadS_eq loadP_eq storeP_eq storeS_eq
set_option maxRecDepth 1000000 in
set_option maxHeartbeats 16000000 in
theorem rdeal_matured (p : Pr) (v : PrV) (P : Nat → Prop) (w : World) (c : Nat) (hc : c < 2) (x : Pkt) (y1 y2 : Value) (hp : PInQ P w p v) (hgs : goodS p.s = true) (hk : x.k = 2) (n : Nat) (hn : x.v = (n : Int)) (hn6 : n < 6) (s1 : ∃ A m C, y1 = .slice A m C) (s2 : ∃ A m C, y2 = .slice A m C) :
    Calls Tryz.prog 48 #[.agg (prC p v), .agg #[.int .i64 (c : Int), .int .i64 x.k, .int .i64 x.i, .int .i64 x.v, .int .i64 x.n, y1, y2]] w (AnsD P w v.q (dealP p c x)) := by
  have hD : dealP p c x = ({ p with s := { p.s with W := relW c x.i p.s.W } }, true) := by unfold dealP; rw [if_pos hk]
  rw [hD]
  obtain ⟨A1, m1, C1, rfl⟩ := s1
  obtain ⟨A2, m2, C2, rfl⟩ := s2
  have hnn : (n : Int) < 6 := by omega
  have hnz : (0 : Int) ≤ (n : Int) := by omega
  have HP := hide hp
  have HG := hide hgs
  have HXK := hide hk
  have HXV := hide hn
  clear hD hp hk hn hgs
  go_enter Tryz.func48, Tryz.ntmps48
  go_upto_region 1 with fail
  change Code.wp Tryz.prog _ _ _ (((w.alloc (.cells (prC p v) 47)).alloc (.cells #[.int .i64 (c : Int), .int .i64 x.k, .int .i64 x.i, .int .i64 x.v, .int .i64 x.n, .slice A1 m1 C1, .slice A2 m2 C2] 79)).alloc (.cells Tryz.zeroCells47 47))
  have D0 := DBeg.new HP.out c x (.slice A1 m1 C1) (.slice A2 m2 C2)
  generalize ((w.alloc (.cells (prC p v) 47)).alloc (.cells #[.int .i64 (c : Int), .int .i64 x.k, .int .i64 x.i, .int .i64 x.v, .int .i64 x.n, .slice A1 m1 C1, .slice A2 m2 C2] 79)).alloc (.cells Tryz.zeroCells47 47) = w0 at *
  have k3 : w0.cell? ⟨w.heap.size + 1, 3, none⟩ = some (.int .i64 (n : Int)) := by rw [← HXV.out]; exact D0.K.cell 3
  have k1 : w0.cell? ⟨w.heap.size + 1, 1, none⟩ = some (.int .i64 2) := by rw [← HXK.out]; exact D0.K.cell 1
  obtain ⟨t0, t1, t2, t3, t4⟩ := pr_val5 D0.C hn6
  have hlt0 := D0.R.lt
  have H0 := hide D0
  clear D0
  go_upto_region 3 with fail
  have D1 := H0.out.over ((Below.refl w0.heap.size w0).alloc (Nat.le_refl _) (.cells #[.int .i64 (p.s.V n).tok, .int .i64 (p.s.V n).sh, .int .i64 (p.s.V n).lost, .bool (p.s.V n).jail, .bool (p.s.V n).dead] 26))
  clear H0 k3 k1 t0 t1 t2 t3 t4
  generalize w0.alloc (.cells #[.int .i64 (p.s.V n).tok, .int .i64 (p.s.V n).sh, .int .i64 (p.s.V n).lost, .bool (p.s.V n).jail, .bool (p.s.V n).dead] 26) = w1 at *
  have k0 : w1.cell? ⟨w.heap.size + 1, 0, none⟩ = some (.int .i64 (c : Int)) := D1.K.cell 0
  have k1 : w1.cell? ⟨w.heap.size + 1, 1, none⟩ = some (.int .i64 2) := by rw [← HXK.out]; exact D1.K.cell 1
  have k2 : w1.cell? ⟨w.heap.size + 1, 2, none⟩ = some (.int .i64 x.i) := D1.K.cell 2
  have ls := pr_loadS D1.C
  have hrl := rt_rel D1.I.ws c hc x.i HG.out
  have HRL := hide hrl
  have H1 := hide D1
  have hlt1 := D1.R.lt
  clear D1 hrl
  generalize hS : ({ p.s with W := relW c x.i p.s.W } : St) = s1 at *
  have HSW : Hid (relW c x.i p.s.W = s1.W) := by rw [Hid, ← hS]
  rw [HSW.out] at HRL
  clear hS
  go_upto_region 5 with (go_at_call 96; refine HRL.out.mono ?_; rintro e w2 ⟨u, rfl, U2, hb2⟩; clear ls; have sS := pr_storeS (H1.out.over hb2).C (prC_size _ _) (stC_size s1 u) (st_one s1 U2.one'); have HU := hide (show _ ∧ _ from ⟨U2, hb2⟩); clear U2 hb2)
  have D3 := (H1.out.over HU.out.2).stake s1 u (HU.out.1.mono fun b _ h => .inr (by have := H1.out.R.lt; omega))
  clear sS H1 HRL HU k0 k1 k2
  generalize w2.setCells w.heap.size 2 (stC s1 u).toList = w3 at *
  have l3 := pr_loadP D3.C (prC_size _ _)
  have s3 := pr_storeP D3.R Z97_size (prC_size { p with s := s1 } { v with ws := u }) (PInQ.one D3.I)
  have H3 := hide D3
  clear D3
  go_wp2
  exact prov_endD Tryz.results48 H3.out.R Z97_size H3.out.B _ _ true _ rfl H3.out.I _ rfl _ rfl rfl rfl
end Go.Proofs.YtjghbciepinofaaGreat.Pv

