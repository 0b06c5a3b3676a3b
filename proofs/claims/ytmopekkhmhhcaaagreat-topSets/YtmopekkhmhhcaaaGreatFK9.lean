/- Parts of the proof. -/
import Derived.Test.YtmopekkhmhhcaaaGreatFL
import Derived.Test.YtmopekkhmhhcaaaGreatFK42
set_option maxRecDepth 100000
set_option maxHeartbeats 16000000
namespace Go.Proofs.YtmopekkhmhhcaaaGreat
open Go.Proofs.Tryz
namespace Pv
open Go.RowKit
attribute [local go_sem ↓] z7O z8g
theorem q1F(g:Nat)(p:Pr)(v:PrV)(P:Nat->Prop)(w:World)(c:Nat)(hc:c<2)(hC:CAt 57 w g (prC p v))(hp:PIn P w p v)(hg:¬ P g)(ht0:0<=p.t)(ht1:p.t<=1099511627776) :
  Calls prog 86 #[.pointer (some ⟨g,0,none⟩),.pointer (some ⟨g,66+c * 14,none⟩)] w (Turns w g P (z1g p c)):=by
 obtain⟨o,ho⟩:∃ o,o=66+c * 14:=⟨_,rfl⟩;rw[← ho]
 have hD:z1g p c=if z5k p (p.L c)=true then p
  else if Cd.z0m 1 p.h 0 0 (Df.z3x (p.L c).told p.set) (p.L c).done=0 then
   if Ln.z5C (p.L c).out (p.t+40)=0 then { p with L:=z0Q p.L c { p.L c with out:=Ln.z5i (p.L c).out (Cd.encS 1 p.h 0 0 (Df.z3x (p.L c).told p.set) (p.L c).done) (p.t+40),told:=p.set,fresh:=false,done:=[] } } else p
  else p:=rfl
 have HQB:Hid (z5k p (p.L c)=(!(p.L c).on || (decide ((p.L c).told=p.set) && !(p.L c).fresh && decide ((p.L c).done.length=0)))):=rfl
 generalize z1g p c=D at *;have HD:=hide hD;have hL:=hp.lk c hc;have HEQ:=hide (fun (wx:World) (hb:Below w.heap.size w wx)=>q5l (p.L c).told p.set (v.l c).told v.set P P wx (hL.told.over hb) (hp.set.over hb));have HDF:=hide (fun (wx:World) (hb:Below w.heap.size w wx)=>j6a (hL.told.over hb) (hp.set.over hb));obtain⟨Ad,Cd0,ed,sd,-,-,-⟩:=hL.done.open (z0r _) (by decide)
 have HF:Hid (∀ wx,Below w.heap.size w wx->wx.cell? ⟨g,o,none⟩=some (.bool (p.L c).on)/\wx.cell? ⟨g,o+3,none⟩=some (v.l c).told/\wx.cell? ⟨g,o+4,none⟩=some (.bool (p.L c).fresh)/\wx.cell? ⟨g,o+5,none⟩=some (v.l c).done/\wx.cell? ⟨g,65,none⟩=some v.set/\wx.cell? ⟨g,0,none⟩=some (.int .i64 p.h)/\wx.cell? ⟨g,1,none⟩=some (.int .i64 p.t)):=fun wx hb=>by
  have C:=hC.over hb;have hlk:=(C.lk hc).facts;rw[← ho]at hlk;obtain⟨f0,-,-,f3,f4,f5,-⟩:=hlk;exact⟨f0,f3,f4,f5,C.cell 65,C.cell 0,C.cell 1⟩
 have HO:=hide ho;have HP:=hide hp;have HC:=hide hC;have hgl:=hC.lt;clear hD hp hC hL ho
 have HQ:Hid (∀ wx,Below w.heap.size w wx->D=p->Turns w g P D (.returned (.tuple #[])) wx):=fun wx hb e=>by
  rw[e];exact⟨v,rfl,HC.out.over hb,HP.out.z2T hb 0,Alt.of hb⟩
 obtain⟨f0,f3,f4,f5,f65,f00,f01⟩:=HF.out w (Below.refl _ _);rw[ed]at f5
 go_enter func86,ntmps86
 cases hon:(p.L c).on
 ·have hq:Hid (D=p):=HD.out.trans (if_pos (by rw[HQB.out,hon];rfl))
  rw[hon]at f0
  go_upto_region 0 with fail
  go_quiet (fail);go_wp2;go_end0;exact HQ.out _ (below_drewN (Below.refl _ _) _) hq.out
 rw[hon]at f0;have hqb:Hid (z5k p (p.L c)=(decide ((p.L c).told=p.set) && !(p.L c).fresh && decide ((p.L c).done.length=0))):=by rw[Hid,HQB.out,hon];rfl
 clear HQB;generalize decide ((p.L c).told=p.set)=E at *
 have hcs:(E=true/\(p.L c).fresh=false/\(p.L c).done.length=0)∨(E=false∨(E=true/\(p.L c).fresh=true)∨(E=true/\(p.L c).fresh=false/\(p.L c).done.length≠0)):=by
  cases E <;> cases (p.L c).fresh <;> by_cases h:(p.L c).done.length=0 <;> simp[h]
 rcases hcs with⟨rfl,hfr,hdl⟩ | hcs
 ·have hq:Hid (D=p):=HD.out.trans (if_pos (by rw[hqb.out,hfr];simp[hdl]))
  rw[hdl]at f5 ed;rw[hfr]at f4
  have HS0:Hid (∀ wx,Below w.heap.size w wx->wx.cell? ⟨g,o,none⟩=some (.bool true)/\wx.cell? ⟨g,o+3,none⟩=some (v.l c).told/\wx.cell? ⟨g,o+4,none⟩=some (.bool false)/\wx.cell? ⟨g,o+5,none⟩=some (.slice Ad 0 Cd0)/\wx.cell? ⟨g,65,none⟩=some v.set):=fun wx hb=>by
   obtain⟨f0,f3,f4,f5,f65,-⟩:=HF.out wx hb;rw[hon]at f0;rw[hfr]at f4;rw[ed]at f5;exact⟨f0,f3,f4,f5,f65⟩
  clear f0 f3 f4 f5 f65 f00 f01
  go_upto_region 0 with fail
  apply z4l (fun w'=>Below w.heap.size w w')
  ·refine wp_region_noPanic ?_;have hb:=Below.refl w.heap.size w
   go_region_held3 (fun wx=>wx.cell? ⟨g,o,none⟩=some (.bool true)/\wx.cell? ⟨g,o+3,none⟩=some (v.l c).told/\wx.cell? ⟨g,o+4,none⟩=some (.bool false)/\wx.cell? ⟨g,o+5,none⟩=some (.slice Ad 0 Cd0)/\wx.cell? ⟨g,65,none⟩=some v.set) ((refine HS0.out _ ?_;first | with_reducible exact hb | with_reducible exact hb.drew)) ((go_at_call 120;refine (HEQ.out _ (by exact (Below.refl _ w).drew)).mono ?_;rintro e w1⟨rfl,hb1⟩;have hb:=(Below.refl w.heap.size w).drew.trans hb1;clear hb1;dsimp only))
   all_goals exact NoPanic.normal ⟨rfl,rfl,hb⟩
  intro w1 b1;simp only[Exit.then];apply_assumption;go_wp2;go_end0;exact HQ.out _ b1 hq.out
 have hnq:z5k p (p.L c)=false:=by
  rw[hqb.out]
  rcases hcs with rfl | ⟨rfl,h⟩ | ⟨rfl,h,h'⟩
  ·rfl
  ·rw[h];rfl
  ·rw[h];simp[h']
 replace HD:=hide (HD.out.trans (if_neg (by rw[hnq];simp)))
 clear hqb hnq
 rcases hcs with rfl | ⟨rfl,hfr⟩ | ⟨rfl,hfr,hdl⟩
 have HS0:Hid (∀ wx,Below w.heap.size w wx->wx.cell? ⟨g,o,none⟩=some (.bool true)/\wx.cell? ⟨g,o+3,none⟩=some (v.l c).told/\wx.cell? ⟨g,o+4,none⟩=some (.bool (p.L c).fresh)/\wx.cell? ⟨g,o+5,none⟩=some (.slice Ad (p.L c).done.length Cd0)/\wx.cell? ⟨g,65,none⟩=some v.set):=fun wx hb=>by
  obtain⟨f0,f3,f4,f5,f65,-⟩:=HF.out wx hb;rw[hon]at f0;rw[ed]at f5;exact⟨f0,f3,f4,f5,f65⟩
 clear f0 f3 f4 f5 f65 f00 f01
 go_upto_region 0 with fail
 apply z4l (fun w'=>Below w.heap.size w w')
 ·refine wp_region_noPanic ?_;refine wp_region_held_drew (S:=fun wx=>wx.cell? ⟨g,o,none⟩=some (.bool true)/\wx.cell? ⟨g,o+3,none⟩=some (v.l c).told/\wx.cell? ⟨g,o+4,none⟩=some (.bool (p.L c).fresh)/\wx.cell? ⟨g,o+5,none⟩=some (.slice Ad (p.L c).done.length Cd0)/\wx.cell? ⟨g,65,none⟩=some v.set) (by kernel_rfl) (HS0.out _ (Below.refl _ _).drew) (fun hHeld=>?_)
  refine O.Z 0 (.pointer (some ⟨g,o,none⟩)) 8 rfl rfl hHeld (fun wx hSw=>?_) ?_
  ·try dsimp only at hSw
   go_simp
  simp only[O.pp,O.pb,O.pc];refine O.Z 1 (.pointer (some ⟨g,o,none⟩)) 9 rfl rfl hHeld (fun wx hSw=>?_) ?_
  ·try dsimp only at hSw
   go_simp
  simp only[O.pp,O.pb,O.pc];refine O.Z 2 (.pointer (some ⟨g,o,none⟩)) 10 rfl rfl hHeld (fun wx hSw=>?_) ?_
  ·try dsimp only at hSw
   go_simp
  simp only[O.pp,O.pb,O.pc];refine O.Z 3 (.bool true) 11 rfl rfl hHeld (fun wx hSw=>?_) ?_
  ·try dsimp only at hSw
   go_simp
  simp only[O.pp,O.pb,O.pc];refine O.Z 4 (.bool false) 12 rfl rfl hHeld (fun wx hSw=>?_) ?_
  ·try dsimp only at hSw
   go_simp
  simp only[O.pp,O.pb,O.pc];refine O.Z 5 (.bool false) 13 rfl rfl hHeld (fun wx hSw=>?_) ?_
  ·try dsimp only at hSw
   go_simp
  simp only[O.pp,O.pb,O.pc];refine O.Z 6 (.pointer (some ⟨g,o,none⟩)) 14 rfl rfl hHeld (fun wx hSw=>?_) ?_
  ·try dsimp only at hSw
   go_simp
  simp only[O.pp,O.pb,O.pc];refine O.Z 7 (.pointer (some ⟨g,o,none⟩)) 15 rfl rfl hHeld (fun wx hSw=>?_) ?_
  ·try dsimp only at hSw
   go_simp
  simp only[O.pp,O.pb,O.pc];refine O.Z 8 (.pointer (some ⟨g,o+3,none⟩)) 16 rfl rfl hHeld (fun wx hSw=>?_) ?_
  ·try dsimp only at hSw
   go_simp
  simp only[O.pp,O.pb,O.pc];refine O.Z 9 ((v.l c).told) 17 rfl rfl hHeld (fun wx hSw=>?_) ?_
  ·try dsimp only at hSw
   go_simp
  simp only[O.pp,O.pb,O.pc];refine O.Z 10 (.pointer (some ⟨g,0,none⟩)) 18 rfl rfl hHeld (fun wx hSw=>?_) ?_
  ·try dsimp only at hSw
   go_simp
  simp only[O.pp,O.pb,O.pc];refine O.Z 11 (.pointer (some ⟨g,0,none⟩)) 19 rfl rfl hHeld (fun wx hSw=>?_) ?_
  ·try dsimp only at hSw
   go_simp
  simp only[O.pp,O.pb,O.pc];refine O.Z 12 (.pointer (some ⟨g,65,none⟩)) 20 rfl rfl hHeld (fun wx hSw=>?_) ?_
  ·try dsimp only at hSw
   go_simp
  simp only[O.pp,O.pb,O.pc];refine O.Z 13 v.set 21 rfl rfl hHeld (fun wx hSw=>?_) ?_
  ·try dsimp only at hSw
   go_simp
  simp only[O.pp,O.pb,O.pc];refine wpAnyH_ready (rs:=[14]) (by kernel_rfl) (by simp) ?_
  refine AllReadyH.cons rfl (fun K hK=>?_) AllReadyH.nil;go_simp
  go_at_call 120
  refine (HEQ.out _ (by exact (Below.refl _ w).drew)).mono ?_
  rintro e w1⟨rfl,hb1⟩;have b1:=(Below.refl w.heap.size w).drew.trans hb1;clear hb1;dsimp only;refine hK.out _ _ (HS0.out w1 b1) (fun hHeld=>?_);clear hK K
  try simp only[O.pp,O.pb,O.pc]
  refine O.Z 15 (.bool false) 23 rfl rfl hHeld (fun wx hSw=>?_) ?_
  ·try dsimp only at hSw
   go_simp
  simp only[O.pp,O.pb,O.pc];refine O.U 16 24 rfl rfl hHeld ?_;simp only[O.pp,O.pb,O.pc];refine O.U 17 25 rfl rfl hHeld ?_;simp only[O.pp,O.pb,O.pc];refine O.U 18 26 rfl rfl hHeld ?_;simp only[O.pp,O.pb,O.pc];refine O.U 19 27 rfl rfl hHeld ?_;simp only[O.pp,O.pb,O.pc];refine O.U 20 28 rfl rfl hHeld ?_;simp only[O.pp,O.pb,O.pc];refine O.Z 21 (.bool false) 29 rfl rfl hHeld (fun wx hSw=>?_) ?_
  ·try dsimp only at hSw
   go_simp
  simp only[O.pp,O.pb,O.pc];refine O.Z 22 (.bool false) 30 rfl rfl hHeld (fun wx hSw=>?_) ?_
  ·try dsimp only at hSw
   go_simp
  simp only[O.pp,O.pb,O.pc];refine O.U 23 31 rfl rfl hHeld ?_;simp only[O.pp,O.pb,O.pc];refine O.U 24 32 rfl rfl hHeld ?_;simp only[O.pp,O.pb,O.pc];refine O.U 25 33 rfl rfl hHeld ?_;simp only[O.pp,O.pb,O.pc];refine O.U 26 34 rfl rfl hHeld ?_;simp only[O.pp,O.pb,O.pc];refine O.U 27 35 rfl rfl hHeld ?_;simp only[O.pp,O.pb,O.pc];refine O.U 28 36 rfl rfl hHeld ?_;simp only[O.pp,O.pb,O.pc];refine O.Z 29 (.bool false) 37 rfl rfl hHeld (fun wx hSw=>?_) ?_
  ·try dsimp only at hSw
   go_simp
  simp only[O.pp,O.pb,O.pc];refine O.Z 30 (.bool false) 38 rfl rfl hHeld (fun wx hSw=>?_) ?_
  ·try dsimp only at hSw
   go_simp
  simp only[O.pp,O.pb,O.pc];refine wpAnyH_done (by kernel_rfl) ?_ _
  exact NoPanic.normal ⟨rfl,rfl,b1⟩
 rotate_left
 have HS0:Hid (∀ wx,Below w.heap.size w wx->wx.cell? ⟨g,o,none⟩=some (.bool true)/\wx.cell? ⟨g,o+3,none⟩=some (v.l c).told/\wx.cell? ⟨g,o+4,none⟩=some (.bool true)/\wx.cell? ⟨g,o+5,none⟩=some (.slice Ad (p.L c).done.length Cd0)/\wx.cell? ⟨g,65,none⟩=some v.set):=fun wx hb=>by
  obtain⟨f0,f3,f4,f5,f65,-⟩:=HF.out wx hb;rw[hon]at f0;rw[ed]at f5;rw[hfr]at f4;exact⟨f0,f3,f4,f5,f65⟩
 clear f0 f3 f4 f5 f65 f00 f01
 go_upto_region 0 with fail
 apply z4l (fun w'=>Below w.heap.size w w')
 ·refine wp_region_noPanic ?_;refine wp_region_held_drew (S:=fun wx=>wx.cell? ⟨g,o,none⟩=some (.bool true)/\wx.cell? ⟨g,o+3,none⟩=some (v.l c).told/\wx.cell? ⟨g,o+4,none⟩=some (.bool true)/\wx.cell? ⟨g,o+5,none⟩=some (.slice Ad (p.L c).done.length Cd0)/\wx.cell? ⟨g,65,none⟩=some v.set) (by kernel_rfl) (HS0.out _ (Below.refl _ _).drew) (fun hHeld=>?_)
  refine O.Z 0 (.pointer (some ⟨g,o,none⟩)) 8 rfl rfl hHeld (fun wx hSw=>?_) ?_
  ·try dsimp only at hSw
   go_simp
  simp only[O.pp,O.pb,O.pc];refine O.Z 1 (.pointer (some ⟨g,o,none⟩)) 9 rfl rfl hHeld (fun wx hSw=>?_) ?_
  ·try dsimp only at hSw
   go_simp
  simp only[O.pp,O.pb,O.pc];refine O.Z 2 (.pointer (some ⟨g,o,none⟩)) 10 rfl rfl hHeld (fun wx hSw=>?_) ?_
  ·try dsimp only at hSw
   go_simp
  simp only[O.pp,O.pb,O.pc];refine O.Z 3 (.bool true) 11 rfl rfl hHeld (fun wx hSw=>?_) ?_
  ·try dsimp only at hSw
   go_simp
  simp only[O.pp,O.pb,O.pc];refine O.Z 4 (.bool false) 12 rfl rfl hHeld (fun wx hSw=>?_) ?_
  ·try dsimp only at hSw
   go_simp
  simp only[O.pp,O.pb,O.pc];refine O.Z 5 (.bool false) 13 rfl rfl hHeld (fun wx hSw=>?_) ?_
  ·try dsimp only at hSw
   go_simp
  simp only[O.pp,O.pb,O.pc];refine O.Z 6 (.pointer (some ⟨g,o,none⟩)) 14 rfl rfl hHeld (fun wx hSw=>?_) ?_
  ·try dsimp only at hSw
   go_simp
  simp only[O.pp,O.pb,O.pc];refine O.Z 7 (.pointer (some ⟨g,o,none⟩)) 15 rfl rfl hHeld (fun wx hSw=>?_) ?_
  ·try dsimp only at hSw
   go_simp
  simp only[O.pp,O.pb,O.pc];refine O.Z 8 (.pointer (some ⟨g,o+3,none⟩)) 16 rfl rfl hHeld (fun wx hSw=>?_) ?_
  ·try dsimp only at hSw
   go_simp
  simp only[O.pp,O.pb,O.pc];refine O.Z 9 ((v.l c).told) 17 rfl rfl hHeld (fun wx hSw=>?_) ?_
  ·try dsimp only at hSw
   go_simp
  simp only[O.pp,O.pb,O.pc];refine O.Z 10 (.pointer (some ⟨g,0,none⟩)) 18 rfl rfl hHeld (fun wx hSw=>?_) ?_
  ·try dsimp only at hSw
   go_simp
  simp only[O.pp,O.pb,O.pc];refine O.Z 11 (.pointer (some ⟨g,0,none⟩)) 19 rfl rfl hHeld (fun wx hSw=>?_) ?_
  ·try dsimp only at hSw
   go_simp
  simp only[O.pp,O.pb,O.pc];refine O.Z 12 (.pointer (some ⟨g,65,none⟩)) 20 rfl rfl hHeld (fun wx hSw=>?_) ?_
  ·try dsimp only at hSw
   go_simp
  simp only[O.pp,O.pb,O.pc];refine O.Z 13 v.set 21 rfl rfl hHeld (fun wx hSw=>?_) ?_
  ·try dsimp only at hSw
   go_simp
  simp only[O.pp,O.pb,O.pc];refine wpAnyH_ready (rs:=[14]) (by kernel_rfl) (by simp) ?_
  refine AllReadyH.cons rfl (fun K hK=>?_) AllReadyH.nil;go_simp
  go_at_call 120
  refine (HEQ.out _ (by exact (Below.refl _ w).drew)).mono ?_
  rintro e w1⟨rfl,hb1⟩;have b1:=(Below.refl w.heap.size w).drew.trans hb1;clear hb1;dsimp only;refine hK.out _ _ (HS0.out w1 b1) (fun hHeld=>?_);clear hK K
  try simp only[O.pp,O.pb,O.pc]
  refine O.Z 15 (.bool true) 23 rfl rfl hHeld (fun wx hSw=>?_) ?_
  ·try dsimp only at hSw
   go_simp
  simp only[O.pp,O.pb,O.pc];refine O.Z 16 (.pointer (some ⟨g,o,none⟩)) 24 rfl rfl hHeld (fun wx hSw=>?_) ?_
  ·try dsimp only at hSw
   go_simp
  simp only[O.pp,O.pb,O.pc];refine O.Z 17 (.pointer (some ⟨g,o,none⟩)) 25 rfl rfl hHeld (fun wx hSw=>?_) ?_
  ·try dsimp only at hSw
   go_simp
  simp only[O.pp,O.pb,O.pc];refine O.Z 18 (.pointer (some ⟨g,o+4,none⟩)) 26 rfl rfl hHeld (fun wx hSw=>?_) ?_
  ·try dsimp only at hSw
   go_simp
  simp only[O.pp,O.pb,O.pc];refine O.Z 19 (.bool true) 27 rfl rfl hHeld (fun wx hSw=>?_) ?_
  ·try dsimp only at hSw
   go_simp
  simp only[O.pp,O.pb,O.pc];refine O.Z 20 (.bool false) 28 rfl rfl hHeld (fun wx hSw=>?_) ?_
  ·try dsimp only at hSw
   go_simp
  simp only[O.pp,O.pb,O.pc];refine O.Z 21 (.bool false) 29 rfl rfl hHeld (fun wx hSw=>?_) ?_
  ·try dsimp only at hSw
   go_simp
  simp only[O.pp,O.pb,O.pc];refine O.Z 22 (.bool false) 30 rfl rfl hHeld (fun wx hSw=>?_) ?_
  ·try dsimp only at hSw
   go_simp
  simp only[O.pp,O.pb,O.pc];refine O.U 23 31 rfl rfl hHeld ?_;simp only[O.pp,O.pb,O.pc];refine O.U 24 32 rfl rfl hHeld ?_;simp only[O.pp,O.pb,O.pc];refine O.U 25 33 rfl rfl hHeld ?_;simp only[O.pp,O.pb,O.pc];refine O.U 26 34 rfl rfl hHeld ?_;simp only[O.pp,O.pb,O.pc];refine O.U 27 35 rfl rfl hHeld ?_;simp only[O.pp,O.pb,O.pc];refine O.U 28 36 rfl rfl hHeld ?_;simp only[O.pp,O.pb,O.pc];refine O.Z 29 (.bool false) 37 rfl rfl hHeld (fun wx hSw=>?_) ?_
  ·try dsimp only at hSw
   go_simp
  simp only[O.pp,O.pb,O.pc];refine O.Z 30 (.bool false) 38 rfl rfl hHeld (fun wx hSw=>?_) ?_
  ·try dsimp only at hSw
   go_simp
  simp only[O.pp,O.pb,O.pc];refine wpAnyH_done (by kernel_rfl) ?_ _
  exact NoPanic.normal ⟨rfl,rfl,b1⟩
 rotate_left
 have hdl2:(((p.L c).done.length:Int) == 0)=false:=by simpa using hdl
 have HS0:Hid (∀ wx,Below w.heap.size w wx->wx.cell? ⟨g,o,none⟩=some (.bool true)/\wx.cell? ⟨g,o+3,none⟩=some (v.l c).told/\wx.cell? ⟨g,o+4,none⟩=some (.bool false)/\wx.cell? ⟨g,o+5,none⟩=some (.slice Ad (p.L c).done.length Cd0)/\wx.cell? ⟨g,65,none⟩=some v.set):=fun wx hb=>by
  obtain⟨f0,f3,f4,f5,f65,-⟩:=HF.out wx hb;rw[hon]at f0;rw[ed]at f5;rw[hfr]at f4;exact⟨f0,f3,f4,f5,f65⟩
 clear f0 f3 f4 f5 f65 f00 f01
 go_upto_region 0 with fail
 apply z4l (fun w'=>Below w.heap.size w w')
 ·refine wp_region_noPanic ?_;refine wp_region_held_drew (S:=fun wx=>wx.cell? ⟨g,o,none⟩=some (.bool true)/\wx.cell? ⟨g,o+3,none⟩=some (v.l c).told/\wx.cell? ⟨g,o+4,none⟩=some (.bool false)/\wx.cell? ⟨g,o+5,none⟩=some (.slice Ad (p.L c).done.length Cd0)/\wx.cell? ⟨g,65,none⟩=some v.set) (by kernel_rfl) (HS0.out _ (Below.refl _ _).drew) (fun hHeld=>?_)
  refine O.Z 0 (.pointer (some ⟨g,o,none⟩)) 8 rfl rfl hHeld (fun wx hSw=>?_) ?_
  ·try dsimp only at hSw
   go_simp
  simp only[O.pp,O.pb,O.pc];refine O.Z 1 (.pointer (some ⟨g,o,none⟩)) 9 rfl rfl hHeld (fun wx hSw=>?_) ?_
  ·try dsimp only at hSw
   go_simp
  simp only[O.pp,O.pb,O.pc];refine O.Z 2 (.pointer (some ⟨g,o,none⟩)) 10 rfl rfl hHeld (fun wx hSw=>?_) ?_
  ·try dsimp only at hSw
   go_simp
  simp only[O.pp,O.pb,O.pc];refine O.Z 3 (.bool true) 11 rfl rfl hHeld (fun wx hSw=>?_) ?_
  ·try dsimp only at hSw
   go_simp
  simp only[O.pp,O.pb,O.pc];refine O.Z 4 (.bool false) 12 rfl rfl hHeld (fun wx hSw=>?_) ?_
  ·try dsimp only at hSw
   go_simp
  simp only[O.pp,O.pb,O.pc];refine O.Z 5 (.bool false) 13 rfl rfl hHeld (fun wx hSw=>?_) ?_
  ·try dsimp only at hSw
   go_simp
  simp only[O.pp,O.pb,O.pc];refine O.Z 6 (.pointer (some ⟨g,o,none⟩)) 14 rfl rfl hHeld (fun wx hSw=>?_) ?_
  ·try dsimp only at hSw
   go_simp
  simp only[O.pp,O.pb,O.pc];refine O.Z 7 (.pointer (some ⟨g,o,none⟩)) 15 rfl rfl hHeld (fun wx hSw=>?_) ?_
  ·try dsimp only at hSw
   go_simp
  simp only[O.pp,O.pb,O.pc];refine O.Z 8 (.pointer (some ⟨g,o+3,none⟩)) 16 rfl rfl hHeld (fun wx hSw=>?_) ?_
  ·try dsimp only at hSw
   go_simp
  simp only[O.pp,O.pb,O.pc];refine O.Z 9 ((v.l c).told) 17 rfl rfl hHeld (fun wx hSw=>?_) ?_
  ·try dsimp only at hSw
   go_simp
  simp only[O.pp,O.pb,O.pc];refine O.Z 10 (.pointer (some ⟨g,0,none⟩)) 18 rfl rfl hHeld (fun wx hSw=>?_) ?_
  ·try dsimp only at hSw
   go_simp
  simp only[O.pp,O.pb,O.pc];refine O.Z 11 (.pointer (some ⟨g,0,none⟩)) 19 rfl rfl hHeld (fun wx hSw=>?_) ?_
  ·try dsimp only at hSw
   go_simp
  simp only[O.pp,O.pb,O.pc];refine O.Z 12 (.pointer (some ⟨g,65,none⟩)) 20 rfl rfl hHeld (fun wx hSw=>?_) ?_
  ·try dsimp only at hSw
   go_simp
  simp only[O.pp,O.pb,O.pc];refine O.Z 13 v.set 21 rfl rfl hHeld (fun wx hSw=>?_) ?_
  ·try dsimp only at hSw
   go_simp
  simp only[O.pp,O.pb,O.pc];refine wpAnyH_ready (rs:=[14]) (by kernel_rfl) (by simp) ?_
  refine AllReadyH.cons rfl (fun K hK=>?_) AllReadyH.nil;go_simp
  go_at_call 120
  refine (HEQ.out _ (by exact (Below.refl _ w).drew)).mono ?_
  rintro e w1⟨rfl,hb1⟩;have b1:=(Below.refl w.heap.size w).drew.trans hb1;clear hb1;dsimp only;refine hK.out _ _ (HS0.out w1 b1) (fun hHeld=>?_);clear hK K
  try simp only[O.pp,O.pb,O.pc]
  refine O.Z 15 (.bool true) 23 rfl rfl hHeld (fun wx hSw=>?_) ?_
  ·try dsimp only at hSw
   go_simp
  simp only[O.pp,O.pb,O.pc];refine O.Z 16 (.pointer (some ⟨g,o,none⟩)) 24 rfl rfl hHeld (fun wx hSw=>?_) ?_
  ·try dsimp only at hSw
   go_simp
  simp only[O.pp,O.pb,O.pc];refine O.Z 17 (.pointer (some ⟨g,o,none⟩)) 25 rfl rfl hHeld (fun wx hSw=>?_) ?_
  ·try dsimp only at hSw
   go_simp
  simp only[O.pp,O.pb,O.pc];refine O.Z 18 (.pointer (some ⟨g,o+4,none⟩)) 26 rfl rfl hHeld (fun wx hSw=>?_) ?_
  ·try dsimp only at hSw
   go_simp
  simp only[O.pp,O.pb,O.pc];refine O.Z 19 (.bool false) 27 rfl rfl hHeld (fun wx hSw=>?_) ?_
  ·try dsimp only at hSw
   go_simp
  simp only[O.pp,O.pb,O.pc];refine O.Z 20 (.bool true) 28 rfl rfl hHeld (fun wx hSw=>?_) ?_
  ·try dsimp only at hSw
   go_simp
  simp only[O.pp,O.pb,O.pc];refine O.Z 21 (.bool true) 29 rfl rfl hHeld (fun wx hSw=>?_) ?_
  ·try dsimp only at hSw
   go_simp
  simp only[O.pp,O.pb,O.pc];refine O.Z 22 (.bool true) 30 rfl rfl hHeld (fun wx hSw=>?_) ?_
  ·try dsimp only at hSw
   go_simp
  simp only[O.pp,O.pb,O.pc];refine O.Z 23 (.pointer (some ⟨g,o,none⟩)) 31 rfl rfl hHeld (fun wx hSw=>?_) ?_
  ·try dsimp only at hSw
   go_simp
  simp only[O.pp,O.pb,O.pc];refine O.Z 24 (.pointer (some ⟨g,o,none⟩)) 32 rfl rfl hHeld (fun wx hSw=>?_) ?_
  ·try dsimp only at hSw
   go_simp
  simp only[O.pp,O.pb,O.pc];refine O.Z 25 (.pointer (some ⟨g,o+5,none⟩)) 33 rfl rfl hHeld (fun wx hSw=>?_) ?_
  ·try dsimp only at hSw
   go_simp
  simp only[O.pp,O.pb,O.pc];refine O.Z 26 (.slice Ad (p.L c).done.length Cd0) 34 rfl rfl hHeld (fun wx hSw=>?_) ?_
  ·try dsimp only at hSw
   go_simp
  simp only[O.pp,O.pb,O.pc];refine O.Z 27 (.int .i64 ((p.L c).done.length:Int)) 35 rfl rfl hHeld (fun wx hSw=>?_) ?_
  ·try dsimp only at hSw
   go_simp
  simp only[O.pp,O.pb,O.pc];refine O.Z 28 (.bool false) 36 rfl rfl hHeld (fun wx hSw=>?_) ?_
  ·try dsimp only at hSw
   go_simp
  simp only[O.pp,O.pb,O.pc];refine O.Z 29 (.bool false) 37 rfl rfl hHeld (fun wx hSw=>?_) ?_
  ·try dsimp only at hSw
   go_simp
  simp only[O.pp,O.pb,O.pc];refine O.Z 30 (.bool false) 38 rfl rfl hHeld (fun wx hSw=>?_) ?_
  ·try dsimp only at hSw
   go_simp
  simp only[O.pp,O.pb,O.pc];refine wpAnyH_done (by kernel_rfl) ?_ _
  exact NoPanic.normal ⟨rfl,rfl,b1⟩
 all_goals
  intro w1 b1;clear HS0
  try simp only[Exit.then]
  apply_assumption
  have HF1:Hid (∀ wx,Below w1.heap.size w1 wx->wx.cell? ⟨g,0,none⟩=some (.int .i64 p.h)/\wx.cell? ⟨g,o+3,none⟩=some (v.l c).told/\wx.cell? ⟨g,65,none⟩=some v.set/\wx.cell? ⟨g,o+5,none⟩=some (.slice Ad (p.L c).done.length Cd0)):=fun wx hb=>by
   obtain⟨-,f3,-,f5,f65,f00,-⟩:=HF.out wx (zbt b1 hb);rw[ed]at f5;exact⟨f00,f3,f65,f5⟩
  have HDF1:=hide (fun (wx:World) (hb:Below w1.heap.size w1 wx)=>HDF.out wx (zbt b1 hb));have HB1:=hide b1;clear b1;generalize Df.z3x (p.L c).told p.set=dl at *;have HAL':Hid (Below w1.heap.size w1 (w1.alloc (.cells Z6 70))):=znw w1 _;have HALd:=hide HAL'.out.drew;have HACd:Hid (CAt 70 (w1.alloc (.cells Z6 70)).drew w1.heap.size Z6):=CAt.new 70 w1 Z6;have HSZ:Hid (w1.heap.size+1<=(w1.alloc (.cells Z6 70)).drew.heap.size):=HACd.out.lt;unfold Z6 at HAL' HALd
  go_upto_region 1 with fail
  apply j1h (fun Au nu Cu g4 w5=>Tds w1 #[.int .i64 1,.int .i64 p.h,.int .i64 0,.int .i64 0,.slice Au nu Cu,.slice Ad (p.L c).done.length Cd0] dl (.slice Au nu Cu) g4 w5)
  ·refine wp_region_noPanic ?_;have hb:=Below.refl w1.heap.size w1
   go_region_held3 (fun wx=>wx.cell? ⟨g,0,none⟩=some (.int .i64 p.h)/\wx.cell? ⟨g,o+3,none⟩=some (v.l c).told/\wx.cell? ⟨g,65,none⟩=some v.set/\wx.cell? ⟨g,o+5,none⟩=some (.slice Ad (p.L c).done.length Cd0)) ((refine HF1.out _ ?_;first | with_reducible exact hb | with_reducible exact hb.drew | with_reducible exact hb.alloc hb.size _ | with_reducible exact (hb.alloc hb.size _).drew | with_reducible exact hb.drew.alloc hb.drew.size _ | with_reducible exact HST.out.bel)) (first
    | (go_at_call 121;refine (HDF1.out _ (by with_reducible exact (Below.refl _ w1).drew)).mono ?_;rintro e wb⟨u,rfl,U,hbb⟩;obtain⟨Au,nu,Cu,rfl⟩:=U.one';have hb:=(Below.refl w1.heap.size w1).drew.trans hbb;obtain⟨wS,sA,hST⟩:=j1u (w1:=w1) (cs:=#[.int .i64 1,.int .i64 p.h,.int .i64 0,.int .i64 0,.slice Au nu Cu,.slice Ad (p.L c).done.length Cd0]) rfl (j4G 1 p.h U.one' Ad (p.L c).done.length Cd0) U (Nat.le_refl _) hb;unfold Z6 at sA;have HST:=hide hST;clear hST;have HN1:True:=trivial;clear U hbb;dsimp only)
    | (go_at_call 121;refine (HDF1.out _ (by with_reducible exact HALd.out)).mono ?_;rintro e wb⟨u,rfl,U,hbb⟩;obtain⟨Au,nu,Cu,rfl⟩:=U.one';have hb:=zbt HALd.out hbb;have HCb:=hide (HACd.out.over hbb);obtain⟨wS,sC,hST⟩:=j2o (w1:=w1) (cs:=#[.int .i64 1,.int .i64 p.h,.int .i64 0,.int .i64 0,.slice Au nu Cu,.slice Ad (p.L c).done.length Cd0]) rfl (j4G 1 p.h U.one' Ad (p.L c).done.length Cd0) U HSZ.out hb HCb.out;have HST:=hide hST;clear hST;clear U hbb;dsimp only))
   all_goals first
    | (have _m:=HN1;obtain⟨gn,hg'⟩:∃ gn,gn=wb.heap.size:=⟨_,rfl⟩;rw[← hg'];exact NoPanic.normal ⟨Au,nu,Cu,gn,rfl,rfl,by subst hg';exact HST.out⟩)
    | (obtain⟨gn,hg'⟩:∃ gn,gn=w1.heap.size:=⟨_,rfl⟩;rw[← hg'];exact NoPanic.normal ⟨Au,nu,Cu,gn,rfl,rfl,by subst hg';exact HST.out⟩)
  rintro Au nu Cu g4 w5 S5;simp only[Exit.then];apply_assumption;have B5:=zbt HB1.out S5.bel;have r2:=(((HP.out.lk c hc).done.over B5)).mono (P':=fun _=>True) fun _ _ _=>trivial;rw[ed]at r2;refine j1P g p D v P w w5 c o g4 dl _ _ hc HC.out HP.out hg ht0 ht1 HO B5 S5.cat (S5.rep.mono fun _ _ _=>trivial) r2 HD _ _ _ _ _ _ _ _ _ _ _ _ _ _ _ _ _ _ _ _ _ _ _ _ _ _ _ _ _ _ _ _ _ _ _ _ _ _ _ _ _ _ _ _ _ _ _ _ _
end Pv
end Go.Proofs.YtmopekkhmhhcaaaGreat
