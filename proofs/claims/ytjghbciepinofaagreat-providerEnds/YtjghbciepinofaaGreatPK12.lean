/- Parts of the proof. -/
import Derived.Test.YtjghbciepinofaaGreatPL
import Derived.Test.YtjghbciepinofaaGreatPK38
set_option maxRecDepth 100000
set_option maxHeartbeats 16000000
namespace Go.Proofs.YtjghbciepinofaaGreat
open Go.Proofs.Tryz
open Value renaming int->J,slice->J1,pointer->J2,bool->J3,agg->J4
open IntKind renaming i64->I
open Obj renaming cells->J5
namespace Pv
open Go.RowKit
attribute [local go_sem ↓] z4f z4t
theorem z8w(g:Nat)(p:Pr)(v:PrV)(P:Nat->Prop)(w:World)(c:Nat)(hc:c<2)(hC:CAt 47 w g (prC p v))(hp:PIn P w p v)(hg:¬ P g)(a5:0<=p.t)(a6:p.t<=1099511627776) :
  Calls prog 32 #[J2 (some ⟨g,0,none⟩),J2 (some ⟨g,66+c * 14,none⟩)] w (Turns w g P (z1B p c)):=by
 obtain⟨o,ho⟩:∃ o,o=66+c * 14:=⟨_,rfl⟩;rw[<- ho]
 have hD:z1B p c=if z3n p (p.L c)=true then p
  else if Cd.z0o 1 p.h 0 0 (Df.z2x (p.L c).told p.set) (p.L c).done=0 then
   if Ln.z4M (p.L c).out (p.t+40)=0 then { p with L:=z3d p.L c { p.L c with out:=Ln.z5z (p.L c).out (Cd.encS 1 p.h 0 0 (Df.z2x (p.L c).told p.set) (p.L c).done) (p.t+40),told:=p.set,fresh:=false,done:=[] } } else p
  else p:=rfl
 have a1:Hid (z3n p (p.L c)=(!(p.L c).on || (decide ((p.L c).told=p.set) && !(p.L c).fresh && decide ((p.L c).done.length=0)))):=rfl
 generalize z1B p c=D at *;have HD:=J6 hD;have hL:=hp.lk c hc;have F:=J6 (fun (wx:World) (d:Bl w wx)=>q0Z (p.L c).told p.set (v.l c).told v.set P P wx (hL.told.over d) (hp.set.over d));have a7:=J6 (fun (wx:World) (d:Bl w wx)=>q7T (hL.told.over d) (hp.set.over d));obtain⟨r,f,V,sd,-,-,-⟩:=hL.done.open (z0M _) (by decide)
 have HF:Hid (∀ wx,Bl w wx->wx.cell? ⟨g,o,none⟩=some (J3 (p.L c).on)/\wx.cell? ⟨g,o+3,none⟩=some (v.l c).told/\wx.cell? ⟨g,o+4,none⟩=some (J3 (p.L c).fresh)/\wx.cell? ⟨g,o+5,none⟩=some (v.l c).done/\wx.cell? ⟨g,65,none⟩=some v.set/\wx.cell? ⟨g,0,none⟩=some (.int .i64 p.h)/\wx.cell? ⟨g,1,none⟩=some (.int .i64 p.t)):=fun wx d=>by
  have C:=hC.over d;have a3:=(C.lk hc).facts;rw[<- ho]at a3;obtain⟨f0,-,-,f3,n,j,-⟩:=a3;exact⟨f0,f3,n,j,C.cell 65,C.cell 0,C.cell 1⟩
 have HO:=J6 ho;have HP:=J6 hp;have HC:=J6 hC;have b9:=hC.lt;clear hD hp hC hL ho
 have HQ:Hid (∀ wx,Bl w wx->D=p->Turns w g P D (.returned (.tuple #[])) wx):=fun wx d e=>by
  rw[e];exact⟨v,rfl,HC.out.over d,HP.out.z2w d 0,Alt.of d⟩
 obtain⟨f0,f3,n,j,i,x,G⟩:=HF.out w (Below.refl _ _);rw[V]at j
 go_enter func32,ntmps32
 cases q:(p.L c).on
 ·have hq:Hid (D=p):=HD.out.trans (if_pos (by rw[a1.out,q];rfl))
  rw[q]at f0
  go_upto_region 0 with fail
  go_quiet (fail);go_wp2;go_end0;exact HQ.out _ (below_drewN (Below.refl _ _) _) hq.out
 rw[q]at f0;have a2:Hid (z3n p (p.L c)=(decide ((p.L c).told=p.set) && !(p.L c).fresh && decide ((p.L c).done.length=0))):=by rw[Hid,a1.out,q];rfl
 clear a1;generalize decide ((p.L c).told=p.set)=E at *
 have H:(E=true/\(p.L c).fresh=false/\(p.L c).done.length=0)∨(E=false∨(E=true/\(p.L c).fresh=true)∨(E=true/\(p.L c).fresh=false/\(p.L c).done.length≠0)):=by
  cases E <;> cases (p.L c).fresh <;> by_cases h:(p.L c).done.length=0 <;> simp[h]
 rcases H with⟨rfl,s,M⟩ | H
 ·have hq:Hid (D=p):=HD.out.trans (if_pos (by rw[a2.out,s];simp[M]))
  rw[M]at j V;rw[s]at n
  have k:Hid (∀ wx,Bl w wx->wx.cell? ⟨g,o,none⟩=some (J3 true)/\wx.cell? ⟨g,o+3,none⟩=some (v.l c).told/\wx.cell? ⟨g,o+4,none⟩=some (J3 false)/\wx.cell? ⟨g,o+5,none⟩=some (J1 r 0 f)/\wx.cell? ⟨g,65,none⟩=some v.set):=fun wx d=>by
   obtain⟨f0,f3,n,j,i,-⟩:=HF.out wx d;rw[q]at f0;rw[s]at n;rw[V]at j;exact⟨f0,f3,n,j,i⟩
  clear f0 f3 n j i x G
  go_upto_region 0 with fail
  apply z2d (fun w'=>Bl w w')
  ·refine wp_region_noPanic ?_;have d:=Below.refl w.heap.size w
   go_region_held3 (fun wx=>wx.cell? ⟨g,o,none⟩=some (J3 true)/\wx.cell? ⟨g,o+3,none⟩=some (v.l c).told/\wx.cell? ⟨g,o+4,none⟩=some (J3 false)/\wx.cell? ⟨g,o+5,none⟩=some (J1 r 0 f)/\wx.cell? ⟨g,65,none⟩=some v.set) ((refine k.out _ ?_;first | with_reducible exact d | with_reducible exact d.drew)) ((go_at_call 70;refine (F.out _ (by exact (Below.refl _ w).drew)).mono ?_;rintro e w1⟨rfl,m⟩;have d:=(Below.refl w.heap.size w).drew.trans m;clear m;dsimp only))
   all_goals exact NoPanic.normal ⟨rfl,rfl,d⟩
  intro w1 b1;simp only[Exit.then];apply_assumption;go_wp2;go_end0;exact HQ.out _ b1 hq.out
 have a4:z3n p (p.L c)=false:=by
  rw[a2.out]
  rcases H with rfl | ⟨rfl,h⟩ | ⟨rfl,h,h'⟩
  ·rfl
  ·rw[h];rfl
  ·rw[h];simp[h']
 replace HD:=J6 (HD.out.trans (if_neg (by rw[a4];simp)))
 clear a2 a4
 rcases H with rfl | ⟨rfl,s⟩ | ⟨rfl,s,M⟩
 have k:Hid (∀ wx,Bl w wx->wx.cell? ⟨g,o,none⟩=some (J3 true)/\wx.cell? ⟨g,o+3,none⟩=some (v.l c).told/\wx.cell? ⟨g,o+4,none⟩=some (J3 (p.L c).fresh)/\wx.cell? ⟨g,o+5,none⟩=some (J1 r (p.L c).done.length f)/\wx.cell? ⟨g,65,none⟩=some v.set):=fun wx d=>by
  obtain⟨f0,f3,n,j,i,-⟩:=HF.out wx d;rw[q]at f0;rw[V]at j;exact⟨f0,f3,n,j,i⟩
 clear f0 f3 n j i x G
 go_upto_region 0 with fail
 apply z2d (fun w'=>Bl w w')
 ·refine wp_region_noPanic ?_;refine wp_region_held_drew (S:=fun wx=>wx.cell? ⟨g,o,none⟩=some (J3 true)/\wx.cell? ⟨g,o+3,none⟩=some (v.l c).told/\wx.cell? ⟨g,o+4,none⟩=some (J3 (p.L c).fresh)/\wx.cell? ⟨g,o+5,none⟩=some (J1 r (p.L c).done.length f)/\wx.cell? ⟨g,65,none⟩=some v.set) (by kernel_rfl) (k.out _ (Below.refl _ _).drew) (fun a=>?_)
  refine O.Z 0 (J2 (some ⟨g,o,none⟩)) 8 rfl rfl a (fun wx b=>?_) ?_
  ·try dsimp only at b
   go_simp
  simp only[O.pp,O.pb,O.pc];refine O.Z 1 (J2 (some ⟨g,o,none⟩)) 9 rfl rfl a (fun wx b=>?_) ?_
  ·try dsimp only at b
   go_simp
  simp only[O.pp,O.pb,O.pc];refine O.Z 2 (J2 (some ⟨g,o,none⟩)) 10 rfl rfl a (fun wx b=>?_) ?_
  ·try dsimp only at b
   go_simp
  simp only[O.pp,O.pb,O.pc];refine O.Z 3 (J3 true) 11 rfl rfl a (fun wx b=>?_) ?_
  ·try dsimp only at b
   go_simp
  simp only[O.pp,O.pb,O.pc];refine O.Z 4 (J3 false) 12 rfl rfl a (fun wx b=>?_) ?_
  ·try dsimp only at b
   go_simp
  simp only[O.pp,O.pb,O.pc];refine O.Z 5 (J3 false) 13 rfl rfl a (fun wx b=>?_) ?_
  ·try dsimp only at b
   go_simp
  simp only[O.pp,O.pb,O.pc];refine O.Z 6 (J2 (some ⟨g,o,none⟩)) 14 rfl rfl a (fun wx b=>?_) ?_
  ·try dsimp only at b
   go_simp
  simp only[O.pp,O.pb,O.pc];refine O.Z 7 (J2 (some ⟨g,o,none⟩)) 15 rfl rfl a (fun wx b=>?_) ?_
  ·try dsimp only at b
   go_simp
  simp only[O.pp,O.pb,O.pc];refine O.Z 8 (J2 (some ⟨g,o+3,none⟩)) 16 rfl rfl a (fun wx b=>?_) ?_
  ·try dsimp only at b
   go_simp
  simp only[O.pp,O.pb,O.pc];refine O.Z 9 ((v.l c).told) 17 rfl rfl a (fun wx b=>?_) ?_
  ·try dsimp only at b
   go_simp
  simp only[O.pp,O.pb,O.pc];refine O.Z 10 (J2 (some ⟨g,0,none⟩)) 18 rfl rfl a (fun wx b=>?_) ?_
  ·try dsimp only at b
   go_simp
  simp only[O.pp,O.pb,O.pc];refine O.Z 11 (J2 (some ⟨g,0,none⟩)) 19 rfl rfl a (fun wx b=>?_) ?_
  ·try dsimp only at b
   go_simp
  simp only[O.pp,O.pb,O.pc];refine O.Z 12 (J2 (some ⟨g,65,none⟩)) 20 rfl rfl a (fun wx b=>?_) ?_
  ·try dsimp only at b
   go_simp
  simp only[O.pp,O.pb,O.pc];refine O.Z 13 v.set 21 rfl rfl a (fun wx b=>?_) ?_
  ·try dsimp only at b
   go_simp
  simp only[O.pp,O.pb,O.pc];refine wpAnyH_ready (rs:=[14]) (by kernel_rfl) (by simp) ?_
  refine AllReadyH.cons rfl (fun K W=>?_) AllReadyH.nil;go_simp
  go_at_call 70
  refine (F.out _ (by exact (Below.refl _ w).drew)).mono ?_
  rintro e w1⟨rfl,m⟩;have b1:=(Below.refl w.heap.size w).drew.trans m;clear m;dsimp only;refine W.out _ _ (k.out w1 b1) (fun a=>?_);clear W K
  try simp only[O.pp,O.pb,O.pc]
  refine O.Z 15 (J3 false) 23 rfl rfl a (fun wx b=>?_) ?_
  ·try dsimp only at b
   go_simp
  simp only[O.pp,O.pb,O.pc];refine O.U 16 24 rfl rfl a ?_;simp only[O.pp,O.pb,O.pc];refine O.U 17 25 rfl rfl a ?_;simp only[O.pp,O.pb,O.pc];refine O.U 18 26 rfl rfl a ?_;simp only[O.pp,O.pb,O.pc];refine O.U 19 27 rfl rfl a ?_;simp only[O.pp,O.pb,O.pc];refine O.U 20 28 rfl rfl a ?_;simp only[O.pp,O.pb,O.pc];refine O.Z 21 (J3 false) 29 rfl rfl a (fun wx b=>?_) ?_
  ·try dsimp only at b
   go_simp
  simp only[O.pp,O.pb,O.pc];refine O.Z 22 (J3 false) 30 rfl rfl a (fun wx b=>?_) ?_
  ·try dsimp only at b
   go_simp
  simp only[O.pp,O.pb,O.pc];refine O.U 23 31 rfl rfl a ?_;simp only[O.pp,O.pb,O.pc];refine O.U 24 32 rfl rfl a ?_;simp only[O.pp,O.pb,O.pc];refine O.U 25 33 rfl rfl a ?_;simp only[O.pp,O.pb,O.pc];refine O.U 26 34 rfl rfl a ?_;simp only[O.pp,O.pb,O.pc];refine O.U 27 35 rfl rfl a ?_;simp only[O.pp,O.pb,O.pc];refine O.U 28 36 rfl rfl a ?_;simp only[O.pp,O.pb,O.pc];refine O.Z 29 (J3 false) 37 rfl rfl a (fun wx b=>?_) ?_
  ·try dsimp only at b
   go_simp
  simp only[O.pp,O.pb,O.pc];refine O.Z 30 (J3 false) 38 rfl rfl a (fun wx b=>?_) ?_
  ·try dsimp only at b
   go_simp
  simp only[O.pp,O.pb,O.pc];refine wpAnyH_done (by kernel_rfl) ?_ _
  exact NoPanic.normal ⟨rfl,rfl,b1⟩
 rotate_left
 have k:Hid (∀ wx,Bl w wx->wx.cell? ⟨g,o,none⟩=some (J3 true)/\wx.cell? ⟨g,o+3,none⟩=some (v.l c).told/\wx.cell? ⟨g,o+4,none⟩=some (J3 true)/\wx.cell? ⟨g,o+5,none⟩=some (J1 r (p.L c).done.length f)/\wx.cell? ⟨g,65,none⟩=some v.set):=fun wx d=>by
  obtain⟨f0,f3,n,j,i,-⟩:=HF.out wx d;rw[q]at f0;rw[V]at j;rw[s]at n;exact⟨f0,f3,n,j,i⟩
 clear f0 f3 n j i x G
 go_upto_region 0 with fail
 apply z2d (fun w'=>Bl w w')
 ·refine wp_region_noPanic ?_;refine wp_region_held_drew (S:=fun wx=>wx.cell? ⟨g,o,none⟩=some (J3 true)/\wx.cell? ⟨g,o+3,none⟩=some (v.l c).told/\wx.cell? ⟨g,o+4,none⟩=some (J3 true)/\wx.cell? ⟨g,o+5,none⟩=some (J1 r (p.L c).done.length f)/\wx.cell? ⟨g,65,none⟩=some v.set) (by kernel_rfl) (k.out _ (Below.refl _ _).drew) (fun a=>?_)
  refine O.Z 0 (J2 (some ⟨g,o,none⟩)) 8 rfl rfl a (fun wx b=>?_) ?_
  ·try dsimp only at b
   go_simp
  simp only[O.pp,O.pb,O.pc];refine O.Z 1 (J2 (some ⟨g,o,none⟩)) 9 rfl rfl a (fun wx b=>?_) ?_
  ·try dsimp only at b
   go_simp
  simp only[O.pp,O.pb,O.pc];refine O.Z 2 (J2 (some ⟨g,o,none⟩)) 10 rfl rfl a (fun wx b=>?_) ?_
  ·try dsimp only at b
   go_simp
  simp only[O.pp,O.pb,O.pc];refine O.Z 3 (J3 true) 11 rfl rfl a (fun wx b=>?_) ?_
  ·try dsimp only at b
   go_simp
  simp only[O.pp,O.pb,O.pc];refine O.Z 4 (J3 false) 12 rfl rfl a (fun wx b=>?_) ?_
  ·try dsimp only at b
   go_simp
  simp only[O.pp,O.pb,O.pc];refine O.Z 5 (J3 false) 13 rfl rfl a (fun wx b=>?_) ?_
  ·try dsimp only at b
   go_simp
  simp only[O.pp,O.pb,O.pc];refine O.Z 6 (J2 (some ⟨g,o,none⟩)) 14 rfl rfl a (fun wx b=>?_) ?_
  ·try dsimp only at b
   go_simp
  simp only[O.pp,O.pb,O.pc];refine O.Z 7 (J2 (some ⟨g,o,none⟩)) 15 rfl rfl a (fun wx b=>?_) ?_
  ·try dsimp only at b
   go_simp
  simp only[O.pp,O.pb,O.pc];refine O.Z 8 (J2 (some ⟨g,o+3,none⟩)) 16 rfl rfl a (fun wx b=>?_) ?_
  ·try dsimp only at b
   go_simp
  simp only[O.pp,O.pb,O.pc];refine O.Z 9 ((v.l c).told) 17 rfl rfl a (fun wx b=>?_) ?_
  ·try dsimp only at b
   go_simp
  simp only[O.pp,O.pb,O.pc];refine O.Z 10 (J2 (some ⟨g,0,none⟩)) 18 rfl rfl a (fun wx b=>?_) ?_
  ·try dsimp only at b
   go_simp
  simp only[O.pp,O.pb,O.pc];refine O.Z 11 (J2 (some ⟨g,0,none⟩)) 19 rfl rfl a (fun wx b=>?_) ?_
  ·try dsimp only at b
   go_simp
  simp only[O.pp,O.pb,O.pc];refine O.Z 12 (J2 (some ⟨g,65,none⟩)) 20 rfl rfl a (fun wx b=>?_) ?_
  ·try dsimp only at b
   go_simp
  simp only[O.pp,O.pb,O.pc];refine O.Z 13 v.set 21 rfl rfl a (fun wx b=>?_) ?_
  ·try dsimp only at b
   go_simp
  simp only[O.pp,O.pb,O.pc];refine wpAnyH_ready (rs:=[14]) (by kernel_rfl) (by simp) ?_
  refine AllReadyH.cons rfl (fun K W=>?_) AllReadyH.nil;go_simp
  go_at_call 70
  refine (F.out _ (by exact (Below.refl _ w).drew)).mono ?_
  rintro e w1⟨rfl,m⟩;have b1:=(Below.refl w.heap.size w).drew.trans m;clear m;dsimp only;refine W.out _ _ (k.out w1 b1) (fun a=>?_);clear W K
  try simp only[O.pp,O.pb,O.pc]
  refine O.Z 15 (J3 true) 23 rfl rfl a (fun wx b=>?_) ?_
  ·try dsimp only at b
   go_simp
  simp only[O.pp,O.pb,O.pc];refine O.Z 16 (J2 (some ⟨g,o,none⟩)) 24 rfl rfl a (fun wx b=>?_) ?_
  ·try dsimp only at b
   go_simp
  simp only[O.pp,O.pb,O.pc];refine O.Z 17 (J2 (some ⟨g,o,none⟩)) 25 rfl rfl a (fun wx b=>?_) ?_
  ·try dsimp only at b
   go_simp
  simp only[O.pp,O.pb,O.pc];refine O.Z 18 (J2 (some ⟨g,o+4,none⟩)) 26 rfl rfl a (fun wx b=>?_) ?_
  ·try dsimp only at b
   go_simp
  simp only[O.pp,O.pb,O.pc];refine O.Z 19 (J3 true) 27 rfl rfl a (fun wx b=>?_) ?_
  ·try dsimp only at b
   go_simp
  simp only[O.pp,O.pb,O.pc];refine O.Z 20 (J3 false) 28 rfl rfl a (fun wx b=>?_) ?_
  ·try dsimp only at b
   go_simp
  simp only[O.pp,O.pb,O.pc];refine O.Z 21 (J3 false) 29 rfl rfl a (fun wx b=>?_) ?_
  ·try dsimp only at b
   go_simp
  simp only[O.pp,O.pb,O.pc];refine O.Z 22 (J3 false) 30 rfl rfl a (fun wx b=>?_) ?_
  ·try dsimp only at b
   go_simp
  simp only[O.pp,O.pb,O.pc];refine O.U 23 31 rfl rfl a ?_;simp only[O.pp,O.pb,O.pc];refine O.U 24 32 rfl rfl a ?_;simp only[O.pp,O.pb,O.pc];refine O.U 25 33 rfl rfl a ?_;simp only[O.pp,O.pb,O.pc];refine O.U 26 34 rfl rfl a ?_;simp only[O.pp,O.pb,O.pc];refine O.U 27 35 rfl rfl a ?_;simp only[O.pp,O.pb,O.pc];refine O.U 28 36 rfl rfl a ?_;simp only[O.pp,O.pb,O.pc];refine O.Z 29 (J3 false) 37 rfl rfl a (fun wx b=>?_) ?_
  ·try dsimp only at b
   go_simp
  simp only[O.pp,O.pb,O.pc];refine O.Z 30 (J3 false) 38 rfl rfl a (fun wx b=>?_) ?_
  ·try dsimp only at b
   go_simp
  simp only[O.pp,O.pb,O.pc];refine wpAnyH_done (by kernel_rfl) ?_ _
  exact NoPanic.normal ⟨rfl,rfl,b1⟩
 rotate_left
 have b7:(((p.L c).done.length:Int) == 0)=false:=by simpa using M
 have k:Hid (∀ wx,Bl w wx->wx.cell? ⟨g,o,none⟩=some (J3 true)/\wx.cell? ⟨g,o+3,none⟩=some (v.l c).told/\wx.cell? ⟨g,o+4,none⟩=some (J3 false)/\wx.cell? ⟨g,o+5,none⟩=some (J1 r (p.L c).done.length f)/\wx.cell? ⟨g,65,none⟩=some v.set):=fun wx d=>by
  obtain⟨f0,f3,n,j,i,-⟩:=HF.out wx d;rw[q]at f0;rw[V]at j;rw[s]at n;exact⟨f0,f3,n,j,i⟩
 clear f0 f3 n j i x G
 go_upto_region 0 with fail
 apply z2d (fun w'=>Bl w w')
 ·refine wp_region_noPanic ?_;refine wp_region_held_drew (S:=fun wx=>wx.cell? ⟨g,o,none⟩=some (J3 true)/\wx.cell? ⟨g,o+3,none⟩=some (v.l c).told/\wx.cell? ⟨g,o+4,none⟩=some (J3 false)/\wx.cell? ⟨g,o+5,none⟩=some (J1 r (p.L c).done.length f)/\wx.cell? ⟨g,65,none⟩=some v.set) (by kernel_rfl) (k.out _ (Below.refl _ _).drew) (fun a=>?_)
  refine O.Z 0 (J2 (some ⟨g,o,none⟩)) 8 rfl rfl a (fun wx b=>?_) ?_
  ·try dsimp only at b
   go_simp
  simp only[O.pp,O.pb,O.pc];refine O.Z 1 (J2 (some ⟨g,o,none⟩)) 9 rfl rfl a (fun wx b=>?_) ?_
  ·try dsimp only at b
   go_simp
  simp only[O.pp,O.pb,O.pc];refine O.Z 2 (J2 (some ⟨g,o,none⟩)) 10 rfl rfl a (fun wx b=>?_) ?_
  ·try dsimp only at b
   go_simp
  simp only[O.pp,O.pb,O.pc];refine O.Z 3 (J3 true) 11 rfl rfl a (fun wx b=>?_) ?_
  ·try dsimp only at b
   go_simp
  simp only[O.pp,O.pb,O.pc];refine O.Z 4 (J3 false) 12 rfl rfl a (fun wx b=>?_) ?_
  ·try dsimp only at b
   go_simp
  simp only[O.pp,O.pb,O.pc];refine O.Z 5 (J3 false) 13 rfl rfl a (fun wx b=>?_) ?_
  ·try dsimp only at b
   go_simp
  simp only[O.pp,O.pb,O.pc];refine O.Z 6 (J2 (some ⟨g,o,none⟩)) 14 rfl rfl a (fun wx b=>?_) ?_
  ·try dsimp only at b
   go_simp
  simp only[O.pp,O.pb,O.pc];refine O.Z 7 (J2 (some ⟨g,o,none⟩)) 15 rfl rfl a (fun wx b=>?_) ?_
  ·try dsimp only at b
   go_simp
  simp only[O.pp,O.pb,O.pc];refine O.Z 8 (J2 (some ⟨g,o+3,none⟩)) 16 rfl rfl a (fun wx b=>?_) ?_
  ·try dsimp only at b
   go_simp
  simp only[O.pp,O.pb,O.pc];refine O.Z 9 ((v.l c).told) 17 rfl rfl a (fun wx b=>?_) ?_
  ·try dsimp only at b
   go_simp
  simp only[O.pp,O.pb,O.pc];refine O.Z 10 (J2 (some ⟨g,0,none⟩)) 18 rfl rfl a (fun wx b=>?_) ?_
  ·try dsimp only at b
   go_simp
  simp only[O.pp,O.pb,O.pc];refine O.Z 11 (J2 (some ⟨g,0,none⟩)) 19 rfl rfl a (fun wx b=>?_) ?_
  ·try dsimp only at b
   go_simp
  simp only[O.pp,O.pb,O.pc];refine O.Z 12 (J2 (some ⟨g,65,none⟩)) 20 rfl rfl a (fun wx b=>?_) ?_
  ·try dsimp only at b
   go_simp
  simp only[O.pp,O.pb,O.pc];refine O.Z 13 v.set 21 rfl rfl a (fun wx b=>?_) ?_
  ·try dsimp only at b
   go_simp
  simp only[O.pp,O.pb,O.pc];refine wpAnyH_ready (rs:=[14]) (by kernel_rfl) (by simp) ?_
  refine AllReadyH.cons rfl (fun K W=>?_) AllReadyH.nil;go_simp
  go_at_call 70
  refine (F.out _ (by exact (Below.refl _ w).drew)).mono ?_
  rintro e w1⟨rfl,m⟩;have b1:=(Below.refl w.heap.size w).drew.trans m;clear m;dsimp only;refine W.out _ _ (k.out w1 b1) (fun a=>?_);clear W K
  try simp only[O.pp,O.pb,O.pc]
  refine O.Z 15 (J3 true) 23 rfl rfl a (fun wx b=>?_) ?_
  ·try dsimp only at b
   go_simp
  simp only[O.pp,O.pb,O.pc];refine O.Z 16 (J2 (some ⟨g,o,none⟩)) 24 rfl rfl a (fun wx b=>?_) ?_
  ·try dsimp only at b
   go_simp
  simp only[O.pp,O.pb,O.pc];refine O.Z 17 (J2 (some ⟨g,o,none⟩)) 25 rfl rfl a (fun wx b=>?_) ?_
  ·try dsimp only at b
   go_simp
  simp only[O.pp,O.pb,O.pc];refine O.Z 18 (J2 (some ⟨g,o+4,none⟩)) 26 rfl rfl a (fun wx b=>?_) ?_
  ·try dsimp only at b
   go_simp
  simp only[O.pp,O.pb,O.pc];refine O.Z 19 (J3 false) 27 rfl rfl a (fun wx b=>?_) ?_
  ·try dsimp only at b
   go_simp
  simp only[O.pp,O.pb,O.pc];refine O.Z 20 (J3 true) 28 rfl rfl a (fun wx b=>?_) ?_
  ·try dsimp only at b
   go_simp
  simp only[O.pp,O.pb,O.pc];refine O.Z 21 (J3 true) 29 rfl rfl a (fun wx b=>?_) ?_
  ·try dsimp only at b
   go_simp
  simp only[O.pp,O.pb,O.pc];refine O.Z 22 (J3 true) 30 rfl rfl a (fun wx b=>?_) ?_
  ·try dsimp only at b
   go_simp
  simp only[O.pp,O.pb,O.pc];refine O.Z 23 (J2 (some ⟨g,o,none⟩)) 31 rfl rfl a (fun wx b=>?_) ?_
  ·try dsimp only at b
   go_simp
  simp only[O.pp,O.pb,O.pc];refine O.Z 24 (J2 (some ⟨g,o,none⟩)) 32 rfl rfl a (fun wx b=>?_) ?_
  ·try dsimp only at b
   go_simp
  simp only[O.pp,O.pb,O.pc];refine O.Z 25 (J2 (some ⟨g,o+5,none⟩)) 33 rfl rfl a (fun wx b=>?_) ?_
  ·try dsimp only at b
   go_simp
  simp only[O.pp,O.pb,O.pc];refine O.Z 26 (J1 r (p.L c).done.length f) 34 rfl rfl a (fun wx b=>?_) ?_
  ·try dsimp only at b
   go_simp
  simp only[O.pp,O.pb,O.pc];refine O.Z 27 (.int .i64 ((p.L c).done.length:Int)) 35 rfl rfl a (fun wx b=>?_) ?_
  ·try dsimp only at b
   go_simp
  simp only[O.pp,O.pb,O.pc];refine O.Z 28 (J3 false) 36 rfl rfl a (fun wx b=>?_) ?_
  ·try dsimp only at b
   go_simp
  simp only[O.pp,O.pb,O.pc];refine O.Z 29 (J3 false) 37 rfl rfl a (fun wx b=>?_) ?_
  ·try dsimp only at b
   go_simp
  simp only[O.pp,O.pb,O.pc];refine O.Z 30 (J3 false) 38 rfl rfl a (fun wx b=>?_) ?_
  ·try dsimp only at b
   go_simp
  simp only[O.pp,O.pb,O.pc];refine wpAnyH_done (by kernel_rfl) ?_ _
  exact NoPanic.normal ⟨rfl,rfl,b1⟩
 all_goals
  intro w1 b1;clear k
  try simp only[Exit.then]
  apply_assumption
  have a8:Hid (∀ wx,Bl w1 wx->wx.cell? ⟨g,0,none⟩=some (.int .i64 p.h)/\wx.cell? ⟨g,o+3,none⟩=some (v.l c).told/\wx.cell? ⟨g,65,none⟩=some v.set/\wx.cell? ⟨g,o+5,none⟩=some (J1 r (p.L c).done.length f)):=fun wx d=>by
   obtain⟨-,f3,-,j,i,x,-⟩:=HF.out wx (zbt b1 d);rw[V]at j;exact⟨x,f3,i,j⟩
  have X:=J6 (fun (wx:World) (d:Bl w1 wx)=>a7.out wx (zbt b1 d));have a9:=J6 b1;clear b1;generalize Df.z2x (p.L c).told p.set=dl at *;have Y:Hid (Bl w1 (w1.alloc (J5 Z6 49))):=znw w1 _;have z:=J6 Y.out.drew;have a0:Hid (CAt 49 (w1.alloc (J5 Z6 49)).drew w1.heap.size Z6):=CAt.new 49 w1 Z6;have b4:Hid (w1.heap.size+1<=(w1.alloc (J5 Z6 49)).drew.heap.size):=a0.out.lt;unfold Z6 at Y z
  go_upto_region 1 with fail
  apply q5k (fun N Q R g4 w5=>Tds w1 #[.int .i64 1,.int .i64 p.h,.int .i64 0,.int .i64 0,J1 N Q R,J1 r (p.L c).done.length f] dl (J1 N Q R) g4 w5)
  ·refine wp_region_noPanic ?_;have d:=Below.refl w1.heap.size w1
   go_region_held3 (fun wx=>wx.cell? ⟨g,0,none⟩=some (.int .i64 p.h)/\wx.cell? ⟨g,o+3,none⟩=some (v.l c).told/\wx.cell? ⟨g,65,none⟩=some v.set/\wx.cell? ⟨g,o+5,none⟩=some (J1 r (p.L c).done.length f)) ((refine a8.out _ ?_;first | with_reducible exact d | with_reducible exact d.drew | with_reducible exact d.alloc d.size _ | with_reducible exact (d.alloc d.size _).drew | with_reducible exact d.drew.alloc d.drew.size _ | with_reducible exact T.out.bel)) (first
    | (go_at_call 71;refine (X.out _ (by with_reducible exact (Below.refl _ w1).drew)).mono ?_;rintro e wb⟨u,rfl,U,y⟩;obtain⟨N,Q,R,rfl⟩:=U.one';have d:=(Below.refl w1.heap.size w1).drew.trans y;obtain⟨wS,sA,A⟩:=q5e (w1:=w1) (cs:=#[.int .i64 1,.int .i64 p.h,.int .i64 0,.int .i64 0,J1 N Q R,J1 r (p.L c).done.length f]) rfl (q6O 1 p.h U.one' r (p.L c).done.length f) U (Nat.le_refl _) d;unfold Z6 at sA;have T:=J6 A;clear A;have b5:True:=trivial;clear U y;dsimp only)
    | (go_at_call 71;refine (X.out _ (by with_reducible exact z.out)).mono ?_;rintro e wb⟨u,rfl,U,y⟩;obtain⟨N,Q,R,rfl⟩:=U.one';have d:=zbt z.out y;have b6:=J6 (a0.out.over y);obtain⟨wS,sC,A⟩:=q5o (w1:=w1) (cs:=#[.int .i64 1,.int .i64 p.h,.int .i64 0,.int .i64 0,J1 N Q R,J1 r (p.L c).done.length f]) rfl (q6O 1 p.h U.one' r (p.L c).done.length f) U b4.out d b6.out;have T:=J6 A;clear A;clear U y;dsimp only))
   all_goals first
    | (have _m:=b5;obtain⟨gn,B⟩:∃ gn,gn=wb.heap.size:=⟨_,rfl⟩;rw[<- B];exact NoPanic.normal ⟨N,Q,R,gn,rfl,rfl,by subst B;exact T.out⟩)
    | (obtain⟨gn,B⟩:∃ gn,gn=w1.heap.size:=⟨_,rfl⟩;rw[<- B];exact NoPanic.normal ⟨N,Q,R,gn,rfl,rfl,by subst B;exact T.out⟩)
  rintro N Q R g4 w5 S5;simp only[Exit.then];apply_assumption;have B5:=zbt a9.out S5.bel;have r2:=(((HP.out.lk c hc).done.over B5)).mono (P':=fun _=>True) fun _ _ _=>trivial;rw[V]at r2;refine q5B g p D v P w w5 c o g4 dl _ _ hc HC.out HP.out hg a5 a6 HO B5 S5.cat (S5.rep.mono fun _ _ _=>trivial) r2 HD _ _ _ _ _ _ _ _ _ _ _ _ _ _ _ _ _ _ _ _ _ _ _ _ _ _ _ _ _ _ _ _ _ _ _ _ _ _ _ _ _ _ _ _ _ _ _ _ _
end Pv
end Go.Proofs.YtjghbciepinofaaGreat
