/- Parts of the proof. -/
import Derived.Test.YtjghbciepinofaaGreatPL
import Derived.Test.YtjghbciepinofaaGreatPK24
set_option maxRecDepth 100000
set_option maxHeartbeats 16000000
namespace Go.Proofs.YtjghbciepinofaaGreat
open Go.Proofs.Tryz
open Value renaming int->J,slice->J1,pointer->J2,bool->J3,agg->J4
open IntKind renaming i64->I
open Obj renaming cells->J5
namespace Pv
open Go.RowKit
def q7A(w:World)(g o:Nat)(x:Lk)(u:LkV):Prop:=∀ j,j<14->w.cell? ⟨g,o+j,none⟩=(lkL x u)[j]?
theorem CAt.lk{w:World}{g:Nat}{p:Pr}{v:PrV}(h:CAt 47 w g (prC p v)){k:Nat}(a:k<2):q7A w g (66+k * 14) (p.L k) (v.l k):=fun j b=>(h.cell _).trans (z2E k a j b)
theorem q7A.over{w w':World}{g o:Nat}{x:Lk}{u:LkV}(h:q7A w g o x u)(b:Bl w w'):q7A w' g o x u:=fun j c=>by
 have a:g<w.heap.size:=World.block_lt_of_cell? w ⟨g,o+0,none⟩ (h 0 (by omega))
 rw[b.cell (p:=⟨g,o+j,none⟩) a];exact h j c
theorem q7A.facts{w:World}{g o:Nat}{x:Lk}{u:LkV}(h:q7A w g o x u):w.cell? ⟨g,o,none⟩=some (J3 x.on)/\w.cell? ⟨g,o+1,none⟩=some (J3 x.gone)/\w.cell? ⟨g,o+2,none⟩=some (J I x.base)/\w.cell? ⟨g,o+3,none⟩=some u.told/\w.cell? ⟨g,o+4,none⟩=some (J3 x.fresh)/\w.cell? ⟨g,o+5,none⟩=some u.done/\(w.cell? ⟨g,o+6,none⟩=some u.said/\w.cell? ⟨g,o+6+1,none⟩=some u.due/\w.cell? ⟨g,o+6+2,none⟩=some (J I x.out.g)/\w.cell? ⟨g,o+6+3,none⟩=some (J3 x.out.cl)):=
 ⟨h 0 (by omega),h 1 (by omega),h 2 (by omega),h 3 (by omega),h 4 (by omega),h 5 (by omega),h 6 (by omega),h 7 (by omega),h 8 (by omega),h 9 (by omega)⟩
theorem q2x(g o:Nat)(x:Lk)(u:LkV)(h:Int)(P:Nat->Prop)(w:World)(t:q7A w g o x u)(hl:z5Z P w x u) :
  Calls prog 35 #[J2 (some ⟨g,o,none⟩),J I h] w fun e w'=>e=.returned (J3 (z1L h x))/\Bl w w':=by
 have z:z1L h x=(z1v (-1) x.done && (!(x.on && x.gone) && decide (0<=x.base) && decide (x.base<=h) && z2h (-1) x.told && Ln.z1C x.out)):=rfl;generalize z1L h x=G at *;obtain⟨A1,C1,A2,C2,sb,so,db,dO,A,B,C,-,-⟩:=z1I.line hl.said hl.due;have c:=fun (wx:World) (i:Bl w wx)=>Ln.z0u x.out A1 A2 C1 C2 sb so db dO wx (C.later i);rw[<- A,<- B]at c;have v:=J6 c;have d:=J6 (fun (wx:World) (i:Bl w wx)=>z7m x.told u.told P wx (hl.told.over i));have j:=J6 (fun (wx:World) (i:Bl w wx)=>q1q x.done u.done P wx (hl.done.over i));have D:=J6 t;obtain⟨c0,c1,c2,c3,k,l,m,n,p,q⟩:=t.facts;clear c A B C hl t;have r:=J6 z;clear z;generalize z2h (-1) x.told=gt at *;generalize z1v (-1) x.done=gr at *;generalize Ln.z1C x.out=gl at *
 by_cases h1:(x.on && x.gone)=false/\0<=x.base/\x.base<=h
 ·obtain⟨q1,q2,q3⟩:=h1;have e:G=(gr && (gt && gl)):=by rw[r.out,q1];simp[q2,q3]
  subst e;clear r;have f:x.on=false∨(x.on=true/\x.gone=false):=by cases h:x.on <;> simp_all
  clear q1;generalize x.on=xo at *;generalize x.gone=xg at *;generalize x.base=xb at *
  rcases f with rfl | ⟨rfl,rfl⟩
  all_goals
   cases gt
   ·go_enter func35,ntmps35
    go_wp2_with (go_at_call 34;refine (d.out _ (Below.refl _ _)).mono ?_;rintro e w6⟨rfl,a⟩)
    go_ret;exact⟨by cases gr <;> rfl,a⟩
   ·cases gr
    ·go_enter func35,ntmps35
     go_wp2_with (first
      | (go_at_call 34;refine (d.out _ (Below.refl _ _)).mono ?_;rintro e w6⟨rfl,a⟩;clear c0 c1 c2 c3 k l m n p q;obtain⟨c0,c1,c2,c3,k,l,m,n,p,q⟩:=(D.out.over a).facts;have b:=J6 a;clear a)
      | (go_at_call 80;refine (j.out _ b.out).mono ?_;rintro e E⟨rfl,rfl⟩))
     go_ret;exact⟨rfl,b.out⟩
    ·go_enter func35,ntmps35
     go_wp2_with (first
      | (go_at_call 34;refine (d.out _ (Below.refl _ _)).mono ?_;rintro e w6⟨rfl,a⟩;clear c0 c1 c2 c3 k l m n p q;obtain⟨c0,c1,c2,c3,k,l,m,n,p,q⟩:=(D.out.over a).facts;have b:=J6 a;clear a)
      | (go_at_call 80;refine (j.out _ b.out).mono ?_;rintro e E⟨rfl,rfl⟩)
      | (go_at_call 81;refine (v.out _ b.out).mono ?_;rintro e F⟨rfl,hb8⟩;have y:=J6 (zbt b.out hb8);clear hb8))
     go_ret;exact⟨rfl,y.out⟩
 ·have e:G=false:=by
   rw[r.out]
   have:(!(x.on && x.gone) && decide (0<=x.base) && decide (x.base<=h))=false:=by
    rw[Bool.eq_false_iff];intro s;simp only[Bool.and_eq_true,Bool.not_eq_true',decide_eq_true_eq]at s;exact h1 ⟨s.1.1,s.1.2,s.2⟩
   simp only[this,Bool.false_and,Bool.and_false]
  subst e;clear r;generalize x.on=xo at *;generalize x.gone=xg at *;generalize x.base=xb at *
  have f:(xo=true/\xg=true)∨((xo=false∨(xo=true/\xg=false))/\(¬ 0<=xb∨(0<=xb/\¬ xb<=h))):=by
   cases xo <;> cases xg <;> simp_all <;> omega
  clear h1
  rcases f with⟨rfl,rfl⟩ | ⟨rfl | ⟨rfl,rfl⟩,q2 | ⟨q2,q3⟩⟩
  all_goals
   go_enter func35,ntmps35
   go_wp2;go_ret;exact⟨rfl,Below.refl _ _⟩
attribute [local go_sem ↓] z0O
set_option maxRecDepth 1000000 in
theorem z5x(p:Pr)(v:PrV)(P:Nat->Prop)(w:World)(hp:PIn P w p v) :
  Calls prog 10 #[J4 (prC p v)] w fun e w'=>e=.returned (J3 (z1s p))/\Bl w w':=by
 have M:=J6 (z9U p);generalize z1s p=G at *;obtain⟨Aw,Cw,bw,ow,c6,Ws,-,-⟩:=hp.ws.z8v;have Y:=fun (wx:World) (A:Bl w wx)=>z5M p.s Aw bw ow Cw wx (Ws.over A);rw[<- c6]at Y;have N:=J6 Y;have V:=J6 hp;clear hp Y c6 Ws;obtain⟨cs,g⟩:∃ cs,prC p v=cs:=⟨_,rfl⟩;rw[g];have c7:=J6 g;clear g
 go_enter func10,ntmps10
 go_upto_region 1 with fail
 have C1:CAt 47 (w.alloc (J5 cs 47)) w.heap.size (prC p v):=by rw[c7.out];exact CAt.new _ w cs
 have B1:Bl w (w.alloc (J5 cs 47)):=znw w _;generalize w.alloc (J5 cs 47)=w1 at *;have Z:=J6 (show _/\_ from⟨C1,B1⟩);obtain⟨⟨a0,a1,a2,a3,a4,W⟩,a6⟩:=z0E C1;clear C1 B1 c7;have a7:Hid (isT p.t=(decide (0<=p.t) && decide (p.t<=1099511627776))):=rfl
 by_cases h1:z0j p.s=true/\0<=p.h/\p.h<=1099511627775/\(0<=p.t/\p.t<=1099511627776)/\z2h (-1) p.set=true
 ·obtain⟨q1,q2,q3,⟨q4,q5⟩,q6⟩:=h1;have B:=J6 (show (z0j p.s && decide (0<=p.h) && decide (p.h<=1099511627775) && decide (0<=p.t) && decide (p.t<=1099511627776) && z2h (-1) p.set)=true by simp[q1,q2,q3,q4,q5,q6])
  have C:=J6 (fun wx A=>z7m p.set v.set P wx (V.out.set.over A));have qt:isT p.t=true:=by rw[a7.out];simp[q4,q5]
  rw[q1]at N;rw[q6]at C;clear q1 q6
  go_upto_region 3 with (first
   | (go_at_call 33;refine (N.out _ Z.out.2).mono ?_;rintro e w2⟨rfl,m⟩;have f:=J6 (show _/\_ from⟨Z.out.1.over m,zbt Z.out.2 m⟩);clear a0 a1 a2 a3 a4 W a6 m;obtain⟨⟨a0,a1,a2,a3,a4,W⟩,a6⟩:=z0E f.out.1)
   | (go_at_call 27;refine (z4b _ _).mono ?_;rintro e w'⟨rfl,rfl⟩)
   | (go_at_call 34;refine (C.out _ f.out.2).mono ?_;rintro e w3⟨rfl,E⟩;have HZ:=J6 (show _/\_ from⟨f.out.1.over E,zbt f.out.2 E⟩);clear a0 a1 a2 a3 a4 W a6 E))
  clear N C Z f
  go_upto_region 4 with fail
  go_loopw [32] (fun i wl=>∃ (k:Nat),k<=2/\i=J I (k:Int)/\Hid (Bl w3 wl)/\Hid (∀ c,c<k->z1L p.h (p.L c)=true)) (fun i _=>(2 - intOf i).toNat)
  case atStart=>exact⟨0,by omega,rfl,Below.refl _ _,fun c F=>absurd F (by omega)⟩
  case round =>
   obtain⟨k,hk,rfl,o,HA⟩:=hrel
   by_cases a8:k<2
   ·have f4:(k:Int)<2:=by omega
    have f5:(0:Int)<=(k:Int):=by omega
    have a:Bl w wr:=zbt HZ.out.2 o.out;have C5:=HZ.out.1.over o.out;have a0:=(z0E C5).1.1;have c8:=fun (wx:World) (A:Bl wr wx)=>q2x w.heap.size (66+k * 14) (p.L k) (v.l k) p.h P wx ((C5.over A).lk a8) ((V.out.lk k a8).keep fun b _ Q=>(zbt a A).block b Q);have a9:=J6 c8;have c9:=J6 (fun h=>M.out.lks k a8 h);have d:=J6 a;have f6:=o.out.size;clear c8 C5 a
    go_upto_region 6 with fail
    generalize d0:z1L p.h (p.L k)=gl at *;have d7:=J6 d0;clear d0;cases gl
    ·have e:=c9.out rfl;subst e;clear M c9 V HZ HA B
     go_region_with (go_at_call 35;refine (a9.out _ (by exact (Below.refl _ _).drew)).mono ?_;rintro e w5⟨rfl,R⟩)
     all_goals
      go_wp2;go_ret;exact⟨rfl,d.out.trans ((Below.refl _ _).drew.trans (R.mono d.out.size))⟩
    ·go_region_with (go_at_call 35;refine (a9.out _ (by exact (Below.refl _ _).drew)).mono ?_;rintro e w5⟨rfl,R⟩)
     all_goals
      have HF:=J6 (o.out.trans ((Below.refl _ _).drew.trans (R.mono o.out.size)))
      have d1:Hid (∀ c,c<k+1->z1L p.h (p.L c)=true):=fun c F=>by
       by_cases e:c=k
       ·subst e;exact d7.out
       ·exact HA.out c (by omega)
      clear HA a9 d o R;go_wp2
      first | exact⟨⟨k+1,by omega,by go_num,HF,d1⟩,by simp[intOf];omega⟩ | ((repeat apply Exists.intro);exact⟨⟨k+1,by omega,by go_num,HF,d1⟩,rfl⟩)
   ·obtain rfl:k=2:=by omega
    rename World=>w9
    have f:=J6 (show _/\_ from⟨HZ.out.1.over o.out,zbt HZ.out.2 o.out⟩);obtain⟨z,b4,d2,d3⟩:=V.out.q;obtain⟨Aq,Cq,eq,sq,-,cq,-⟩:=d2.open (z1h _ _ b4) (by decide)
    have W:=(z0E f.out.1).1.2.2.2.2.2;rw[eq]at W;have HQ:=J6 (show _/\_/\_ from⟨b4,d3,cq⟩);have e8:p.q.length<=1800000000000:=by omega
    clear b4 d3 cq d2 eq sq o HZ
    go_upto_region 10 with fail
    clear W
    go_loopw [46] (fun i wl=>∃ (k:Nat),k<=p.q.length/\i=J I (k:Int)/\Hid (Bl w9 wl)/\Hid (∀ (i:Nat) (x:Int×Pkt),i<k->p.q[i]?=some x->z3i p.L x=true)) (fun i _=>p.q.length - (intOf i).toNat)
    case atStart=>exact⟨0,Nat.zero_le _,rfl,Below.refl _ _,fun i x hi=>absurd hi (by omega)⟩
    case round =>
     obtain⟨k,hk,rfl,o,HN⟩:=hrel
     by_cases Q:k<p.q.length
     ·have f7:(k:Int)<(p.q.length:Int):=by omega
      obtain⟨x,X⟩:∃ x,p.q[k]?=some x:=⟨_,List.getElem?_eq_getElem Q⟩;obtain⟨y,hy⟩:∃ y,z[k]?=some y:=⟨_,List.getElem?_eq_getElem (by rw[HQ.out.1];exact Q)⟩
      have T:=HQ.out.2.1 k x y X hy;obtain⟨y1,y2⟩:=y;obtain⟨⟨B1,n1,D1,d4,-⟩,⟨B2,n2,D2,d5,-⟩⟩:=id T;dsimp only at d4 d5;subst d4 d5;have a:Bl w wr:=zbt f.out.2 o.out;obtain⟨bq,oq,rfl,-,d8,hcell⟩:=HQ.out.2.2 (by omega)
      have F:∀ j,j<7->∀ u,(akL x (J1 B1 n1 D1,J1 B2 n2 D2))[j]?=some u->wr.cell? ⟨bq,oq+k * 7+j,none⟩=some u:=fun j hj u hu=>by
       rw[a.cell (p:=⟨bq,oq+k * 7+j,none⟩) d8,Nat.add_assoc];exact hcell _ _ ((z2W p.q z k x _ j X hy hj).trans hu)
      have e0:=F 0 (by omega) _ rfl
      have e1:=F 1 (by omega) _ rfl
      have e2:=F 2 (by omega) _ rfl
      have e3:=F 3 (by omega) _ rfl
      have e4:=F 4 (by omega) _ rfl
      have e5:=F 5 (by omega) _ rfl
      have e6:=F 6 (by omega) _ rfl
      rw[Nat.add_zero]at e0;have b5:=J6 (fun h=>M.out.qus k x X h);have b6:=J6 X;obtain⟨S1,T1,S2,T2,sb,so,db,dO,es,eu,hL⟩:=Rep.lies (T.1.over a) (T.2.over a);have b7:=fun (wx:World) (A:Bl wr wx)=>Cd.z0u x.2.k x.2.i x.2.v x.2.n x.2.S x.2.D S1 S2 T1 T2 sb so db dO wx hL.hls hL.hld hL.hsa hL.hda (hL.later A).PS (hL.later A).PD;rw[<- es,<- eu]at b7;have b9:=J6 b7;have C5:=f.out.1.over o.out;have c4:=J6 (fun (wx:World) (A:Bl wr wx)=>q4E w.heap.size p v x.1 wx (C5.over A));have e9:w.heap.size<wr.heap.size:=C5.lt;clear F hcell T X hy es eu hL b7 C5;have c5:z3i p.L x=(decide (0<=x.1) && decide (x.1<=1) && (p.L x.1.toNat).on && decide (x.2.k≠1) && decide (Cd.z0o x.2.k x.2.i x.2.v x.2.n x.2.S x.2.D=0)):=rfl
      have d6:q9T p x.1=(decide (0<=x.1) && decide (x.1<=1) && (p.L x.1.toNat).on):=by
       show (isC x.1 && _)=_
       unfold isC;rw[show (decide (x.1<2):Bool)=decide (x.1<=1) by simp only[decide_eq_decide];omega]
      rw[<- d6]at c5;generalize q9T p x.1=io at *;generalize Cd.z0o x.2.k x.2.i x.2.v x.2.n x.2.S x.2.D=gn at *;have r:=J6 (show Bl wr (wr.alloc (J5 #[J I x.1,J I x.2.k,J I x.2.i,J I x.2.v,J I x.2.n,J1 B1 n1 D1,J1 B2 n2 D2] 79)) from znw wr _);have d:=J6 (zbt a r.out);have U:=J6 (zbt o.out r.out);have HE:=d;have HF:=U;have HV:=J6 c5;clear c5 d6 a
      by_cases hq:io=true/\x.2.k≠1/\gn=0
      ·obtain⟨rfl,q1,rfl⟩:=hq;have H:z3i p.L x=true:=by rw[HV.out];simp[q1]
       have d9:Hid (∀ (i:Nat) (y:Int×Pkt),i<k+1->p.q[i]?=some y->z3i p.L y=true):=fun i y hi hy=>by
        by_cases e:i=k
        ·subst e;rw[b6.out]at hy;cases hy;exact H
        ·exact HN.out i y (by omega) hy
       have f8:(x.2.k == 1)=false:=by simpa using q1
       clear H HN HV b5 M HQ V b6 HA
       go_upto_region 14 with (first
        | (go_at_call 23;refine (c4.out _ (by exact r.out)).mono ?_;rintro e w6⟨rfl,rfl⟩)
        | (go_at_call 21;refine (b9.out _ (by exact r.out)).mono ?_;rintro e w7⟨rfl,K⟩;have HE:=J6 (zbt d.out K);have HF:=J6 (zbt U.out K)))
       clear HE d U r b9 c4;go_wp2;go_roundw
       case rel=>(repeat apply Exists.intro);exact⟨⟨k+1,by omega,by go_num,HF,d9⟩,rfl⟩
       case measure=>simp[intOf];omega
      ·have e:G=false:=b5.out (by
        rw[HV.out,Bool.eq_false_iff];intro h;simp only[Bool.and_eq_true,decide_eq_true_eq]at h
        exact hq ⟨h.1.1,h.1.2,h.2⟩)
       subst e
       have g:io=false∨(io=true/\(x.2.k == 1)=true)∨(io=true/\(x.2.k == 1)=false/\(gn != 0)=true):=by
        cases io
        ·exact .inl rfl
        ·by_cases q1:x.2.k=1
         ·exact .inr (.inl ⟨rfl,by simpa using q1⟩)
         ·exact .inr (.inr ⟨rfl,by simpa using q1,by simp;intro q2;exact hq ⟨rfl,q1,q2⟩⟩)
       clear hq HV b5 M HQ V b6 HA HN
       rcases g with rfl | ⟨rfl,q1⟩ | ⟨rfl,q1,q2⟩
       all_goals
        go_wp2_with (first
         | (go_at_call 23;refine (c4.out _ (by exact r.out)).mono ?_;rintro e w6⟨rfl,rfl⟩)
         | (go_at_call 21;refine (b9.out _ (by exact r.out)).mono ?_;rintro e w7⟨rfl,K⟩;have HE:=J6 (zbt d.out K);have HF:=J6 (zbt U.out K)))
        go_ret;exact⟨rfl,HE.out⟩
     ·obtain rfl:k=p.q.length:=by omega
      have e:G=true:=M.out.all B.out HA.out (fun i x X=>HN.out i x (List.getElem?_eq_some_iff.1 X).1 X);subst e;have e7:=J6 (zbt f.out.2 o.out);clear M HQ V f HA HN o B;go_wp2;go_ret;exact⟨rfl,e7.out⟩
 ·have e:=M.out.one (by
   rw[Bool.eq_false_iff];intro h;simp only[Bool.and_eq_true,decide_eq_true_eq]at h
   exact h1 ⟨h.1.1.1.1.1,h.1.1.1.1.2,h.1.1.1.2,⟨h.1.1.2,h.1.2⟩,h.2⟩)
  subst e;have C:=J6 (fun wx A=>z7m p.set v.set P wx (V.out.set.over A));generalize z0j p.s=gs at *;generalize z2h (-1) p.set=gt at *
  have g:gs=false∨(gs=true/\¬ 0<=p.h)∨(gs=true/\0<=p.h/\¬ p.h<=1099511627775)∨(gs=true/\0<=p.h/\p.h<=1099511627775/\isT p.t=false)∨(gs=true/\0<=p.h/\p.h<=1099511627775/\isT p.t=true/\gt=false):=by
   rw[a7.out];cases gs
   ·exact .inl rfl
   ·by_cases q2:0<=p.h <;> by_cases q3:p.h<=1099511627775 <;> by_cases q4:0<=p.t <;> by_cases q5:p.t<=1099511627776 <;> cases gt <;> simp_all
  clear h1 M a7
  rcases g with rfl | ⟨rfl,h2⟩ | ⟨rfl,h2,h3⟩ | ⟨rfl,h2,h3,h4⟩ | ⟨rfl,h2,h3,h4,rfl⟩
  all_goals
   go_wp2_with (first
    | (go_at_call 33;refine (N.out _ Z.out.2).mono ?_;rintro e w2⟨rfl,m⟩;have f:=J6 (show _/\_ from⟨Z.out.1.over m,zbt Z.out.2 m⟩);clear a0 a1 a2 a3 a4 W a6 m;obtain⟨⟨a0,a1,a2,a3,a4,W⟩,a6⟩:=z0E f.out.1;have HE:=J6 f.out.2)
    | (go_at_call 27;refine (z4b _ _).mono ?_;rintro e w'⟨rfl,rfl⟩)
    | (go_at_call 34;refine (C.out _ f.out.2).mono ?_;rintro e w3⟨rfl,E⟩;have HE:=J6 (zbt f.out.2 E)))
   go_ret;exact⟨rfl,HE.out⟩
end Pv
end Go.Proofs.YtjghbciepinofaaGreat
