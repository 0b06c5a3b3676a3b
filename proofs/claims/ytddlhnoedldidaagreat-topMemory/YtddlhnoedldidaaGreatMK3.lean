/- Parts of the proof. -/
import Derived.Test.YtddlhnoedldidaaGreatML
import Derived.Test.YtddlhnoedldidaaGreatMK17
set_option maxRecDepth 100000
set_option maxHeartbeats 16000000
namespace Go.Proofs.YtddlhnoedldidaaGreat
open Go.Proofs.Tryz
open Value renaming int->J,slice->J1,pointer->J2,bool->J3,agg->J4
open IntKind renaming i64->I
open Obj renaming cells->J5
namespace Pv
open Go.RowKit
def j3r(w:World)(g o:Nat)(x:Lk)(u:LkV):Prop:=∀ j,j<14->w.cell? ⟨g,o+j,none⟩=(lkL x u)[j]?
theorem CAt.lk{w:World}{g:Nat}{p:Pr}{v:PrV}(h:CAt 58 w g (prC p v)){k:Nat}(a:k<2):j3r w g (66+k * 14) (p.L k) (v.l k):=fun j b=>(h.cell _).trans (z1s k a j b)
theorem j3r.over{w w':World}{g o:Nat}{x:Lk}{u:LkV}(h:j3r w g o x u)(hb:Bl w w'):j3r w' g o x u:=fun j b=>by
 have a:g<w.heap.size:=World.block_lt_of_cell? w ⟨g,o+0,none⟩ (h 0 (by omega))
 rw[hb.cell (p:=⟨g,o+j,none⟩) a];exact h j b
theorem j3r.facts{w:World}{g o:Nat}{x:Lk}{u:LkV}(h:j3r w g o x u):w.cell? ⟨g,o,none⟩=some (J3 x.on)/\w.cell? ⟨g,o+1,none⟩=some (J3 x.gone)/\w.cell? ⟨g,o+2,none⟩=some (J I x.base)/\w.cell? ⟨g,o+3,none⟩=some u.told/\w.cell? ⟨g,o+4,none⟩=some (J3 x.fresh)/\w.cell? ⟨g,o+5,none⟩=some u.done/\(w.cell? ⟨g,o+6,none⟩=some u.said/\w.cell? ⟨g,o+6+1,none⟩=some u.due/\w.cell? ⟨g,o+6+2,none⟩=some (J I x.out.g)/\w.cell? ⟨g,o+6+3,none⟩=some (J3 x.out.cl)):=
 ⟨h 0 (by omega),h 1 (by omega),h 2 (by omega),h 3 (by omega),h 4 (by omega),h 5 (by omega),h 6 (by omega),h 7 (by omega),h 8 (by omega),h 9 (by omega)⟩
theorem q8n(g o:Nat)(x:Lk)(u:LkV)(h:Int)(P:Nat->Prop)(w:World)(hc:j3r w g o x u)(j:z5g P w x u) :
  Calls prog 96 #[J2 (some ⟨g,o,none⟩),J I h] w fun e w'=>e=.returned (J3 (z2h h x))/\Bl w w':=by
 have A:z2h h x=(z2j (-1) x.done && (!(x.on && x.gone) && decide (0<=x.base) && decide (x.base<=h) && z3l (-1) x.told && Ln.z0Z x.out)):=rfl;generalize z2h h x=G at *;obtain⟨E,F,H,K,sb,so,db,dO,es,B,C,-,-⟩:=z0C.line j.said j.due;have d:=fun (c:World) (hb:Bl w c)=>Ln.z0o x.out E H F K sb so db dO c (C.later hb);rw[<- es,<- B]at d;have y:=J6 d;have f:=J6 (fun (c:World) (hb:Bl w c)=>z9n x.told u.told P c (j.told.over hb));have k:=J6 (fun (c:World) (hb:Bl w c)=>q5D x.done u.done P c (j.done.over hb));have D:=J6 hc;obtain⟨c0,c1,c2,c3,m,n,p,q,r,s⟩:=hc.facts;clear d es B C j hc;have t:=J6 A;clear A;generalize z3l (-1) x.told=gt at *;generalize z2j (-1) x.done=gr at *;generalize Ln.z0Z x.out=gl at *
 by_cases h1:(x.on && x.gone)=false/\0<=x.base/\x.base<=h
 ·obtain⟨q1,q2,q3⟩:=h1;have e:G=(gr && (gt && gl)):=by rw[t.out,q1];simp[q2,q3]
  subst e;clear t;have i:x.on=false∨(x.on=true/\x.gone=false):=by cases h:x.on <;> simp_all
  clear q1;generalize x.on=xo at *;generalize x.gone=xg at *;generalize x.base=xb at *
  rcases i with rfl | ⟨rfl,rfl⟩
  all_goals
   cases gt
   ·go_enter func96,ntmps96
    go_wp2_with (go_at_call 95;refine (f.out _ (Below.refl _ _)).mono ?_;rintro e w6⟨rfl,a⟩)
    go_ret;exact⟨by cases gr <;> rfl,a⟩
   ·cases gr
    ·go_enter func96,ntmps96
     go_wp2_with (first
      | (go_at_call 95;refine (f.out _ (Below.refl _ _)).mono ?_;rintro e w6⟨rfl,a⟩;clear c0 c1 c2 c3 m n p q r s;obtain⟨c0,c1,c2,c3,m,n,p,q,r,s⟩:=(D.out.over a).facts;have b:=J6 a;clear a)
      | (go_at_call 139;refine (k.out _ b.out).mono ?_;rintro e L⟨rfl,rfl⟩))
     go_ret;exact⟨rfl,b.out⟩
    ·go_enter func96,ntmps96
     go_wp2_with (first
      | (go_at_call 95;refine (f.out _ (Below.refl _ _)).mono ?_;rintro e w6⟨rfl,a⟩;clear c0 c1 c2 c3 m n p q r s;obtain⟨c0,c1,c2,c3,m,n,p,q,r,s⟩:=(D.out.over a).facts;have b:=J6 a;clear a)
      | (go_at_call 139;refine (k.out _ b.out).mono ?_;rintro e L⟨rfl,rfl⟩)
      | (go_at_call 140;refine (y.out _ b.out).mono ?_;rintro e M⟨rfl,l⟩;have z:=J6 (zbt b.out l);clear l))
     go_ret;exact⟨rfl,z.out⟩
 ·have e:G=false:=by
   rw[t.out]
   have:(!(x.on && x.gone) && decide (0<=x.base) && decide (x.base<=h))=false:=by
    rw[Bool.eq_false_iff];intro v;simp only[Bool.and_eq_true,Bool.not_eq_true',decide_eq_true_eq]at v;exact h1 ⟨v.1.1,v.1.2,v.2⟩
   simp only[this,Bool.false_and,Bool.and_false]
  subst e;clear t;generalize x.on=xo at *;generalize x.gone=xg at *;generalize x.base=xb at *
  have i:(xo=true/\xg=true)∨((xo=false∨(xo=true/\xg=false))/\(¬ 0<=xb∨(0<=xb/\¬ xb<=h))):=by
   cases xo <;> cases xg <;> simp_all <;> omega
  clear h1
  rcases i with⟨rfl,rfl⟩ | ⟨rfl | ⟨rfl,rfl⟩,q2 | ⟨q2,q3⟩⟩
  all_goals
   go_enter func96,ntmps96
   go_wp2;go_ret;exact⟨rfl,Below.refl _ _⟩
attribute [local go_sem ↓] z1B
set_option maxRecDepth 1000000 in
theorem z3a(p:Pr)(v:PrV)(P:Nat->Prop)(w:World)(hp:PIn P w p v) :
  Calls prog 67 #[J4 (prC p v)] w fun e w'=>e=.returned (J3 (z0J p))/\Bl w w':=by
 have K:=J6 (j0P p);generalize z0J p=G at *;obtain⟨Aw,Cw,bw,ow,c4,Ws,-,-⟩:=hp.ws.z9Z;have X:=fun (g:World) (hb:Bl w g)=>z7I p.s Aw bw ow Cw g (Ws.over hb);rw[<- c4]at X;have M:=J6 X;have U:=J6 hp;clear hp X c4 Ws;obtain⟨cs,m⟩:∃ cs,prC p v=cs:=⟨_,rfl⟩;rw[m];have c5:=J6 m;clear m
 go_enter func67,ntmps67
 go_upto_region 1 with fail
 have C1:CAt 58 (w.alloc (J5 cs 58)) w.heap.size (prC p v):=by rw[c5.out];exact CAt.new _ w cs
 have B1:Bl w (w.alloc (J5 cs 58)):=znw w _;generalize w.alloc (J5 cs 58)=w1 at *;have Y:=J6 (show _/\_ from⟨C1,B1⟩);obtain⟨⟨a0,a1,a2,a3,a4,V⟩,a6⟩:=z3p C1;clear C1 B1 c5;have Z:Hid (isT p.t=(decide (0<=p.t) && decide (p.t<=1099511627776))):=rfl
 by_cases h1:z0m p.s=true/\0<=p.h/\p.h<=1099511627775/\(0<=p.t/\p.t<=1099511627776)/\z3l (-1) p.set=true
 ·obtain⟨q1,q2,q3,⟨q4,q5⟩,q6⟩:=h1;have B:=J6 (show (z0m p.s && decide (0<=p.h) && decide (p.h<=1099511627775) && decide (0<=p.t) && decide (p.t<=1099511627776) && z3l (-1) p.set)=true by simp[q1,q2,q3,q4,q5,q6])
  have C:=J6 (fun g hb=>z9n p.set v.set P g (U.out.set.over hb));have qt:isT p.t=true:=by rw[Z.out];simp[q4,q5]
  rw[q1]at M;rw[q6]at C;clear q1 q6
  go_upto_region 3 with (first
   | (go_at_call 94;refine (M.out _ Y.out.2).mono ?_;rintro e w2⟨rfl,o⟩;have f:=J6 (show _/\_ from⟨Y.out.1.over o,zbt Y.out.2 o⟩);clear a0 a1 a2 a3 a4 V a6 o;obtain⟨⟨a0,a1,a2,a3,a4,V⟩,a6⟩:=z3p f.out.1)
   | (go_at_call 69;refine (z3E _ _).mono ?_;rintro e w'⟨rfl,rfl⟩)
   | (go_at_call 95;refine (C.out _ f.out.2).mono ?_;rintro e w3⟨rfl,E⟩;have HZ:=J6 (show _/\_ from⟨f.out.1.over E,zbt f.out.2 E⟩);clear a0 a1 a2 a3 a4 V a6 E))
  clear M C Y f
  go_upto_region 4 with fail
  go_loopw [32] (fun i wl=>∃ (k:Nat),k<=2/\i=J I (k:Int)/\Hid (Bl w3 wl)/\Hid (∀ c,c<k->z2h p.h (p.L c)=true)) (fun i _=>(2 - intOf i).toNat)
  case atStart=>exact⟨0,by omega,rfl,Below.refl _ _,fun c hc=>absurd hc (by omega)⟩
  case round =>
   obtain⟨k,hk,rfl,r,HA⟩:=hrel
   by_cases a7:k<2
   ·have e8:(k:Int)<2:=by omega
    have hk0:(0:Int)<=(k:Int):=by omega
    have a:Bl w wr:=zbt HZ.out.2 r.out;have C5:=HZ.out.1.over r.out;have a0:=(z3p C5).1.1;have c6:=fun (g:World) (hb:Bl wr g)=>q8n w.heap.size (66+k * 14) (p.L k) (v.l k) p.h P g ((C5.over hb).lk a7) ((U.out.lk k a7).keep fun b _ N=>(zbt a hb).block b N);have a8:=J6 c6;have c7:=J6 (fun h=>K.out.lks k a7 h);have d:=J6 a;have e9:=r.out.size;clear c6 C5 a
    go_upto_region 6 with fail
    generalize c8:z2h p.h (p.L k)=gl at *;have d5:=J6 c8;clear c8;cases gl
    ·have e:=c7.out rfl;subst e;clear K c7 U HZ HA B
     go_region_with (go_at_call 96;refine (a8.out _ (by exact (Below.refl _ _).drew)).mono ?_;rintro e w5⟨rfl,Q⟩)
     all_goals
      go_wp2;go_ret;exact⟨rfl,d.out.trans ((Below.refl _ _).drew.trans (Q.mono d.out.size))⟩
    ·go_region_with (go_at_call 96;refine (a8.out _ (by exact (Below.refl _ _).drew)).mono ?_;rintro e w5⟨rfl,Q⟩)
     all_goals
      have HF:=J6 (r.out.trans ((Below.refl _ _).drew.trans (Q.mono r.out.size)))
      have c9:Hid (∀ c,c<k+1->z2h p.h (p.L c)=true):=fun c hc=>by
       by_cases e:c=k
       ·subst e;exact d5.out
       ·exact HA.out c (by omega)
      clear HA a8 d r Q;go_wp2
      first | exact⟨⟨k+1,by omega,by go_num,HF,c9⟩,by simp[intOf];omega⟩ | ((repeat apply Exists.intro);exact⟨⟨k+1,by omega,by go_num,HF,c9⟩,rfl⟩)
   ·obtain rfl:k=2:=by omega
    rename World=>w9
    have f:=J6 (show _/\_ from⟨HZ.out.1.over r.out,zbt HZ.out.2 r.out⟩);obtain⟨z,a9,d0,d1⟩:=U.out.q;obtain⟨Aq,Cq,eq,sq,-,cq,-⟩:=d0.open (z0U _ _ a9) (by decide)
    have V:=(z3p f.out.1).1.2.2.2.2.2;rw[eq]at V;have HQ:=J6 (show _/\_/\_ from⟨a9,d1,cq⟩);have d9:p.q.length<=1800000000000:=by omega
    clear a9 d1 cq d0 eq sq r HZ
    go_upto_region 10 with fail
    clear V
    go_loopw [46] (fun i wl=>∃ (k:Nat),k<=p.q.length/\i=J I (k:Int)/\Hid (Bl w9 wl)/\Hid (∀ (i:Nat) (x:Int×Pkt),i<k->p.q[i]?=some x->z5o p.L x=true)) (fun i _=>p.q.length - (intOf i).toNat)
    case atStart=>exact⟨0,Nat.zero_le _,rfl,Below.refl _ _,fun i x hi=>absurd hi (by omega)⟩
    case round =>
     obtain⟨k,hk,rfl,r,HN⟩:=hrel
     by_cases N:k<p.q.length
     ·have f4:(k:Int)<(p.q.length:Int):=by omega
      obtain⟨x,W⟩:∃ x,p.q[k]?=some x:=⟨_,List.getElem?_eq_getElem N⟩;obtain⟨y,hy⟩:∃ y,z[k]?=some y:=⟨_,List.getElem?_eq_getElem (by rw[HQ.out.1];exact N)⟩
      have R:=HQ.out.2.1 k x y W hy;obtain⟨y1,y2⟩:=y;obtain⟨⟨B1,n1,D1,d2,-⟩,⟨B2,n2,D2,d3,-⟩⟩:=id R;dsimp only at d2 d3;subst d2 d3;have a:Bl w wr:=zbt f.out.2 r.out;obtain⟨bq,oq,rfl,-,d6,hcell⟩:=HQ.out.2.2 (by omega)
      have hc:∀ j,j<7->∀ u,(akL x (J1 B1 n1 D1,J1 B2 n2 D2))[j]?=some u->wr.cell? ⟨bq,oq+k * 7+j,none⟩=some u:=fun j hj u hu=>by
       rw[a.cell (p:=⟨bq,oq+k * 7+j,none⟩) d6,Nat.add_assoc];exact hcell _ _ ((z4b p.q z k x _ j W hy hj).trans hu)
      have e0:=hc 0 (by omega) _ rfl
      have e1:=hc 1 (by omega) _ rfl
      have e2:=hc 2 (by omega) _ rfl
      have e3:=hc 3 (by omega) _ rfl
      have e4:=hc 4 (by omega) _ rfl
      have e5:=hc 5 (by omega) _ rfl
      have e6:=hc 6 (by omega) _ rfl
      rw[Nat.add_zero]at e0;have b4:=J6 (fun h=>K.out.qus k x W h);have b5:=J6 W;obtain⟨S1,T1,S2,T2,sb,so,db,dO,es,eu,hL⟩:=Rep.lies (R.1.over a) (R.2.over a);have b6:=fun (g:World) (hb:Bl wr g)=>Cd.z0o x.2.k x.2.i x.2.v x.2.n x.2.S x.2.D S1 S2 T1 T2 sb so db dO g hL.hls hL.hld hL.hsa hL.hda (hL.later hb).PS (hL.later hb).PD;rw[<- es,<- eu]at b6;have b7:=J6 b6;have C5:=f.out.1.over r.out;have b8:=J6 (fun (g:World) (hb:Bl wr g)=>z5s w.heap.size p v x.1 g (C5.over hb));have e7:w.heap.size<wr.heap.size:=C5.lt;clear hc hcell R W hy es eu hL b6 C5;have b9:z5o p.L x=(decide (0<=x.1) && decide (x.1<=1) && (p.L x.1.toNat).on && decide (x.2.k≠1) && decide (Cd.z0s x.2.k x.2.i x.2.v x.2.n x.2.S x.2.D=0)):=rfl
      have d4:z9q p x.1=(decide (0<=x.1) && decide (x.1<=1) && (p.L x.1.toNat).on):=by
       show (isC x.1 && _)=_
       unfold isC;rw[show (decide (x.1<2):Bool)=decide (x.1<=1) by simp only[decide_eq_decide];omega]
      rw[<- d4]at b9;generalize z9q p x.1=io at *;generalize Cd.z0s x.2.k x.2.i x.2.v x.2.n x.2.S x.2.D=gn at *;have A:=J6 (show Bl wr (wr.alloc (J5 #[J I x.1,J I x.2.k,J I x.2.i,J I x.2.v,J I x.2.n,J1 B1 n1 D1,J1 B2 n2 D2] 70)) from znw wr _);have d:=J6 (zbt a A.out);have T:=J6 (zbt r.out A.out);have HE:=d;have HF:=T;have HV:=J6 b9;clear b9 d4 a
      by_cases hq:io=true/\x.2.k≠1/\gn=0
      ·obtain⟨rfl,q1,rfl⟩:=hq;have F:z5o p.L x=true:=by rw[HV.out];simp[q1]
       have d7:Hid (∀ (i:Nat) (y:Int×Pkt),i<k+1->p.q[i]?=some y->z5o p.L y=true):=fun i y hi hy=>by
        by_cases e:i=k
        ·subst e;rw[b5.out]at hy;cases hy;exact F
        ·exact HN.out i y (by omega) hy
       have hk1:(x.2.k == 1)=false:=by simpa using q1
       clear F HN HV b4 K HQ U b5 HA
       go_upto_region 14 with (first
        | (go_at_call 97;refine (b8.out _ (by exact A.out)).mono ?_;rintro e w6⟨rfl,rfl⟩)
        | (go_at_call 29;refine (b7.out _ (by exact A.out)).mono ?_;rintro e w7⟨rfl,H⟩;have HE:=J6 (zbt d.out H);have HF:=J6 (zbt T.out H)))
       clear HE d T A b7 b8;go_wp2;go_roundw
       case rel=>(repeat apply Exists.intro);exact⟨⟨k+1,by omega,by go_num,HF,d7⟩,rfl⟩
       case measure=>simp[intOf];omega
      ·have e:G=false:=b4.out (by
        rw[HV.out,Bool.eq_false_iff];intro h;simp only[Bool.and_eq_true,decide_eq_true_eq]at h
        exact hq ⟨h.1.1,h.1.2,h.2⟩)
       subst e
       have m:io=false∨(io=true/\(x.2.k == 1)=true)∨(io=true/\(x.2.k == 1)=false/\(gn != 0)=true):=by
        cases io
        ·exact .inl rfl
        ·by_cases q1:x.2.k=1
         ·exact .inr (.inl ⟨rfl,by simpa using q1⟩)
         ·exact .inr (.inr ⟨rfl,by simpa using q1,by simp;intro q2;exact hq ⟨rfl,q1,q2⟩⟩)
       clear hq HV b4 K HQ U b5 HA HN
       rcases m with rfl | ⟨rfl,q1⟩ | ⟨rfl,q1,q2⟩
       all_goals
        go_wp2_with (first
         | (go_at_call 97;refine (b8.out _ (by exact A.out)).mono ?_;rintro e w6⟨rfl,rfl⟩)
         | (go_at_call 29;refine (b7.out _ (by exact A.out)).mono ?_;rintro e w7⟨rfl,H⟩;have HE:=J6 (zbt d.out H);have HF:=J6 (zbt T.out H)))
        go_ret;exact⟨rfl,HE.out⟩
     ·obtain rfl:k=p.q.length:=by omega
      have e:G=true:=K.out.all B.out HA.out (fun i x W=>HN.out i x (List.getElem?_eq_some_iff.1 W).1 W);subst e;have d8:=J6 (zbt f.out.2 r.out);clear K HQ U f HA HN r B;go_wp2;go_ret;exact⟨rfl,d8.out⟩
 ·have e:=K.out.one (by
   rw[Bool.eq_false_iff];intro h;simp only[Bool.and_eq_true,decide_eq_true_eq]at h
   exact h1 ⟨h.1.1.1.1.1,h.1.1.1.1.2,h.1.1.1.2,⟨h.1.1.2,h.1.2⟩,h.2⟩)
  subst e;have C:=J6 (fun g hb=>z9n p.set v.set P g (U.out.set.over hb));generalize z0m p.s=gs at *;generalize z3l (-1) p.set=gt at *
  have m:gs=false∨(gs=true/\¬ 0<=p.h)∨(gs=true/\0<=p.h/\¬ p.h<=1099511627775)∨(gs=true/\0<=p.h/\p.h<=1099511627775/\isT p.t=false)∨(gs=true/\0<=p.h/\p.h<=1099511627775/\isT p.t=true/\gt=false):=by
   rw[Z.out];cases gs
   ·exact .inl rfl
   ·by_cases q2:0<=p.h <;> by_cases q3:p.h<=1099511627775 <;> by_cases q4:0<=p.t <;> by_cases q5:p.t<=1099511627776 <;> cases gt <;> simp_all
  clear h1 K Z
  rcases m with rfl | ⟨rfl,h2⟩ | ⟨rfl,h2,h3⟩ | ⟨rfl,h2,h3,h4⟩ | ⟨rfl,h2,h3,h4,rfl⟩
  all_goals
   go_wp2_with (first
    | (go_at_call 94;refine (M.out _ Y.out.2).mono ?_;rintro e w2⟨rfl,o⟩;have f:=J6 (show _/\_ from⟨Y.out.1.over o,zbt Y.out.2 o⟩);clear a0 a1 a2 a3 a4 V a6 o;obtain⟨⟨a0,a1,a2,a3,a4,V⟩,a6⟩:=z3p f.out.1;have HE:=J6 f.out.2)
    | (go_at_call 69;refine (z3E _ _).mono ?_;rintro e w'⟨rfl,rfl⟩)
    | (go_at_call 95;refine (C.out _ f.out.2).mono ?_;rintro e w3⟨rfl,E⟩;have HE:=J6 (zbt f.out.2 E)))
   go_ret;exact⟨rfl,HE.out⟩
end Pv
end Go.Proofs.YtddlhnoedldidaaGreat
