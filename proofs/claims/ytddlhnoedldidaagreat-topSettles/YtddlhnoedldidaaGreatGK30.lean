/- Parts of the proof. -/
import Derived.Test.YtddlhnoedldidaaGreatGL
import Derived.Test.YtddlhnoedldidaaGreatGK26
set_option maxRecDepth 100000
set_option maxHeartbeats 16000000
namespace Go.Proofs.YtddlhnoedldidaaGreat
open Go.Proofs.Tryz
open Value renaming int->J,slice->J1,pointer->J2,bool->J3,agg->J4
open IntKind renaming i64->I
open Obj renaming cells->J5
namespace Kc
open Go.RowKit Pv
theorem q2q(q:List Pkt)(v:Value)(P:Nat->Prop)(w:World)(h:z7Z P w v q):Calls prog 188 #[v] w fun e w'=>e=.returned (J3 (q.all z5R))/\Bl w w':=by
 obtain⟨z,X,N,g⟩:=h;obtain⟨A,C,rfl,hs,-,hc,-⟩:=N.open (z2D q z X) (by decide)
 have Y:=J6 hc;have Q:q.length<=3518437208781:=by omega
 obtain⟨G,s⟩:∃ G,q.all z5R=G:=⟨_,rfl⟩;have t:=J6 s;have B:=J6 g;rw[s];clear hc N hs s g
 go_enter func188,ntmps188
 go_upto_region 2 with fail
 go_loopw [7] (fun i wl=>∃ (k:Nat),k<=q.length/\i=J I (k:Int)/\Hid (G=(q.drop k).all z5R/\Bl w wl)) (fun i _=>q.length - (intOf i).toNat)
 case atStart=>exact⟨0,Nat.zero_le _,rfl,t.out.symm,Below.refl _ _⟩
 case round =>
  obtain⟨k,hk,rfl,HR⟩:=hrel
  by_cases E:k<q.length
  ·have Z:(k:Int)<(q.length:Int):=by omega
   obtain⟨x,F,hd⟩:=z4V E;obtain⟨b,off,rfl,-,H,hcell⟩:=Y.out (by omega)
   have l:k<z.length:=by omega
   have K:z[k]?=some z[k]:=List.getElem?_eq_getElem l;obtain⟨r1,r2⟩:=B.out k x _ F K
   have cl:∀ j,j<6->∀ u,(pkL x z[k])[j]?=some u->wr.cell? ⟨b,off+k * 6+j,none⟩=some u:=fun j hj u hu=>by
    rw[Nat.add_assoc];exact (HR.out.2.cell (p:=⟨b,off+(k * 6+j),none⟩) H).trans (hcell _ _ ((z8v q z k x _ j F K hj).trans hu))
   have c0:=cl 0 (by omega) _ rfl
   have c1:=cl 1 (by omega) _ rfl
   have c2:=cl 2 (by omega) _ rfl
   have c3:=cl 3 (by omega) _ rfl
   have c4:=cl 4 (by omega) _ rfl
   have c5:=cl 5 (by omega) _ rfl
   rw[Nat.add_zero]at c0;have f:Hid (G=(z5R x && (q.drop (k+1)).all z5R)):=by have:=HR.out.1;rw[hd,List.all_cons]at this;exact this
   have L:Hid (z5R x=(decide (x.k=1) && decide (Cd.z0n x.k x.i x.v x.n x.S x.D=0))):=rfl;generalize z[k]=y at *;obtain⟨y1,y2⟩:=y;dsimp only at c0 c1 c2 c3 c4 c5 r1 r2;obtain⟨R,T,U,V,sb,so,db,dO,rfl,rfl,d⟩:=Rep.lies r1 r2;have m:=J6 (HR.out.2.alloc HR.out.2.size (J5 #[J I x.k,J I x.i,J I x.v,J I x.n,J1 R x.S.length T,J1 U x.D.length V] 68));have o:=J6 (fun (W:World) (hb:Bl w W)=>Cd.z0p x.k x.i x.v x.n x.S x.D R U T V sb so db dO W d.hls d.hld d.hsa d.hda (d.later hb).PS (d.later hb).PD);clear HR hd F K r1 r2 cl hcell d l;obtain⟨M,xi,xv,xn,xS,xD⟩:=x;dsimp only at *;generalize Cd.z0n M xi xv xn xS xD=gn at *
   by_cases h1:M=1
   ·subst h1
    by_cases h2:gn=0
    ·subst h2;have e:G=(q.drop (k+1)).all z5R:=by rw[f.out,L.out];simp
     have r:=J6 e;clear e f
     go_wp2_with (go_at_call 29;refine (o.out _ m.out).mono ?_;rintro e w2⟨rfl,a⟩;have c:=J6 (zbt m.out a);clear a)
     first | exact⟨⟨k+1,by omega,by go_num,r.out,c.out⟩,by simp[intOf];omega⟩ | ((repeat apply Exists.intro);exact⟨⟨k+1,by omega,by go_num,r.out,c.out⟩,rfl⟩)
    ·have e:G=false:=by rw[f.out,L.out];simp[h2]
     subst e;have a0:(gn != 0)=true:=by simpa using h2
     clear f t
     go_wp2_with (go_at_call 29;refine (o.out _ m.out).mono ?_;rintro e w2⟨rfl,a⟩;have c:=J6 (zbt m.out a);clear a)
     go_ret;exact⟨rfl,c.out⟩
   ·have e:G=false:=by rw[f.out,L.out];simp[h1]
    subst e;have a1:(M != 1)=true:=by simpa using h1
    clear f t;go_wp2;go_ret;exact⟨rfl,m.out⟩
  ·obtain rfl:k=q.length:=by omega
   have e:G=true:=by have:=HR.out.1;rw[List.drop_length]at this;exact this
   subst e;go_wp2;go_ret;exact⟨rfl,HR.out.2⟩
theorem z1g{w:World}{g:Nat}{c:Cs}{v:CsV}(h:CAt 75 w g (csC c v)):(w.cell? ⟨g,0,none⟩=some (J3 c.on)/\w.cell? ⟨g,1,none⟩=some (J3 c.gone)/\w.cell? ⟨g,2,none⟩=some (J I c.h)/\w.cell? ⟨g,3,none⟩=some (J I c.t)/\w.cell? ⟨g,4,none⟩=some (J I c.id))/\(w.cell? ⟨g,5,none⟩=some v.set/\w.cell? ⟨g,6,none⟩=some v.pd/\w.cell? ⟨g,7,none⟩=some v.rp)/\(w.cell? ⟨g,14,none⟩=some v.said/\w.cell? ⟨g,15,none⟩=some v.due/\w.cell? ⟨g,16,none⟩=some (J I c.out.g)/\w.cell? ⟨g,17,none⟩=some (J3 c.out.cl)):=
 ⟨⟨h.cell 0,h.cell 1,h.cell 2,h.cell 3,h.cell 4⟩,⟨h.cell 5,h.cell 6,h.cell 7⟩,⟨h.cell 14,h.cell 15,h.cell 16,h.cell 17⟩⟩
def j1u(c:Cs):Bool:=!(c.on && c.gone) && decide (0<=c.h) && decide (c.h<1099511627776) && isT c.t && isT c.id
theorem j3C(c:Cs):z8P c=(j1u c && (z2W (-1) c.set && c.pd.all z5R && c.rp.all z7J && Ln.z1a c.out)):=rfl
theorem j0X(c:Cs)(v:CsV)(P:Nat->Prop)(w:World)(hp:CIn P w c v) :
  Calls prog 160 #[J4 (csC c v)] w fun e w'=>e=.returned (J3 (z8P c))/\Bl w w':=by
 have s:=J6 (j3C c);generalize z8P c=G at *;have S:Hid (j1u c=(!(c.on && c.gone) && decide (0<=c.h) && decide (c.h<1099511627776) && isT c.t && isT c.id)):=rfl;generalize j1u c=N1 at *;have C:=J6 (fun (l:World) (hb:Bl w l)=>q8r c.out v.said v.due P l (hp.said.over hb) (hp.due.over hb));have u:=J6 (fun (l:World) (hb:Bl w l)=>j2m c.set v.set P l (hp.set.over hb));have y:=J6 (fun (l:World) (hb:Bl w l)=>q2q c.pd v.pd P l (hp.pd.over hb));have A:=J6 (fun (l:World) (hb:Bl w l)=>q6s c.rp v.rp P l (hp.rp.over hb));clear hp;obtain⟨cs,k⟩:∃ cs,csC c v=cs:=⟨_,rfl⟩;rw[k];have B:=J6 k;clear k
 go_enter func160,ntmps160
 go_upto_region 1 with fail
 have D:CAt 75 (w.alloc (J5 cs 75)) w.heap.size (csC c v):=by rw[B.out];exact CAt.new _ w cs
 have T:Bl w (w.alloc (J5 cs 75)):=znw w _;generalize w.alloc (J5 cs 75)=w1 at *;have j:=J6 (show _/\_ from⟨D,T⟩);obtain⟨⟨E,F,H,K,L⟩,⟨o,p,q⟩,⟨b,d,f,g⟩⟩:=z1g D;clear D T B;generalize z2W (-1) c.set=gs at *;generalize c.pd.all z5R=gp at *;generalize c.rp.all z7J=gr at *;generalize Ln.z1a c.out=gl at *;generalize c.on=con at *;generalize c.gone=cgo at *;generalize c.h=ch at *;generalize c.t=ct at *;generalize c.id=cid at *;have z:=J6 (fun n (l:World)=>z7Y n l)
 have k:(con=true/\cgo=true/\N1=false)∨((con=false∨(con=true/\cgo=false))/\((¬ 0<=ch/\N1=false)∨(0<=ch/\((¬ ch<1099511627776/\N1=false)∨(ch<1099511627776/\((isT ct=false/\N1=false)∨(isT ct=true/\((isT cid=false/\N1=false)∨(isT cid=true/\N1=true))))))))):=by
  rw[S.out]
  by_cases h1:con=true/\cgo=true
  ·left;obtain⟨rfl,rfl⟩:=h1;simp
  ·right
   have M:(con && cgo)=false:=by cases con <;> cases cgo <;> simp_all
   refine⟨by cases con <;> simp_all,?_⟩
   rw[M]
   by_cases h2:0<=ch
   ·refine .inr ⟨h2,?_⟩
    by_cases h3:ch<1099511627776
    ·refine .inr ⟨h3,?_⟩;cases U:isT ct
     ·left;simp
     ·right
      refine⟨rfl,?_⟩;cases Y:isT cid
      ·left;simp
      ·right;simp[h2,h3]
    ·exact .inl ⟨h3,by simp[h3]⟩
   ·exact .inl ⟨h2,by simp[h2]⟩
 clear S
 rcases k with⟨rfl,rfl,rfl⟩ | ⟨hon,k⟩
 ·have e:G=false:=by rw[s.out,Bool.false_and]
  subst e;go_wp2;go_ret;exact⟨rfl,j.out.2⟩
 rcases k with⟨h1,rfl⟩ | ⟨h1,⟨h2,rfl⟩ | ⟨h2,⟨h3,rfl⟩ | ⟨h3,⟨U,rfl⟩ | ⟨U,rfl⟩⟩⟩⟩
 ·have e:G=false:=by rw[s.out,Bool.false_and]
  subst e
  rcases hon with rfl | ⟨rfl,rfl⟩
  all_goals
   go_wp2;go_ret;exact⟨rfl,j.out.2⟩
 ·have e:G=false:=by rw[s.out,Bool.false_and]
  subst e
  rcases hon with rfl | ⟨rfl,rfl⟩
  all_goals
   go_wp2;go_ret;exact⟨rfl,j.out.2⟩
 ·have e:G=false:=by rw[s.out,Bool.false_and]
  subst e
  rcases hon with rfl | ⟨rfl,rfl⟩
  all_goals
   go_wp2_with (go_at_call 120;refine (z.out _ _).mono ?_;rintro e w'⟨rfl,rfl⟩)
   go_ret;exact⟨rfl,j.out.2⟩
 ·have e:G=false:=by rw[s.out,Bool.false_and]
  subst e
  rcases hon with rfl | ⟨rfl,rfl⟩
  all_goals
   go_wp2_with (go_at_call 120;refine (z.out _ _).mono ?_;rintro e w'⟨rfl,rfl⟩)
   go_ret;exact⟨rfl,j.out.2⟩
 ·rw[Bool.true_and]at s;have V:(con && cgo)=false:=by rcases hon with rfl | ⟨rfl,rfl⟩ <;> simp
  rcases hon with rfl | ⟨rfl,rfl⟩
  all_goals
   go_upto_region 3 with (go_at_call 120;refine (z.out _ _).mono ?_;rintro e w'⟨rfl,rfl⟩)
   cases gs
   ·go_wp2_with (go_at_call 187;refine (u.out _ j.out.2).mono ?_;rintro e N⟨rfl,a⟩)
    go_ret;exact⟨by rw[s.out];rfl,zbt j.out.2 a⟩
   ·cases gp
    ·go_wp2_with (first
      | (go_at_call 187;refine (u.out _ j.out.2).mono ?_;rintro e N⟨rfl,a⟩;have m:=J6 (show _/\_ from⟨j.out.1.over a,zbt j.out.2 a⟩);clear E F H K L o p q b d f g a;obtain⟨-,⟨o,p,q⟩,⟨b,d,f,g⟩⟩:=z1g m.out.1)
      | (go_at_call 188;refine (y.out _ m.out.2).mono ?_;rintro e W⟨rfl,i⟩))
     go_ret;exact⟨by rw[s.out];rfl,zbt m.out.2 i⟩
    ·cases gr
     ·go_wp2_with (first
       | (go_at_call 187;refine (u.out _ j.out.2).mono ?_;rintro e N⟨rfl,a⟩;have m:=J6 (show _/\_ from⟨j.out.1.over a,zbt j.out.2 a⟩);clear E F H K L o p q b d f g a;obtain⟨-,⟨o,p,q⟩,⟨b,d,f,g⟩⟩:=z1g m.out.1)
       | (go_at_call 188;refine (y.out _ m.out.2).mono ?_;rintro e W⟨rfl,i⟩;have x:=J6 (show _/\_ from⟨m.out.1.over i,zbt m.out.2 i⟩);clear o p q b d f g i;obtain⟨-,⟨o,p,q⟩,⟨b,d,f,g⟩⟩:=z1g x.out.1)
       | (go_at_call 189;refine (A.out _ x.out.2).mono ?_;rintro e X⟨rfl,r⟩))
      go_ret;exact⟨by rw[s.out];rfl,zbt x.out.2 r⟩
     ·go_wp2_with (first
       | (go_at_call 187;refine (u.out _ j.out.2).mono ?_;rintro e N⟨rfl,a⟩;have m:=J6 (show _/\_ from⟨j.out.1.over a,zbt j.out.2 a⟩);clear E F H K L o p q b d f g a;obtain⟨-,⟨o,p,q⟩,⟨b,d,f,g⟩⟩:=z1g m.out.1)
       | (go_at_call 188;refine (y.out _ m.out.2).mono ?_;rintro e W⟨rfl,i⟩;have x:=J6 (show _/\_ from⟨m.out.1.over i,zbt m.out.2 i⟩);clear o p q b d f g i;obtain⟨-,⟨o,p,q⟩,⟨b,d,f,g⟩⟩:=z1g x.out.1)
       | (go_at_call 189;refine (A.out _ x.out.2).mono ?_;rintro e X⟨rfl,r⟩;have Q:=J6 (show _/\_ from⟨x.out.1.over r,zbt x.out.2 r⟩);clear o p q b d f g r;obtain⟨-,⟨o,p,q⟩,⟨b,d,f,g⟩⟩:=z1g Q.out.1)
       | (go_at_call 140;refine (C.out _ Q.out.2).mono ?_;rintro e w5⟨rfl,R⟩))
      go_ret;exact⟨by rw[s.out];rfl,zbt Q.out.2 R⟩
attribute [local go_sem ↓] z2f
theorem z4G(g:Nat)(c:Cs)(v:CsV)(P:Nat->Prop)(w:World)(h:CAt 75 w g (csC c v))(hp:CIn P w c v) :
  Calls prog 119 #[J2 (some ⟨g,0,none⟩)] w fun e w'=>e=.returned (J I (z5t c))/\Bl w w':=by
 have HR:Hid (z5t c=if z8P c=true then (if c.on=true then 0 else 4) else 2):=rfl;generalize z5t c=R at *;have d:=J6 (j0X c v P w hp);have i:=J6 h;have j:=z3n h (z0r _ _);clear h hp;generalize z8P c=G at *;cases G
 ·have e:R=2:=by rw[HR.out];simp
  subst e
  go_enter func119,ntmps119
  go_wp2_with (go_at_call 160;refine d.out.mono ?_;rintro e w1⟨rfl,a⟩)
  go_ret;exact⟨rfl,a⟩
 ·cases b:c.on
  ·have e:R=4:=by rw[HR.out,b];simp
   subst e
   go_enter func119,ntmps119
   go_wp2_with (go_at_call 160;refine d.out.mono ?_;rintro e w1⟨rfl,a⟩;clear j;have f:=(z1g (i.out.over a)).1.1;rw[b]at f)
   go_ret;exact⟨rfl,a⟩
  ·have e:R=0:=by rw[HR.out,b];simp
   subst e
   go_enter func119,ntmps119
   go_wp2_with (go_at_call 160;refine d.out.mono ?_;rintro e w1⟨rfl,a⟩;clear j;have f:=(z1g (i.out.over a)).1.1;rw[b]at f)
   go_ret;exact⟨rfl,a⟩
theorem z5s(g:Nat)(c:Cs)(v:CsV)(now:Int)(P:Nat->Prop)(w:World)(h:CAt 75 w g (csC c v))(hp:CIn P w c v) :
  Calls prog 130 #[J2 (some ⟨g,0,none⟩),J I now] w fun e w'=>e=.returned (J I (if isT now=true then z5t c else 2))/\Bl w w':=by
 have b:=J6 (z4G g c v P w h hp);generalize z5t c=R at *;have a:=J6 (z7Y now w);clear h hp;generalize isT now=T at *;cases T
 ·rw[if_neg (by simp)]
  go_enter func130,ntmps130
  go_wp2_with (go_at_call 120;refine a.out.mono ?_;rintro e w'⟨rfl,rfl⟩)
  go_ret;exact⟨rfl,Below.refl _ _⟩
 ·rw[if_pos rfl]
  go_enter func130,ntmps130
  go_wp2_with (first
   | (go_at_call 120;refine a.out.mono ?_;rintro e w'⟨rfl,rfl⟩)
   | (go_at_call 119;refine b.out.mono ?_;rintro e w1⟨rfl,d⟩))
  go_ret;exact⟨rfl,d⟩
end Kc
section
open Go.RowKit
theorem q5A(s:St)(ao:Option Addr)(sb so c v:Nat)(h f:Int)(w:World)(hW:z2L w ao sb so s.W)(R:z0k s=true)(j:v<6)(S:0<=f/\f<=1000) :
  Calls prog 107 #[J4 (stC s (J1 ao s.W.length c)),J I (v:Int),J I h,J I f] w fun e w'=>∃ A C,e=.returned (.tuple #[J4 (stC (z1Y s v h f) (J1 A (z1Y s v h f).W.length C)),J I (ptN (s.V v).tok f+slN v h f s.W),J I 0])/\z2C w.heap.size w' A C (z1Y s v h f).W/\Bl w w':=by
 have T:=(SAt.new w (stC s (J1 ao s.W.length c))).alloc (J5 Z63 43);have RR:=SAt.new2 w (J5 (stC s (J1 ao s.W.length c)) 43) Z63;have HB:Hid (Bl w ((w.alloc (J5 (stC s (J1 ao s.W.length c)) 43)).alloc (J5 Z63 43))):=(znw w _).alloc (by simp) _
 have HW:=J6 hW;have b4:=z3Y R j;have b5:(v:Int)<6:=by omega
 have b6:(0:Int)<=(v:Int):=by omega
 obtain⟨n1,n2,n3,n4,n5,n6,n7,n8,n9,p,q⟩:=z5h R j h S;obtain⟨b0,-⟩:=z6Z R j h S;have hP:=q4G (s.V v).tok f;have t:=fun w hw=>z8N ao s.W c sb so v h f w hw S p n9 q;have k:=fun w=>j2W s.b (ptN (s.V v).tok f) (slN v h f s.W) w;rw[b0]at k;rw[n1]at hP;have eS:z1Y s v h f={ s with b:=(z3d s.b (ptN (s.V v).tok f) (slN v h f s.W)).1,V:=z1Q s.V v (z7l (s.V v) (ptN (s.V v).tok f) (slN v h f s.W)),W:=slW v h f s.W }:=rfl
 generalize (z3d s.b (ptN (s.V v).tok f) (slN v h f s.W)).1=B at *;have u:(z1Y s v h f).W=slW v h f s.W:=rfl;generalize z1Y s v h f=r at *;generalize ptN (s.V v).tok f=pb at *;generalize slN v h f s.W=pw at *;rw[u];generalize slW v h f s.W=Ws at *;obtain⟨b7,b8⟩:=n2;obtain⟨b9,c4⟩:=n3;obtain⟨c5,c6⟩:=n5;have c7:wrap64 (pb+pw)=pb+pw:=z0g (by omega) (by omega)
 have a0:=J6 eS;clear hW S R n1 n9 p q b0 eS u
 go_enter func107,ntmps107
 go_upto_region 1 with fail
 change Code.wp prog _ _ _ ((w.alloc (J5 (stC s (J1 ao s.W.length c)) 43)).alloc (J5 Z63 43));generalize (w.alloc (J5 (stC s (J1 ao s.W.length c)) 43)).alloc (J5 Z63 43)=w0 at *
 go_upto_region 2 with (go_at_call 72;refine (z1S s ao sb so c w.heap.size v _ T (by exact HW.out.over HB.out)).mono ?_;rintro e w1⟨rfl,h1⟩)
 have x:=J6 (zbt HB.out h1);have y:=T.later h1 T.lt;have U:=RR.later h1 RR.lt;clear T RR h1 HB;have c0:=(y.val v j).1;have X:=(z0u y).2.2.2.2.2.2.2.1;have c8:w.heap.size+1<w1.heap.size:=U.lt;have a3:w.heap.size<w1.heap.size:=by omega
 go_upto_region 14 with (first
  | (go_at_call 149;refine (hP _).mono ?_;rintro e w2⟨rfl,h2⟩;have l:=J6 (x.out.trans (h2.mono (by omega)));have z:=y.later h2 y.lt;have Y:=U.later h2 U.lt;have c9:=Y.lt;clear X;have X:=(z0u z).2.2.2.2.2.2.2.1;have a4:=z.lt;clear h2)
  | (go_at_call 150;refine (t _ (by exact HW.out.over l.out)).mono ?_;rintro e w3⟨A,C,rfl,D,h3⟩;have E:=J6 (l.out.trans (h3.mono (by omega)));have F:=z.later h3 z.lt;have Z:=Y.later h3 Y.lt;have G:=J6 D;have d0:=Z.lt;have a5:=F.lt;obtain⟨x0,x1,x2,x3,x4,x5,x6,_,_⟩:=z0u F;clear h3 D)
  | (go_at_call 151;refine (k _).mono ?_;rintro e m⟨rfl,H⟩;have K:=J6 (E.out.trans (H.mono (by omega)));have S4:=F.later H F.lt;have R4:=Z.later H Z.lt;have L:=J6 (G.out.over H);have d1:=R4.lt;clear H x0 x1 x2 x3 x4 x5 x6))
 have B5:BAt (m.alloc (J5 #[J I B.f0,J I B.f1,J I B.f2,J I B.f3,J I B.bo,J I B.wa,J I B.bu] 35)) m.heap.size B.f0 B.f1 B.f2 B.f3 B.bo B.wa B.bu:=heap_alloc_new _ _;have M:=S4.alloc (J5 #[J I B.f0,J I B.f1,J I B.f2,J I B.f3,J I B.bo,J I B.wa,J I B.bu] 35);have R5:=R4.alloc (J5 #[J I B.f0,J I B.f1,J I B.f2,J I B.f3,J I B.bo,J I B.wa,J I B.bu] 35);have N:=J6 (K.out.alloc (by omega) (J5 #[J I B.f0,J I B.f1,J I B.f2,J I B.f3,J I B.bo,J I B.wa,J I B.bu] 35))
 have n:=J6 (L.out.over (znw m (J5 #[J I B.f0,J I B.f1,J I B.f2,J I B.f3,J I B.bo,J I B.wa,J I B.bu] 35)));generalize m.alloc (J5 #[J I B.f0,J I B.f1,J I B.f2,J I B.f3,J I B.bo,J I B.wa,J I B.bu] 35)=w5 at *;clear y U x z Y l F Z E S4 R4 K G L hP t k;have d2:m.heap.size<w5.heap.size:=B5.lt;have a6:w.heap.size<w5.heap.size:=by omega
 have c0:=(M.val v j).1;have c2:=(M.val v j).2.2.1;have f0:=M.free (7+v * 5)
 go_upto_region 16 with fail
 have o:=M.set (7+v * 5) (J I ((s.V v).tok - pb));rw[j0g _ _ v j]at o;have P:=J6 ((But.refl w.heap.size w5).set (7+v * 5) (J I ((s.V v).tok - pb)));generalize w5.setCell ⟨w.heap.size,7+v * 5,none⟩ (J I ((s.V v).tok - pb))=w6 at *;clear c0 c2 f0;have c2:=(o.val v j).2.2.1;simp only[z6S]at c2;have f0:=o.free (7+v * 5+2);have a7:w.heap.size<w6.heap.size:=o.lt
 go_upto_region 17 with fail
 have d:=o.set (7+v * 5+2) (J I ((s.V v).lost+(pb+pw)));rw[j3s _ _ v j]at d;have g:=J6 (P.out.set (7+v * 5+2) (J I ((s.V v).lost+(pb+pw))));generalize w6.setCell ⟨w.heap.size,7+v * 5+2,none⟩ (J I ((s.V v).lost+(pb+pw)))=w7 at *;have a8:w.heap.size<w7.heap.size:=d.lt;have B7:BAt w7 m.heap.size B.f0 B.f1 B.f2 B.f3 B.bo B.wa B.bu:=(g.out.block _ (by omega)).trans B5
 have a9:=B7.lt;obtain⟨x0,x1,x2,x3,x4,x5,x6,X,_⟩:=z0u d;obtain⟨y0,y1,y2,y3,y4,y5,y6⟩:=B7.cells;have g0:=d.free 0;have g1:=d.free 1;have g2:=d.free 2;have g3:=d.free 3;have g4:=d.free 4;have g5:=d.free 5;have g6:=d.free 6;have a1:=d.free 61;have d3:m.heap.size≠w.heap.size:=by omega
 clear c2 f0 o P
 go_upto_region 18 with fail
 change Code.wp prog _ _ _ ((z6H w7 w.heap.size B).setCell ⟨w.heap.size,61,none⟩ (J1 A Ws.length C));have a:Hid (But w.heap.size w5 ((z6H w7 w.heap.size B).setCell ⟨w.heap.size,61,none⟩ (J1 A Ws.length C))):=(((((((g.out.set 0 _).set 1 _).set 2 _).set 3 _).set 4 _).set 5 _).set 6 _).set 61 _;have S8:=(z7w d B).set 61 (J1 A Ws.length C);rw[q2p]at S8;have R8:=a.out.z1q (by omega) R5
 have Q:Hid (z2C w2.heap.size ((z6H w7 w.heap.size B).setCell ⟨w.heap.size,61,none⟩ (J1 A Ws.length C)) A C Ws):=z1v n.out fun k' hk=>a.out.block _ (by have:=(World.ownsRow.lt n.out k' hk).1;omega)
 have a2:=J6 (N.out.trans (a.out.below (Nat.le_refl _)));generalize (z6H w7 w.heap.size B).setCell ⟨w.heap.size,61,none⟩ (J1 A Ws.length C)=w8 at *;clear x0 x1 x2 x3 x4 x5 x6 X y0 y1 y2 y3 y4 y5 y6 g0 g1 g2 g3 g4 g5 g6 a1 d B7 B5 g a R5 N n M
 have S9:SAt w8 w.heap.size (stC r (J1 A Ws.length C)):=by
  have e:stC r (J1 A Ws.length C)=stC { ({ s with V:=z1Q (z1Q s.V v { s.V v with tok:=(s.V v).tok - pb }) v { z1Q s.V v { s.V v with tok:=(s.V v).tok - pb } v with lost:=(s.V v).lost+(pb+pw) } }:St) with b:=B } (J1 A Ws.length C):=by
   rw[a0.out,z6S]
   have hV:z1Q (z1Q s.V v { s.V v with tok:=(s.V v).tok - pb }) v { s.V v with tok:=(s.V v).tok - pb,lost:=(s.V v).lost+(pb+pw) }=z1Q s.V v (z7l (s.V v) pb pw):=by
    funext i
    unfold z1Q z7l
    split <;> rfl
   rw[hV];rfl
  rw[e];exact S8
 clear S8;apply wp_region_lit;refine wpList_load_mid rfl 43 _ rfl _ 0 rfl _ _ S9.range underlying43 rfl (by rw[z0B];rfl) ?_
 refine z1U rfl _ rfl ?_;refine wpList_store_mid rfl 43 _ _ rfl _ 0 (stC r (J1 A Ws.length C)) rfl rfl (R8.there 0 _ (by rw[z0v,z0f];omega)) (by rw[z0B];rfl) (z0E _ _ _ _) ?_
 go_wp2;exact z9w results107 R8 rfl r _ _ _ _ ⟨A,C,rfl,z4u (z1v Q.out fun k' hk=>z1l (by have:=(World.ownsRow.lt Q.out k' hk).1;omega) _ _ _) (by omega),z0b (by omega) _ _ _ a2.out⟩ _ rfl rfl rfl rfl
def z4j(c:Nat)(h:Int)(x:Wt):Wt:=if c=0 then (if x.h0<=h then { x with h0:=0 } else x) else (if x.h1<=h then { x with h1:=0 } else x)
def z4X(c:Nat)(h:Int)(W:List Wt):List Wt:=W.map (z4j c h)
theorem z7t(F:Wt->Wt){W:List Wt}{k:Nat}{x:Wt}(a:W[k]?=some x):(W.take (k+1)).map F ++ W.drop (k+1)=((W.take k).map F ++ W.drop k).set k (F x)/\((W.take k).map F ++ W.drop k)[k]?=some x/\((W.take k).map F ++ W.drop k).length=W.length:=by
 obtain⟨c,d⟩:=List.getElem?_eq_some_iff.1 a;have b:((W.take k).map F).length=k:=by rw[List.length_map,List.length_take];omega
 have hd:W.drop k=x :: W.drop (k+1):=by rw[<- d];exact List.drop_eq_getElem_cons c
 refine⟨?_,?_,?_⟩
 ·rw[z1z a,hd,List.map_append,List.set_append_right _ _ (by omega),b,Nat.sub_self,List.append_assoc]
  rfl
 ·rw[List.getElem?_append_right (by omega),b,Nat.sub_self,hd]
  rfl
 ·rw[List.length_append,List.length_map,<- List.length_append,List.take_append_drop]
theorem q4p:∀ (W:List Wt) (k:Nat) (x a:Wt) (j:Nat) (v:Value),W[k]?=some x->j<8->wtL a=(wtL x).set j v->wsL (W.set k a)=(wsL W).set (k * 8+j) v
 | [],k,x,a,j,v,h,_,_=>by simp at h
 | z :: W,0,x,a,j,v,h,hj,he=>by
  simp at h
  subst h
  show wtL a ++ wsL W=(wtL z ++ wsL W).set _ _
  rw[List.set_append_left _ _ (by rw[z2e];omega),he]
  simp
 | z :: W,k+1,x,a,j,v,h,hj,he=>by
  have b:=q4p W k x a j v (by simpa using h) hj he
  show wtL z ++ wsL (W.set k _)=(wtL z ++ wsL W).set _ _
  rw[List.set_append_right _ _ (by rw[z2e];omega),z2e,b]
  congr 2
  omega
theorem z2C.put{B:Nat}{w:World}{g C:Nat}{W:List Wt}(h:z2C B w (some ⟨g,0,none⟩) C W){k:Nat}{x:Wt}(b:W[k]?=some x)(a:Wt)(j:Nat)(v:Value)(c:j<8)(d:wtL a=(wtL x).set j v):z2C B (w.setCell ⟨g,k * 8+j,none⟩ v) (some ⟨g,0,none⟩) C (W.set k a):=by
 have h1:=(World.ownsRow.stored h (k * 8+j) v).1;unfold z2C;rw[q4p W k x a j v b c d,List.length_set];exact h1
theorem z2C.holds{B:Nat}{w:World}{A:Option Addr}{C:Nat}{W:List Wt}(h:z2C B w A C W)(h0:0<W.length):∃ g,A=some ⟨g,0,none⟩/\B<=g/\g<w.heap.size/\∀ k x,W[k]?=some x->(w.cell? ⟨g,k * 8+6,none⟩=some (J I x.h0)/\w.cell? ⟨g,k * 8+7,none⟩=some (J I x.h1)/\w.frozen? ⟨g,k * 8+6,none⟩=false/\w.frozen? ⟨g,k * 8+7,none⟩=false):=by
 have h':=h
 rcases h.2 with⟨hv,hn⟩ | ⟨g,cap,cur,hv,hb,hg,hrest⟩
 ·omega
 ·cases hv;refine⟨g,rfl,hb,(Array.getElem?_eq_some_iff.1 hg).1,fun k x a=>?_⟩
  have c:∀ j v,(wtL x)[j]?=some v->j<8->w.cell? ⟨g,k * 8+j,none⟩=some v:=fun j v b d=>by
   have:=World.ownsRow.cells h' (g:=g) rfl (k * 8+j) v ((z4I W k x j a d).trans b)
   rwa [Addr.add_lit,Nat.zero_add]at this
  exact⟨c 6 _ rfl (by omega),c 7 _ rfl (by omega),World.ownsRow.frozenAt h' _,World.ownsRow.frozenAt h' _⟩
end
section
structure Kp(s:St)(r:St×Int):Prop where
 good:z0k r.1=true
 bu:s.b.bu<=r.1.b.bu
 dead:∀ k,k<6->(s.V k).dead=true->(r.1.V k).dead=true
 lost:∀ k,k<6->(s.V k).lost<=(r.1.V k).lost
 no:r.2≠0->r.1=s
theorem Kp.same{s:St}(a:z0k s=true)(e:Int):Kp s (s,e):=⟨a,Int.le_refl _,fun _ _ h=>h,fun _ _=>Int.le_refl _,fun _=>rfl⟩
theorem j2J{s:St}(a:z0k s=true)(d v n:Int):Kp s (z0Q s d v n):=by
 by_cases h:(z0Q s d v n).2=0
 ·obtain⟨i,j,rfl,rfl,c,u,-,f,w,g,l,m,x⟩:=q5g h;obtain⟨y,o,p,q⟩:=q9Y c m;have r:=z4M a j u;have C:=(z1O _).1 r.1;obtain⟨D,z,E⟩:=j8B r.1 w g l;have F:=z0I.1 (z7h r.2 c);have A:=j3B (t:=n) (n:=shN (s.V j) n) a c u y o p q (by omega) (by omega) z (fun _=>by omega)
  rw[x];refine⟨A,by show s.b.bu<=(z2T s.b i n).1.bu;omega,fun k B hd=>?_,fun k B=>?_,fun h=>absurd rfl h⟩
  ·show (z1Q s.V j _ k).dead=true
   unfold z1Q
   split
   ·rename_i e;subst e;exact hd
   ·exact hd
  ·show (s.V k).lost<=(z1Q s.V j _ k).lost
   unfold z1Q
   split
   ·rename_i e;subst e;exact Int.le_refl _
   ·exact Int.le_refl _
 ·have e:(z0Q s d v n).1=s:=by
   unfold z0Q at h ⊢
   repeat' split
   all_goals first | rfl | (simp_all;done)
  have:=Kp.same a (z0Q s d v n).2;rw[show z0Q s d v n=((z0Q s d v n).1,(z0Q s d v n).2) from rfl,e];exact this
theorem y0b{next next':Int}(a:next<=next'):∀ {W:List Wt} {last:Int},wOk next last W=true->wOk next' last W=true
 | [],_,_=>rfl
 | x :: W,last,h=>by
  simp only[wOk,q1t,Bool.and_eq_true,decide_eq_true_eq]at h ⊢;obtain⟨⟨⟨⟨⟨⟨⟨h1,h2⟩,h3⟩,b⟩,c⟩,d⟩,e⟩,f⟩:=h;exact⟨⟨⟨⟨⟨⟨⟨h1,by omega⟩,h3⟩,b⟩,c⟩,d⟩,e⟩,y0b a f⟩
theorem q4X{next:Int}(x:Wt)(a:q1t (next - 1) (next+1) { x with num:=next }=true)(e:x.num=next):∀ {W:List Wt} {last:Int},last<next->wOk next last W=true->wOk (next+1) last (W ++ [x])=true
 | [],last,hl,_=>by
  simp only[List.nil_append,wOk,q1t,Bool.and_eq_true,decide_eq_true_eq]at a ⊢;obtain⟨⟨⟨⟨⟨⟨h1,h2⟩,h3⟩,b⟩,c⟩,d⟩,f⟩:=a;exact⟨⟨⟨⟨⟨⟨⟨by omega,by omega⟩,h3⟩,b⟩,c⟩,d⟩,f⟩,trivial⟩
 | y :: W,last,hl,h=>by
  simp only[List.cons_append,wOk,q1t,Bool.and_eq_true,decide_eq_true_eq]at h ⊢;obtain⟨⟨⟨⟨⟨⟨⟨h1,h2⟩,h3⟩,b⟩,c⟩,d⟩,f⟩,g⟩:=h;exact⟨⟨⟨⟨⟨⟨⟨h1,by omega⟩,h3⟩,b⟩,c⟩,d⟩,f⟩,q4X x a e h2 g⟩
theorem j2a{s:St}(a:z0k s=true){i j:Nat}(q:i<4)(g:j<6)(n:Int)(y:Wt):Kp s (z0N s i j n y):=by
 have d:=z5F a q g
 by_cases h1:(decide (0<n) && inA n)=true/\0<=y.hei/\0<=y.due
 case neg=>rw[q3D d h1];exact Kp.same a _
 by_cases h2:n<=s.S (i:Int).toNat (j:Int).toNat
 case neg=>rw[q2Q d h1 h2];exact Kp.same a _
 by_cases h3:s.W.length<60/\s.next<1125899906842624
 case neg=>rw[q3m d h1 h2 h3];exact Kp.same a _
 by_cases v:woE (s.V (j:Int).toNat) n=0
 case neg=>rw[q3k d h1 h2 h3 v];exact Kp.same a _
 by_cases w:(z1e s.b (woN (s.V (j:Int).toNat) n)).2=0
 case neg=>rw[q2K d h1 h2 h3 v w];exact Kp.same a _
 rw[q2G d h1 h2 h3 v w];simp only[Int.toNat_natCast]at *;have r:=z4M a j g;have x:=(z1O _).1 r.1;have hS:=z0I.1 (z7h r.2 q);have G:=(z0h s).1 a;have l:=(G.2.2.2.2.2.1 j g).2.2;have z:=j4J r.2 q;rw[l]at z;obtain⟨H,K,L⟩:=h1;simp only[Bool.and_eq_true,decide_eq_true_eq,z0I]at H;obtain⟨w1,w2,-⟩:=y1I (k:=(s.V j).tok) r.1 H.1 (by omega) (by rw[Int.mul_comm];exact Int.mul_le_mul_of_nonneg_left (by omega) x.1.1)
 have m:woN (s.V j) n=mdN n (s.V j).tok (s.V j).sh:=by unfold woN;rw[if_pos w1]
 have M:=z4K n (s.V j).tok (s.V j).sh;obtain⟨N,P,m3,Q,R⟩:=q2C (b:=s.b) (f:=4) (t:=5) w;have o:=q0t (f:=4) (t:=5) (.inr (.inr (.inl ⟨rfl,rfl⟩))) N P Q;have u:(z1e s.b (woN (s.V j) n)).1=(s.b.put 4 (s.b.get 4 - woN (s.V j) n)).put 5 (s.b.get 5+woN (s.V j) n):=by unfold z1e;rw[R]
 rw[<- u]at o;have A:(z1e s.b (woN (s.V j) n)).1.bo=s.b.bo - woN (s.V j) n:=by rw[u];rfl
 have C:(z1e s.b (woN (s.V j) n)).1.wa=s.b.wa+woN (s.V j) n:=by rw[u];rfl
 have D:(z1e s.b (woN (s.V j) n)).1.bu=s.b.bu:=by rw[u];rfl
 generalize (z1e s.b (woN (s.V j) n)).1=B at *;have T:woN (s.V j) n<=(s.V j).tok/\0<=woN (s.V j) n/\woN (s.V j) n<=1125899906842624:=by rw[m];omega
 have U:(s.V j).sh - n=0->woN (s.V j) n=(s.V j).tok:=by
  intro h0;rw[m];have c1:¬ (n<0∨(s.V j).tok<0∨(s.V j).sh<1):=by omega
  have e:n=(s.V j).sh:=by omega
  unfold mdN;rw[if_neg c1,e,Int.mul_comm (s.V j).sh,Int.mul_ediv_cancel _ (by omega),if_pos (by omega)]
 -- the z1q without the wait,as if the tokens had gone: all but the waits
 generalize woN (s.V j) n=wo at *;obtain⟨g1,g2,g3,g4,X,E,g7,Y,Z⟩:=G;refine⟨?_,by show s.b.bu<=B.bu;omega,fun k p hd=>?_,fun k p=>?_,fun h=>absurd rfl h⟩
 ·rw[z0h];have F:z8C (z1Q s.V j { s.V j with tok:=(s.V j).tok + -wo,sh:=(s.V j).sh + -n }) 6=B.bo:=by rw[z7x _ _ _ g,g7,A];show s.b.bo+((s.V j).tok + -wo) - (s.V j).tok=_;omega
  refine⟨o.1,by show 1<=s.next+1;omega,by show s.next+1<=_;omega,?_,?_,fun k p=>?_,F,?_,?_⟩
  ·show (s.W ++ [_]).length<=60
   rw[List.length_append];simp only[List.length_cons,List.length_nil];omega
  ·show wOk (s.next+1) 0 (s.W ++ [_])=true
   refine q4X (next:=s.next) _ ?_ rfl (show (0:Int)<s.next by omega) X
   simp only[q1t,Bool.and_eq_true,decide_eq_true_eq,z5J,z3p,z0I];omega
  ·show vOk (z1Q s.V j _ k)=true/\z3G (z6T s.S i j _) k 4=true/\psh (z6T s.S i j _) k 4=(z1Q s.V j _ k).sh
   refine⟨?_,q1U _ _ _ _ _ (E k p).2.1 (z0I.2 ⟨by show 0<=s.S i j + -n;omega,by show s.S i j + -n<=_;omega⟩),?_⟩
   ·unfold z1Q
    split
    ·rw[z1O];exact⟨⟨by show 0<=(s.V j).tok + -wo;omega,by show (s.V j).tok + -wo<=_;omega⟩,⟨by show 0<=(s.V j).sh + -n;omega,by show (s.V j).sh + -n<=_;omega⟩,x.2.2.1,by show 0<(s.V j).tok + -wo->(s.V j).sh + -n≠0;omega,x.2.2.2.2⟩
    ·exact (E k p).1
   ·by_cases c:k=j
    ·subst c;rw[q9L _ _ _ _ q,l];simp only[z1Q,if_true];omega
    ·rw[q2c _ _ _ _ _ c,(E k p).2.2];simp only[z1Q,if_neg c]
  ·show z2V (s.W ++ [_])=B.wa
   rw[z3E,Y,C];simp only[z2V];omega
  ·show z3S (z1Q s.V j _) 6=B.bu
   rw[z6d _ _ _ g,Z,D];simp only;omega
 ·show (z1Q s.V j _ k).dead=true
  unfold z1Q
  split
  ·rename_i e;subst e;exact hd
  ·exact hd
 ·show (s.V k).lost<=(z1Q s.V j _ k).lost
  unfold z1Q
  split
  ·rename_i e;subst e;exact Int.le_refl _
  ·exact Int.le_refl _
theorem q4v{s:St}(a:z0k s=true){v:Nat}(c:v<6)(h:Int){f:Int}(d:0<=f/\f<=1000):Kp s (z1Y s v h f,0):=by
 obtain⟨b0,b1,b2,b3,l⟩:=z6Z a c h d;obtain⟨n1,m,n,o,p,q,r,t,u,g,i⟩:=z5h a c h d;refine⟨z6Q a c h d,by show s.b.bu<=(z1Y s v h f).b.bu;omega,fun k j hd=>?_,fun k j=>?_,fun h=>absurd rfl h⟩
 ·show (z1Q s.V v _ k).dead=true
  unfold z1Q
  split
  ·rename_i e;subst e;exact hd
  ·exact hd
 ·show (s.V k).lost<=(z1Q s.V v _ k).lost
  unfold z1Q
  split
  ·rename_i e;subst e;show _<=(s.V k).lost+_;omega
  ·exact Int.le_refl _
theorem z5P{s:St}(e:z0k s=true){v:Nat}(f:v<6){j d:Bool}(c:d=true->j=true):z0k (z5m s v j d)=true:=by
 rw[z0h]at e ⊢;obtain⟨h1,h2,h3,i,l,m,n,o,p⟩:=e;refine⟨h1,h2,h3,i,l,fun k q=>?_,?_,o,?_⟩
 ·obtain⟨i1,g,h⟩:=m k q
  show vOk (z1Q s.V v _ k)=true/\z3G s.S k 4=true/\psh s.S k 4=(z1Q s.V v _ k).sh
  unfold z1Q
  by_cases a:k=v
  ·subst a;rw[if_pos rfl];rw[z1O]at i1;refine⟨?_,g,h⟩;rw[z1O];exact⟨i1.1,i1.2.1,i1.2.2.1,i1.2.2.2.1,c⟩
  ·rw[if_neg a];exact⟨i1,g,h⟩
 ·show z8C (z1Q s.V v _) 6=s.b.bo
  rw[z7x _ _ _ f,n];simp only;omega
 ·show z3S (z1Q s.V v _) 6=s.b.bu
  rw[z6d _ _ _ f,p];simp only;omega
theorem j4w{s:St}(a:z0k s=true)(t:Int):Kp s (z5K s t,0):=by
 obtain⟨d,e,f,g⟩:=q7z a t;exact⟨q4b a t,by show s.b.bu<=(z5K s t).b.bu;omega,fun k c h=>h,fun k c=>Int.le_refl _,fun h=>absurd rfl h⟩
theorem z9p(c:Nat)(h:Int)(x:Wt):(z4j c h x).num=x.num/\(z4j c h x).d=x.d/\(z4j c h x).v=x.v/\(z4j c h x).hei=x.hei/\(z4j c h x).due=x.due/\(z4j c h x).amt=x.amt:=by
 unfold z4j
 repeat' split
 all_goals exact⟨rfl,rfl,rfl,rfl,rfl,rfl⟩
theorem j0t{next h:Int}{c:Nat}:∀ {W:List Wt} {last:Int},wOk next last W=true->wOk next last (z4X c h W)=true
 | [],_,_=>rfl
 | x :: W,last,hw=>by
  obtain⟨k1,a,b,d,e,f⟩:=z9p c h x;simp only[wOk,Bool.and_eq_true]at hw;have g:=j0t (c:=c) (h:=h) hw.2;have h1:=hw.1;simp only[z4X,List.map_cons,wOk,q1t,Bool.and_eq_true,decide_eq_true_eq,k1,a,b,d,e,f]at h1 ⊢;exact⟨h1,g⟩
theorem q4x(c:Nat)(h:Int):∀ W:List Wt,z2V (z4X c h W)=z2V W
 | []=>rfl
 | x :: W=>by
  show (z4j c h x).amt+z2V (z4X c h W)=x.amt+z2V W
  rw[q4x c h W,(z9p c h x).2.2.2.2.2]
theorem j5q{s:St}(a:z0k s=true)(c:Nat)(h:Int):Kp s ({ s with W:=z4X c h s.W },0):=by
 refine⟨?_,Int.le_refl _,fun _ _ h=>h,fun _ _=>Int.le_refl _,fun h=>absurd rfl h⟩;rw[z0h]at a ⊢;obtain⟨h1,h2,h3,b,d,e,f,g,i⟩:=a;exact⟨h1,h2,h3,by show (z4X c h s.W).length<=60;unfold z4X;rw[List.length_map];exact b,j0t d,e,f,by show z2V (z4X c h s.W)=_;rw[q4x];exact g,i⟩
end
namespace Pv
open Go.RowKit
def isC(c:Int):Bool:=decide (0<=c) && decide (c<2)
def z0P(L:Nat->Lk)(c:Nat)(x:Lk):Nat->Lk:=fun i=>if i=c then x else L i
def z1T(p:Pr)(d v n:Int):Pr×Int:=if z0o p=true then ({ p with s:=(z0Q p.s d v n).1 },(z0Q p.s d v n).2) else (p,2)
def z2i(p:Pr)(c:Nat):Int:=if (p.L c).on=true then p.h+1 else 0
def z1u(L:Nat->Lk):Nat->Lk:=fun c=>if (L c).on=true then { L c with fresh:=true } else L c
def z8O(p:Pr)(now:Int):Wt:=⟨0,0,0,0,p.h+1,now+20,z2i p 0,z2i p 1⟩
def z1f(p:Pr)(d v n now:Int):Pr×Int:=
 if z0o p=true/\isT now=true then
  if (z0N p.s d v n (z8O p now)).2=0 then ({ p with s:=(z0N p.s d v n (z8O p now)).1,L:=z1u p.L },0) else (p,(z0N p.s d v n (z8O p now)).2)
 else (p,2)
def z0V(c:Nat)(h:Int)(x:Wt):Wt:=if x.hei=h then (if c=0 then { x with h0:=h } else { x with h1:=h }) else x
def z6M(p:Pr):Lk:=⟨true,false,p.h,p.set,p.s.W.any (fun x=>decide (x.hei=p.h+1)),[],⟨[],[],0,false⟩,0,0,0,0⟩
def z0x(p:Pr)(c:Int):Pr×Int:=
 if z0o p=true then
  if isC c=true then
   if (p.L c.toNat).gone=true then (p,11)
   else if (p.L c.toNat).on=true then (p,5)
   else if p.h=0∨p.set.length=0 then (p,13)
   else ({ p with s:={ p.s with W:=p.s.W.map (z0V c.toNat (p.h+1)) },L:=z0P p.L c.toNat (z6M p) },0)
  else (p,4)
 else (p,2)
def z4w(x:Lk):Lk:={ x with on:=false,gone:=true,fresh:=false,done:=[],out:={ x.out with cl:=true } }
def z8G(p:Pr)(c:Int):Bool:=isC c && (p.L c.toNat).on
def z0j(p:Pr)(c:Int):Pr:=
 if z0o p=true/\z8G p c=true then { p with s:={ p.s with W:=z4X c.toNat 1099511627776 p.s.W },L:=z0P p.L c.toNat (z4w (p.L c.toNat)),q:=p.q.filter fun a=>decide (a.1≠c) } else p
def z2z(p:Pr)(c:Int)(l:List Int):Pr×Int:=
 if z0o p=true then
  if z8G p c=true then
   if Cd.z4x l=0 then
    if (z0X l).k=1 then (p,3) else ({ p with q:=p.q ++ [(c,z0X l)] },0)
   else (p,Cd.z4x l)
  else (p,4)
 else (p,2)
def z8x(s:St)(v:Nat)(h:Int):St:=z5m (z1Y s v h 50) v true true
def z3R(p:Pr)(v h:Int):Pr×Int:=
 if z0o p=true then
  if isV v=true then
   if 1<=h/\h<=p.h then
    if (p.s.V v.toNat).dead=true then (p,15) else ({ p with s:=z8x p.s v.toNat h },0)
   else (p,2)
  else (p,4)
 else (p,2)
def z3s(D:List Int)(v:Int):List Int:=((List.range 6).map Int.ofNat).filter fun u=>decide (u=v) || decide (u∈D)
def j8v(x:Vd):Int:=if x.tok / 100<1 then 1 else x.tok / 100
def j6w(a b:Int):Int:=if a<b then b else a
def z1y(p:Pr)(c:Nat)(x:Pkt):Pr×Bool:=
 if x.k=2 then ({ p with s:={ p.s with W:=z4X c x.i p.s.W } },true)
 else if x.k=4 then
  if (p.s.V x.v.toNat).dead=true then (p,true) else ({ p with s:=z8x p.s x.v.toNat (j6w x.i (p.L c).base) },true)
 else if (p.s.V x.v.toNat).jail=true then ({ p with L:=z0P p.L c { p.L c with done:=z3s (p.L c).done x.v } },true)
 else if p.ml<1 then (p,false)
 else ({ p with ml:=wrap64 (p.ml - j8v (p.s.V x.v.toNat)),s:=z5m p.s x.v.toNat true (p.s.V x.v.toNat).dead,L:=z0P p.L c { p.L c with done:=z3s (p.L c).done x.v } },true)
structure QS where
 p:Pr
 wt:Nat->Bool
 left:List (Int×Pkt)
def z1n(z:QS)(a:Int×Pkt):QS:=
 if z.wt a.1.toNat=true then { z with left:=z.left ++ [a] }
 else if (z1y z.p a.1.toNat a.2).2=true then { z with p:=(z1y z.p a.1.toNat a.2).1 }
 else { z with wt:=fun i=>if i=a.1.toNat then true else z.wt i,left:=z.left ++ [a] }
def goQ(p:Pr):QS:=p.q.foldl z1n ⟨p,fun _=>false,[]⟩
def z0q(p:Pr):Pr:={ (goQ p).p with q:=(goQ p).left }
def z5q(p:Pr)(x:Lk):Bool:=!x.on || (decide (x.told=p.set) && !x.fresh && decide (x.done.length=0))
def z1t(p:Pr)(c:Nat):Pr:=
 if z5q p (p.L c)=true then p
 else if Cd.z0n 1 p.h 0 0 (Df.z3v (p.L c).told p.set) (p.L c).done=0 then
  if Ln.z5O (p.L c).out (p.t+40)=0 then { p with L:=z0P p.L c { p.L c with out:=Ln.z4C (p.L c).out (Cd.encS 1 p.h 0 0 (Df.z3v (p.L c).told p.set) (p.L c).done) (p.t+40),told:=p.set,fresh:=false,done:=[] } } else p
 else p
def z0y(p:Pr)(now:Int):Pr:={ p with h:=p.h+1,t:=now,ml:=if now<p.mn then p.ml else Mt.alw (Df.q6d p.set),mn:=if now<p.mn then p.mn else wrap64 (now+10) }
def z3l(p:Pr)(now:Int):Pr:={ p with s:=z5K p.s now,set:=z7C (z5K p.s now).V }
def endP(p:Pr)(now:Int):Pr×List Int×Int:=
 if z0o p=true/\isT now=true/\p.t<=now then
  (z1t (z1t (z3l (z0q (z0y p now)) now) 0) 1,z2r now (z0q (z0y p now)).s.W,0)
 else (p,[],2)
def newP:Pr:=⟨0,0,y1h,[],fun _=>⟨false,false,0,[],false,[],⟨[],[],0,false⟩,0,0,0,0⟩,1,10,[]⟩
theorem z4g(n:Int)(w:World):Calls prog 69 #[J I n] w fun e w'=>e=.returned (J3 (isT n))/\w=w':=by
 have b:isT n=(decide (0<=n) && decide (n<=1099511627776)):=rfl;generalize isT n=t at *;have a:=J6 b;clear b
 by_cases h:0<=n
 ·by_cases h2:n<=1099511627776
  ·have e:t=true:=by rw[a.out];simp[h,h2]
   subst e
   go_enter func69,ntmps69
   go_wp2;go_ret;exact⟨rfl,rfl⟩
  ·have e:t=false:=by rw[a.out];simp[h2]
   subst e
   go_enter func69,ntmps69
   go_wp2;go_ret;exact⟨rfl,rfl⟩
 ·have e:t=false:=by rw[a.out];simp[h]
  subst e
  go_enter func69,ntmps69
  go_wp2;go_ret;exact⟨rfl,rfl⟩
theorem z3h(n:Int)(w:World):Calls prog 81 #[J I n] w fun e w'=>e=.returned (J3 (isC n))/\w=w':=by
 have b:isC n=(decide (0<=n) && decide (n<2)):=rfl;generalize isC n=t at *;have a:=J6 b;clear b
 by_cases h:0<=n
 ·by_cases h2:n<2
  ·have e:t=true:=by rw[a.out];simp[h,h2]
   subst e
   go_enter func81,ntmps81
   go_wp2;go_ret;exact⟨rfl,rfl⟩
  ·have e:t=false:=by rw[a.out];simp[h2]
   subst e
   go_enter func81,ntmps81
   go_wp2;go_ret;exact⟨rfl,rfl⟩
 ·have e:t=false:=by rw[a.out];simp[h]
  subst e
  go_enter func81,ntmps81
  go_wp2;go_ret;exact⟨rfl,rfl⟩
theorem z3J(v:Int)(w:World):Calls prog 73 #[J I v] w fun e w'=>e=.returned (J3 (isV v))/\w=w':=by
 have b:isV v=decide (0<=v/\v<6):=rfl;generalize isV v=t at *;have a:=J6 b;clear b
 by_cases h:0<=v
 ·by_cases h2:v<6
  ·have e:t=true:=by rw[a.out];simp[h,h2]
   subst e
   go_enter func73,ntmps73
   go_wp2;go_ret;exact⟨rfl,rfl⟩
  ·have e:t=false:=by rw[a.out];simp[h2]
   subst e
   go_enter func73,ntmps73
   go_wp2;go_ret;exact⟨rfl,rfl⟩
 ·have e:t=false:=by rw[a.out];simp[h]
  subst e
  go_enter func73,ntmps73
  go_wp2;go_ret;exact⟨rfl,rfl⟩
theorem y2T{c:Nat}(hc:c<2):isC (c:Int)=true:=by unfold isC;simp;omega
theorem z9F{c:Int}(h:isC c=true):∃ k:Nat,c=(k:Int)/\k<2:=by
 unfold isC at h;simp only[Bool.and_eq_true,decide_eq_true_eq]at h;exact⟨c.toNat,by omega,by omega⟩
theorem j9d{c:Int}(h:isV c=true):∃ k:Nat,c=(k:Int)/\k<6:=by
 have:=z3p.1 h;exact⟨c.toNat,by omega,by omega⟩
theorem z7S(g:Nat)(p:Pr)(v:PrV)(w:World)(h:CAt 58 w g (prC p v))(h0:0<=p.h)(h1:p.h<=1099511627776):Calls prog 70 #[J2 (some ⟨g,0,none⟩)] w fun e w'=>e=.returned (J I (p.h+1))/\w=w':=by
 have c0:w.cell? ⟨g,0,none⟩=some (J I p.h):=h.cell 0;clear h
 go_enter func70,ntmps70
 go_wp2;go_ret;exact⟨rfl,rfl⟩
theorem z5Q(g:Nat)(p:Pr)(v:PrV)(c:Int)(w:World)(h:CAt 58 w g (prC p v)):Calls prog 97 #[J2 (some ⟨g,0,none⟩),J I c] w fun e w'=>e=.returned (J3 (z8G p c))/\w=w':=by
 have a:z8G p c=(isC c && (p.L c.toNat).on):=rfl;generalize z8G p c=o at *
 by_cases hc:isC c=true
 ·obtain⟨k,rfl,b⟩:=z9F hc;rw[hc,Bool.true_and,Int.toNat_natCast]at a
  have c0:w.cell? ⟨g,66+k * 14,none⟩=some (J3 (p.L k).on):=by
   have:=z4o (p:=p) (v:=v) k b 0 (by omega)
   rw[Nat.add_zero]at this;exact (h.cell _).trans this
  have k0:(0:Int)<=(k:Int):=by omega
  have d:(k:Int)<2:=by omega
  subst a;generalize (p.L k).on=o at *;clear h
  go_enter func97,ntmps97
  go_wp2_with (go_at_call 81;refine (z3h _ _).mono ?_;rintro e w'⟨rfl,rfl⟩)
  go_ret;exact⟨rfl,rfl⟩
 ·have hc:isC c=false:=by simpa using hc
  rw[hc,Bool.false_and]at a;subst a;clear h
  go_enter func97,ntmps97
  go_wp2_with (go_at_call 81;refine (z3h _ _).mono ?_;rintro e w'⟨rfl,rfl⟩)
  go_ret;exact⟨rfl,rfl⟩
theorem q0L(l:List (Int×Int))(v:Value)(P:Nat->Prop)(w:World)(h:Rep P w v 2 16 (pwC l)):Calls prog 95 #[v] w fun e w'=>e=.returned (J3 (z2W (-1) l))/\Bl w w':=by
 obtain⟨A,C,rfl,hs,-,hc,-⟩:=h.open (z0c _) (by decide)
 have E:=J6 hc;have t:l.length<=8796093022202:=by omega
 obtain⟨G,o⟩:∃ G,z2W (-1) l=G:=⟨_,rfl⟩;have u:=J6 o;rw[o];clear hc h hs o
 go_enter func95,ntmps95
 go_upto_region 3 with fail
 go_loopw [3,8] (fun F i wl=>∃ (k:Nat) (last:Int),k<=l.length/\i=J I (k:Int)/\F=J I last/\-1<=last/\Hid (G=z2W last (l.drop k)/\Bl w wl)) (fun _ i _=>l.length - (intOf i).toNat)
 case atStart=>exact⟨0,-1,Nat.zero_le _,rfl,rfl,by omega,u.out.symm,Below.refl _ _⟩
 case round =>
  obtain⟨k,last,L,rfl,rfl,H,HR⟩:=hrel
  by_cases f:k<l.length
  ·have K:(k:Int)<(l.length:Int):=by omega
   obtain⟨x,y,hd⟩:=z4V f;obtain⟨b,off,rfl,-,g,hcell⟩:=E.out (by omega)
   have z:l.getD k (0,0)=x:=by simp[List.getD,y]
   obtain⟨p0,p1⟩:=z2j l k f;rw[z]at p0 p1;have c0:wr.cell? ⟨b,off+k * 2,none⟩=some (J I x.1):=(HR.out.2.cell (p:=⟨b,off+k * 2,none⟩) g).trans (hcell _ _ p0);have c1:wr.cell? ⟨b,off+k * 2+1,none⟩=some (J I x.2):=(HR.out.2.cell (p:=⟨b,off+k * 2+1,none⟩) g).trans (hcell _ _ p1);have n:Hid (G=(z8K last x && z2W x.1 (l.drop (k+1)))):=by have:=HR.out.1;rw[hd]at this;exact this
   have q:=J6 (HR.out.2.alloc HR.out.2.size (J5 #[J I x.1,J I x.2] 65));have B:Hid (∀ last,z8K last x=(decide (last<x.1) && decide (x.1<=5) && decide (1<=x.2) && decide (x.2<=1125899906842624))):=fun _=>rfl;have c:Hid (isV x.1=decide (0<=x.1/\x.1<6)):=rfl;clear HR hd y z p0 p1 hcell;obtain⟨a,d⟩:=x;dsimp only at c0 c1 c
   by_cases h1:last<a/\a<=5/\1<=d/\d<=1125899906842624
   ·obtain⟨h1,h2,h3,D⟩:=h1;have e:G=z2W a (l.drop (k+1)):=by rw[n.out,B.out];simp[h1,h2,h3,D]
    have j:=J6 e;have m:isV a=true:=by rw[c.out];simp;omega
    clear e n
    go_wp2_with (go_at_call 73;refine (z3J _ _).mono ?_;rintro e w'⟨rfl,rfl⟩)
    first | exact⟨⟨k+1,a,by omega,by go_num,rfl,by omega,j.out,q.out⟩,by simp[intOf];omega⟩ | ((repeat apply Exists.intro);exact⟨⟨k+1,a,by omega,by go_num,rfl,by omega,j.out,q.out⟩,rfl⟩)
   ·have e:G=false:=by
     rw[n.out,B.out];simp only[Bool.and_eq_false_iff,decide_eq_false_iff_not]
     by_cases q1:last<a
     ·by_cases q2:a<=5
      ·by_cases q3:1<=d
       ·exact .inl (.inr fun r=>h1 ⟨q1,q2,q3,r⟩)
       ·exact .inl (.inl (.inr q3))
      ·exact .inl (.inl (.inl (.inr q2)))
     ·exact .inl (.inl (.inl (.inl q1)))
    subst e;clear n u
    have s:¬ last<a∨(last<a/\isV a=false)∨(last<a/\isV a=true/\¬ 1<=d)∨(last<a/\isV a=true/\1<=d/\¬ d<=1125899906842624):=by
     by_cases q1:last<a
     ·by_cases q2:a<=5
      ·have m:isV a=true:=by rw[c.out];simp;omega
       by_cases q3:1<=d
       ·exact .inr (.inr (.inr ⟨q1,m,q3,fun r=>h1 ⟨q1,q2,q3,r⟩⟩))
       ·exact .inr (.inr (.inl ⟨q1,m,q3⟩))
      ·have m:isV a=false:=by rw[c.out];simp;omega
       exact .inr (.inl ⟨q1,m⟩)
     ·exact .inl q1
    clear h1
    rcases s with h1 | ⟨h1,h2⟩ | ⟨h1,h2,h3⟩ | ⟨h1,h2,h3,D⟩
    all_goals
     go_wp2_with (go_at_call 73;refine (z3J _ _).mono ?_;rintro e w'⟨rfl,rfl⟩)
     go_ret;exact⟨rfl,q.out⟩
  ·obtain rfl:k=l.length:=by omega
   have e:G=true:=by have:=HR.out.1;rw[List.drop_length]at this;exact this
   subst e;go_wp2;go_ret;exact⟨rfl,HR.out.2⟩
theorem q6o(l:List Int)(v:Value)(P:Nat->Prop)(w:World)(h:Rep P w v 1 8 (inC l)):Calls prog 139 #[v] w fun e w'=>e=.returned (J3 (z2m (-1) l))/\w=w':=by
 obtain⟨A,C,rfl,hs,-,hc,-⟩:=h.open (z0s _) (by decide)
 have r:=J6 hc;have m:l.length<=17592186044405:=by omega
 obtain⟨G,f⟩:∃ G,z2m (-1) l=G:=⟨_,rfl⟩;have n:=J6 f;rw[f];clear hc h hs f
 go_enter func139,ntmps139
 go_upto_region 3 with fail
 go_loop [3,8] (fun s i=>∃ (k:Nat) (last:Int),k<=l.length/\i=J I (k:Int)/\s=J I last/\-1<=last/\Hid (G=z2m last (l.drop k))) (fun _ i=>l.length - (intOf i).toNat)
 case atStart=>exact⟨0,-1,Nat.zero_le _,rfl,rfl,by omega,n.out.symm⟩
 case round =>
  obtain⟨k,last,z,rfl,rfl,t,HR⟩:=hrel
  by_cases a:k<l.length
  ·have u:(k:Int)<(l.length:Int):=by omega
   obtain⟨x,o,hd⟩:=z4V a;obtain⟨b,off,rfl,-,y,hcell⟩:=r.out (by omega)
   have p:l.getD k 0=x:=by simp[List.getD,o]
   have p0:=z4F l k a;rw[p]at p0;have c0:w.cell? ⟨b,off+k,none⟩=some (J I x):=hcell _ _ p0;have d:Hid (G=((decide (last<x) && decide (x<=5)) && z2m x (l.drop (k+1)))):=by have:=HR.out;rw[hd]at this;exact this
   have c:Hid (isV x=decide (0<=x/\x<6)):=rfl;clear HR hd o p p0 hcell
   by_cases h1:last<x/\x<=5
   ·obtain⟨h1,h2⟩:=h1;have e:G=z2m x (l.drop (k+1)):=by rw[d.out];simp[h1,h2]
    have g:=J6 e;have q:isV x=true:=by rw[c.out];simp;omega
    clear e d
    go_wp2_with (go_at_call 73;refine (z3J _ _).mono ?_;rintro e w'⟨rfl,rfl⟩)
    go_round
    case rel=>exact⟨k+1,x,by omega,by go_num,rfl,by omega,g⟩
    case measure=>simp[intOf];omega
   ·have e:G=false:=by
     rw[d.out]
     have:(decide (last<x) && decide (x<=5))=false:=by
      rw[Bool.eq_false_iff];intro h;simp only[Bool.and_eq_true,decide_eq_true_eq]at h;exact h1 h
     rw[this,Bool.false_and]
    subst e;clear d n
    have j:¬ last<x∨(last<x/\isV x=false):=by
     by_cases q1:last<x
     ·have q:isV x=false:=by rw[c.out];simp;omega
      exact .inr ⟨q1,q⟩
     ·exact .inl q1
    clear h1
    rcases j with h1 | ⟨h1,h2⟩
    all_goals
     go_wp2_with (go_at_call 73;refine (z3J _ _).mono ?_;rintro e w'⟨rfl,rfl⟩)
     go_ret;exact⟨rfl,rfl⟩
  ·obtain rfl:k=l.length:=by omega
   have e:G=true:=by have:=HR.out;rw[List.drop_length]at this;exact this
   subst e;go_wp2;go_ret;exact⟨rfl,rfl⟩
end Pv
end Go.Proofs.YtddlhnoedldidaaGreat
