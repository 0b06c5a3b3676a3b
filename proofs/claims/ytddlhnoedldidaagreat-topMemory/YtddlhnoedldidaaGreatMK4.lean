/- Parts of the proof. -/
import Derived.Test.YtddlhnoedldidaaGreatML
import Derived.Test.YtddlhnoedldidaaGreatMK22
set_option maxRecDepth 100000
set_option maxHeartbeats 16000000
namespace Go.Proofs.YtddlhnoedldidaaGreat
open Go.Proofs.Tryz
open Value renaming int->J,slice->J1,pointer->J2,bool->J3,agg->J4
open IntKind renaming i64->I
open Obj renaming cells->J5
namespace Kc
open Go.RowKit Pv
theorem q0M(q:List Pkt)(v:Value)(P:Nat->Prop)(w:World)(h:z6S P w v q):Calls prog 188 #[v] w fun e w'=>e=.returned (J3 (q.all z5C))/\Bl w w':=by
 obtain⟨z,Y,Q,l⟩:=h;obtain⟨A,C,rfl,Z,-,hc,-⟩:=Q.open (z0W q z Y) (by decide)
 have HC:=J6 hc;have R:q.length<=3518437208781:=by omega
 obtain⟨G,t⟩:∃ G,q.all z5C=G:=⟨_,rfl⟩;have B:=J6 t;have E:=J6 l;rw[t];clear hc Q Z t l
 go_enter func188,ntmps188
 go_upto_region 2 with fail
 go_loopw [7] (fun i wl=>∃ (k:Nat),k<=q.length/\i=J I (k:Int)/\Hid (G=(q.drop k).all z5C/\Bl w wl)) (fun i _=>q.length - (intOf i).toNat)
 case atStart=>exact⟨0,Nat.zero_le _,rfl,B.out.symm,Below.refl _ _⟩
 case round =>
  obtain⟨k,hk,rfl,d⟩:=hrel
  by_cases F:k<q.length
  ·have a0:(k:Int)<(q.length:Int):=by omega
   obtain⟨x,H,hd⟩:=z4u F;obtain⟨b,off,rfl,-,K,hcell⟩:=HC.out (by omega)
   have m:k<z.length:=by omega
   have L:z[k]?=some z[k]:=List.getElem?_eq_getElem m;obtain⟨r1,r2⟩:=E.out k x _ H L
   have cl:∀ j,j<6->∀ u,(pkL x z[k])[j]?=some u->wr.cell? ⟨b,off+k * 6+j,none⟩=some u:=fun j hj u hu=>by
    rw[Nat.add_assoc];exact (d.out.2.cell (p:=⟨b,off+(k * 6+j),none⟩) K).trans (hcell _ _ ((z4m q z k x _ j H L hj).trans hu))
   have c0:=cl 0 (by omega) _ rfl
   have c1:=cl 1 (by omega) _ rfl
   have c2:=cl 2 (by omega) _ rfl
   have c3:=cl 3 (by omega) _ rfl
   have c4:=cl 4 (by omega) _ rfl
   have c5:=cl 5 (by omega) _ rfl
   rw[Nat.add_zero]at c0;have g:Hid (G=(z5C x && (q.drop (k+1)).all z5C)):=by have:=d.out.1;rw[hd,List.all_cons]at this;exact this
   have M:Hid (z5C x=(decide (x.k=1) && decide (Cd.z0s x.k x.i x.v x.n x.S x.D=0))):=rfl;generalize z[k]=y at *;obtain⟨y1,y2⟩:=y;dsimp only at c0 c1 c2 c3 c4 c5 r1 r2;obtain⟨T,U,V,W,sb,so,db,dO,rfl,rfl,f⟩:=Rep.lies r1 r2;have o:=J6 (d.out.2.alloc d.out.2.size (J5 #[J I x.k,J I x.i,J I x.v,J I x.n,J1 T x.S.length U,J1 V x.D.length W] 68));have r:=J6 (fun (X:World) (hb:Bl w X)=>Cd.z0o x.k x.i x.v x.n x.S x.D T V U W sb so db dO X f.hls f.hld f.hsa f.hda (f.later hb).PS (f.later hb).PD);clear d hd H L r1 r2 cl hcell f m;obtain⟨N,xi,xv,xn,xS,xD⟩:=x;dsimp only at *;generalize Cd.z0s N xi xv xn xS xD=gn at *
   by_cases h1:N=1
   ·subst h1
    by_cases h2:gn=0
    ·subst h2;have e:G=(q.drop (k+1)).all z5C:=by rw[g.out,M.out];simp
     have s:=J6 e;clear e g
     go_wp2_with (go_at_call 29;refine (r.out _ o.out).mono ?_;rintro e w2⟨rfl,a⟩;have c:=J6 (zbt o.out a);clear a)
     first | exact⟨⟨k+1,by omega,by go_num,s.out,c.out⟩,by simp[intOf];omega⟩ | ((repeat apply Exists.intro);exact⟨⟨k+1,by omega,by go_num,s.out,c.out⟩,rfl⟩)
    ·have e:G=false:=by rw[g.out,M.out];simp[h2]
     subst e;have a1:(gn != 0)=true:=by simpa using h2
     clear g B
     go_wp2_with (go_at_call 29;refine (r.out _ o.out).mono ?_;rintro e w2⟨rfl,a⟩;have c:=J6 (zbt o.out a);clear a)
     go_ret;exact⟨rfl,c.out⟩
   ·have e:G=false:=by rw[g.out,M.out];simp[h1]
    subst e;have a2:(N != 1)=true:=by simpa using h1
    clear g B;go_wp2;go_ret;exact⟨rfl,o.out⟩
  ·obtain rfl:k=q.length:=by omega
   have e:G=true:=by have:=d.out.1;rw[List.drop_length]at this;exact this
   subst e;go_wp2;go_ret;exact⟨rfl,d.out.2⟩
theorem z0G{w:World}{g:Nat}{c:Cs}{v:CsV}(h:CAt 75 w g (csC c v)):(w.cell? ⟨g,0,none⟩=some (J3 c.on)/\w.cell? ⟨g,1,none⟩=some (J3 c.gone)/\w.cell? ⟨g,2,none⟩=some (J I c.h)/\w.cell? ⟨g,3,none⟩=some (J I c.t)/\w.cell? ⟨g,4,none⟩=some (J I c.id))/\(w.cell? ⟨g,5,none⟩=some v.set/\w.cell? ⟨g,6,none⟩=some v.pd/\w.cell? ⟨g,7,none⟩=some v.rp)/\(w.cell? ⟨g,14,none⟩=some v.said/\w.cell? ⟨g,15,none⟩=some v.due/\w.cell? ⟨g,16,none⟩=some (J I c.out.g)/\w.cell? ⟨g,17,none⟩=some (J3 c.out.cl)):=
 ⟨⟨h.cell 0,h.cell 1,h.cell 2,h.cell 3,h.cell 4⟩,⟨h.cell 5,h.cell 6,h.cell 7⟩,⟨h.cell 14,h.cell 15,h.cell 16,h.cell 17⟩⟩
def q9z(c:Cs):Bool:=!(c.on && c.gone) && decide (0<=c.h) && decide (c.h<1099511627776) && isT c.t && isT c.id
theorem j1A(c:Cs):z7U c=(q9z c && (z3l (-1) c.set && c.pd.all z5C && c.rp.all z7L && Ln.z0Z c.out)):=rfl
theorem q9n(c:Cs)(v:CsV)(P:Nat->Prop)(w:World)(hp:CIn P w c v) :
  Calls prog 160 #[J4 (csC c v)] w fun e w'=>e=.returned (J3 (z7U c))/\Bl w w':=by
 have s:=J6 (j1A c);generalize z7U c=G at *;have S:Hid (q9z c=(!(c.on && c.gone) && decide (0<=c.h) && decide (c.h<1099511627776) && isT c.t && isT c.id)):=rfl;generalize q9z c=N1 at *;have C:=J6 (fun (l:World) (hb:Bl w l)=>q8Y c.out v.said v.due P l (hp.said.over hb) (hp.due.over hb));have u:=J6 (fun (l:World) (hb:Bl w l)=>q9H c.set v.set P l (hp.set.over hb));have y:=J6 (fun (l:World) (hb:Bl w l)=>q0M c.pd v.pd P l (hp.pd.over hb));have A:=J6 (fun (l:World) (hb:Bl w l)=>q4A c.rp v.rp P l (hp.rp.over hb));clear hp;obtain⟨cs,k⟩:∃ cs,csC c v=cs:=⟨_,rfl⟩;rw[k];have B:=J6 k;clear k
 go_enter func160,ntmps160
 go_upto_region 1 with fail
 have D:CAt 75 (w.alloc (J5 cs 75)) w.heap.size (csC c v):=by rw[B.out];exact CAt.new _ w cs
 have T:Bl w (w.alloc (J5 cs 75)):=znw w _;generalize w.alloc (J5 cs 75)=w1 at *;have j:=J6 (show _/\_ from⟨D,T⟩);obtain⟨⟨E,F,H,K,L⟩,⟨o,p,q⟩,⟨b,d,f,g⟩⟩:=z0G D;clear D T B;generalize z3l (-1) c.set=gs at *;generalize c.pd.all z5C=gp at *;generalize c.rp.all z7L=gr at *;generalize Ln.z0Z c.out=gl at *;generalize c.on=con at *;generalize c.gone=cgo at *;generalize c.h=ch at *;generalize c.t=ct at *;generalize c.id=cid at *;have z:=J6 (fun n (l:World)=>z7d n l)
 have k:(con=true/\cgo=true/\N1=false)∨((con=false∨(con=true/\cgo=false))/\((¬ 0<=ch/\N1=false)∨(0<=ch/\((¬ ch<1099511627776/\N1=false)∨(ch<1099511627776/\((isT ct=false/\N1=false)∨(isT ct=true/\((isT cid=false/\N1=false)∨(isT cid=true/\N1=true))))))))):=by
  rw[S.out]
  by_cases h1:con=true/\cgo=true
  ·left;obtain⟨rfl,rfl⟩:=h1;simp
  ·right
   have M:(con && cgo)=false:=by cases con <;> cases cgo <;> simp_all
   refine⟨by cases con <;> simp_all,?_⟩
   rw[M]
   by_cases h2:0<=ch
   ·refine .inr ⟨h2,?_⟩
    by_cases h3:ch<1099511627776
    ·refine .inr ⟨h3,?_⟩;cases U:isT ct
     ·left;simp
     ·right
      refine⟨rfl,?_⟩;cases Y:isT cid
      ·left;simp
      ·right;simp[h2,h3]
    ·exact .inl ⟨h3,by simp[h3]⟩
   ·exact .inl ⟨h2,by simp[h2]⟩
 clear S
 rcases k with⟨rfl,rfl,rfl⟩ | ⟨hon,k⟩
 ·have e:G=false:=by rw[s.out,Bool.false_and]
  subst e;go_wp2;go_ret;exact⟨rfl,j.out.2⟩
 rcases k with⟨h1,rfl⟩ | ⟨h1,⟨h2,rfl⟩ | ⟨h2,⟨h3,rfl⟩ | ⟨h3,⟨U,rfl⟩ | ⟨U,rfl⟩⟩⟩⟩
 ·have e:G=false:=by rw[s.out,Bool.false_and]
  subst e
  rcases hon with rfl | ⟨rfl,rfl⟩
  all_goals
   go_wp2;go_ret;exact⟨rfl,j.out.2⟩
 ·have e:G=false:=by rw[s.out,Bool.false_and]
  subst e
  rcases hon with rfl | ⟨rfl,rfl⟩
  all_goals
   go_wp2;go_ret;exact⟨rfl,j.out.2⟩
 ·have e:G=false:=by rw[s.out,Bool.false_and]
  subst e
  rcases hon with rfl | ⟨rfl,rfl⟩
  all_goals
   go_wp2_with (go_at_call 120;refine (z.out _ _).mono ?_;rintro e w'⟨rfl,rfl⟩)
   go_ret;exact⟨rfl,j.out.2⟩
 ·have e:G=false:=by rw[s.out,Bool.false_and]
  subst e
  rcases hon with rfl | ⟨rfl,rfl⟩
  all_goals
   go_wp2_with (go_at_call 120;refine (z.out _ _).mono ?_;rintro e w'⟨rfl,rfl⟩)
   go_ret;exact⟨rfl,j.out.2⟩
 ·rw[Bool.true_and]at s;have V:(con && cgo)=false:=by rcases hon with rfl | ⟨rfl,rfl⟩ <;> simp
  rcases hon with rfl | ⟨rfl,rfl⟩
  all_goals
   go_upto_region 3 with (go_at_call 120;refine (z.out _ _).mono ?_;rintro e w'⟨rfl,rfl⟩)
   cases gs
   ·go_wp2_with (go_at_call 187;refine (u.out _ j.out.2).mono ?_;rintro e N⟨rfl,a⟩)
    go_ret;exact⟨by rw[s.out];rfl,zbt j.out.2 a⟩
   ·cases gp
    ·go_wp2_with (first
      | (go_at_call 187;refine (u.out _ j.out.2).mono ?_;rintro e N⟨rfl,a⟩;have m:=J6 (show _/\_ from⟨j.out.1.over a,zbt j.out.2 a⟩);clear E F H K L o p q b d f g a;obtain⟨-,⟨o,p,q⟩,⟨b,d,f,g⟩⟩:=z0G m.out.1)
      | (go_at_call 188;refine (y.out _ m.out.2).mono ?_;rintro e W⟨rfl,i⟩))
     go_ret;exact⟨by rw[s.out];rfl,zbt m.out.2 i⟩
    ·cases gr
     ·go_wp2_with (first
       | (go_at_call 187;refine (u.out _ j.out.2).mono ?_;rintro e N⟨rfl,a⟩;have m:=J6 (show _/\_ from⟨j.out.1.over a,zbt j.out.2 a⟩);clear E F H K L o p q b d f g a;obtain⟨-,⟨o,p,q⟩,⟨b,d,f,g⟩⟩:=z0G m.out.1)
       | (go_at_call 188;refine (y.out _ m.out.2).mono ?_;rintro e W⟨rfl,i⟩;have x:=J6 (show _/\_ from⟨m.out.1.over i,zbt m.out.2 i⟩);clear o p q b d f g i;obtain⟨-,⟨o,p,q⟩,⟨b,d,f,g⟩⟩:=z0G x.out.1)
       | (go_at_call 189;refine (A.out _ x.out.2).mono ?_;rintro e X⟨rfl,r⟩))
      go_ret;exact⟨by rw[s.out];rfl,zbt x.out.2 r⟩
     ·go_wp2_with (first
       | (go_at_call 187;refine (u.out _ j.out.2).mono ?_;rintro e N⟨rfl,a⟩;have m:=J6 (show _/\_ from⟨j.out.1.over a,zbt j.out.2 a⟩);clear E F H K L o p q b d f g a;obtain⟨-,⟨o,p,q⟩,⟨b,d,f,g⟩⟩:=z0G m.out.1)
       | (go_at_call 188;refine (y.out _ m.out.2).mono ?_;rintro e W⟨rfl,i⟩;have x:=J6 (show _/\_ from⟨m.out.1.over i,zbt m.out.2 i⟩);clear o p q b d f g i;obtain⟨-,⟨o,p,q⟩,⟨b,d,f,g⟩⟩:=z0G x.out.1)
       | (go_at_call 189;refine (A.out _ x.out.2).mono ?_;rintro e X⟨rfl,r⟩;have Q:=J6 (show _/\_ from⟨x.out.1.over r,zbt x.out.2 r⟩);clear o p q b d f g r;obtain⟨-,⟨o,p,q⟩,⟨b,d,f,g⟩⟩:=z0G Q.out.1)
       | (go_at_call 140;refine (C.out _ Q.out.2).mono ?_;rintro e w5⟨rfl,R⟩))
      go_ret;exact⟨by rw[s.out];rfl,zbt Q.out.2 R⟩
attribute [local go_sem ↓] z1r
theorem z4i(g:Nat)(c:Cs)(v:CsV)(P:Nat->Prop)(w:World)(h:CAt 75 w g (csC c v))(hp:CIn P w c v) :
  Calls prog 119 #[J2 (some ⟨g,0,none⟩)] w fun e w'=>e=.returned (J I (z5t c))/\Bl w w':=by
 have f:Hid (z5t c=if z7U c=true then (if c.on=true then 0 else 4) else 2):=rfl;generalize z5t c=R at *;have d:=J6 (q9n c v P w hp);have j:=J6 h;have k:=z2p h (z0i _ _);clear h hp;generalize z7U c=G at *;cases G
 ·have e:R=2:=by rw[f.out];simp
  subst e
  go_enter func119,ntmps119
  go_wp2_with (go_at_call 160;refine d.out.mono ?_;rintro e w1⟨rfl,a⟩)
  go_ret;exact⟨rfl,a⟩
 ·cases b:c.on
  ·have e:R=4:=by rw[f.out,b];simp
   subst e
   go_enter func119,ntmps119
   go_wp2_with (go_at_call 160;refine d.out.mono ?_;rintro e w1⟨rfl,a⟩;clear k;have i:=(z0G (j.out.over a)).1.1;rw[b]at i)
   go_ret;exact⟨rfl,a⟩
  ·have e:R=0:=by rw[f.out,b];simp
   subst e
   go_enter func119,ntmps119
   go_wp2_with (go_at_call 160;refine d.out.mono ?_;rintro e w1⟨rfl,a⟩;clear k;have i:=(z0G (j.out.over a)).1.1;rw[b]at i)
   go_ret;exact⟨rfl,a⟩
theorem z4J(g:Nat)(c:Cs)(v:CsV)(now:Int)(P:Nat->Prop)(w:World)(h:CAt 75 w g (csC c v))(hp:CIn P w c v) :
  Calls prog 130 #[J2 (some ⟨g,0,none⟩),J I now] w fun e w'=>e=.returned (J I (if isT now=true then z5t c else 2))/\Bl w w':=by
 have b:=J6 (z4i g c v P w h hp);generalize z5t c=R at *;have a:=J6 (z7d now w);clear h hp;generalize isT now=T at *;cases T
 ·rw[if_neg (by simp)]
  go_enter func130,ntmps130
  go_wp2_with (go_at_call 120;refine a.out.mono ?_;rintro e w'⟨rfl,rfl⟩)
  go_ret;exact⟨rfl,Below.refl _ _⟩
 ·rw[if_pos rfl]
  go_enter func130,ntmps130
  go_wp2_with (first
   | (go_at_call 120;refine a.out.mono ?_;rintro e w'⟨rfl,rfl⟩)
   | (go_at_call 119;refine b.out.mono ?_;rintro e w1⟨rfl,d⟩))
  go_ret;exact⟨rfl,d⟩
end Kc
end Go.Proofs.YtddlhnoedldidaaGreat
