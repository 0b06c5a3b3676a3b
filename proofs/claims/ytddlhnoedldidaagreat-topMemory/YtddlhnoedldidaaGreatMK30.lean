/- Parts of the proof. -/
import Derived.Test.YtddlhnoedldidaaGreatML
import Derived.Test.YtddlhnoedldidaaGreatMK0
import Derived.Test.YtddlhnoedldidaaGreatMK44
set_option maxRecDepth 100000
set_option maxHeartbeats 16000000
namespace Go.Proofs.YtddlhnoedldidaaGreat
open Go.Proofs.Tryz
open Value renaming int->J,slice->J1,pointer->J2,bool->J3,agg->J4
open IntKind renaming i64->I
open Obj renaming cells->J5
namespace Ln
open Go.RowKit
theorem q7D(x:Line)(k:Int)(s:ByteArray)(said now:Int) :
  (z4a x≠0/\(z7b x k s said now,z4p x k s said now)=(x,z4a x))∨(z4a x=0/\((k≠x.g+1/\(z7b x k s said now,z4p x k s said now)=(x,10)) ∨
  (k=x.g+1/\((said<k/\(z7b x k s said now,z4p x k s said now)=(x,9))∨(k<=said/\(((x.S.length:Int)<k/\(z7b x k s said now,z4p x k s said now)=(x,9))∨(k<=x.S.length /\
   ((x.S.getD (k - 1).toNat ByteArray.empty≠s/\(z7b x k s said now,z4p x k s said now)=(x,9))∨(x.S.getD (k - 1).toNat ByteArray.empty=s /\
    ((x.D.getD (k - 1).toNat 0<=now/\(z7b x k s said now,z4p x k s said now)=(x,12))∨(now<x.D.getD (k - 1).toNat 0/\(z7b x k s said now,z4p x k s said now)=(⟨x.S,x.D,k,x.cl⟩,0)))))))))))):=by
 have no:∀ e,z4p x k s said now=e->e≠0->(z7b x k s said now,z4p x k s said now)=(x,e):=fun e h h0=>by unfold z7b;rw[h,if_neg h0]
 by_cases h1:z4a x=0
 ·right
  have a:¬ z4a x≠0:=fun h=>h h1;refine⟨h1,?_⟩
  by_cases h2:k=x.g+1
  ·right
   have g2:¬ k≠x.g+1:=fun h=>h h2;refine⟨h2,?_⟩
   by_cases h3:said<k
   ·left;exact⟨h3,no 9 (by rw[z4p,if_neg a,if_neg g2,if_pos (.inl h3)]) (by decide)⟩
   ·right
    refine⟨by omega,?_⟩
    by_cases c:(x.S.length:Int)<k
    ·left;exact⟨c,no 9 (by rw[z4p,if_neg a,if_neg g2,if_pos (.inr (.inl c))]) (by decide)⟩
    ·right
     refine⟨by omega,?_⟩
     by_cases b:x.S.getD (k - 1).toNat ByteArray.empty=s
     ·right
      refine⟨b,?_⟩
      have f:¬ (said<k∨(x.S.length:Int)<k∨x.S.getD (k - 1).toNat ByteArray.empty≠s):=by
       rintro (h | h | h)
       ·exact h3 h
       ·exact c h
       ·exact h b
      by_cases d:x.D.getD (k - 1).toNat 0<=now
      ·left;exact⟨d,no 12 (by rw[z4p,if_neg a,if_neg g2,if_neg f,if_pos d]) (by decide)⟩
      ·right
       have e:z4p x k s said now=0:=by rw[z4p,if_neg a,if_neg g2,if_neg f,if_neg d]
       exact⟨by omega,by unfold z7b;rw[e,if_pos rfl]⟩
     ·left;exact⟨b,no 9 (by rw[z4p,if_neg a,if_neg g2,if_pos (.inr (.inr b))]) (by decide)⟩
  ·left;exact⟨h2,no 10 (by rw[z4p,if_neg a,if_pos h2]) (by decide)⟩
 ·left;exact⟨h1,no _ (by rw[z4p,if_pos h1]) h1⟩
theorem j5r(x:Line)(sa da:Option Addr)(cs cd sb so db dO:Nat)(k:Int)(s:ByteArray)(said now:Int)(w:World)(L:LAt w x sa da cs cd sb so db dO) :
  Calls prog 87 #[J4 #[J1 sa x.S.length cs,J1 da x.D.length cd,J I x.g,J3 x.cl],J I k,.string s,J I said,J I now] w fun e w'=>Ans sb db x w (z7b x k s said now,z4p x k s said now) e w':=by
 have d:=q7D x k s said now;generalize (z7b x k s said now,z4p x k s said now)=r at *;have A:=J6 (begun L);have u:=J6 (fun w (L:LAt w x sa da cs cd sb so db dO)=>q1C x sa da cs cd sb so db dO w L);have f:=J6 (fun w=>q9e x sa da cs cd k w);have Q:=J6 (fun h=>z6W (z7q (x:=x) h).1);clear L
 go_enter func87,ntmps87
 go_upto_region 1 with fail
 generalize ((w.alloc (J5 #[J1 sa x.S.length cs,J1 da x.D.length cd,J I x.g,J3 x.cl] 48)).alloc (J5 #[J1 none 0 0,J1 none 0 0,J I 0,J3 false] 48))=w0 at *;obtain⟨⟨c0,c1,c2,c3⟩,-⟩:=A.out.F1.facts;obtain⟨⟨l,m,n,q⟩,⟨f0,f1,f2,f3⟩⟩:=A.out.F2.facts;generalize z4a x=R at *
 rcases d with⟨h1,hr⟩ | ⟨rfl,d⟩
 ·have i:=J6 hr;have a0:(R != 0)=true:=by simpa using h1
  clear hr h1
  go_wp2_with (go_at_call 124;refine (u.out _ A.out.L).mono ?_;rintro e w1⟨rfl,hb⟩;have b:=J6 (A.out.over hb);clear hb c0 c1 c2 c3 l m n q f0 f1 f2 f3;obtain⟨⟨c0,c1,c2,c3⟩,-⟩:=b.out.F1.facts;obtain⟨⟨l,m,n,q⟩,⟨f0,f1,f2,f3⟩⟩:=b.out.F2.facts)
  exact b.out.z0D rfl _ _ i.out _ rfl rfl rfl
 obtain⟨G,a1,a2,a3⟩:=Q.out rfl;have T:=J6 G;clear G
 go_upto_region 4 with (go_at_call 124;refine (u.out _ A.out.L).mono ?_;rintro e w1⟨rfl,hb⟩;have b:=J6 (A.out.over hb);clear hb c0 c1 c2 c3 l m n q f0 f1 f2 f3;obtain⟨⟨c0,c1,c2,c3⟩,⟨B,C,E,F⟩⟩:=b.out.F1.facts;obtain⟨⟨l,m,n,q⟩,⟨f0,f1,f2,f3⟩⟩:=b.out.F2.facts)
 clear A u w0
 rcases d with⟨h2,hr⟩ | ⟨h2,d⟩
 ·have i:=J6 hr;have H:(k != x.g+1)=true:=by simpa using h2
  clear hr h2;go_wp2;exact b.out.z0D rfl _ _ i.out _ rfl rfl rfl
 have H:(k != x.g+1)=false:=by simpa using h2
 have hk0:1<=k:=by omega
 have HK:=J6 h2;clear h2
 go_upto_region 6 with fail
 clear H
 rcases d with⟨h3,hr⟩ | ⟨h3,d⟩
 ·have i:=J6 hr;clear hr
  go_wp2_with (go_at_call 125;exfalso;omega)
  exact b.out.z0D rfl _ _ i.out _ rfl rfl rfl
 rcases d with⟨h4,hr⟩ | ⟨h4,d⟩
 ·have i:=J6 hr;have hd:(decide (1<=k) && decide (k<=(x.S.length:Int)))=false:=by simp;omega
  rw[hd]at f;clear hr hd
  go_wp2_with (go_at_call 125;refine (f.out _).mono ?_;rintro e K⟨rfl,hb⟩;have a:=J6 (b.out.over hb);clear hb c0 c1 c2 c3 B C E F l m n q f0 f1 f2 f3;obtain⟨⟨c0,c1,c2,c3⟩,-⟩:=a.out.F1.facts;obtain⟨⟨l,m,n,q⟩,⟨f0,f1,f2,f3⟩⟩:=a.out.F2.facts)
  exact a.out.z0D rfl _ _ i.out _ rfl rfl rfl
 have hd:(decide (1<=k) && decide (k<=(x.S.length:Int)))=true:=by simp;omega
 rw[hd]at f;clear hd;obtain⟨j,hj⟩:∃ j:Nat,k - 1=(j:Int):=⟨(k - 1).toNat,by omega⟩
 have z:j<x.S.length:=by omega
 have M:j<x.D.length:=by rw[T.out];exact z
 have a4:(j:Int)<(x.S.length:Int):=by omega
 have a5:(j:Int)<(x.D.length:Int):=by omega
 rw[hj,Int.toNat_natCast]at d;obtain rfl:k=(j:Int)+1:=by omega
 have U:=b.out.L.hsa (by omega)
 have V:=b.out.L.hda (by omega)
 subst U V;obtain⟨t,W⟩:∃ t,x.S.getD j ByteArray.empty=t:=⟨_,rfl⟩;obtain⟨y,X⟩:∃ y,x.D.getD j 0=y:=⟨_,rfl⟩;rw[W,X]at d;have Y:=J6 W;have Z:=J6 X;clear W X
 rcases d with⟨h5,hr⟩ | ⟨rfl,d⟩
 ·have i:=J6 hr;have a6:=j6m h5;clear hr h5
  go_wp2_with (go_at_call 125;refine (f.out _).mono ?_;rintro e K⟨rfl,hb⟩;have a:=J6 (b.out.over hb);clear hb c0 c1 c2 c3 B C E F l m n q f0 f1 f2 f3;obtain⟨⟨c0,c1,c2,c3⟩,-⟩:=a.out.F1.facts;obtain⟨⟨l,m,n,q⟩,⟨f0,f1,f2,f3⟩⟩:=a.out.F2.facts;have ct:=a.out.L.PS j z;rw[Y.out]at ct)
  exact a.out.z0D rfl _ _ i.out _ rfl rfl rfl
 rcases d with⟨h6,hr⟩ | ⟨h6,hr⟩
 ·have i:=J6 hr;clear hr
  go_wp2_with (go_at_call 125;refine (f.out _).mono ?_;rintro e K⟨rfl,hb⟩;have a:=J6 (b.out.over hb);clear hb c0 c1 c2 c3 B C E F l m n q f0 f1 f2 f3;obtain⟨⟨c0,c1,c2,c3⟩,-⟩:=a.out.F1.facts;obtain⟨⟨l,m,n,q⟩,⟨f0,f1,f2,f3⟩⟩:=a.out.F2.facts;have ct:=a.out.L.PS j z;rw[Y.out]at ct;have P:=a.out.L.PD j M;rw[Z.out]at P)
  exact a.out.z0D rfl _ _ i.out _ rfl rfl rfl
 ·have i:=J6 hr;clear hr
  go_upto_region 11 with (go_at_call 125;refine (f.out _).mono ?_;rintro e K⟨rfl,hb⟩;have a:=J6 (b.out.over hb);clear hb c0 c1 c2 c3 B C E F l m n q f0 f1 f2 f3;obtain⟨⟨c0,c1,c2,c3⟩,⟨B,C,E,F⟩⟩:=a.out.F1.facts;have ct:=a.out.L.PS j z;rw[Y.out]at ct;have P:=a.out.L.PD j M;rw[Z.out]at P)
  have F1:=a.out.F1.q8y (J I ((j:Int)+1));have F2:=a.out.F2.other (c:=w.heap.size) (o:=2) (by omega) (J I ((j:Int)+1))
  have BW:=a.out.below.setCell (p:=⟨w.heap.size,2,none⟩) (Nat.le_refl _) (J I ((j:Int)+1));have LL:=a.out.L.z4k ((Below.refl w.heap.size K).setCell (p:=⟨w.heap.size,2,none⟩) (Nat.le_refl _) (J I ((j:Int)+1))) a.out.ltS a.out.ltD;clear c0 c1 c2 c3 B C E F ct P;generalize (K.setCell ⟨w.heap.size,2,none⟩ (J I ((j:Int)+1)))=w3 at *;obtain⟨⟨c0,c1,c2,c3⟩,-⟩:=F1.facts;obtain⟨⟨l,m,n,q⟩,⟨f0,f1,f2,f3⟩⟩:=F2.facts;have v:=J6 (show _/\_/\_ from⟨F2,BW,LL⟩);have N:=J6 (And.intro a.out.ltS a.out.ltD);clear F1 F2 BW LL;go_wp2;exact z6L rfl v.out.1 v.out.2.1 (Nat.le_succ _) ⟨x.S,x.D,(j:Int)+1,x.cl⟩ _ _ _ _ _ _ _ _ ⟨v.out.2.2.hls,v.out.2.2.hld,v.out.2.2.hsa,v.out.2.2.hda,v.out.2.2.ncs,v.out.2.2.ncd,v.out.2.2.PS,v.out.2.2.PD⟩ (fun h=>by have:=N.out.1 h;omega) (fun h=>by have:=N.out.2 h;omega) (fun _=>.inl ⟨rfl,rfl⟩) (fun _=>.inl ⟨rfl,rfl⟩) _ _ rfl rfl _ _ i.out _ rfl rfl rfl
theorem q9g(x:Line)(k time got:Int) :
  (z4a x≠0/\(z9O x k time got,z5k x k time got)=(x,z4a x))∨(z4a x=0/\(((k<1∨(x.S.length:Int)<k)/\(z9O x k time got,z5k x k time got)=(x,4)) ∨
  (1<=k/\k<=x.S.length/\((k<=got/\(z9O x k time got,z5k x k time got)=(x,5))∨(got<k/\((time<x.D.getD (k - 1).toNat 0/\(z9O x k time got,z5k x k time got)=(x,13)) ∨
   (x.D.getD (k - 1).toNat 0<=time/\(z9O x k time got,z5k x k time got)=(⟨x.S,x.D,x.g,true⟩,0)))))))):=by
 have no:∀ e,z5k x k time got=e->e≠0->(z9O x k time got,z5k x k time got)=(x,e):=fun e h h0=>by unfold z9O;rw[h,if_neg h0]
 by_cases h1:z4a x=0
 ·right
  have a:¬ z4a x≠0:=fun h=>h h1;refine⟨h1,?_⟩
  by_cases h2:k<1∨(x.S.length:Int)<k
  ·left;exact⟨h2,no 4 (by rw[z5k,if_neg a,if_pos h2]) (by decide)⟩
  ·right
   refine⟨by omega,by omega,?_⟩
   by_cases h3:k<=got
   ·left;exact⟨h3,no 5 (by rw[z5k,if_neg a,if_neg h2,if_pos h3]) (by decide)⟩
   ·right
    refine⟨by omega,?_⟩
    by_cases b:time<x.D.getD (k - 1).toNat 0
    ·left;exact⟨b,no 13 (by rw[z5k,if_neg a,if_neg h2,if_neg h3,if_pos b]) (by decide)⟩
    ·right
     have e:z5k x k time got=0:=by rw[z5k,if_neg a,if_neg h2,if_neg h3,if_neg b]
     exact⟨by omega,by unfold z9O;rw[e,if_pos rfl]⟩
 ·left;exact⟨h1,no _ (by rw[z5k,if_pos h1]) h1⟩
theorem j5h(x:Line)(sa da:Option Addr)(cs cd sb so db dO:Nat)(k time got:Int)(w:World)(L:LAt w x sa da cs cd sb so db dO) :
  Calls prog 89 #[J4 #[J1 sa x.S.length cs,J1 da x.D.length cd,J I x.g,J3 x.cl],J I k,J I time,J I got] w fun e w'=>Ans sb db x w (z9O x k time got,z5k x k time got) e w':=by
 have b:=q9g x k time got;generalize (z9O x k time got,z5k x k time got)=r at *;have n:=J6 (begun L);have i:=J6 (fun w (L:LAt w x sa da cs cd sb so db dO)=>q1C x sa da cs cd sb so db dO w L);have f:=J6 (fun w=>q9e x sa da cs cd k w);have A:=J6 (fun h=>z6W (z7q (x:=x) h).1);clear L
 go_enter func89,ntmps89
 go_upto_region 1 with fail
 generalize ((w.alloc (J5 #[J1 sa x.S.length cs,J1 da x.D.length cd,J I x.g,J3 x.cl] 48)).alloc (J5 #[J1 none 0 0,J1 none 0 0,J I 0,J3 false] 48))=w0 at *;obtain⟨⟨c0,c1,c2,c3⟩,-⟩:=n.out.F1.facts;obtain⟨⟨q,s,t,u⟩,⟨f0,f1,f2,f3⟩⟩:=n.out.F2.facts;generalize z4a x=R at *
 rcases b with⟨h1,hr⟩ | ⟨rfl,b⟩
 ·have m:=J6 hr;have P:(R != 0)=true:=by simpa using h1
  clear hr h1
  go_wp2_with (go_at_call 124;refine (i.out _ n.out.L).mono ?_;rintro e w1⟨rfl,hb⟩;have d:=J6 (n.out.over hb);clear hb c0 c1 c2 c3 q s t u f0 f1 f2 f3;obtain⟨⟨c0,c1,c2,c3⟩,-⟩:=d.out.F1.facts;obtain⟨⟨q,s,t,u⟩,⟨f0,f1,f2,f3⟩⟩:=d.out.F2.facts)
  exact d.out.z0D rfl _ _ m.out _ rfl rfl rfl
 obtain⟨v,Q,-,-⟩:=A.out rfl;have B:=J6 v;clear v
 go_upto_region 4 with (go_at_call 124;refine (i.out _ n.out.L).mono ?_;rintro e w1⟨rfl,hb⟩;have d:=J6 (n.out.over hb);clear hb c0 c1 c2 c3 q s t u f0 f1 f2 f3;obtain⟨⟨c0,c1,c2,c3⟩,-⟩:=d.out.F1.facts)
 clear n i w0
 rcases b with⟨h2,hr⟩ | ⟨h2,h2',b⟩
 ·have m:=J6 hr;have hd:(decide (1<=k) && decide (k<=(x.S.length:Int)))=false:=by simp;omega
  rw[hd]at f;clear hr hd h2
  go_wp2_with (go_at_call 125;refine (f.out _).mono ?_;rintro e C⟨rfl,hb⟩;have a:=J6 (d.out.over hb);clear hb c0 c1 c2 c3;obtain⟨⟨c0,c1,c2,c3⟩,-⟩:=a.out.F1.facts;obtain⟨⟨q,s,t,u⟩,⟨f0,f1,f2,f3⟩⟩:=a.out.F2.facts)
  exact a.out.z0D rfl _ _ m.out _ rfl rfl rfl
 have hd:(decide (1<=k) && decide (k<=(x.S.length:Int)))=true:=by simp;omega
 rw[hd]at f;clear hd;obtain⟨j,T⟩:∃ j:Nat,k - 1=(j:Int):=⟨(k - 1).toNat,by omega⟩
 have E:j<x.S.length:=by omega
 have F:j<x.D.length:=by rw[B.out];exact E
 have U:(j:Int)<(x.D.length:Int):=by omega
 rw[T,Int.toNat_natCast]at b;obtain rfl:k=(j:Int)+1:=by omega
 have G:=d.out.L.hda (by omega)
 subst G;obtain⟨y,H⟩:∃ y,x.D.getD j 0=y:=⟨_,rfl⟩;rw[H]at b;have V:=J6 H;clear H
 go_upto_region 6 with (go_at_call 125;refine (f.out _).mono ?_;rintro e C⟨rfl,hb⟩;have a:=J6 (d.out.over hb);clear hb c0 c1 c2 c3;obtain⟨⟨c0,c1,c2,c3⟩,⟨W,X,Y,Z⟩⟩:=a.out.F1.facts;obtain⟨⟨q,s,t,u⟩,⟨f0,f1,f2,f3⟩⟩:=a.out.F2.facts;have K:=a.out.L.PD j F;rw[V.out]at K)
 rcases b with⟨h3,hr⟩ | ⟨h3,b⟩
 ·have m:=J6 hr;clear hr;go_wp2;exact a.out.z0D rfl _ _ m.out _ rfl rfl rfl
 rcases b with⟨h4,hr⟩ | ⟨h4,hr⟩
 ·have m:=J6 hr;clear hr;go_wp2;exact a.out.z0D rfl _ _ m.out _ rfl rfl rfl
 ·have m:=J6 hr;clear hr
  go_upto_region 11 with fail
  have F1:=a.out.F1.q9i (J3 true);have F2:=a.out.F2.other (c:=w.heap.size) (o:=3) (by omega) (J3 true)
  have M:=a.out.below.setCell (p:=⟨w.heap.size,3,none⟩) (Nat.le_refl _) (J3 true);have N:=a.out.L.z4k ((Below.refl w.heap.size C).setCell (p:=⟨w.heap.size,3,none⟩) (Nat.le_refl _) (J3 true)) a.out.ltS a.out.ltD;clear c0 c1 c2 c3 W X Y Z q s t u f0 f1 f2 f3 K;generalize (C.setCell ⟨w.heap.size,3,none⟩ (J3 true))=w3 at *;obtain⟨⟨c0,c1,c2,c3⟩,-⟩:=F1.facts;obtain⟨⟨q,s,t,u⟩,⟨f0,f1,f2,f3⟩⟩:=F2.facts;have l:=J6 (show _/\_/\_ from⟨F2,M,N⟩);have z:=J6 (And.intro a.out.ltS a.out.ltD);clear F1 F2 M N;go_wp2;exact z6L rfl l.out.1 l.out.2.1 (Nat.le_succ _) ⟨x.S,x.D,x.g,true⟩ _ _ _ _ _ _ _ _ ⟨l.out.2.2.hls,l.out.2.2.hld,l.out.2.2.hsa,l.out.2.2.hda,l.out.2.2.ncs,l.out.2.2.ncd,l.out.2.2.PS,l.out.2.2.PD⟩ (fun h=>by have:=z.out.1 h;omega) (fun h=>by have:=z.out.2 h;omega) (fun _=>.inl ⟨rfl,rfl⟩) (fun _=>.inl ⟨rfl,rfl⟩) _ _ rfl rfl _ _ m.out _ rfl rfl rfl
end Ln
section
open Go.RowKit
theorem q1o{S:Nat->Nat->Int}{v:Nat}:∀ j,z3f S v j=true->0<=psh S v j/\psh S v j<=1125899906842624 * (j:Int)
 | 0,_=>by simp[psh]
 | j+1,h=>by
  simp only[z3f,Bool.and_eq_true,z0A]at h;have h1:=q1o j h.1;have h2:=h.2;simp only[psh];omega
theorem q5i{S:Nat->Nat->Int}{v j:Nat}{x:Int}(b:j<4)(a:inA (S j v)=false):q4S S v x=false:=by
 unfold q4S
 rcases (show j=0∨j=1∨j=2∨j=3 by omega) with rfl | rfl | rfl | rfl <;> simp[z3f,a]
theorem j0s{S:Nat->Nat->Int}{v:Nat}{x:Int}(h:z3f S v 4=true):q4S S v x=decide (psh S v 4=x):=by
 unfold q4S;rw[h,Bool.true_and]
theorem z8j(s:St)(sl:Value)(b v:Nat)(l:v<6)(w:World)(h:SAt w b (stC s sl)) :
  Calls prog 137 #[J2 (some ⟨b,0,none⟩),J I (v:Int)] w fun e w'=>e=.returned (J3 (q4S s.S v (s.V v).sh))/\w=w':=by
 have n:Hid (SAt w b (stC s sl)):=h;have o:(v:Int)<6:=by omega
 obtain⟨_,p,_⟩:=h.val v l;clear h
 go_enter func137,ntmps137
 go_wp2
 go_loop [5,8] (fun q i=>∃ (j:Nat),j<=4/\i=J I (j:Int)/\q=J I (psh s.S v j)/\Hid (z3f s.S v j=true)) (fun _ i=>(4 - intOf i).toNat)
 case atStart=>exact⟨0,by omega,rfl,rfl,rfl⟩
 case round =>
  obtain⟨j,u,rfl,rfl,f⟩:=hrel
  by_cases c:j<4
  ·have m:(j:Int)<4:=by omega
   have hc:=n.out.shr j v c l;have i1:=z4Z (s.S j v);have r:=q1o j f.out
   by_cases a:inA (s.S j v)=true
   ·rw[a]at i1;have g:Hid (z3f s.S v (j+1)=true):=by show (z3f s.S v j && inA (s.S j v))=true;rw[f.out,a];rfl
    rw[z0A]at a;have d:psh s.S v (j+1)=psh s.S v j+s.S j v:=rfl;have t:Hid (psh s.S v (j+1)=psh s.S v j+s.S j v):=d;clear d
    go_wp2_with (go_at_call 142;refine (i1 _).mono ?_;rintro e w5⟨rfl,rfl⟩)
    go_round
    case rel=>exact⟨j+1,by omega,by go_num,by rw[t.out],g.out⟩
    case measure=>simp[intOf];omega
   ·simp only[Bool.not_eq_true]at a;rw[a]at i1;have k:Hid (q4S s.S v (s.V v).sh=false):=q5i c a;clear a
    go_wp2_with (go_at_call 142;refine (i1 _).mono ?_;rintro e w5⟨rfl,rfl⟩)
    go_ret;exact⟨by rw[k.out];rfl,rfl⟩
  ·obtain rfl:j=4:=by omega
   have k:Hid (q4S s.S v (s.V v).sh=decide (psh s.S v 4=(s.V v).sh)):=j0s f.out;go_wp2;go_ret;exact⟨by rw[k.out];congr 1,rfl⟩
theorem z8t{V:Nat->Vd}:∀ k,(∀ i,i<k->inA (V i).tok=true)->0<=z8f V k/\z8f V k<=1125899906842624 * (k:Int)
 | 0,_=>by simp[z8f]
 | k+1,h=>by
  have h1:=z8t k (fun i a=>h i (by omega))
  have h2:=z0A.1 (h k (by omega))
  simp only[z8f]at *;omega
theorem z7t{V:Nat->Vd}:∀ k,(∀ i,i<k->inA (V i).lost=true)->0<=z3s V k/\z3s V k<=1125899906842624 * (k:Int)
 | 0,_=>by simp[z3s]
 | k+1,h=>by
  have h1:=z7t k (fun i a=>h i (by omega))
  have h2:=z0A.1 (h k (by omega))
  simp only[z3s]at *;omega
theorem q8W{W:List Wt}{k:Nat}{x:Wt}(h:W[k]?=some x):z2t (W.take (k+1))=z2t (W.take k)+x.amt:=by
 have a:=(List.getElem?_eq_some_iff.1 h).1;rw[List.take_succ_eq_append_getElem a];have e:W[k]=x:=by simpa [List.getElem?_eq_getElem a] using h
 rw[e];generalize W.take k=l
 induction l with
 | nil=>simp[z2t]
 | cons y r ih=>simp only[List.cons_append,z2t,ih];omega
theorem z8N:∀ {l:List Wt},(∀ x∈l,inA x.amt=true)->0<=z2t l/\z2t l<=1125899906842624 * (l.length:Int)
 | [],_=>by simp[z2t]
 | x :: r,h=>by
  have h1:=z8N (l:=r) (fun y a=>h y (List.mem_cons_of_mem _ a));have h2:=z0A.1 (h x List.mem_cons_self);simp only[z2t,List.length_cons];omega
theorem z8h(s:St)(ao:Option Addr)(sb so c b:Nat)(w:World)(h:SAt w b (stC s (J1 ao s.W.length c)))(H:z2k w ao sb so s.W)(hl:s.W.length<=60)
  (K:∀ i,i<6->inA (s.V i).tok=true/\inA (s.V i).lost=true) (L:∀ x∈s.W,inA x.amt=true) :
  Calls prog 138 #[J2 (some ⟨b,0,none⟩)] w fun e w'=>e=.returned (J3 (bal s))/\Bl w w':=by
 have M:Hid (SAt w b (stC s (J1 ao s.W.length c))):=h;have q:Hid (∀ i,i<6->inA (s.V i).tok=true/\inA (s.V i).lost=true):=K;have N:Hid (∀ x∈s.W,inA x.amt=true):=L;have t:Hid (z2k w ao sb so s.W):=H;have j:=j4s h;have m:b<w.heap.size:=h.lt;clear K L h H
 go_enter func138,ntmps138
 go_upto_region 2 with fail
 apply wp_region_lit
 iterate 9 go_step
 refine wpList_load_mid rfl 38 _ rfl b 7 rfl _ _ j underlying38 rfl (by rw[j2A];rfl) ?_
 clear j
 go_wp2_with fail
 go_loopw [3,4,14] (fun T U i wl=>∃ k:Nat,k<=6/\i=.int .i64 (k:Int)/\T=.int .i64 (z8f s.V k)/\U=.int .i64 (z3s s.V k)/\Hid (Bl w wl)) (fun _ _ i _=>(6 - intOf i).toNat)
 case atStart=>exact⟨0,by omega,rfl,rfl,rfl,Below.refl _ _⟩
 case round =>
  obtain⟨k,P,rfl,rfl,rfl,n⟩:=hrel;have o:w.heap.size<=wr.heap.size:=n.out.size
  by_cases f:k<6
  ·have X:=fun w=>ixV w s.V k f;have b1:=z8t (V:=s.V) k (fun i Y=>(q.out i (by omega)).1)
   have b2:=z7t (V:=s.V) k (fun i Y=>(q.out i (by omega)).2)
   have b3:=z0A.1 (q.out k f).1;have b4:=z0A.1 (q.out k f).2;have u:Hid (z8f s.V (k+1)=z8f s.V k+(s.V k).tok):=rfl;have Z:Hid (z3s s.V (k+1)=z3s s.V k+(s.V k).lost):=rfl
   go_wp2_with fail
   go_roundw
   case rel=>exact⟨k+1,by omega,by go_num,by rw[u.out],by rw[Z.out],n.out.alloc o _⟩
   case measure=>simp[intOf];omega
  ·obtain rfl:k=6:=by omega
   rename World=>w1
   have g:=M.out.later n.out m;obtain⟨v,z,A,B,Q,R,S,C,D⟩:=z0r g;have E:Hid (SAt w1 b (stC s (J1 ao s.W.length c))):=g;have F:Hid (z2k w1 ao sb so s.W):=t.out.over n.out;have d:=t.out.adr;clear v z A B Q R S D g M t
   go_wp2_with fail
   clear C
   go_loopw [5,31] (fun s5 i wl=>∃ k:Nat,k<=s.W.length/\i=.int .i64 (k:Int)/\s5=.int .i64 (z2t (s.W.take k))/\Hid (Bl w1 wl)) (fun _ i _=>s.W.length - (intOf i).toNat)
   case atStart=>exact⟨0,by omega,rfl,rfl,Below.refl _ _⟩
   case round =>
    obtain⟨k,P,rfl,rfl,a⟩:=hrel;have p:w1.heap.size<=wr.heap.size:=a.out.size
    by_cases G:k<s.W.length
    ·obtain⟨x,r,_⟩:=drop_at G;obtain⟨c0,c1,c2,c3,c4,c5,c6,c7⟩:=(F.out.over a.out).cell k x r;have u:Hid (z2t (s.W.take (k+1))=z2t (s.W.take k)+x.amt):=q8W r;have b1:=z8N (l:=s.W.take k) (fun y hy=>N.out y (List.mem_of_mem_take hy));rw[List.length_take,Nat.min_eq_left P]at b1;have b2:=z0A.1 (N.out x (List.mem_of_getElem? r));obtain rfl:=d (by omega)
     clear d r
     go_wp2_with fail
     go_roundw
     case rel=>exact⟨k+1,by omega,by go_num,by rw[u.out],a.out.alloc p _⟩
     case measure=>simp[intOf];omega
    ·have g:=E.out.later a.out (by omega)
     obtain⟨v,z,A,B,Q,R,S,C,D⟩:=z0r g;have HF:Hid (bal s=(decide (z8f s.V 6=s.b.bo) && decide (z2t (s.W.take k)=s.b.wa) && decide (z3s s.V 6=s.b.bu))):=by rw[List.take_of_length_le (by omega)];exact rfl
     clear v z A B C D g;generalize z8f s.V 6=pt at *;generalize z3s s.V 6=pl at *;generalize z2t (s.W.take k)=pa at *
     go_wp2_with fail
     all_goals (go_ret;refine⟨?_,n.out.trans (a.out.mono o)⟩;rw[HF.out];congr 1;congr 1;first | (simp_all;done) | (simp_all;rfl))
theorem z5N{f:Nat}{args:Array Value}{w0 w:World}{b:Nat}{v:Value}{f0 f1 f2 f3 bo wa bu:Int}(h:Calls prog f args w fun e w'=>e=.returned v/\Bl w w')
  (hb:b<w0.heap.size) (d:w.cell? ⟨b,0,none⟩=some (J I f0)/\w.cell? ⟨b,1,none⟩=some (J I f1)/\w.cell? ⟨b,2,none⟩=some (J I f2)/\w.cell? ⟨b,3,none⟩=some (J I f3)/\w.cell? ⟨b,4,none⟩=some (J I bo)/\w.cell? ⟨b,5,none⟩=some (J I wa)/\w.cell? ⟨b,6,none⟩=some (J I bu)/\Bl w0 w) :
  Calls prog f args w fun e w'=>e=.returned v/\w'.cell? ⟨b,0,none⟩=some (J I f0)/\w'.cell? ⟨b,1,none⟩=some (J I f1)/\w'.cell? ⟨b,2,none⟩=some (J I f2)/\w'.cell? ⟨b,3,none⟩=some (J I f3)/\w'.cell? ⟨b,4,none⟩=some (J I bo)/\w'.cell? ⟨b,5,none⟩=some (J I wa)/\w'.cell? ⟨b,6,none⟩=some (J I bu)/\Bl w0 w':=by
 refine h.mono ?_;rintro e w'⟨rfl,a⟩;obtain⟨h0,h1,h2,h3,g,i,j,c⟩:=d;have k:∀ o,w'.cell? ⟨b,o,none⟩=w.cell? ⟨b,o,none⟩:=fun o=>a.cell (Nat.lt_of_lt_of_le hb c.size);exact⟨rfl,(k 0).trans h0,(k 1).trans h1,(k 2).trans h2,(k 3).trans h3,(k 4).trans g,(k 5).trans i,(k 6).trans j,c.trans (a.mono c.size)⟩
theorem z0g{n:Int}(h0:-9223372036854775808<=n)(h1:n<9223372036854775808):wrap64 n=n:=by
 unfold wrap64;omega
theorem j3J(f0 f1 f2 f3 bo wa bu:Int)(w:World)(y0 d f g h i j:Int)(l:∀ w,(binOp .eql 35 (J4 #[J I y0,J I d,J I f,J I g,J I h,J I i,J I j]) (J4 #[J I f0,J I f1,J I f2,J I f3,J I bo,J I wa,J I bu])).run prog w=.ok (J3 false) w)
  (b:∀ w,Calls prog 164 #[J4 #[J I f0,J I f1,J I f2,J I f3,J I bo,J I wa,J I bu]] w fun e w'=>e=.returned (J4 #[J I y0,J I d,J I f,J I g,J I h,J I i,J I j])/\Bl w w') :
  Calls prog 134 #[J4 #[J I f0,J I f1,J I f2,J I f3,J I bo,J I wa,J I bu]] w fun e w'=>e=.returned (J3 false)/\Bl w w':=by
 go_enter func134,ntmps134
 go_wp2_with fail
 have c:Hid (Bl w (w.alloc (J5 #[J I f0,J I f1,J I f2,J I f3,J I bo,J I wa,J I bu] 35))):=znw w _;have B0:=BAt.new w f0 f1 f2 f3 bo wa bu;have a:w.heap.size<(w.alloc (J5 #[J I f0,J I f1,J I f2,J I f3,J I bo,J I wa,J I bu] 35)).heap.size:=by simp
 generalize w.alloc (J5 #[J I f0,J I f1,J I f2,J I f3,J I bo,J I wa,J I bu] 35)=w0 at *;obtain⟨p,q,r,s,t,u,v⟩:=id B0.cells;clear B0;have m:Bl w0 w0.drew:=(Below.refl _ _).drew
 go_region_with (go_at_call 164;refine (z5N (f0:=f0) (f1:=f1) (f2:=f2) (f3:=f3) (bo:=bo) (wa:=wa) (bu:=bu) (b _) a ?_).mono ?_;(simp[*]);rintro e n⟨rfl,x,y,z,A,B,C,D,k⟩)
 all_goals
  have o:Hid (Bl w n):=c.out.trans (k.mono (Nat.le_of_lt a));clear k;go_wp2;go_ret;exact⟨rfl,o.out⟩
theorem j0t(f0 f1 f2 f3 bo wa bu s:Int)(r:Bool)(w:World)(f:∀ w,(binOp .eql 35 (J4 #[J I f0,J I f1,J I f2,J I f3,J I bo,J I wa,J I bu]) (J4 #[J I f0,J I f1,J I f2,J I f3,J I bo,J I wa,J I bu])).run prog w=.ok (J3 true) w)
  (b:∀ w,Calls prog 164 #[J4 #[J I f0,J I f1,J I f2,J I f3,J I bo,J I wa,J I bu]] w fun e w'=>e=.returned (J4 #[J I f0,J I f1,J I f2,J I f3,J I bo,J I wa,J I bu])/\Bl w w')
  (hsum:∀ w,Calls prog 165 #[J4 #[J I f0,J I f1,J I f2,J I f3,J I bo,J I wa,J I bu]] w fun e w'=>e=.returned (J I s)/\Bl w w') (k:(s == 400000)=r) :
  Calls prog 134 #[J4 #[J I f0,J I f1,J I f2,J I f3,J I bo,J I wa,J I bu]] w fun e w'=>e=.returned (J3 r)/\Bl w w':=by
 go_enter func134,ntmps134
 go_wp2_with fail
 have c:Hid (Bl w (w.alloc (J5 #[J I f0,J I f1,J I f2,J I f3,J I bo,J I wa,J I bu] 35))):=znw w _;have B0:=BAt.new w f0 f1 f2 f3 bo wa bu;have a:w.heap.size<(w.alloc (J5 #[J I f0,J I f1,J I f2,J I f3,J I bo,J I wa,J I bu] 35)).heap.size:=by simp
 generalize w.alloc (J5 #[J I f0,J I f1,J I f2,J I f3,J I bo,J I wa,J I bu] 35)=w0 at *;obtain⟨l,m,n,o,p,q,t⟩:=id B0.cells;clear B0;have g:Bl w0 w0.drew:=(Below.refl _ _).drew
 go_region_held3 (fun w'=>w'.cell? ⟨w.heap.size,0,none⟩=some (J I f0)/\w'.cell? ⟨w.heap.size,1,none⟩=some (J I f1)/\w'.cell? ⟨w.heap.size,2,none⟩=some (J I f2)/\w'.cell? ⟨w.heap.size,3,none⟩=some (J I f3)/\w'.cell? ⟨w.heap.size,4,none⟩=some (J I bo)/\w'.cell? ⟨w.heap.size,5,none⟩=some (J I wa)/\w'.cell? ⟨w.heap.size,6,none⟩=some (J I bu)/\Bl w0 w') (go_keep)
  (first
   | (go_at_call 164;refine (z5N (f0:=f0) (f1:=f1) (f2:=f2) (f3:=f3) (bo:=bo) (wa:=wa) (bu:=bu) (b _) a ?_).mono ?_;(simp[*]);rintro e u⟨rfl,h⟩)
   | (go_at_call 165;refine (z5N (f0:=f0) (f1:=f1) (f2:=f2) (f3:=f3) (bo:=bo) (wa:=wa) (bu:=bu) (hsum _) a ?_).mono ?_;(simp[*]);rintro e i⟨rfl,d⟩))
 have j:Hid (Bl w i):=c.out.trans (d.2.2.2.2.2.2.2.mono (Nat.le_of_lt a));clear h d;go_wp2;go_ret;exact⟨rfl,j.out⟩
theorem j2M(n:Int):cl n=n↔0<=n/\n<=400000:=by
 unfold cl;omega
theorem z0o(f0 f1 f2 f3 bo wa bu:Int)(w:World):Calls prog 134 #[J4 #[J I f0,J I f1,J I f2,J I f3,J I bo,J I wa,J I bu]] w fun e w'=>e=.returned (J3 (z1u f0 f1 f2 f3 bo wa bu))/\Bl w w':=by
 have hc:=q1O f0 f1 f2 f3 bo wa bu;have a:=fun w=>eqB w (cl f0) (cl f1) (cl f2) (cl f3) (cl bo) (cl wa) (cl bu) f0 f1 f2 f3 bo wa bu
 by_cases h:cl f0=f0/\cl f1=f1/\cl f2=f2/\cl f3=f3/\cl bo=bo/\cl wa=wa/\cl bu=bu
 ·rw[decide_eq_true h]at a;obtain⟨h0,h1,h2,h3,b,c,d⟩:=h;rw[h0,h1,h2,h3,b,c,d]at hc a;rw[j2M]at h0 h1 h2 h3 b c d;refine j0t f0 f1 f2 f3 bo wa bu _ _ w a hc (j4R f0 f1 f2 f3 bo wa bu) ?_;rw[z0g (by omega) (by omega)]
  unfold z1u
  simp[h0,h1,h2,h3,b,c,d]
  rfl
 ·rw[decide_eq_false h]at a
  have f:z1u f0 f1 f2 f3 bo wa bu=false:=by
   unfold z1u;refine decide_eq_false fun g=>h ?_;simp only[j2M];exact⟨g.1,g.2.1,g.2.2.1,g.2.2.2.1,g.2.2.2.2.1,g.2.2.2.2.2.1,g.2.2.2.2.2.2.1⟩
  rw[f];exact j3J f0 f1 f2 f3 bo wa bu w _ _ _ _ _ _ _ a hc
theorem z0P{w wq:World}(R:BAt wq (w.heap.size+1) 0 0 0 0 0 0 0)(H:Bl w wq)(a r1 r2 c d f g h:Int)(act:Act)
  (k:act.tmps.getD 8 undef=J2 (some ⟨w.heap.size+1,0,none⟩)) (l:act.tmps.getD 9 undef=J I h) (hd:act.defers=[]) :
  bodyPost prog f145 (fun e w'=>e=.returned (.tuple #[J4 #[J I a,J I r1,J I r2,J I c,J I d,J I f,J I g],J I h])/\Bl w w') Exit.ret act
   (z6s wq (w.heap.size+1) a r1 r2 c d f g):=by
 have m:=R.z6s a r1 r2 c d f g;have n:=z2Q (b:=w.heap.size+1) H (by omega) a r1 r2 c d f g
 generalize z6s wq (w.heap.size+1) a r1 r2 c d f g=w9 at *;obtain⟨o,u1,u2,p,q,r,s⟩:=m.cells;have i:act.tmps[8]?.getD undef=J2 (some ⟨w.heap.size+1,0,none⟩):=by simpa using k
 have j:act.tmps[9]?.getD undef=J I h:=by simpa using l
 exact bodyPost_ret (v:=.tuple #[J4 #[J I a,J I r1,J I r2,J I c,J I d,J I f,J I g],J I h]) (by simp[results,results145,go_sem,i,j,o,u1,u2,p,q,r,s]) hd ⟨rfl,n⟩
theorem z1q{w w1:World}{f0 f1 f2 f3 bo wa bu:Int}(hb:Below ((w.alloc (J5 #[J I f0,J I f1,J I f2,J I f3,J I bo,J I wa,J I bu] 35)).alloc (J5 #[J I 0,J I 0,J I 0,J I 0,J I 0,J I 0,J I 0] 35)).heap.size ((w.alloc (J5 #[J I f0,J I f1,J I f2,J I f3,J I bo,J I wa,J I bu] 35)).alloc (J5 #[J I 0,J I 0,J I 0,J I 0,J I 0,J I 0,J I 0] 35)) w1):BAt w1 w.heap.size f0 f1 f2 f3 bo wa bu/\BAt w1 (w.heap.size+1) 0 0 0 0 0 0 0/\Hid (Bl w w1):=by
 refine⟨((BAt.new w f0 f1 f2 f3 bo wa bu).alloc (J5 #[J I 0,J I 0,J I 0,J I 0,J I 0,J I 0,J I 0] 35)).later hb (by simp;omega),?_,((znw w _).alloc (by simp) _).trans (hb.mono (by simp;omega))⟩
 have:=(BAt.new (w.alloc (J5 #[J I f0,J I f1,J I f2,J I f3,J I bo,J I wa,J I bu] 35)) 0 0 0 0 0 0 0).later hb (by simp)
 simpa using this
end
end Go.Proofs.YtddlhnoedldidaaGreat
