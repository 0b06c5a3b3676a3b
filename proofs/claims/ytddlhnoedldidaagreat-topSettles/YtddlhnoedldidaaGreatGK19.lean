/- Parts of the proof. -/
import Derived.Test.YtddlhnoedldidaaGreatGL
import Derived.Test.YtddlhnoedldidaaGreatGK0
import Derived.Test.YtddlhnoedldidaaGreatGK23
import Derived.Laws.OwnMore
import Derived.Deep.AppendLies
import Derived.Laws.Cover3
set_option maxRecDepth 100000
set_option maxHeartbeats 16000000
namespace Go.Proofs.YtddlhnoedldidaaGreat
open Go.Proofs.Tryz
open Value renaming int->J,slice->J1,pointer->J2,bool->J3,agg->J4
open IntKind renaming i64->I
open Obj renaming cells->J5
namespace Ln
open Go.RowKit
theorem z1v{w w':World}{b e z n:Nat}{v:Value}{c:List Value}(h:w.ownsRow b e z v n c)(d:∀ k,v.ownBlock=some k->w'.heap[k]?=w.heap[k]?):w'.ownsRow b e z v n c:=by
 refine⟨h.1,?_⟩
 rcases h.2 with f | ⟨g,cap,a,rfl,hb,i,rest⟩
 ·exact .inl f
 ·exact .inr ⟨g,cap,a,rfl,hb,(d g rfl).trans i,rest⟩
theorem z9W{w w':World}{b e z n:Nat}{v:Value}{a:List Value}(h:w.ownsRow b e z v n a)(hb:Bl w w'):w'.ownsRow b e z v n a:=z1v h fun k c=>hb.block k (World.ownsRow.lt h k c).2
theorem z3N{w:World}{b e z n:Nat}{v:Value}{a:List Value}(h:w.ownsRow b e z v n a):∃ A C,v=J1 A n C:=by
 rcases h.2 with⟨hv,hn⟩ | ⟨g,cap,cur,hv,_⟩
 ·subst hn;exact⟨_,_,hv⟩
 ·exact⟨_,_,hv⟩
end Ln
namespace Pv
open Go.RowKit
section
variable {P:Nat->Prop} {w w':World} {v:Value} {sz bts:Nat} {cs:List Value}
theorem Rep.line{x:Ln.Line}{v1 v2:Value}(h1:Rep P w v1 1 16 (txC x.S))(h2:Rep P w v2 1 8 (inC x.D)):∃ a f c g sb so db dO,v1=J1 a x.S.length f/\v2=J1 c x.D.length g/\Ln.LAt w x a c f g sb so db dO/\(0<x.S.length->P sb)/\(0<x.D.length->P db):=by
 obtain⟨a,n1,f,l,m,n,o,p⟩:=h1;obtain⟨c,q,g,b1,b2,b3,r,s⟩:=h2;rw[z2a]at m;rw[z0s]at b2;have t:n1=x.S.length:=by omega
 have u:q=x.D.length:=by omega
 subst t u
 have hs:∃ sb so,(0<x.S.length->a=some ⟨sb,so,none⟩/\P sb)/\Ln.z3L w sb so x.S:=by
  rcases Nat.eq_zero_or_pos x.S.length with h0 | h0
  ·exact⟨0,0,fun h=>by omega,fun i d=>by omega⟩
  ·obtain⟨b,off,e,hp,_,hc⟩:=p h0;exact⟨b,off,fun _=>⟨e,hp⟩,fun i d=>hc i _ (z8h _ i d)⟩
 have hd:∃ db dO,(0<x.D.length->c=some ⟨db,dO,none⟩/\P db)/\Ln.z1i w db dO x.D:=by
  rcases Nat.eq_zero_or_pos x.D.length with h0 | h0
  ·exact⟨0,0,fun h=>by omega,fun i d=>by omega⟩
  ·obtain⟨b,off,e,hp,_,hc⟩:=s h0;exact⟨b,off,fun _=>⟨e,hp⟩,fun i d=>hc i _ (z4F _ i d)⟩
 obtain⟨sb,so,j,v⟩:=hs;obtain⟨db,dO,k,y⟩:=hd;exact⟨a,f,c,g,sb,so,db,dO,l,b1,⟨n,b3,fun h=>(j h).1,fun h=>(k h).1,o.1,r.1,v,y⟩,fun h=>(j h).2,fun h=>(k h).2⟩
theorem Rep.lies{S:List (Int×Int)}{D:List Int}{v1 v2:Value}(h1:Rep P w v1 2 16 (pwC S))(h2:Rep P w v2 1 8 (inC D)):∃ c f d g sb so db dO,v1=J1 c S.length f/\v2=J1 d D.length g/\Cd.q7h w S D c d sb so db dO:=by
 obtain⟨c,n1,f,j,k,u,v,l⟩:=h1;obtain⟨d,m,g,b1,b2,b3,x,n⟩:=h2;rw[z0c]at k;rw[z0s]at b2;have o:n1=S.length:=by omega
 have p:m=D.length:=by omega
 subst o p
 have hs:∃ sb so,(0<S.length->c=some ⟨sb,so,none⟩)/\Cd.z5D w sb so S:=by
  rcases Nat.eq_zero_or_pos S.length with h0 | h0
  ·exact⟨0,0,fun h=>by omega,fun i a=>by omega⟩
  ·obtain⟨b,off,e,hp,_,hc⟩:=l h0;exact⟨b,off,fun _=>e,fun i a=>⟨hc _ _ (z2j _ i a).1,hc _ _ (z2j _ i a).2⟩⟩
 have hd:∃ db dO,(0<D.length->d=some ⟨db,dO,none⟩)/\Cd.z1i w db dO D:=by
  rcases Nat.eq_zero_or_pos D.length with h0 | h0
  ·exact⟨0,0,fun h=>by omega,fun i a=>by omega⟩
  ·obtain⟨b,off,e,hp,_,hc⟩:=n h0;exact⟨b,off,fun _=>e,fun i a=>hc i _ (z4F _ i a)⟩
 obtain⟨sb,so,q,r⟩:=hs;obtain⟨db,dO,s,t⟩:=hd;exact⟨c,f,d,g,sb,so,db,dO,j,b1,⟨by unfold maxLen;omega,by unfold maxLen;omega,q,s,r,t⟩⟩
end
theorem j1g(a x c y:List Value)(h:x.length=y.length):spl (a ++ (x ++ c)).toArray a.length y=(a ++ (y ++ c)).toArray:=by
 apply Array.ext_getElem?;intro i;rw[q3v _ _ _ _ (by simp;omega)]
 simp only[List.getElem?_toArray]
 by_cases h1:i<a.length
 ·rw[if_neg (by omega),List.getElem?_append_left h1,List.getElem?_append_left h1]
 ·obtain⟨j,rfl⟩:∃ j,i=a.length+j:=⟨i - a.length,by omega⟩
  have e:∀ z:List Value,(a ++ z)[a.length+j]?=z[j]?:=fun z=>by rw[List.getElem?_append_right (by omega),Nat.add_sub_cancel_left]
  rw[e,e,Nat.add_sub_cancel_left]
  by_cases h2:j<y.length
  ·rw[if_pos ⟨by omega,by omega⟩,List.getElem?_append_left h2]
  ·rw[if_neg (by omega),List.getElem?_append_right (by omega),List.getElem?_append_right (by omega),h]
theorem set_mid(a x c:List Value)(n j:Nat)(u:Value)(b:a.length=n)(d:j<x.length):((a ++ (x ++ c)).toArray).setIfInBounds (n+j) u=(a ++ (x.set j u ++ c)).toArray:=by
 subst b;rw[List.setIfInBounds_toArray,List.set_append_right _ _ (by omega),Nat.add_sub_cancel_left,List.set_append_left _ _ d]
def Join(A:Act)(R:World->Prop)(ex:Exit)(a:Act)(w:World):Prop:=ex=Exit.normal/\a=A/\R w
theorem z3u{P:Program}{c:Code}{Q:Exit->Act->World->Prop}{a:Act}{w:World}(R:World->Prop)(A:Act)(h1:Code.wp P c (Join A R) a w)(h2:∀ w',R w'->Q Exit.normal A w'):Code.wp P c Q a w:=
 Code.wp_mono (fun e b w' h=>by obtain⟨rfl,rfl,h⟩:=h;exact h2 w' h) h1
def y1C(A:Value->Act)(R:Value->World->Prop)(ex:Exit)(a:Act)(w:World):Prop:=∃ x,ex=Exit.normal/\a=A x/\R x w
theorem q3Q{P:Program}{c:Code}{Q:Exit->Act->World->Prop}{a:Act}{w:World}(R:Value->World->Prop)(A:Value->Act)(h1:Code.wp P c (y1C A R) a w)(h2:∀ x w',R x w'->Q Exit.normal (A x) w'):Code.wp P c Q a w:=
 Code.wp_mono (fun e b w' h=>by obtain⟨x,rfl,rfl,h⟩:=h;exact h2 x w' h) h1
end Pv
namespace Ln
open Go.RowKit
theorem j1f(x:Line)(k:Int)(s:ByteArray)(said now:Int) :
  (z4i x≠0/\(z5L x k s said now,z4B x k s said now)=(x,z4i x))∨(z4i x=0/\((k≠x.g+1/\(z5L x k s said now,z4B x k s said now)=(x,10)) ∨
  (k=x.g+1/\((said<k/\(z5L x k s said now,z4B x k s said now)=(x,9))∨(k<=said/\(((x.S.length:Int)<k/\(z5L x k s said now,z4B x k s said now)=(x,9))∨(k<=x.S.length /\
   ((x.S.getD (k - 1).toNat ByteArray.empty≠s/\(z5L x k s said now,z4B x k s said now)=(x,9))∨(x.S.getD (k - 1).toNat ByteArray.empty=s /\
    ((x.D.getD (k - 1).toNat 0<=now/\(z5L x k s said now,z4B x k s said now)=(x,12))∨(now<x.D.getD (k - 1).toNat 0/\(z5L x k s said now,z4B x k s said now)=(⟨x.S,x.D,k,x.cl⟩,0)))))))))))):=by
 have no:∀ e,z4B x k s said now=e->e≠0->(z5L x k s said now,z4B x k s said now)=(x,e):=fun e h h0=>by unfold z5L;rw[h,if_neg h0]
 by_cases h1:z4i x=0
 ·right
  have a:¬ z4i x≠0:=fun h=>h h1;refine⟨h1,?_⟩
  by_cases h2:k=x.g+1
  ·right
   have b:¬ k≠x.g+1:=fun h=>h h2;refine⟨h2,?_⟩
   by_cases h3:said<k
   ·left;exact⟨h3,no 9 (by rw[z4B,if_neg a,if_neg b,if_pos (.inl h3)]) (by decide)⟩
   ·right
    refine⟨by omega,?_⟩
    by_cases d:(x.S.length:Int)<k
    ·left;exact⟨d,no 9 (by rw[z4B,if_neg a,if_neg b,if_pos (.inr (.inl d))]) (by decide)⟩
    ·right
     refine⟨by omega,?_⟩
     by_cases c:x.S.getD (k - 1).toNat ByteArray.empty=s
     ·right
      refine⟨c,?_⟩
      have i:¬ (said<k∨(x.S.length:Int)<k∨x.S.getD (k - 1).toNat ByteArray.empty≠s):=by
       rintro (h | h | h)
       ·exact h3 h
       ·exact d h
       ·exact h c
      by_cases f:x.D.getD (k - 1).toNat 0<=now
      ·left;exact⟨f,no 12 (by rw[z4B,if_neg a,if_neg b,if_neg i,if_pos f]) (by decide)⟩
      ·right
       have e:z4B x k s said now=0:=by rw[z4B,if_neg a,if_neg b,if_neg i,if_neg f]
       exact⟨by omega,by unfold z5L;rw[e,if_pos rfl]⟩
     ·left;exact⟨c,no 9 (by rw[z4B,if_neg a,if_neg b,if_pos (.inr (.inr c))]) (by decide)⟩
  ·left;exact⟨h2,no 10 (by rw[z4B,if_neg a,if_pos h2]) (by decide)⟩
 ·left;exact⟨h1,no _ (by rw[z4B,if_pos h1]) h1⟩
theorem j8x(x:Line)(sa da:Option Addr)(cs cd sb so db dO:Nat)(k:Int)(s:ByteArray)(said now:Int)(w:World)(L:LAt w x sa da cs cd sb so db dO) :
  Calls prog 87 #[J4 #[J1 sa x.S.length cs,J1 da x.D.length cd,J I x.g,J3 x.cl],J I k,.string s,J I said,J I now] w fun e w'=>Ans sb db x w (z5L x k s said now,z4B x k s said now) e w':=by
 have d:=j1f x k s said now;generalize (z5L x k s said now,z4B x k s said now)=r at *;have z:=J6 (begun L);have q:=J6 (fun w (L:LAt w x sa da cs cd sb so db dO)=>q3y x sa da cs cd sb so db dO w L);have f:=J6 (fun w=>q8N x sa da cs cd k w);have P:=J6 (fun h=>z7P (z8q (x:=x) h).1);clear L
 go_enter func87,ntmps87
 go_upto_region 1 with fail
 generalize ((w.alloc (J5 #[J1 sa x.S.length cs,J1 da x.D.length cd,J I x.g,J3 x.cl] 48)).alloc (J5 #[J1 none 0 0,J1 none 0 0,J I 0,J3 false] 48))=w0 at *;obtain⟨⟨c0,c1,c2,c3⟩,-⟩:=z.out.F1.facts;obtain⟨⟨i,l,m,n⟩,⟨f0,f1,f2,f3⟩⟩:=z.out.F2.facts;generalize z4i x=R at *
 rcases d with⟨h1,hr⟩ | ⟨rfl,d⟩
 ·have HR:=J6 hr;have a0:(R != 0)=true:=by simpa using h1
  clear hr h1
  go_wp2_with (go_at_call 124;refine (q.out _ z.out.L).mono ?_;rintro e w1⟨rfl,hb⟩;have b:=J6 (z.out.over hb);clear hb c0 c1 c2 c3 i l m n f0 f1 f2 f3;obtain⟨⟨c0,c1,c2,c3⟩,-⟩:=b.out.F1.facts;obtain⟨⟨i,l,m,n⟩,⟨f0,f1,f2,f3⟩⟩:=b.out.F2.facts)
  exact b.out.z0M rfl _ _ HR.out _ rfl rfl rfl
 obtain⟨F,a1,a2,a3⟩:=P.out rfl;have Q:=J6 F;clear F
 go_upto_region 4 with (go_at_call 124;refine (q.out _ z.out.L).mono ?_;rintro e w1⟨rfl,hb⟩;have b:=J6 (z.out.over hb);clear hb c0 c1 c2 c3 i l m n f0 f1 f2 f3;obtain⟨⟨c0,c1,c2,c3⟩,⟨A,B,C,E⟩⟩:=b.out.F1.facts;obtain⟨⟨i,l,m,n⟩,⟨f0,f1,f2,f3⟩⟩:=b.out.F2.facts)
 clear z q w0
 rcases d with⟨h2,hr⟩ | ⟨h2,d⟩
 ·have HR:=J6 hr;have G:(k != x.g+1)=true:=by simpa using h2
  clear hr h2;go_wp2;exact b.out.z0M rfl _ _ HR.out _ rfl rfl rfl
 have G:(k != x.g+1)=false:=by simpa using h2
 have hk0:1<=k:=by omega
 have HK:=J6 h2;clear h2
 go_upto_region 6 with fail
 clear G
 rcases d with⟨h3,hr⟩ | ⟨h3,d⟩
 ·have HR:=J6 hr;clear hr
  go_wp2_with (go_at_call 125;exfalso;omega)
  exact b.out.z0M rfl _ _ HR.out _ rfl rfl rfl
 rcases d with⟨h4,hr⟩ | ⟨h4,d⟩
 ·have HR:=J6 hr;have hd:(decide (1<=k) && decide (k<=(x.S.length:Int)))=false:=by simp;omega
  rw[hd]at f;clear hr hd
  go_wp2_with (go_at_call 125;refine (f.out _).mono ?_;rintro e H⟨rfl,hb⟩;have a:=J6 (b.out.over hb);clear hb c0 c1 c2 c3 A B C E i l m n f0 f1 f2 f3;obtain⟨⟨c0,c1,c2,c3⟩,-⟩:=a.out.F1.facts;obtain⟨⟨i,l,m,n⟩,⟨f0,f1,f2,f3⟩⟩:=a.out.F2.facts)
  exact a.out.z0M rfl _ _ HR.out _ rfl rfl rfl
 have hd:(decide (1<=k) && decide (k<=(x.S.length:Int)))=true:=by simp;omega
 rw[hd]at f;clear hd;obtain⟨j,hj⟩:∃ j:Nat,k - 1=(j:Int):=⟨(k - 1).toNat,by omega⟩
 have v:j<x.S.length:=by omega
 have K:j<x.D.length:=by rw[Q.out];exact v
 have a4:(j:Int)<(x.S.length:Int):=by omega
 have a5:(j:Int)<(x.D.length:Int):=by omega
 rw[hj,Int.toNat_natCast]at d;obtain rfl:k=(j:Int)+1:=by omega
 have T:=b.out.L.hsa (by omega)
 have U:=b.out.L.hda (by omega)
 subst T U;obtain⟨t,V⟩:∃ t,x.S.getD j ByteArray.empty=t:=⟨_,rfl⟩;obtain⟨y,W⟩:∃ y,x.D.getD j 0=y:=⟨_,rfl⟩;rw[V,W]at d;have X:=J6 V;have Y:=J6 W;clear V W
 rcases d with⟨h5,hr⟩ | ⟨rfl,d⟩
 ·have HR:=J6 hr;have a6:=y1o h5;clear hr h5
  go_wp2_with (go_at_call 125;refine (f.out _).mono ?_;rintro e H⟨rfl,hb⟩;have a:=J6 (b.out.over hb);clear hb c0 c1 c2 c3 A B C E i l m n f0 f1 f2 f3;obtain⟨⟨c0,c1,c2,c3⟩,-⟩:=a.out.F1.facts;obtain⟨⟨i,l,m,n⟩,⟨f0,f1,f2,f3⟩⟩:=a.out.F2.facts;have ct:=a.out.L.PS j v;rw[X.out]at ct)
  exact a.out.z0M rfl _ _ HR.out _ rfl rfl rfl
 rcases d with⟨h6,hr⟩ | ⟨h6,hr⟩
 ·have HR:=J6 hr;clear hr
  go_wp2_with (go_at_call 125;refine (f.out _).mono ?_;rintro e H⟨rfl,hb⟩;have a:=J6 (b.out.over hb);clear hb c0 c1 c2 c3 A B C E i l m n f0 f1 f2 f3;obtain⟨⟨c0,c1,c2,c3⟩,-⟩:=a.out.F1.facts;obtain⟨⟨i,l,m,n⟩,⟨f0,f1,f2,f3⟩⟩:=a.out.F2.facts;have ct:=a.out.L.PS j v;rw[X.out]at ct;have N:=a.out.L.PD j K;rw[Y.out]at N)
  exact a.out.z0M rfl _ _ HR.out _ rfl rfl rfl
 ·have HR:=J6 hr;clear hr
  go_upto_region 11 with (go_at_call 125;refine (f.out _).mono ?_;rintro e H⟨rfl,hb⟩;have a:=J6 (b.out.over hb);clear hb c0 c1 c2 c3 A B C E i l m n f0 f1 f2 f3;obtain⟨⟨c0,c1,c2,c3⟩,⟨A,B,C,E⟩⟩:=a.out.F1.facts;have ct:=a.out.L.PS j v;rw[X.out]at ct;have N:=a.out.L.PD j K;rw[Y.out]at N)
  have F1:=a.out.F1.j0x (J I ((j:Int)+1));have F2:=a.out.F2.other (c:=w.heap.size) (o:=2) (by omega) (J I ((j:Int)+1))
  have Z:=a.out.below.setCell (p:=⟨w.heap.size,2,none⟩) (Nat.le_refl _) (J I ((j:Int)+1));have LL:=a.out.L.z4Q ((Below.refl w.heap.size H).setCell (p:=⟨w.heap.size,2,none⟩) (Nat.le_refl _) (J I ((j:Int)+1))) a.out.ltS a.out.ltD;clear c0 c1 c2 c3 A B C E ct N;generalize (H.setCell ⟨w.heap.size,2,none⟩ (J I ((j:Int)+1)))=w3 at *;obtain⟨⟨c0,c1,c2,c3⟩,-⟩:=F1.facts;obtain⟨⟨i,l,m,n⟩,⟨f0,f1,f2,f3⟩⟩:=F2.facts;have u:=J6 (show _/\_/\_ from⟨F2,Z,LL⟩);have M:=J6 (And.intro a.out.ltS a.out.ltD);clear F1 F2 Z LL;go_wp2;exact z7u rfl u.out.1 u.out.2.1 (Nat.le_succ _) ⟨x.S,x.D,(j:Int)+1,x.cl⟩ _ _ _ _ _ _ _ _ ⟨u.out.2.2.hls,u.out.2.2.hld,u.out.2.2.hsa,u.out.2.2.hda,u.out.2.2.ncs,u.out.2.2.ncd,u.out.2.2.PS,u.out.2.2.PD⟩ (fun h=>by have:=M.out.1 h;omega) (fun h=>by have:=M.out.2 h;omega) (fun _=>.inl ⟨rfl,rfl⟩) (fun _=>.inl ⟨rfl,rfl⟩) _ _ rfl rfl _ _ HR.out _ rfl rfl rfl
theorem q8m(x:Line)(k time got:Int) :
  (z4i x≠0/\(z4N x k time got,z6h x k time got)=(x,z4i x))∨(z4i x=0/\(((k<1∨(x.S.length:Int)<k)/\(z4N x k time got,z6h x k time got)=(x,4)) ∨
  (1<=k/\k<=x.S.length/\((k<=got/\(z4N x k time got,z6h x k time got)=(x,5))∨(got<k/\((time<x.D.getD (k - 1).toNat 0/\(z4N x k time got,z6h x k time got)=(x,13)) ∨
   (x.D.getD (k - 1).toNat 0<=time/\(z4N x k time got,z6h x k time got)=(⟨x.S,x.D,x.g,true⟩,0)))))))):=by
 have no:∀ e,z6h x k time got=e->e≠0->(z4N x k time got,z6h x k time got)=(x,e):=fun e h h0=>by unfold z4N;rw[h,if_neg h0]
 by_cases h1:z4i x=0
 ·right
  have a:¬ z4i x≠0:=fun h=>h h1;refine⟨h1,?_⟩
  by_cases h2:k<1∨(x.S.length:Int)<k
  ·left;exact⟨h2,no 4 (by rw[z6h,if_neg a,if_pos h2]) (by decide)⟩
  ·right
   refine⟨by omega,by omega,?_⟩
   by_cases h3:k<=got
   ·left;exact⟨h3,no 5 (by rw[z6h,if_neg a,if_neg h2,if_pos h3]) (by decide)⟩
   ·right
    refine⟨by omega,?_⟩
    by_cases b:time<x.D.getD (k - 1).toNat 0
    ·left;exact⟨b,no 13 (by rw[z6h,if_neg a,if_neg h2,if_neg h3,if_pos b]) (by decide)⟩
    ·right
     have e:z6h x k time got=0:=by rw[z6h,if_neg a,if_neg h2,if_neg h3,if_neg b]
     exact⟨by omega,by unfold z4N;rw[e,if_pos rfl]⟩
 ·left;exact⟨h1,no _ (by rw[z6h,if_pos h1]) h1⟩
theorem j5T(x:Line)(sa da:Option Addr)(cs cd sb so db dO:Nat)(k time got:Int)(w:World)(L:LAt w x sa da cs cd sb so db dO) :
  Calls prog 89 #[J4 #[J1 sa x.S.length cs,J1 da x.D.length cd,J I x.g,J3 x.cl],J I k,J I time,J I got] w fun e w'=>Ans sb db x w (z4N x k time got,z6h x k time got) e w':=by
 have b:=q8m x k time got;generalize (z4N x k time got,z6h x k time got)=r at *;have m:=J6 (begun L);have i:=J6 (fun w (L:LAt w x sa da cs cd sb so db dO)=>q3y x sa da cs cd sb so db dO w L);have f:=J6 (fun w=>q8N x sa da cs cd k w);have z:=J6 (fun h=>z7P (z8q (x:=x) h).1);clear L
 go_enter func89,ntmps89
 go_upto_region 1 with fail
 generalize ((w.alloc (J5 #[J1 sa x.S.length cs,J1 da x.D.length cd,J I x.g,J3 x.cl] 48)).alloc (J5 #[J1 none 0 0,J1 none 0 0,J I 0,J3 false] 48))=w0 at *;obtain⟨⟨c0,c1,c2,c3⟩,-⟩:=m.out.F1.facts;obtain⟨⟨n,q,s,t⟩,⟨f0,f1,f2,f3⟩⟩:=m.out.F2.facts;generalize z4i x=R at *
 rcases b with⟨h1,hr⟩ | ⟨rfl,b⟩
 ·have HR:=J6 hr;have M:(R != 0)=true:=by simpa using h1
  clear hr h1
  go_wp2_with (go_at_call 124;refine (i.out _ m.out.L).mono ?_;rintro e w1⟨rfl,hb⟩;have d:=J6 (m.out.over hb);clear hb c0 c1 c2 c3 n q s t f0 f1 f2 f3;obtain⟨⟨c0,c1,c2,c3⟩,-⟩:=d.out.F1.facts;obtain⟨⟨n,q,s,t⟩,⟨f0,f1,f2,f3⟩⟩:=d.out.F2.facts)
  exact d.out.z0M rfl _ _ HR.out _ rfl rfl rfl
 obtain⟨u,N,-,-⟩:=z.out rfl;have A:=J6 u;clear u
 go_upto_region 4 with (go_at_call 124;refine (i.out _ m.out.L).mono ?_;rintro e w1⟨rfl,hb⟩;have d:=J6 (m.out.over hb);clear hb c0 c1 c2 c3 n q s t f0 f1 f2 f3;obtain⟨⟨c0,c1,c2,c3⟩,-⟩:=d.out.F1.facts)
 clear m i w0
 rcases b with⟨h2,hr⟩ | ⟨h2,h2',b⟩
 ·have HR:=J6 hr;have hd:(decide (1<=k) && decide (k<=(x.S.length:Int)))=false:=by simp;omega
  rw[hd]at f;clear hr hd h2
  go_wp2_with (go_at_call 125;refine (f.out _).mono ?_;rintro e B⟨rfl,hb⟩;have a:=J6 (d.out.over hb);clear hb c0 c1 c2 c3;obtain⟨⟨c0,c1,c2,c3⟩,-⟩:=a.out.F1.facts;obtain⟨⟨n,q,s,t⟩,⟨f0,f1,f2,f3⟩⟩:=a.out.F2.facts)
  exact a.out.z0M rfl _ _ HR.out _ rfl rfl rfl
 have hd:(decide (1<=k) && decide (k<=(x.S.length:Int)))=true:=by simp;omega
 rw[hd]at f;clear hd;obtain⟨j,P⟩:∃ j:Nat,k - 1=(j:Int):=⟨(k - 1).toNat,by omega⟩
 have C:j<x.S.length:=by omega
 have E:j<x.D.length:=by rw[A.out];exact C
 have Q:(j:Int)<(x.D.length:Int):=by omega
 rw[P,Int.toNat_natCast]at b;obtain rfl:k=(j:Int)+1:=by omega
 have F:=d.out.L.hda (by omega)
 subst F;obtain⟨y,G⟩:∃ y,x.D.getD j 0=y:=⟨_,rfl⟩;rw[G]at b;have T:=J6 G;clear G
 go_upto_region 6 with (go_at_call 125;refine (f.out _).mono ?_;rintro e B⟨rfl,hb⟩;have a:=J6 (d.out.over hb);clear hb c0 c1 c2 c3;obtain⟨⟨c0,c1,c2,c3⟩,⟨U,V,W,X⟩⟩:=a.out.F1.facts;obtain⟨⟨n,q,s,t⟩,⟨f0,f1,f2,f3⟩⟩:=a.out.F2.facts;have H:=a.out.L.PD j E;rw[T.out]at H)
 rcases b with⟨h3,hr⟩ | ⟨h3,b⟩
 ·have HR:=J6 hr;clear hr;go_wp2;exact a.out.z0M rfl _ _ HR.out _ rfl rfl rfl
 rcases b with⟨h4,hr⟩ | ⟨h4,hr⟩
 ·have HR:=J6 hr;clear hr;go_wp2;exact a.out.z0M rfl _ _ HR.out _ rfl rfl rfl
 ·have HR:=J6 hr;clear hr
  go_upto_region 11 with fail
  have F1:=a.out.F1.q9j (J3 true);have F2:=a.out.F2.other (c:=w.heap.size) (o:=3) (by omega) (J3 true)
  have K:=a.out.below.setCell (p:=⟨w.heap.size,3,none⟩) (Nat.le_refl _) (J3 true);have LL:=a.out.L.z4Q ((Below.refl w.heap.size B).setCell (p:=⟨w.heap.size,3,none⟩) (Nat.le_refl _) (J3 true)) a.out.ltS a.out.ltD;clear c0 c1 c2 c3 U V W X n q s t f0 f1 f2 f3 H;generalize (B.setCell ⟨w.heap.size,3,none⟩ (J3 true))=w3 at *;obtain⟨⟨c0,c1,c2,c3⟩,-⟩:=F1.facts;obtain⟨⟨n,q,s,t⟩,⟨f0,f1,f2,f3⟩⟩:=F2.facts;have l:=J6 (show _/\_/\_ from⟨F2,K,LL⟩);have v:=J6 (And.intro a.out.ltS a.out.ltD);clear F1 F2 K LL;go_wp2;exact z7u rfl l.out.1 l.out.2.1 (Nat.le_succ _) ⟨x.S,x.D,x.g,true⟩ _ _ _ _ _ _ _ _ ⟨l.out.2.2.hls,l.out.2.2.hld,l.out.2.2.hsa,l.out.2.2.hda,l.out.2.2.ncs,l.out.2.2.ncd,l.out.2.2.PS,l.out.2.2.PD⟩ (fun h=>by have:=v.out.1 h;omega) (fun h=>by have:=v.out.2 h;omega) (fun _=>.inl ⟨rfl,rfl⟩) (fun _=>.inl ⟨rfl,rfl⟩) _ _ rfl rfl _ _ HR.out _ rfl rfl rfl
end Ln
section
open Go.RowKit
theorem z1v{w w':World}{b e z n:Nat}{v:Value}{c:List Value}(h:w.ownsRow b e z v n c)(d:∀ k,v.ownBlock=some k->w'.heap[k]?=w.heap[k]?):w'.ownsRow b e z v n c:=by
 refine⟨h.1,?_⟩
 rcases h.2 with f | ⟨g,cap,a,rfl,hb,i,rest⟩
 ·exact .inl f
 ·exact .inr ⟨g,cap,a,rfl,hb,(d g rfl).trans i,rest⟩
def z2C(B:Nat)(w:World)(A:Option Addr)(C:Nat)(W:List Wt):Prop:=w.ownsRow B 63 8 (J1 A W.length C) W.length (wsL W)
theorem z2C.to{B:Nat}{w w':World}{A:Option Addr}{C:Nat}{W:List Wt}(h:z2C B w A C W)(b:∀ k,B<=k->k<w.heap.size->w'.heap[k]?=w.heap[k]?):z2C B w' A C W:=z1v h fun k a=>b k (h.lt k a).1 (h.lt k a).2
theorem z2C.over{B:Nat}{w w':World}{A:Option Addr}{C:Nat}{W:List Wt}(h:z2C B w A C W)(hb:Bl w w'):z2C B w' A C W:=h.to fun k _ a=>hb.block k a
theorem z2C.cap{B:Nat}{w:World}{A:Option Addr}{C:Nat}{W:List Wt}(h:z2C B w A C W):W.length<=C:=by
 rcases h.2 with⟨hv,hn⟩ | ⟨g,cap,cur,hv,_,_,hc,_⟩
 ·omega
 ·cases hv;exact hc
theorem ap3(B:Nat)(w:World)(A:Option Addr)(C y:Nat)(W:List Wt)(x:Wt)(h:z2C B w A C W)(n:W.length<=60)(o:B<=w.heap.size)(p:∀ j v,(wtL x)[j]?=some v->w.cell? ⟨y,j,none⟩=some v) :
  ∃ g C' w',(Builtin.append_ #[41,41] 41 #[J1 A W.length C,J1 (some ⟨y,0,none⟩) 1 1]).run prog w=.ok (J1 (some ⟨g,0,none⟩) (W.length+1) C') w'/\z2C B w' (some ⟨g,0,none⟩) C' (W ++ [x])/\B<=g/\g<w'.heap.size/\Below B w w'/\(∀ k,k<w.heap.size->some k≠(Value.slice A W.length C).ownBlock->g≠k/\w'.heap[k]?=w.heap[k]?):=by
 obtain⟨i0,q,e,f,i⟩:=info_parts j0m;have r:wsL (W ++ [x])=wsL W ++ wtL x:=by unfold wsL;rw[List.flatMap_append];simp
 obtain⟨g,cap,w',s,t,b,a,l⟩:=run_append_lies (P:=prog) w 41 41 B 63 i0 _ 8 64 underlying41 q e f i rfl (by omega) (J1 A W.length C) W.length (wsL W) h ⟨y,0,none⟩ 1 1 (wtL x) rfl (fun j v z=>by rw[Addr.add_lit,Nat.zero_add];exact p j v z) (by intro u hu;simp[wtL]at hu;rcases hu with rfl | rfl | rfl | rfl | rfl | rfl | rfl | rfl <;> rfl) (by omega) (by simp only[maxLen];omega) (by omega) o _ rfl
 have c:z2C B w' (some ⟨g,0,none⟩) cap (W ++ [x]):=by
  unfold z2C;rw[r,List.length_append];exact t
 refine⟨g,cap,w',s,c,?_,l,⟨b.os,b.tape,b.output,b.size,fun k m=>b.block k (by omega) (fun D=>?_)⟩,fun k m d=>⟨?_,b.block k m d⟩⟩
 ·exact (c.lt g rfl).1
 ·have:=(h.lt k D.symm).1;omega
 ·rcases a with a | a
  ·rintro rfl;exact d a.symm
  ·omega
theorem z9r{ops:Array Oper}{rest:List Oper}{o:Oper}{a:Act}{w:World}{Q:Exit->Act->World->Prop}(f:o.guard=none)(b:o.type=41)(p q:Operand)
  (c:o.op=Op.call { callee:=Callee.builtin Builtin.append,args:=#[p,q],argTypes:=#[41,41] }) (B:Nat) (A:Option Addr) (C y:Nat) (W:List Wt) (x:Wt) (hs:a.eval p=J1 A W.length C) (i:a.eval q=J1 (some ⟨y,0,none⟩) 1 1)
  (h:z2C B w A C W) (d:W.length<=60) (l:B<=w.heap.size) (m:∀ j v,(wtL x)[j]?=some v->w.cell? ⟨y,j,none⟩=some v)
  (n:∀ g C' w',z2C B w' (some ⟨g,0,none⟩) C' (W ++ [x])/\B<=g/\g<w'.heap.size/\Below B w w'/\(∀ k,k<w.heap.size->some k≠(Value.slice A W.length C).ownBlock->g≠k/\w'.heap[k]?=w.heap[k]?)->wpList prog ops Q rest (a.put o.dst (J1 (some ⟨g,0,none⟩) (W.length+1) C')) w'):wpList prog ops Q (o :: rest) a w:=by
 refine wpList_plain f fun _ e=>?_;unfold Oper.wp;obtain⟨g,C',w',r,h1⟩:=ap3 B w A C y W x h d l m
 simp[execOp,c,resolve,invoke,builtin,hs,i,b,r,Result.andThen]
 exact e _ _ (n _ _ _ h1)
theorem z6C{f:Nat}{args:Array Value}{w0 w:World}{b:Nat}{v:Value}{f0 f1 f2 f3 bo wa bu:Int}(h:Calls prog f args w fun e w'=>e=.returned v/\Bl w w')
  (hb:b<w0.heap.size) (d:w.cell? ⟨b,0,none⟩=some (J I f0)/\w.cell? ⟨b,1,none⟩=some (J I f1)/\w.cell? ⟨b,2,none⟩=some (J I f2)/\w.cell? ⟨b,3,none⟩=some (J I f3)/\w.cell? ⟨b,4,none⟩=some (J I bo)/\w.cell? ⟨b,5,none⟩=some (J I wa)/\w.cell? ⟨b,6,none⟩=some (J I bu)/\Bl w0 w) :
  Calls prog f args w fun e w'=>e=.returned v/\w'.cell? ⟨b,0,none⟩=some (J I f0)/\w'.cell? ⟨b,1,none⟩=some (J I f1)/\w'.cell? ⟨b,2,none⟩=some (J I f2)/\w'.cell? ⟨b,3,none⟩=some (J I f3)/\w'.cell? ⟨b,4,none⟩=some (J I bo)/\w'.cell? ⟨b,5,none⟩=some (J I wa)/\w'.cell? ⟨b,6,none⟩=some (J I bu)/\Bl w0 w':=by
 refine h.mono ?_;rintro e w'⟨rfl,a⟩;obtain⟨h0,h1,h2,h3,g,i,j,c⟩:=d;have k:∀ o,w'.cell? ⟨b,o,none⟩=w.cell? ⟨b,o,none⟩:=fun o=>a.cell (Nat.lt_of_lt_of_le hb c.size);exact⟨rfl,(k 0).trans h0,(k 1).trans h1,(k 2).trans h2,(k 3).trans h3,(k 4).trans g,(k 5).trans i,(k 6).trans j,c.trans (a.mono c.size)⟩
theorem z0g{n:Int}(h0:-9223372036854775808<=n)(h1:n<9223372036854775808):wrap64 n=n:=by
 unfold wrap64;omega
theorem j6o(f0 f1 f2 f3 bo wa bu:Int)(w:World)(y0 d f g h i j:Int)(l:∀ w,(binOp .eql 35 (J4 #[J I y0,J I d,J I f,J I g,J I h,J I i,J I j]) (J4 #[J I f0,J I f1,J I f2,J I f3,J I bo,J I wa,J I bu])).run prog w=.ok (J3 false) w)
  (b:∀ w,Calls prog 164 #[J4 #[J I f0,J I f1,J I f2,J I f3,J I bo,J I wa,J I bu]] w fun e w'=>e=.returned (J4 #[J I y0,J I d,J I f,J I g,J I h,J I i,J I j])/\Bl w w') :
  Calls prog 134 #[J4 #[J I f0,J I f1,J I f2,J I f3,J I bo,J I wa,J I bu]] w fun e w'=>e=.returned (J3 false)/\Bl w w':=by
 go_enter func134,ntmps134
 go_wp2_with fail
 have c:Hid (Bl w (w.alloc (J5 #[J I f0,J I f1,J I f2,J I f3,J I bo,J I wa,J I bu] 35))):=znw w _;have B0:=BAt.new w f0 f1 f2 f3 bo wa bu;have a:w.heap.size<(w.alloc (J5 #[J I f0,J I f1,J I f2,J I f3,J I bo,J I wa,J I bu] 35)).heap.size:=by simp
 generalize w.alloc (J5 #[J I f0,J I f1,J I f2,J I f3,J I bo,J I wa,J I bu] 35)=w0 at *;obtain⟨p,q,r,s,t,u,v⟩:=id B0.cells;clear B0;have m:Bl w0 w0.drew:=(Below.refl _ _).drew
 go_region_with (go_at_call 164;refine (z6C (f0:=f0) (f1:=f1) (f2:=f2) (f3:=f3) (bo:=bo) (wa:=wa) (bu:=bu) (b _) a ?_).mono ?_;(simp[*]);rintro e n⟨rfl,x,y,z,A,B,C,D,k⟩)
 all_goals
  have o:Hid (Bl w n):=c.out.trans (k.mono (Nat.le_of_lt a));clear k;go_wp2;go_ret;exact⟨rfl,o.out⟩
theorem j4j(f0 f1 f2 f3 bo wa bu s:Int)(r:Bool)(w:World)(f:∀ w,(binOp .eql 35 (J4 #[J I f0,J I f1,J I f2,J I f3,J I bo,J I wa,J I bu]) (J4 #[J I f0,J I f1,J I f2,J I f3,J I bo,J I wa,J I bu])).run prog w=.ok (J3 true) w)
  (b:∀ w,Calls prog 164 #[J4 #[J I f0,J I f1,J I f2,J I f3,J I bo,J I wa,J I bu]] w fun e w'=>e=.returned (J4 #[J I f0,J I f1,J I f2,J I f3,J I bo,J I wa,J I bu])/\Bl w w')
  (hsum:∀ w,Calls prog 165 #[J4 #[J I f0,J I f1,J I f2,J I f3,J I bo,J I wa,J I bu]] w fun e w'=>e=.returned (J I s)/\Bl w w') (k:(s == 400000)=r) :
  Calls prog 134 #[J4 #[J I f0,J I f1,J I f2,J I f3,J I bo,J I wa,J I bu]] w fun e w'=>e=.returned (J3 r)/\Bl w w':=by
 go_enter func134,ntmps134
 go_wp2_with fail
 have c:Hid (Bl w (w.alloc (J5 #[J I f0,J I f1,J I f2,J I f3,J I bo,J I wa,J I bu] 35))):=znw w _;have B0:=BAt.new w f0 f1 f2 f3 bo wa bu;have a:w.heap.size<(w.alloc (J5 #[J I f0,J I f1,J I f2,J I f3,J I bo,J I wa,J I bu] 35)).heap.size:=by simp
 generalize w.alloc (J5 #[J I f0,J I f1,J I f2,J I f3,J I bo,J I wa,J I bu] 35)=w0 at *;obtain⟨l,m,n,o,p,q,t⟩:=id B0.cells;clear B0;have g:Bl w0 w0.drew:=(Below.refl _ _).drew
 go_region_held3 (fun w'=>w'.cell? ⟨w.heap.size,0,none⟩=some (J I f0)/\w'.cell? ⟨w.heap.size,1,none⟩=some (J I f1)/\w'.cell? ⟨w.heap.size,2,none⟩=some (J I f2)/\w'.cell? ⟨w.heap.size,3,none⟩=some (J I f3)/\w'.cell? ⟨w.heap.size,4,none⟩=some (J I bo)/\w'.cell? ⟨w.heap.size,5,none⟩=some (J I wa)/\w'.cell? ⟨w.heap.size,6,none⟩=some (J I bu)/\Bl w0 w') (go_keep)
  (first
   | (go_at_call 164;refine (z6C (f0:=f0) (f1:=f1) (f2:=f2) (f3:=f3) (bo:=bo) (wa:=wa) (bu:=bu) (b _) a ?_).mono ?_;(simp[*]);rintro e u⟨rfl,h⟩)
   | (go_at_call 165;refine (z6C (f0:=f0) (f1:=f1) (f2:=f2) (f3:=f3) (bo:=bo) (wa:=wa) (bu:=bu) (hsum _) a ?_).mono ?_;(simp[*]);rintro e i⟨rfl,d⟩))
 have j:Hid (Bl w i):=c.out.trans (d.2.2.2.2.2.2.2.mono (Nat.le_of_lt a));clear h d;go_wp2;go_ret;exact⟨rfl,j.out⟩
theorem j4C(n:Int):cl n=n↔0<=n/\n<=400000:=by
 unfold cl;omega
theorem z0p(f0 f1 f2 f3 bo wa bu:Int)(w:World):Calls prog 134 #[J4 #[J I f0,J I f1,J I f2,J I f3,J I bo,J I wa,J I bu]] w fun e w'=>e=.returned (J3 (z1I f0 f1 f2 f3 bo wa bu))/\Bl w w':=by
 have hc:=q3n f0 f1 f2 f3 bo wa bu;have a:=fun w=>eqB w (cl f0) (cl f1) (cl f2) (cl f3) (cl bo) (cl wa) (cl bu) f0 f1 f2 f3 bo wa bu
 by_cases h:cl f0=f0/\cl f1=f1/\cl f2=f2/\cl f3=f3/\cl bo=bo/\cl wa=wa/\cl bu=bu
 ·rw[decide_eq_true h]at a;obtain⟨h0,h1,h2,h3,b,c,d⟩:=h;rw[h0,h1,h2,h3,b,c,d]at hc a;rw[j4C]at h0 h1 h2 h3 b c d;refine j4j f0 f1 f2 f3 bo wa bu _ _ w a hc (j6R f0 f1 f2 f3 bo wa bu) ?_;rw[z0g (by omega) (by omega)]
  unfold z1I
  simp[h0,h1,h2,h3,b,c,d]
  rfl
 ·rw[decide_eq_false h]at a
  have f:z1I f0 f1 f2 f3 bo wa bu=false:=by
   unfold z1I;refine decide_eq_false fun g=>h ?_;simp only[j4C];exact⟨g.1,g.2.1,g.2.2.1,g.2.2.2.1,g.2.2.2.2.1,g.2.2.2.2.2.1,g.2.2.2.2.2.2.1⟩
  rw[f];exact j6o f0 f1 f2 f3 bo wa bu w _ _ _ _ _ _ _ a hc
theorem z1b{w wq:World}(R:BAt wq (w.heap.size+1) 0 0 0 0 0 0 0)(H:Bl w wq)(a r1 r2 c d f g h:Int)(act:Act)
  (k:act.tmps.getD 8 undef=J2 (some ⟨w.heap.size+1,0,none⟩)) (l:act.tmps.getD 9 undef=J I h) (hd:act.defers=[]) :
  bodyPost prog f145 (fun e w'=>e=.returned (.tuple #[J4 #[J I a,J I r1,J I r2,J I c,J I d,J I f,J I g],J I h])/\Bl w w') Exit.ret act
   (z7i wq (w.heap.size+1) a r1 r2 c d f g):=by
 have HR:=R.z7i a r1 r2 c d f g;have HW:=z3t (b:=w.heap.size+1) H (by omega) a r1 r2 c d f g
 generalize z7i wq (w.heap.size+1) a r1 r2 c d f g=w9 at *;obtain⟨m,u1,u2,n,o,p,q⟩:=HR.cells;have i:act.tmps[8]?.getD undef=J2 (some ⟨w.heap.size+1,0,none⟩):=by simpa using k
 have j:act.tmps[9]?.getD undef=J I h:=by simpa using l
 exact bodyPost_ret (v:=.tuple #[J4 #[J I a,J I r1,J I r2,J I c,J I d,J I f,J I g],J I h]) (by simp[results,results145,go_sem,i,j,m,u1,u2,n,o,p,q]) hd ⟨rfl,HW⟩
theorem z1F{w w1:World}{f0 f1 f2 f3 bo wa bu:Int}(hb:Below ((w.alloc (J5 #[J I f0,J I f1,J I f2,J I f3,J I bo,J I wa,J I bu] 35)).alloc (J5 #[J I 0,J I 0,J I 0,J I 0,J I 0,J I 0,J I 0] 35)).heap.size ((w.alloc (J5 #[J I f0,J I f1,J I f2,J I f3,J I bo,J I wa,J I bu] 35)).alloc (J5 #[J I 0,J I 0,J I 0,J I 0,J I 0,J I 0,J I 0] 35)) w1):BAt w1 w.heap.size f0 f1 f2 f3 bo wa bu/\BAt w1 (w.heap.size+1) 0 0 0 0 0 0 0/\Hid (Bl w w1):=by
 refine⟨((BAt.new w f0 f1 f2 f3 bo wa bu).alloc (J5 #[J I 0,J I 0,J I 0,J I 0,J I 0,J I 0,J I 0] 35)).later hb (by simp;omega),?_,((znw w _).alloc (by simp) _).trans (hb.mono (by simp;omega))⟩
 have:=(BAt.new (w.alloc (J5 #[J I f0,J I f1,J I f2,J I f3,J I bo,J I wa,J I bu] 35)) 0 0 0 0 0 0 0).later hb (by simp)
 simpa using this
theorem y1n(w:World)(a:Option Addr)(n c:Nat):(binOp .eql 41 (J1 a n c) (J1 none 0 0)).run prog w=.ok (J3 a.isNone) w:=by
 simp[binOp,run_equal_slice_nil w 41 63 a n c underlying41]
theorem j1h(c:Nat)(w:World):Calls prog 38 #[J1 none 0 c] w fun e w'=>e=.returned (J1 none 0 0)/\w=w':=by
 have a:=fun w=>y1n w none 0 c
 go_enter func38,ntmps38
 go_wp2;go_ret;exact⟨rfl,rfl⟩
theorem j7E(W:List Wt):∀ u∈wsL W,u.oneCell'=true:=by
 intro u hu;obtain⟨x,_,a⟩:=List.mem_flatMap.1 hu
 simp[wtL]at a
 rcases a with rfl | rfl | rfl | rfl | rfl | rfl | rfl | rfl <;> rfl
theorem j8l(w:World):(w.alloc (J5 #[] 63)).ownsRow w.heap.size 63 8 (J1 (some ⟨w.heap.size,0,none⟩) 0 0) 0 []:=⟨rfl,.inr ⟨w.heap.size,0,#[],rfl,Nat.le_refl _,heap_alloc_new _ _,Nat.le_refl _,Nat.zero_le _,rfl,rfl⟩⟩
theorem j2U(w:World)(a:Addr)(c sb so:Nat)(W:List Wt)(d:z2L w (some a) sb so W) :
  ∃ A C w',(Builtin.append_ #[41,41] 41 #[J1 (some ⟨w.heap.size,0,none⟩) 0 0,J1 (some a) W.length c]).run prog (w.alloc (J5 #[] 63))=.ok (J1 A W.length C) w'/\z2C w.heap.size w' A C W/\Bl w w':=by
 obtain⟨i0,m,e,f,h⟩:=info_parts j0m;have s:=d.len
 obtain⟨v',w',n,i,b,-,o⟩:=run_append_own_at (P:=prog) (w.alloc (J5 #[] 63)) w.heap.size 41 41 63 i0 _ 8 64 underlying41 m e f h rfl (by omega) _ 0 [] (j8l w) a W.length c (wsL W) (z1K W)
  (fun j u l=>by
   have h0:0<W.length:=by
    have:=(List.getElem?_eq_some_iff.1 l).1;rw[z1K]at this;omega
   have p:=d.adr h0;cases p;rw[Addr.add_lit]
   exact q3K (d.over (znw w _)) j u l) (j7E W) (by simp only[maxLen];omega) (by omega) (by simp)
 rw[Nat.zero_add,List.nil_append]at i
 have q:∃ A C,v'=J1 A W.length C:=by
  rcases i.2 with⟨rfl,h0⟩ | ⟨g,cap,cur,rfl,_⟩
  ·rw[h0];exact⟨none,0,rfl⟩
  ·exact⟨_,_,rfl⟩
 obtain⟨A,C,rfl⟩:=q;refine⟨A,C,w',n,i,?_⟩;have hb:=(Below.refl w.heap.size w).alloc (Nat.le_refl _) (J5 #[] 63);exact⟨b.os.trans hb.os,b.tape.trans hb.tape,b.output.trans hb.output,Nat.le_trans hb.size b.size,fun k r=>(b.block k (by simp;omega) (by simp[Value.ownBlock];omega)).trans (hb.block k r)⟩
theorem q7p{ops:Array Oper}{rest:List Oper}{o:Oper}{a:Act}{w:World}{Q:Exit->Act->World->Prop}(f:o.guard=none)(b:o.type=41)(p q:Operand)
  (d:o.op=Op.call { callee:=Callee.builtin Builtin.append,args:=#[p,q],argTypes:=#[41,41] }) (ad:Addr) (c sb so:Nat) (W:List Wt) (hs:a.eval p=J1 (some ⟨w.heap.size,0,none⟩) 0 0) (g:a.eval q=J1 (some ad) W.length c) (h:z2L w (some ad) sb so W)
  (i:∀ A C w',z2C w.heap.size w' A C W/\Bl w w'->wpList prog ops Q rest (a.put o.dst (J1 A W.length C)) w'):wpList prog ops Q (o :: rest) a (w.alloc (J5 #[] 63)):=by
 refine wpList_plain f fun _ e=>?_;unfold Oper.wp;obtain⟨A,C,w',j,h1⟩:=j2U w ad c sb so W h
 simp[execOp,d,resolve,invoke,builtin,hs,g,b,j,Result.andThen]
 exact e _ _ (i _ _ _ h1)
theorem q6y(a:Addr)(W:List Wt)(c sb so:Nat)(w:World)(b:z2L w (some a) sb so W):Calls prog 38 #[J1 (some a) W.length c] w fun e w'=>∃ A C,e=.returned (J1 A W.length C)/\z2C w.heap.size w' A C W/\Bl w w':=by
 have g:=fun w=>y1n w (some a) W.length c
 go_enter func38,ntmps38
 go_upto_region 3 with fail
 apply wp_region_lit
 iterate 6 go_step
 refine q7p rfl rfl _ _ rfl a c sb so W rfl rfl b ?_;rintro A C w'⟨h1,h2⟩;have d:=J6 h1;have f:=J6 h2;clear h1 h2;go_wp2;go_ret;exact⟨A,C,rfl,d.out,f.out⟩
theorem z4e(ao:Option Addr)(W:List Wt)(c sb so:Nat)(w:World)(b:z2L w ao sb so W):Calls prog 38 #[J1 ao W.length c] w fun e w'=>∃ A C,e=.returned (J1 A W.length C)/\z2C w.heap.size w' A C W/\Bl w w':=by
 cases ao with
 | some a=>exact q6y a W c sb so w b
 | none =>
  have h0:W.length=0:=by
   rcases Nat.eq_zero_or_pos W.length with h0 | h0
   ·exact h0
   ·have:=b.adr h0;cases this
  obtain rfl:W=[]:=List.length_eq_zero_iff.1 h0;refine (j1h c w).mono ?_;rintro e w'⟨rfl,rfl⟩;exact⟨none,0,rfl,⟨rfl,.inl ⟨rfl,rfl⟩⟩,Below.refl _ _⟩
theorem j2G(g cap:Nat)(l:List Pw)(w:World)(h:z1W w g l)(hn:l.length<=12) :
  Calls prog 175 #[J1 (some ⟨g,0,none⟩) l.length cap,J I 0,J I (l.length:Int),.func (.func 113) #[] #[]] w fun e w'=>e=.returned (.tuple #[])/\z1W w' g (z2U ltP l)/\z3q g w w':=by
 have C:=J6 h;clear h
 go_enter func175,ntmps175
 go_wp2
 go_loopw [8] (fun i wl=>∃ m:Nat,i=J I ((m:Int)+1)/\(m+1<=l.length∨m=0)/\Hid (z1W wl g (z1D ltP l m)/\z3q g w wl)) (fun i _=>l.length - (intOf i).toNat)
 case atStart=>exact⟨0,rfl,.inr rfl,C.out,z3q.refl _ _⟩
 case round =>
  obtain⟨m,rfl,T,HR⟩:=hrel
  by_cases U:m+1<l.length
  ·rename World=>wo
   have L:(m:Int)+1<(l.length:Int):=by omega
   go_wp2_with fail
   go_loopw [9] (fun j wl=>∃ (p:Nat) (a:List Pw),j=J I (p:Int)/\p<=m+1/\a.length=l.length/\Hid (z8B ltP (m+1) (z1D ltP l m)=z8B ltP p a/\z1W wl g a/\z3q g w wl)) (fun j _=>(intOf j).toNat)
   case atStart=>exact⟨m+1,z1D ltP l m,by go_num,Nat.le_refl _,z1Z _ _ _,rfl,HR.out⟩
   case round =>
    obtain⟨p,a,rfl,hp,D,d⟩:=hrel;have V:w.heap.size<=wr.heap.size:=d.out.2.2.size;cases p with
    | zero =>
     have E:decide ((0:Int)<0)=false:=by decide
     go_upto_region 4 with fail
     go_quiet (fail);go_wp2;go_roundw
     case rel=>exact⟨m+1,by go_num,.inl (by omega),(by rw[z1D,d.out.1];exact d.out.2.1),(show z3q g w (wr.drewN nq) from d.out.2.2.drewN nq)⟩
     case measure=>simp[intOf];omega
    | succ p =>
     have o:p+1<a.length:=by omega
     obtain⟨c0,c1⟩:=d.out.2.1.cell (i:=p+1) o;obtain⟨W,X⟩:=d.out.2.1.cell (i:=p) (by omega)
     have M:=q2R (a.getD (p+1) pz) (a.getD p pz);have F:=d.out.2.1.lt;have s:Hid (z8B ltP (m+1) (z1D ltP l m)=if ltP (a.getD (p+1) pz) (a.getD p pz)=true then z8B ltP p (swapAt a p) else a):=d.out.1;have k:Hid (ltP (a.getD (p+1) pz) (a.getD p pz)=decide (j8F (a.getD (p+1) pz) (a.getD p pz)<0)):=rfl;have c:=J6 d.out.2;clear d;generalize j8F (a.getD (p+1) pz) (a.getD p pz)=r at *;generalize N:a.getD (p+1) pz=A at *;generalize P:a.getD p pz=B at *;have Y:=J6 N;have Z:=J6 P;clear N P;have a0:IntKind.i64.wrap (((p+1:Nat):Int) - 1)=(p:Int):=by rw[show ((p+1:Nat):Int) - 1=(p:Int) by omega];exact z5z (by omega) (by omega)
     generalize Q:p+1=q at *;have n:=J6 Q;clear Q;have a1:(0:Int)<=(q:Int):=by omega
     have a2:(q:Int)<(l.length:Int):=by omega
     have a3:(0:Int)<=(p:Int):=by omega
     have a4:(p:Int)<(l.length:Int):=by have:=n.out;omega
     have E:decide (0<q)=true:=by have:=n.out;simp;omega
     go_upto_region 4 with fail
     go_region_held3 (fun z=>z.cell? ⟨g,q * 2,none⟩=some (J I A.1)/\z.cell? ⟨g,q * 2+1,none⟩=some (J I A.2)/\z.cell? ⟨g,p * 2,none⟩=some (J I B.1)/\z.cell? ⟨g,p * 2+1,none⟩=some (J I B.2)) (first | go_keep | (refine⟨?_,?_,?_,?_⟩ <;> (rw[f.cell F];simp[*])))
      (first | (go_at_call 113;refine (M _).mono ?_;rintro e w1⟨rfl,f⟩))
     rename_i hh;obtain⟨a5,a6,a7,a8⟩:=hh;have b:=c.out.1.later (w':=w1) (show Bl wr w1 from ((Below.refl _ wr).drew.trans f));have t:z3q g w w1:=c.out.2.trans (z3q.of_below (show Bl wr w1 from ((Below.refl _ wr).drew.trans f)));have u:=J6 b;have v:=J6 t;have f0:=b.free (q * 2);have f1:=b.free (q * 2+1);have f2:=b.free (p * 2);have f3:=b.free (p * 2+1);clear b t f c0 c1 W X c M
     by_cases R:r<0
     ·have hd:decide (r<0)=true:=by simpa using R
      rw[hd];have G:=n.out;have n1:¬ p=q:=by omega
      have n2:¬ q=p:=by omega
      have n3:¬ p * 2=q * 2+1:=by omega
      have n4:¬ q * 2=p * 2+1:=by omega
      have n5:¬ p * 2+1=q * 2:=by omega
      have n6:¬ q * 2+1=p * 2:=by omega
      have n7:¬ p * 2=q * 2:=by omega
      have n8:¬ q * 2=p * 2:=by omega
      clear G
      go_upto_region 6 with fail
      go_region;have x:(a.set q B).set p A=swapAt a p:=by rw[swapAt,n.out,Y.out,Z.out]
      have H:Hid (z1W (((((w1.setCell ⟨g,q * 2,none⟩ (J I B.1)).setCell ⟨g,q * 2+1,none⟩ (J I B.2)).setCell ⟨g,p * 2,none⟩ (J I A.1)).setCell ⟨g,p * 2+1,none⟩ (J I A.2)).drew) g (swapAt a p)):=by
       rw[<- x];exact (u.out.put o B).put (by simp;omega) A
      have K:Hid (z3q g w (((((w1.setCell ⟨g,q * 2,none⟩ (J I B.1)).setCell ⟨g,q * 2+1,none⟩ (J I B.2)).setCell ⟨g,p * 2,none⟩ (J I A.1)).setCell ⟨g,p * 2+1,none⟩ (J I A.2)).drew)):=((((v.out.set _ _).set _ _).set _ _).set _ _).drew;have y:Hid (z8B ltP (m+1) (z1D ltP l m)=z8B ltP p (swapAt a p)):=by rw[s.out,k.out,hd];exact if_pos rfl
      clear x;generalize ((((w1.setCell ⟨g,q * 2,none⟩ (J I B.1)).setCell ⟨g,q * 2+1,none⟩ (J I B.2)).setCell ⟨g,p * 2,none⟩ (J I A.1)).setCell ⟨g,p * 2+1,none⟩ (J I A.2)).drew=w2 at *;go_wp2;go_roundw
      case rel=>exact⟨p,swapAt a p,rfl,by have:=n.out;omega,(by rw[z3D];exact D),y.out,H.out,K.out⟩
      case measure=>have:=n.out;simp[intOf];omega
     ·have hd:decide (r<0)=false:=by simpa using R
      rw[hd];have y:Hid (z8B ltP (m+1) (z1D ltP l m)=a):=by rw[s.out,k.out,hd];exact if_neg (by simp)
      go_wp2;go_roundw
      case rel=>exact⟨m+1,by go_num,.inl (by omega),(by rw[z1D,y.out];exact u.out),v.out⟩
      case measure=>simp[intOf];omega
  ·have S:z2U ltP l=z1D ltP l m:=by
    unfold z2U
    rcases T with h | rfl
    ·rw[show l.length - 1=m by omega]
    ·rcases (show l.length=0∨l.length=1 by omega) with h | h <;> rw[h]
   have y:=J6 S;clear S;go_wp2;go_end0;exact⟨rfl,by rw[y.out];exact HR.out.1,HR.out.2⟩
end
namespace Wd
open Go.ChangeShapes Go.WideShapes Go.ChangeAt Go.RowKit Go.Deep Pv
def ddL(x:Dd):List Value:=[J I x.k,J I x.c,J I x.d,J I x.v,J I x.n,J3 x.b,J3 x.f]
structure z7p(w:World)(ao:Option Addr)(b off:Nat)(l:List Dd):Prop where
 adr:0<l.length->ao=some ⟨b,off,none⟩
 len:l.length<=maxLen
 cell:∀ (i:Nat) (x:Dd),l[i]?=some x->w.rangeAt b (off+i * 7) (ddL x)
def j5j(v:Value):Sem Value:=Instr.loadAt 28 v
theorem z8i(v:Value):Instr.loadAt 28 v=j5j v:=rfl
theorem j6z{β:Type}{p:Nat->β->Prop}(d:β){n:Nat}(h:∀ i,i<n->∃ y,p i y):∃ f:Nat->β,∀ i,i<n->p i (f i):=by
 refine⟨fun i=>if a:i<n then Classical.choose (h i a) else d,fun i a=>?_⟩;simp only[dif_pos a];exact Classical.choose_spec (h i a)
theorem cI':prog.cellsOf 3=1:=by kernel_rfl
theorem cT':prog.cellsOf 4=1:=by kernel_rfl
theorem cDd:prog.cellsOf 28=7:=by kernel_rfl
section
variable {H:Type} {enc:TypeId×Value->H} {W:World}
theorem j5G{m:Nat}{l:List Value}{y:DataW H×List MemPlace}(h:DataW.trod enc prog W 0 (fun _=>true) true m 28 l=some y):∃ x:Dd,l=ddL x:=by
 obtain⟨t,n,_,_,c,b,a⟩:=DataW.trod_struct underlying28 h;rw[cDd]at c
 match l,c with
 | [a0,a1,a2,a3,a4,a5,a6],_ =>
  match t,b with
  | [y0,y1,y2,y3,y4,y5,y6],_ =>
   have t0:=a 0 _ rfl;have t1:=a 1 _ rfl;have d:=a 2 _ rfl;have e:=a 3 _ rfl;have f:=a 4 _ rfl;have g:=a 5 _ rfl;have i:=a 6 _ rfl
   simp[cI',cT']at t0 t1 d e f g i
   obtain⟨q0,j,_⟩:=DataW.trod_int underlying3 t0;obtain⟨q1,k,_⟩:=DataW.trod_int underlying3 t1;obtain⟨q2,o,_⟩:=DataW.trod_int underlying3 d;obtain⟨q3,p,_⟩:=DataW.trod_int underlying3 e;obtain⟨u,q,_⟩:=DataW.trod_int underlying3 f;obtain⟨v,r,_⟩:=DataW.trod_bool underlying4 g;obtain⟨w,s,_⟩:=DataW.trod_bool underlying4 i
   simp at j k o p q r s
   subst j k o p q r s;exact⟨⟨q0,q1,q2,q3,u,v,w⟩,rfl⟩
theorem z6V{r:Reach}{b0:Nat}{v:Value}{d:DataW H}{p:List MemPlace}(m:Value.okWide prog W r b0 22 v)(h:DataW.Trod enc prog W 0 (fun _=>true) true 22 v d p) :
  ∃ (l:List Dd) (ao:Option Addr) (c b off:Nat),v=J1 ao l.length c/\z7p W ao b off l/\(ao=none->c=0)/\l.length<=c:=by
 obtain⟨a,len,cap,rfl⟩:=okWide_slice underlying22 m;obtain⟨u,w⟩:=h
 rcases open_slice underlying22 w with⟨h0,_⟩ | ⟨a,len',cap',k,n,D,Pl,hcs,_,hlc,hmx,hk,hy,hx⟩
 ·simp[Value.cells]at h0
  obtain⟨rfl,rfl,rfl⟩:=h0;exact⟨[],none,0,0,0,rfl,⟨fun h=>absurd h (by simp),by simp,fun i x h=>by simp at h⟩,fun _=>rfl,Nat.le_refl _⟩
 simp[Value.cells]at hcs
 obtain⟨rfl,rfl,rfl⟩:=hcs;simp only[if_true]at hk;subst hk;rw[cDd]at hx
 obtain⟨g,y⟩:=j6z (n:=k) (p:=fun i (x:Dd)=>W.cells? 0 (a.add (i * 7)) 7=some (ddL x)) ⟨0,0,0,0,0,false,false⟩ (fun i o=>by
  obtain⟨cs',h1,h2⟩:=hx i o;obtain⟨x,rfl⟩:=j5G h2
  exact⟨x,h1⟩)
 have e:((List.range len).map g).length=len:=by simp
 by_cases h0:len=0
 ·subst h0;exact⟨[],some a,k,0,0,rfl,⟨fun h=>absurd h (by simp),by simp,fun i x h=>by simp at h⟩,(fun h=>by cases h),Nat.zero_le _⟩
 have hcell:∀ i,i<k->∀ j v,(ddL (g i))[j]?=some v->W.cell? ((a.add (i * 7)).add j)=some v:=fun i o j v m=>by
  obtain⟨_,s,hc⟩:=World.cells?_some (y i o);have z:j<7:=by have:=(List.getElem?_eq_some_iff.1 m).1;simpa [ddL] using this
  rw[hc j z];exact m
 obtain⟨b,off,q⟩:=a
 have f:q=none:=by
  have:=hcell 0 (by omega) 0 _ rfl
  simpa [Addr.add] using World.cell?_spot this
 subst f;refine⟨(List.range len).map g,some ⟨b,off,none⟩,k,b,off,by rw[e],⟨fun _=>rfl,by rw[e];omega,fun i x o=>?_⟩,(fun h=>by cases h),by rw[e];omega⟩
 have t:i<len:=by have:=(List.getElem?_eq_some_iff.1 o).1;simpa using this
 obtain rfl:g i=x:=by simpa [t] using o
 have hc:=hcell i (by omega)
 simp only[Addr.add_lit]at hc;intro j v m;exact hc j v m
end
end Wd
end Go.Proofs.YtddlhnoedldidaaGreat
