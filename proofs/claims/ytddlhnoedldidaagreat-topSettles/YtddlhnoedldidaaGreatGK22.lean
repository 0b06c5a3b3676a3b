/- Parts of the proof. -/
import Derived.Test.YtddlhnoedldidaaGreatGL
import Derived.Test.YtddlhnoedldidaaGreatGK23
import Derived.RowKit3
set_option maxRecDepth 100000
set_option maxHeartbeats 16000000
namespace Go.Proofs.YtddlhnoedldidaaGreat
open Go.Proofs.Tryz
open Value renaming int->J,slice->J1,pointer->J2,bool->J3,agg->J4
open IntKind renaming i64->I
open Obj renaming cells->J5
section
open Go.RowKit
theorem q1C{S:Nat->Nat->Int}{v:Nat}:∀ j,z3G S v j=true->0<=psh S v j/\psh S v j<=1125899906842624 * (j:Int)
 | 0,_=>by simp[psh]
 | j+1,h=>by
  simp only[z3G,Bool.and_eq_true,z0I]at h;have h1:=q1C j h.1;have h2:=h.2;simp only[psh];omega
theorem q5n{S:Nat->Nat->Int}{v j:Nat}{x:Int}(b:j<4)(a:inA (S j v)=false):q5h S v x=false:=by
 unfold q5h
 rcases (show j=0∨j=1∨j=2∨j=3 by omega) with rfl | rfl | rfl | rfl <;> simp[z3G,a]
theorem j1R{S:Nat->Nat->Int}{v:Nat}{x:Int}(h:z3G S v 4=true):q5h S v x=decide (psh S v 4=x):=by
 unfold q5h;rw[h,Bool.true_and]
theorem z8F(s:St)(sl:Value)(b v:Nat)(k:v<6)(w:World)(h:SAt w b (stC s sl)) :
  Calls prog 137 #[J2 (some ⟨b,0,none⟩),J I (v:Int)] w fun e w'=>e=.returned (J3 (q5h s.S v (s.V v).sh))/\w=w':=by
 have m:Hid (SAt w b (stC s sl)):=h;have n:(v:Int)<6:=by omega
 obtain⟨_,o,_⟩:=h.val v k;clear h
 go_enter func137,ntmps137
 go_wp2
 go_loop [5,8] (fun p i=>∃ (j:Nat),j<=4/\i=J I (j:Int)/\p=J I (psh s.S v j)/\Hid (z3G s.S v j=true)) (fun _ i=>(4 - intOf i).toNat)
 case atStart=>exact⟨0,by omega,rfl,rfl,rfl⟩
 case round =>
  obtain⟨j,t,rfl,rfl,HR⟩:=hrel
  by_cases c:j<4
  ·have l:(j:Int)<4:=by omega
   have hc:=m.out.shr j v c k;have i1:=z5I (s.S j v);have q:=q1C j HR.out
   by_cases a:inA (s.S j v)=true
   ·rw[a]at i1;have f:Hid (z3G s.S v (j+1)=true):=by show (z3G s.S v j && inA (s.S j v))=true;rw[HR.out,a];rfl
    rw[z0I]at a;have d:psh s.S v (j+1)=psh s.S v j+s.S j v:=rfl;have r:Hid (psh s.S v (j+1)=psh s.S v j+s.S j v):=d;clear d
    go_wp2_with (go_at_call 142;refine (i1 _).mono ?_;rintro e w5⟨rfl,rfl⟩)
    go_round
    case rel=>exact⟨j+1,by omega,by go_num,by rw[r.out],f.out⟩
    case measure=>simp[intOf];omega
   ·simp only[Bool.not_eq_true]at a;rw[a]at i1;have g:Hid (q5h s.S v (s.V v).sh=false):=q5n c a;clear a
    go_wp2_with (go_at_call 142;refine (i1 _).mono ?_;rintro e w5⟨rfl,rfl⟩)
    go_ret;exact⟨by rw[g.out];rfl,rfl⟩
  ·obtain rfl:j=4:=by omega
   have g:Hid (q5h s.S v (s.V v).sh=decide (psh s.S v 4=(s.V v).sh)):=j1R HR.out;go_wp2;go_ret;exact⟨by rw[g.out];congr 1,rfl⟩
theorem z9y{V:Nat->Vd}:∀ k,(∀ i,i<k->inA (V i).tok=true)->0<=z8C V k/\z8C V k<=1125899906842624 * (k:Int)
 | 0,_=>by simp[z8C]
 | k+1,h=>by
  have h1:=z9y k (fun i a=>h i (by omega))
  have h2:=z0I.1 (h k (by omega))
  simp only[z8C]at *;omega
theorem z7Q{V:Nat->Vd}:∀ k,(∀ i,i<k->inA (V i).lost=true)->0<=z3S V k/\z3S V k<=1125899906842624 * (k:Int)
 | 0,_=>by simp[z3S]
 | k+1,h=>by
  have h1:=z7Q k (fun i a=>h i (by omega))
  have h2:=z0I.1 (h k (by omega))
  simp only[z3S]at *;omega
theorem q8W{W:List Wt}{k:Nat}{x:Wt}(h:W[k]?=some x):z2V (W.take (k+1))=z2V (W.take k)+x.amt:=by
 have a:=(List.getElem?_eq_some_iff.1 h).1;rw[List.take_succ_eq_append_getElem a];have e:W[k]=x:=by simpa [List.getElem?_eq_getElem a] using h
 rw[e];generalize W.take k=l
 induction l with
 | nil=>simp[z2V]
 | cons y r ih=>simp only[List.cons_append,z2V,ih];omega
theorem z9t:∀ {l:List Wt},(∀ x∈l,inA x.amt=true)->0<=z2V l/\z2V l<=1125899906842624 * (l.length:Int)
 | [],_=>by simp[z2V]
 | x :: r,h=>by
  have h1:=z9t (l:=r) (fun y a=>h y (List.mem_cons_of_mem _ a));have h2:=z0I.1 (h x List.mem_cons_self);simp only[z2V,List.length_cons];omega
theorem z8D(s:St)(ao:Option Addr)(sb so c b:Nat)(w:World)(h:SAt w b (stC s (J1 ao s.W.length c)))(G:z2L w ao sb so s.W)(hl:s.W.length<=60)
  (H:∀ i,i<6->inA (s.V i).tok=true/\inA (s.V i).lost=true) (K:∀ x∈s.W,inA x.amt=true) :
  Calls prog 138 #[J2 (some ⟨b,0,none⟩)] w fun e w'=>e=.returned (J3 (bal s))/\Bl w w':=by
 have L:Hid (SAt w b (stC s (J1 ao s.W.length c))):=h;have q:Hid (∀ i,i<6->inA (s.V i).tok=true/\inA (s.V i).lost=true):=H;have M:Hid (∀ x∈s.W,inA x.amt=true):=K;have HW:Hid (z2L w ao sb so s.W):=G;have j:=j8D h;have m:b<w.heap.size:=h.lt;clear H K h G
 go_enter func138,ntmps138
 go_upto_region 2 with fail
 apply wp_region_lit
 iterate 9 go_step
 refine wpList_load_mid rfl 38 _ rfl b 7 rfl _ _ j underlying38 rfl (by rw[j4A];rfl) ?_
 clear j
 go_wp2_with fail
 go_loopw [3,4,14] (fun S T i wl=>∃ k:Nat,k<=6/\i=.int .i64 (k:Int)/\S=.int .i64 (z8C s.V k)/\T=.int .i64 (z3S s.V k)/\Hid (Bl w wl)) (fun _ _ i _=>(6 - intOf i).toNat)
 case atStart=>exact⟨0,by omega,rfl,rfl,rfl,Below.refl _ _⟩
 case round =>
  obtain⟨k,N,rfl,rfl,rfl,n⟩:=hrel;have o:w.heap.size<=wr.heap.size:=n.out.size
  by_cases f:k<6
  ·have U:=fun w=>ixV w s.V k f;have b1:=z9y (V:=s.V) k (fun i X=>(q.out i (by omega)).1)
   have b2:=z7Q (V:=s.V) k (fun i X=>(q.out i (by omega)).2)
   have b3:=z0I.1 (q.out k f).1;have b4:=z0I.1 (q.out k f).2;have t:Hid (z8C s.V (k+1)=z8C s.V k+(s.V k).tok):=rfl;have Y:Hid (z3S s.V (k+1)=z3S s.V k+(s.V k).lost):=rfl
   go_wp2_with fail
   go_roundw
   case rel=>exact⟨k+1,by omega,by go_num,by rw[t.out],by rw[Y.out],n.out.alloc o _⟩
   case measure=>simp[intOf];omega
  ·obtain rfl:k=6:=by omega
   rename World=>w1
   have g:=L.out.later n.out m;obtain⟨u,v,z,A,P,Q,R,B,C⟩:=z0u g;have D:Hid (SAt w1 b (stC s (J1 ao s.W.length c))):=g;have E:Hid (z2L w1 ao sb so s.W):=HW.out.over n.out;have d:=HW.out.adr;clear u v z A P Q R C g L HW
   go_wp2_with fail
   clear B
   go_loopw [5,31] (fun Z i wl=>∃ k:Nat,k<=s.W.length/\i=.int .i64 (k:Int)/\Z=.int .i64 (z2V (s.W.take k))/\Hid (Bl w1 wl)) (fun _ i _=>s.W.length - (intOf i).toNat)
   case atStart=>exact⟨0,by omega,rfl,rfl,Below.refl _ _⟩
   case round =>
    obtain⟨k,N,rfl,rfl,a⟩:=hrel;have p:w1.heap.size<=wr.heap.size:=a.out.size
    by_cases F:k<s.W.length
    ·obtain⟨x,r,_⟩:=drop_at F;obtain⟨c0,c1,c2,c3,c4,c5,c6,c7⟩:=(E.out.over a.out).cell k x r;have t:Hid (z2V (s.W.take (k+1))=z2V (s.W.take k)+x.amt):=q8W r;have b1:=z9t (l:=s.W.take k) (fun y hy=>M.out y (List.mem_of_mem_take hy));rw[List.length_take,Nat.min_eq_left N]at b1;have b2:=z0I.1 (M.out x (List.mem_of_getElem? r));obtain rfl:=d (by omega)
     clear d r
     go_wp2_with fail
     go_roundw
     case rel=>exact⟨k+1,by omega,by go_num,by rw[t.out],a.out.alloc p _⟩
     case measure=>simp[intOf];omega
    ·have g:=D.out.later a.out (by omega)
     obtain⟨u,v,z,A,P,Q,R,B,C⟩:=z0u g;have HF:Hid (bal s=(decide (z8C s.V 6=s.b.bo) && decide (z2V (s.W.take k)=s.b.wa) && decide (z3S s.V 6=s.b.bu))):=by rw[List.take_of_length_le (by omega)];exact rfl
     clear u v z A B C g;generalize z8C s.V 6=pt at *;generalize z3S s.V 6=pl at *;generalize z2V (s.W.take k)=pa at *
     go_wp2_with fail
     all_goals (go_ret;refine⟨?_,n.out.trans (a.out.mono o)⟩;rw[HF.out];congr 1;congr 1;first | (simp_all;done) | (simp_all;rfl))
end
namespace Ra
open Go.RowKit
theorem q6V(hi lo y Y d y0 H L u N u1 n x v j:Int)(s:Nat)(h0:0<hi)(h1:hi<y)(d0:1<=s)(d3:s<=63)
  (eY:IntKind.u64.wrap (y * 2 ^ s)=Y) (b8:Y / 4294967296=d) (b9:bits .and .u64 Y 4294967295=y0)
  (eH:IntKind.u64.wrap (hi * 2 ^ s)=H) (eL:lo / 2 ^ (64 - s)=L) (eu:bits .or .u64 H L=u)
  (eN:IntKind.u64.wrap (lo * 2 ^ s)=N) (c4:N / 4294967296=u1) (c5:bits .and .u64 N 4294967295=n)
  (l:0<=y0) (g:y0<4294967296) (a9:2147483648<=d) (Z:d<4294967296) (bu:0<=u) (HY:Hid (Y=d * 4294967296+y0)) (HU:Hid (u<d * 4294967296+y0))
  (a3:0<=u1) (b4:u1<4294967296) (Q:0<=n) (b5:n<4294967296)
  (W:Hid (x=(u * 4294967296+u1) / (d * 4294967296+y0))) (a4:Hid (v=(u * 4294967296+u1) % (d * 4294967296+y0))) (o:Hid (j=(v * 4294967296+n) / (d * 4294967296+y0)))
  (c:∀ w,Calls prog 191 #[.int .u64 y] w fun e w'=>e=.returned (.int .i64 s)/\w'=w) (w:World) :
  Calls prog 167 #[.int .u64 hi,.int .u64 lo,.int .u64 y] w fun e w'=>∃ r,e=.returned (.tuple #[.int .u64 (x * 4294967296+j),.int .u64 r])/\Bl w w':=by
 have t1:(y == 0)=false:=by simp;omega
 have t2:¬ y<=hi:=by omega
 have t3:(hi == 0)=false:=by simp;omega
 have t4:¬ d=0:=by omega
 have bR:0<=v:=by rw[a4.out];exact Int.emod_nonneg _ (by omega)
 have HR:Hid (v<d * 4294967296+y0):=by show _<_;rw[a4.out];exact Int.emod_lt_of_pos _ (by omega)
 obtain⟨t,a0,M,p0,p1,d1⟩:=Dig.first d y0 u u1 x l g a9 Z bu HU.out a3 b4 W.out
 obtain⟨f,b0,b1,v0,v1,d2⟩:=Dig.first d y0 v n j l g a9 Z bR HR.out Q b5 o.out
 have ed:u.tdiv d=u / d:=Int.tdiv_eq_ediv_of_nonneg bu;have c6:v.tdiv d=v / d:=Int.tdiv_eq_ediv_of_nonneg bR;have bU:u<18446744073709551616:=by have:=HU.out;omega
 have d4:v<18446744073709551616:=by have:=HR.out;omega
 have gd:0<=u / d/\u / d<=4294967297:=⟨t.2.2.1,t.2.2.2.1⟩;have gm:0<=u % d/\u % d<4294967296:=⟨t.2.2.2.2.1,t.2.2.2.2.2⟩;have c7:0<=v / d/\v / d<=4294967297:=⟨f.2.2.1,f.2.2.2.1⟩;have c8:0<=v % d/\v % d<4294967296:=⟨f.2.2.2.2.1,f.2.2.2.2.2⟩
 -- what the text reckons between the loops
 obtain⟨A,eA⟩:∃ A,IntKind.u64.wrap (u * 4294967296)=A:=⟨_,rfl⟩;obtain⟨B,eB⟩:∃ B,IntKind.u64.wrap (A+u1)=B:=⟨_,rfl⟩;obtain⟨C,eC⟩:∃ C,IntKind.u64.wrap (x * Y)=C:=⟨_,rfl⟩
 have eD:IntKind.u64.wrap (B - C)=v:=by
  have e:=Int.mul_ediv_add_emod (u * 4294967296+u1) (d * 4294967296+y0);rw[<- a4.out,<- W.out,<- HY.out,Int.mul_comm Y x]at e;rw[<- eB,<- eC,<- eA];simp only[IntKind.wrap_u64];generalize x * Y=z at *;omega
 obtain⟨E1,eE⟩:∃ E,IntKind.u64.wrap (x * 4294967296)=E:=⟨_,rfl⟩
 have eF:IntKind.u64.wrap (E1+j)=x * 4294967296+j:=by
  rw[<- eE];simp only[IntKind.wrap_u64];omega
 obtain⟨q,hq⟩:∃ q,u / d=q:=⟨_,rfl⟩;obtain⟨r,K⟩:∃ r,u % d=r:=⟨_,rfl⟩;rw[hq]at gd ed t p0 p1 d1;rw[K]at gm d1 t;obtain⟨p,hp⟩:∃ p,q * d=p:=⟨_,rfl⟩;rw[hp]at p0 p1 d1;have c9:IntKind.u64.wrap q=q:=by rw[IntKind.wrap_u64];omega
 have ep:IntKind.u64.wrap p=p:=by rw[IntKind.wrap_u64];omega
 have er:IntKind.u64.wrap (u - p)=r:=by rw[IntKind.wrap_u64];omega
 obtain⟨q',b6⟩:∃ q,v / d=q:=⟨_,rfl⟩;obtain⟨r',b7⟩:∃ r,v % d=r:=⟨_,rfl⟩;rw[b6]at c7 c6 f v0 v1 d2;rw[b7]at c8 d2 f;obtain⟨p',hp'⟩:∃ p,q' * d=p:=⟨_,rfl⟩;rw[hp']at v0 v1 d2;have d5:IntKind.u64.wrap q'=q':=by rw[IntKind.wrap_u64];omega
 have d6:IntKind.u64.wrap p'=p':=by rw[IntKind.wrap_u64];omega
 have d7:IntKind.u64.wrap (v - p')=r':=by rw[IntKind.wrap_u64];omega
 have HD:Hid (Dig d u x q r):=t;have a5:Hid (Dig d v j q' r'):=f;clear t K hq d1 f b7 b6 d2
 go_enter func167,ntmps167
 go_wp2_with (go_at_call 191;refine (c _).mono ?_;rintro e w'⟨rfl,rfl⟩)
 clear eY b8 b9 eH eL eu eN c4 c5 ed hp ep er c gd gm p0 p1 c9 t1 t2 t3
 go_loop [15,16] (fun a b=>∃ q r:Int,a=.int .u64 q/\b=.int .u64 r/\Hid (Dig d u x q r)) (fun a _=>(intOf a).toNat)
 case atStart=>exact⟨q,r,rfl,rfl,HD⟩
 case round =>
  obtain⟨M,b1,rfl,rfl,t⟩:=hrel;have X:0<=M/\M<=4294967297/\0<=b1/\b1<4294967296/\x<=M:=⟨t.out.2.2.1,t.out.2.2.2.1,t.out.2.2.2.2.1,t.out.2.2.2.2.2,t.out.2.1⟩;obtain⟨X,G,a6,a7,a8⟩:=X
  by_cases i:x<M
  ·by_cases D:4294967296<=M
   ·skip;have R:IntKind.u64.wrap (M - 1)=M - 1:=by rw[IntKind.wrap_u64];omega
    have hp:IntKind.u64.wrap (b1+d)=b1+d:=by rw[IntKind.wrap_u64];omega
    by_cases K:4294967296<=b1+d
    ·have S:=t.out.last i l g a3 (by omega) W.out K
     obtain rfl:M=x+1:=by omega
     have T:IntKind.u64.wrap (x+1 - 1)=x:=by rw[IntKind.wrap_u64];omega
     clear t S R;go_wp2
     go_loop [18,16] (fun a b=>∃ q r:Int,a=.int .u64 q/\b=.int .u64 r/\Hid (Dig d v j q r)) (fun a _=>(intOf a).toNat)
     case atStart=>exact⟨q',r',rfl,rfl,a5⟩
     case round =>
      obtain⟨k,b2,rfl,rfl,f⟩:=hrel;have G:0<=k/\k<=4294967297/\0<=b2/\b2<4294967296/\j<=k:=⟨f.out.2.2.1,f.out.2.2.2.1,f.out.2.2.2.2.1,f.out.2.2.2.2.2,f.out.2.1⟩;obtain⟨X,G,a6,a7,a8⟩:=G
      by_cases i:j<k
      ·by_cases D:4294967296<=k
       ·skip;have R:IntKind.u64.wrap (k - 1)=k - 1:=by rw[IntKind.wrap_u64];omega
        have hp:IntKind.u64.wrap (b2+d)=b2+d:=by rw[IntKind.wrap_u64];omega
        by_cases K:4294967296<=b2+d
        ·have S:=f.out.last i l g Q (by omega) o.out K
         obtain rfl:k=j+1:=by omega
         have T:IntKind.u64.wrap (j+1 - 1)=j:=by rw[IntKind.wrap_u64];omega
         clear f S R;go_wp2;go_ret2;exact⟨⟨_,rfl⟩,⟨rfl,rfl,rfl,Nat.le_refl _,fun _ _=>rfl⟩⟩
        ·have U:Hid (Dig d v j (k - 1) (b2+d)):=f.out.next i (by omega) (by omega) (by omega)
         clear f;go_wp2
         go_round
         case rel=>exact⟨_,_,rfl,rfl,U⟩
         case measure=>simp[intOf];omega
       ·skip;have F:=f.out.prod l g;have m:=f.out.gt (y0:=y0) (u1:=n) (by omega) o.out
        obtain⟨P,V⟩:∃ P,k * y0=P:=⟨_,rfl⟩;rw[V]at F m;have wP:IntKind.u64.wrap P=P:=by rw[IntKind.wrap_u64];omega
        have wT:IntKind.u64.wrap (4294967296 * b2)=4294967296 * b2:=by rw[IntKind.wrap_u64];omega
        have wS:IntKind.u64.wrap (4294967296 * b2+n)=4294967296 * b2+n:=by rw[IntKind.wrap_u64];omega
        have hS:4294967296 * b2+n<P:=m.2 i;clear m F;have R:IntKind.u64.wrap (k - 1)=k - 1:=by rw[IntKind.wrap_u64];omega
        have hp:IntKind.u64.wrap (b2+d)=b2+d:=by rw[IntKind.wrap_u64];omega
        by_cases K:4294967296<=b2+d
        ·have S:=f.out.last i l g Q (by omega) o.out K
         obtain rfl:k=j+1:=by omega
         have T:IntKind.u64.wrap (j+1 - 1)=j:=by rw[IntKind.wrap_u64];omega
         clear f S R;go_wp2;go_ret2;exact⟨⟨_,rfl⟩,⟨rfl,rfl,rfl,Nat.le_refl _,fun _ _=>rfl⟩⟩
        ·have U:Hid (Dig d v j (k - 1) (b2+d)):=f.out.next i (by omega) (by omega) (by omega)
         clear f;go_wp2
         go_round
         case rel=>exact⟨_,_,rfl,rfl,U⟩
         case measure=>simp[intOf];omega
      ·obtain rfl:j=k:=by omega
       have D:¬ 4294967296<=j:=by omega
       have F:=f.out.prod l g;have m:=f.out.gt (y0:=y0) (u1:=n) (by omega) o.out
       obtain⟨P,V⟩:∃ P,j * y0=P:=⟨_,rfl⟩;rw[V]at F m;have wP:IntKind.u64.wrap P=P:=by rw[IntKind.wrap_u64];omega
       have wT:IntKind.u64.wrap (4294967296 * b2)=4294967296 * b2:=by rw[IntKind.wrap_u64];omega
       have wS:IntKind.u64.wrap (4294967296 * b2+n)=4294967296 * b2+n:=by rw[IntKind.wrap_u64];omega
       have hS:¬ 4294967296 * b2+n<P:=fun h=>i (m.1 h);clear m F f;go_wp2;go_ret2;exact⟨⟨_,rfl⟩,⟨rfl,rfl,rfl,Nat.le_refl _,fun _ _=>rfl⟩⟩
    ·have U:Hid (Dig d u x (M - 1) (b1+d)):=t.out.next i (by omega) (by omega) (by omega)
     clear t;go_wp2
     go_round
     case rel=>exact⟨_,_,rfl,rfl,U⟩
     case measure=>simp[intOf];omega
   ·skip;have F:=t.out.prod l g;have m:=t.out.gt (y0:=y0) (u1:=u1) (by omega) W.out
    obtain⟨P,V⟩:∃ P,M * y0=P:=⟨_,rfl⟩;rw[V]at F m;have wP:IntKind.u64.wrap P=P:=by rw[IntKind.wrap_u64];omega
    have wT:IntKind.u64.wrap (4294967296 * b1)=4294967296 * b1:=by rw[IntKind.wrap_u64];omega
    have wS:IntKind.u64.wrap (4294967296 * b1+u1)=4294967296 * b1+u1:=by rw[IntKind.wrap_u64];omega
    have hS:4294967296 * b1+u1<P:=m.2 i;clear m F;have R:IntKind.u64.wrap (M - 1)=M - 1:=by rw[IntKind.wrap_u64];omega
    have hp:IntKind.u64.wrap (b1+d)=b1+d:=by rw[IntKind.wrap_u64];omega
    by_cases K:4294967296<=b1+d
    ·have S:=t.out.last i l g a3 (by omega) W.out K
     obtain rfl:M=x+1:=by omega
     have T:IntKind.u64.wrap (x+1 - 1)=x:=by rw[IntKind.wrap_u64];omega
     clear t S R;go_wp2
     go_loop [18,16] (fun a b=>∃ q r:Int,a=.int .u64 q/\b=.int .u64 r/\Hid (Dig d v j q r)) (fun a _=>(intOf a).toNat)
     case atStart=>exact⟨q',r',rfl,rfl,a5⟩
     case round =>
      obtain⟨k,b2,rfl,rfl,f⟩:=hrel;have G:0<=k/\k<=4294967297/\0<=b2/\b2<4294967296/\j<=k:=⟨f.out.2.2.1,f.out.2.2.2.1,f.out.2.2.2.2.1,f.out.2.2.2.2.2,f.out.2.1⟩;obtain⟨X,G,a6,a7,a8⟩:=G
      by_cases i:j<k
      ·by_cases D:4294967296<=k
       ·skip;have R:IntKind.u64.wrap (k - 1)=k - 1:=by rw[IntKind.wrap_u64];omega
        have hp:IntKind.u64.wrap (b2+d)=b2+d:=by rw[IntKind.wrap_u64];omega
        by_cases K:4294967296<=b2+d
        ·have S:=f.out.last i l g Q (by omega) o.out K
         obtain rfl:k=j+1:=by omega
         have T:IntKind.u64.wrap (j+1 - 1)=j:=by rw[IntKind.wrap_u64];omega
         clear f S R;go_wp2;go_ret2;exact⟨⟨_,rfl⟩,⟨rfl,rfl,rfl,Nat.le_refl _,fun _ _=>rfl⟩⟩
        ·have U:Hid (Dig d v j (k - 1) (b2+d)):=f.out.next i (by omega) (by omega) (by omega)
         clear f;go_wp2
         go_round
         case rel=>exact⟨_,_,rfl,rfl,U⟩
         case measure=>simp[intOf];omega
       ·skip;have F:=f.out.prod l g;have m:=f.out.gt (y0:=y0) (u1:=n) (by omega) o.out
        obtain⟨P,V⟩:∃ P,k * y0=P:=⟨_,rfl⟩;rw[V]at F m;have wP:IntKind.u64.wrap P=P:=by rw[IntKind.wrap_u64];omega
        have wT:IntKind.u64.wrap (4294967296 * b2)=4294967296 * b2:=by rw[IntKind.wrap_u64];omega
        have wS:IntKind.u64.wrap (4294967296 * b2+n)=4294967296 * b2+n:=by rw[IntKind.wrap_u64];omega
        have hS:4294967296 * b2+n<P:=m.2 i;clear m F;have R:IntKind.u64.wrap (k - 1)=k - 1:=by rw[IntKind.wrap_u64];omega
        have hp:IntKind.u64.wrap (b2+d)=b2+d:=by rw[IntKind.wrap_u64];omega
        by_cases K:4294967296<=b2+d
        ·have S:=f.out.last i l g Q (by omega) o.out K
         obtain rfl:k=j+1:=by omega
         have T:IntKind.u64.wrap (j+1 - 1)=j:=by rw[IntKind.wrap_u64];omega
         clear f S R;go_wp2;go_ret2;exact⟨⟨_,rfl⟩,⟨rfl,rfl,rfl,Nat.le_refl _,fun _ _=>rfl⟩⟩
        ·have U:Hid (Dig d v j (k - 1) (b2+d)):=f.out.next i (by omega) (by omega) (by omega)
         clear f;go_wp2
         go_round
         case rel=>exact⟨_,_,rfl,rfl,U⟩
         case measure=>simp[intOf];omega
      ·obtain rfl:j=k:=by omega
       have D:¬ 4294967296<=j:=by omega
       have F:=f.out.prod l g;have m:=f.out.gt (y0:=y0) (u1:=n) (by omega) o.out
       obtain⟨P,V⟩:∃ P,j * y0=P:=⟨_,rfl⟩;rw[V]at F m;have wP:IntKind.u64.wrap P=P:=by rw[IntKind.wrap_u64];omega
       have wT:IntKind.u64.wrap (4294967296 * b2)=4294967296 * b2:=by rw[IntKind.wrap_u64];omega
       have wS:IntKind.u64.wrap (4294967296 * b2+n)=4294967296 * b2+n:=by rw[IntKind.wrap_u64];omega
       have hS:¬ 4294967296 * b2+n<P:=fun h=>i (m.1 h);clear m F f;go_wp2;go_ret2;exact⟨⟨_,rfl⟩,⟨rfl,rfl,rfl,Nat.le_refl _,fun _ _=>rfl⟩⟩
    ·have U:Hid (Dig d u x (M - 1) (b1+d)):=t.out.next i (by omega) (by omega) (by omega)
     clear t;go_wp2
     go_round
     case rel=>exact⟨_,_,rfl,rfl,U⟩
     case measure=>simp[intOf];omega
  ·obtain rfl:x=M:=by omega
   have D:¬ 4294967296<=x:=by omega
   have F:=t.out.prod l g;have m:=t.out.gt (y0:=y0) (u1:=u1) (by omega) W.out
   obtain⟨P,V⟩:∃ P,x * y0=P:=⟨_,rfl⟩;rw[V]at F m;have wP:IntKind.u64.wrap P=P:=by rw[IntKind.wrap_u64];omega
   have wT:IntKind.u64.wrap (4294967296 * b1)=4294967296 * b1:=by rw[IntKind.wrap_u64];omega
   have wS:IntKind.u64.wrap (4294967296 * b1+u1)=4294967296 * b1+u1:=by rw[IntKind.wrap_u64];omega
   have hS:¬ 4294967296 * b1+u1<P:=fun h=>i (m.1 h);clear m F t;go_wp2
   go_loop [18,16] (fun a b=>∃ q r:Int,a=.int .u64 q/\b=.int .u64 r/\Hid (Dig d v j q r)) (fun a _=>(intOf a).toNat)
   case atStart=>exact⟨q',r',rfl,rfl,a5⟩
   case round =>
    obtain⟨k,b2,rfl,rfl,f⟩:=hrel;have G:0<=k/\k<=4294967297/\0<=b2/\b2<4294967296/\j<=k:=⟨f.out.2.2.1,f.out.2.2.2.1,f.out.2.2.2.2.1,f.out.2.2.2.2.2,f.out.2.1⟩;obtain⟨X,G,a6,a7,a8⟩:=G
    by_cases i:j<k
    ·by_cases D:4294967296<=k
     ·skip;have R:IntKind.u64.wrap (k - 1)=k - 1:=by rw[IntKind.wrap_u64];omega
      have hp:IntKind.u64.wrap (b2+d)=b2+d:=by rw[IntKind.wrap_u64];omega
      by_cases K:4294967296<=b2+d
      ·have S:=f.out.last i l g Q (by omega) o.out K
       obtain rfl:k=j+1:=by omega
       have T:IntKind.u64.wrap (j+1 - 1)=j:=by rw[IntKind.wrap_u64];omega
       clear f S R;go_wp2;go_ret2;exact⟨⟨_,rfl⟩,⟨rfl,rfl,rfl,Nat.le_refl _,fun _ _=>rfl⟩⟩
      ·have U:Hid (Dig d v j (k - 1) (b2+d)):=f.out.next i (by omega) (by omega) (by omega)
       clear f;go_wp2
       go_round
       case rel=>exact⟨_,_,rfl,rfl,U⟩
       case measure=>simp[intOf];omega
     ·skip;have F:=f.out.prod l g;have m:=f.out.gt (y0:=y0) (u1:=n) (by omega) o.out
      obtain⟨P,V⟩:∃ P,k * y0=P:=⟨_,rfl⟩;rw[V]at F m;have wP:IntKind.u64.wrap P=P:=by rw[IntKind.wrap_u64];omega
      have wT:IntKind.u64.wrap (4294967296 * b2)=4294967296 * b2:=by rw[IntKind.wrap_u64];omega
      have wS:IntKind.u64.wrap (4294967296 * b2+n)=4294967296 * b2+n:=by rw[IntKind.wrap_u64];omega
      have hS:4294967296 * b2+n<P:=m.2 i;clear m F;have R:IntKind.u64.wrap (k - 1)=k - 1:=by rw[IntKind.wrap_u64];omega
      have hp:IntKind.u64.wrap (b2+d)=b2+d:=by rw[IntKind.wrap_u64];omega
      by_cases K:4294967296<=b2+d
      ·have S:=f.out.last i l g Q (by omega) o.out K
       obtain rfl:k=j+1:=by omega
       have T:IntKind.u64.wrap (j+1 - 1)=j:=by rw[IntKind.wrap_u64];omega
       clear f S R;go_wp2;go_ret2;exact⟨⟨_,rfl⟩,⟨rfl,rfl,rfl,Nat.le_refl _,fun _ _=>rfl⟩⟩
      ·have U:Hid (Dig d v j (k - 1) (b2+d)):=f.out.next i (by omega) (by omega) (by omega)
       clear f;go_wp2
       go_round
       case rel=>exact⟨_,_,rfl,rfl,U⟩
       case measure=>simp[intOf];omega
    ·obtain rfl:j=k:=by omega
     have D:¬ 4294967296<=j:=by omega
     have F:=f.out.prod l g;have m:=f.out.gt (y0:=y0) (u1:=n) (by omega) o.out
     obtain⟨P,V⟩:∃ P,j * y0=P:=⟨_,rfl⟩;rw[V]at F m;have wP:IntKind.u64.wrap P=P:=by rw[IntKind.wrap_u64];omega
     have wT:IntKind.u64.wrap (4294967296 * b2)=4294967296 * b2:=by rw[IntKind.wrap_u64];omega
     have wS:IntKind.u64.wrap (4294967296 * b2+n)=4294967296 * b2+n:=by rw[IntKind.wrap_u64];omega
     have hS:¬ 4294967296 * b2+n<P:=fun h=>i (m.1 h);clear m F f;go_wp2;go_ret2;exact⟨⟨_,rfl⟩,⟨rfl,rfl,rfl,Nat.le_refl _,fun _ _=>rfl⟩⟩
theorem q6B(a y:Int)(b:0<=a)(h:a<18446744073709551616)(c:0<y)(_hy:y<9223372036854775808)(w:World) :
  Calls prog 167 #[.int .u64 0,.int .u64 a,.int .u64 y] w fun e w'=>∃ r,e=.returned (.tuple #[.int .u64 (a / y),.int .u64 r])/\Bl w w':=by
 have t1:(y == 0)=false:=by simp;omega
 have d:¬ y=0:=by omega
 have i:¬ y<=0:=by omega
 have f:a.tdiv y=a / y:=Int.tdiv_eq_ediv_of_nonneg b;have b0:0<=a / y:=Int.ediv_nonneg b (by omega)
 have b1:a / y<=a:=Int.ediv_le_self _ b;obtain⟨q,g⟩:∃ q,a / y=q:=⟨_,rfl⟩;rw[g]at f b0 b1 ⊢;have eq:IntKind.u64.wrap q=q:=by rw[IntKind.wrap_u64];omega
 go_enter func167,ntmps167
 go_wp2;go_quiet (fail);go_wp2;go_ret2;exact⟨_,rfl,⟨rfl,rfl,rfl,Nat.le_refl _,fun _ _=>rfl⟩⟩
theorem y2f(g d y:Int)(h0:0<=g)(h1:g<y)(p:0<=d)(v:d<18446744073709551616)(x:y<9223372036854775808)(w:World) :
  Calls prog 167 #[.int .u64 g,.int .u64 d,.int .u64 y] w fun e w'=>∃ r,e=.returned (.tuple #[.int .u64 ((g * 18446744073709551616+d) / y),.int .u64 r])/\Bl w w':=by
 by_cases z:g=0
 ·subst z;have e:0 * 18446744073709551616+d=d:=by omega
  rw[e];exact q6B d y p v h1 x w
 ·obtain⟨b,rfl⟩:=Int.eq_ofNat_of_zero_le h0;obtain⟨a,rfl⟩:=Int.eq_ofNat_of_zero_le p;obtain⟨f,rfl⟩:=Int.eq_ofNat_of_zero_le (show 0<=y by omega)
  obtain⟨s,hs,h,i,l,j⟩:=q7i f (by omega) (by omega)
  obtain⟨e,b1,b2,b3⟩:=q6J b a f s h i (by omega) (by omega) j
  have hc:∀ w,Calls prog 191 #[.int .u64 (f:Int)] w fun e w'=>e=.returned (J I s)/\w'=w:=fun w=>by
   have:=q7M f (by omega) (by omega) w
   rwa [show (64:Int) - (bitLen f:Int)=(s:Int) by omega]at this
  have hp:((2 ^ s:Nat):Int)=(2:Int) ^ s:=by rw[Int.natCast_pow];rfl
  have hp':((2 ^ (64 - s):Nat):Int)=(2:Int) ^ (64 - s):=by rw[Int.natCast_pow];rfl
  have B:a / 2 ^ (64 - s)<=a:=Nat.div_le_self _ _;obtain⟨Y,m⟩:∃ Y,f * 2 ^ s=Y:=⟨_,rfl⟩;obtain⟨u,A⟩:∃ u,b * 2 ^ s+a / 2 ^ (64 - s)=u:=⟨_,rfl⟩;obtain⟨N,q⟩:∃ N,a * 2 ^ s % 18446744073709551616=N:=⟨_,rfl⟩;have C:N<18446744073709551616:=by omega
  have k:=j5A b (a / 2 ^ (64 - s)) s b2 b3 (by omega)
  rw[A]at e b1 k;rw[m]at l j b1;rw[q]at e
  have c:=q6V (b:Int) (a:Int) (f:Int) (Y:Int) ((Y:Int) / 4294967296) ((Y:Int) % 4294967296) ((b * 2 ^ s:Nat):Int) ((a / 2 ^ (64 - s):Nat):Int) (u:Int) (N:Int) ((N:Int) / 4294967296) ((N:Int) % 4294967296)
   _ _ _ s (by omega) h1 h i
   (by rw[<- hp,<- Int.natCast_mul,m,IntKind.wrap_u64];omega) rfl (and_low32 _ (by omega) (by omega))
   (by rw[<- hp,<- Int.natCast_mul,IntKind.wrap_u64];omega) (by rw[<- hp',<- Int.natCast_ediv]) k
   (by rw[<- hp,<- Int.natCast_mul,IntKind.wrap_u64,<- q];omega) rfl (and_low32 _ (by omega) (by omega))
   (by omega) (by omega) (by omega) (by omega) (by omega) (by show _=_;omega) (by show _<_;omega) (by omega) (by omega) (by omega) (by omega) rfl rfl rfl hc w
  have n:(Y:Int) / 4294967296 * 4294967296+(Y:Int) % 4294967296=(Y:Int):=by omega
  rw[n,q5o _ _ _ _ (by omega)]at c
  have o:(u:Int) * 18446744073709551616+(N:Int) / 4294967296 * 4294967296+(N:Int) % 4294967296=((b:Int) * 18446744073709551616+(a:Int)) * (2:Int) ^ s:=by
   have:(u:Int) * 18446744073709551616+(N:Int)=((b:Int) * 18446744073709551616+(a:Int)) * (2:Int) ^ s:=by
    rw[<- hp];have t:(((b * 18446744073709551616+a) * 2 ^ s:Nat):Int)=((u * 18446744073709551616+N:Nat):Int):=by rw[e]
    rw[Int.natCast_mul,Int.natCast_add,Int.natCast_mul,Int.natCast_add,Int.natCast_mul]at t;exact t.symm
   rw[<- this];omega
  rw[o,<- m,Int.natCast_mul,hp,q5F _ _ _ (Int.pow_pos (by decide))]at c
  exact c
/-! ### the answers -/
def mdN(a b c:Int):Int:=if a<0∨b<0∨c<1 then 0 else if a * b / c<=1125899906842624 then a * b / c else 0
def mdE(a b c:Int):Int:=if a<0∨b<0∨c<1 then 2 else if a * b / c<=1125899906842624 then 0 else 2
theorem y0C{a b c:Int}(h:a<0∨b<0∨c<1):mdN a b c=0/\mdE a b c=2:=by
 unfold mdN mdE;rw[if_pos h,if_pos h];exact⟨rfl,rfl⟩
theorem j8p{a b c:Int}(h:1125899906842624<a * b / c):mdN a b c=0/\mdE a b c=2:=by
 unfold mdN mdE;have:¬ a * b / c<=1125899906842624:=by omega
 by_cases g:a<0∨b<0∨c<1
 ·rw[if_pos g,if_pos g];exact⟨rfl,rfl⟩
 ·rw[if_neg g,if_neg g,if_neg this,if_neg this];exact⟨rfl,rfl⟩
theorem j0R{a b c:Int}(h1:0<=a)(h2:0<=b)(h3:1<=c)(h:a * b / c<=1125899906842624):mdN a b c=a * b / c/\mdE a b c=0:=by
 unfold mdN mdE;have g:¬ (a<0∨b<0∨c<1):=by omega
 rw[if_neg g,if_neg g,if_pos h,if_pos h];exact⟨rfl,rfl⟩
theorem q1N(a b c:Int)(t:0<=a)(B:a<=9223372036854775807)(b0:0<=b)(b1:b<=9223372036854775807)(c0:1<=c)(c1:c<=9223372036854775807)(w:World) :
  Calls prog 143 #[J I a,J I b,J I c] w fun e w'=>e=.returned (.tuple #[J I (mdN a b c),J I (mdE a b c)])/\Bl w w':=by
 have t1:¬ a<0:=by omega
 have F:¬ b<0:=by omega
 have G:¬ c<1:=by omega
 have cm:=y1V a b t (by omega) b0 (by omega)
 have j:0<=a * b:=Int.mul_nonneg t b0
 have g:a * b<340282366920938463463374607431768211456:=by
  have:=Int.mul_le_mul B b1 b0 (by omega)
  omega
 have C:=Int.mul_ediv_add_emod (a * b) c;have f:Hid (a * b / c<=1125899906842624->mdN a b c=a * b / c/\mdE a b c=0):=fun h=>j0R t b0 c0 h;have d:Hid (1125899906842624<a * b / c->mdN a b c=0/\mdE a b c=2):=fun h=>j8p h
 have i:a * b / 18446744073709551616≥c->1125899906842624<a * b / c:=fun h=>by
  have:1125899906842625<=a * b / c:=by
   rw[Int.le_ediv_iff_mul_le (by omega)]
   omega
  omega
 have o:0<=a * b / c:=Int.ediv_nonneg j (by omega)
 generalize mdN a b c=X at *;generalize mdE a b c=Y at *;clear C;generalize a * b=p at *;obtain⟨q,k⟩:∃ h,p / 18446744073709551616=h:=⟨_,rfl⟩;obtain⟨s,m⟩:∃ l,p % 18446744073709551616=l:=⟨_,rfl⟩;have hp:q * 18446744073709551616+s=p:=by omega
 have u:0<=q:=by omega
 have v:0<=s:=by omega
 have x:s<18446744073709551616:=by omega
 rw[k]at i cm;rw[m]at cm
 by_cases hc:c<=q
 ·have D:=d.out (i hc);obtain⟨rfl,rfl⟩:=D;clear f d i k m hp j g o
  go_enter func143,ntmps143
  go_wp2_with (go_at_call 166;refine (cm _).mono ?_;rintro e w'⟨rfl,rfl⟩)
  go_ret2;exact⟨rfl,⟨rfl,rfl,rfl,Nat.le_refl _,fun _ _=>rfl⟩⟩
 ·have cd:=y2f q s c u (by omega) v x (by omega)
  rw[hp]at cd;obtain⟨n,y⟩:∃ n,p / c=n:=⟨_,rfl⟩;rw[y]at cd f d o
  by_cases E:n<=1125899906842624
  ·obtain⟨rfl,rfl⟩:=f.out E;have z:¬ 1125899906842624<X:=by omega
   clear f d i k m hp j g y
   go_enter func143,ntmps143
   go_wp2_with (first | (go_at_call 166;refine (cm _).mono ?_;rintro e w'⟨rfl,rfl⟩) | (go_at_call 167;refine (cd _).mono ?_;rintro e w'⟨r,rfl,A⟩))
   go_ret2;exact⟨rfl,A⟩
  ·obtain⟨rfl,rfl⟩:=d.out (by omega)
   have z:1125899906842624<n:=by omega
   clear f d i k m hp j g y
   go_enter func143,ntmps143
   go_wp2_with (first | (go_at_call 166;refine (cm _).mono ?_;rintro e w'⟨rfl,rfl⟩) | (go_at_call 167;refine (cd _).mono ?_;rintro e w'⟨r,rfl,A⟩))
   go_ret2;exact⟨rfl,A⟩
theorem q5f(a b c:Int)(h:a<0∨b<0∨c<1)(w:World) :
  Calls prog 143 #[J I a,J I b,J I c] w fun e w'=>e=.returned (.tuple #[J I (mdN a b c),J I (mdE a b c)])/\Bl w w':=by
 obtain⟨d,f⟩:=y0C h;rw[d,f];clear d f
 by_cases t1:a<0
 ·clear h
  go_enter func143,ntmps143
  go_wp2;go_ret2;exact⟨rfl,⟨rfl,rfl,rfl,Nat.le_refl _,fun _ _=>rfl⟩⟩
 ·by_cases g:b<0
  ·clear h
   go_enter func143,ntmps143
   go_wp2;go_ret2;exact⟨rfl,⟨rfl,rfl,rfl,Nat.le_refl _,fun _ _=>rfl⟩⟩
  ·have i:c<1:=by omega
   clear h
   go_enter func143,ntmps143
   go_wp2;go_ret2;exact⟨rfl,⟨rfl,rfl,rfl,Nat.le_refl _,fun _ _=>rfl⟩⟩
theorem j4W(a b c:Int)(d:a<=9223372036854775807)(b1:b<=9223372036854775807)(c1:c<=9223372036854775807)(w:World) :
  Calls prog 143 #[J I a,J I b,J I c] w fun e w'=>e=.returned (.tuple #[J I (mdN a b c),J I (mdE a b c)])/\Bl w w':=by
 by_cases h:a<0∨b<0∨c<1
 ·exact q5f a b c h w
 ·exact q1N a b c (by omega) d (by omega) b1 (by omega) c1 w
def inB(n:Int):Bool:=decide (0<=n) && decide (n<=1125899906842624)
theorem j2S{n:Int}(h0:0<=n)(h1:n<=1125899906842624):inB n=true:=by simp[inB,h0,h1]
theorem j6N{n:Int}(h:¬ 0<=n):inB n=false:=by simp[inB,h]
theorem j2Z{n:Int}(h:¬ n<=1125899906842624):inB n=false:=by simp[inB,h]
theorem q7H{n:Int}:inB n=true↔0<=n/\n<=1125899906842624:=by simp[inB]
theorem y3l(n:Int)(w:World):Calls prog 142 #[J I n] w fun e w'=>e=.returned (J3 (inB n))/\w'=w:=by
 by_cases h0:0<=n
 ·by_cases h1:n<=1125899906842624
  ·rw[j2S h0 h1]
   go_enter func142,ntmps142
   go_wp2;go_ret;exact⟨rfl,rfl⟩
  ·rw[j2Z h1]
   go_enter func142,ntmps142
   go_wp2;go_ret;exact⟨rfl,rfl⟩
 ·rw[j6N h0]
  go_enter func142,ntmps142
  go_wp2;go_ret;exact⟨rfl,rfl⟩
def ptN(n f:Int):Int:=if inB n=true/\0<=f/\f<=1000 then n * f / 1000 else 0
def ptE(n f:Int):Int:=if inB n=true/\0<=f/\f<=1000 then 0 else 2
theorem j1q{n f:Int}(h:inB n=true/\0<=f/\f<=1000):ptN n f=n * f / 1000/\ptE n f=0:=by unfold ptN ptE;rw[if_pos h,if_pos h];exact⟨rfl,rfl⟩
theorem q7t{n f:Int}(h:¬ (inB n=true/\0<=f/\f<=1000)):ptN n f=0/\ptE n f=2:=by unfold ptN ptE;rw[if_neg h,if_neg h];exact⟨rfl,rfl⟩
theorem y1w{n f:Int}(h0:0<=n)(f0:0<=f)(f1:f<=1000):0<=n * f / 1000/\n * f / 1000<=n:=by
 have h1:0<=n * f:=Int.mul_nonneg h0 f0;have h2:=Int.mul_le_mul_of_nonneg_left f1 h0;omega
theorem y1g(n f:Int)(w:World):Calls prog 149 #[J I n,J I f] w fun e w'=>e=.returned (.tuple #[J I (ptN n f),J I (ptE n f)])/\Bl w w':=by
 have i:=y3l n
 by_cases d:inB n=true
 ·obtain⟨n0,n1⟩:=q7H.1 d
  by_cases f0:f<0
  ·obtain⟨g,h⟩:=q7t (n:=n) (f:=f) (by omega)
   rw[g,h];rw[d]at i;clear g h d
   go_enter func149,ntmps149
   go_wp2_with (go_at_call 142;refine (i _).mono ?_;rintro e w'⟨rfl,rfl⟩)
   go_ret2;exact⟨rfl,⟨rfl,rfl,rfl,Nat.le_refl _,fun _ _=>rfl⟩⟩
  ·by_cases f1:1000<f
   ·obtain⟨g,h⟩:=q7t (n:=n) (f:=f) (by omega)
    rw[g,h];rw[d]at i;clear g h d
    go_enter func149,ntmps149
    go_wp2_with (go_at_call 142;refine (i _).mono ?_;rintro e w'⟨rfl,rfl⟩)
    go_ret2;exact⟨rfl,⟨rfl,rfl,rfl,Nat.le_refl _,fun _ _=>rfl⟩⟩
   ·obtain⟨g,h⟩:=j1q (n:=n) (f:=f) ⟨d,by omega,by omega⟩
    have cm:=j4W n f 1000 (by omega) (by omega) (by omega)
    have o:=y1w (n:=n) (f:=f) n0 (by omega) (by omega)
    obtain⟨k,l⟩:=j0R (a:=n) (b:=f) (c:=1000) n0 (by omega) (by omega) (by omega)
    rw[k,l]at cm;rw[g,h];rw[d]at i;generalize n * f / 1000=x at *;clear g h k l d
    go_enter func149,ntmps149
    go_wp2_with (first | (go_at_call 142;refine (i _).mono ?_;rintro e w'⟨rfl,rfl⟩) | (go_at_call 143;refine (cm _).mono ?_;rintro e w'⟨rfl,m⟩))
    go_ret2;exact⟨rfl,m⟩
 ·obtain⟨g,h⟩:=q7t (n:=n) (f:=f) (by simp[d])
  rw[g,h];have j:inB n=false:=by simpa using d
  rw[j]at i;clear g h d j
  go_enter func149,ntmps149
  go_wp2_with (go_at_call 142;refine (i _).mono ?_;rintro e w'⟨rfl,rfl⟩)
  go_ret2;exact⟨rfl,⟨rfl,rfl,rfl,Nat.le_refl _,fun _ _=>rfl⟩⟩
end Ra
section
open Go.RowKit
theorem j3G(g cap:Nat)(l:List Pw)(w:World)(h:z1W w g l)(hn:l.length<=12) :
  Calls prog 175 #[J1 (some ⟨g,0,none⟩) l.length cap,J I 0,J I (l.length:Int),.func (.func 114) #[] #[]] w fun e w'=>e=.returned (.tuple #[])/\z1W w' g (z2U ltV l)/\z3q g w w':=by
 have C:=J6 h;clear h
 go_enter func175,ntmps175
 go_wp2
 go_loopw [8] (fun i wl=>∃ m:Nat,i=J I ((m:Int)+1)/\(m+1<=l.length∨m=0)/\Hid (z1W wl g (z1D ltV l m)/\z3q g w wl)) (fun i _=>l.length - (intOf i).toNat)
 case atStart=>exact⟨0,rfl,.inr rfl,C.out,z3q.refl _ _⟩
 case round =>
  obtain⟨m,rfl,T,HR⟩:=hrel
  by_cases U:m+1<l.length
  ·rename World=>wo
   have L:(m:Int)+1<(l.length:Int):=by omega
   go_wp2_with fail
   go_loopw [9] (fun j wl=>∃ (p:Nat) (a:List Pw),j=J I (p:Int)/\p<=m+1/\a.length=l.length/\Hid (z8B ltV (m+1) (z1D ltV l m)=z8B ltV p a/\z1W wl g a/\z3q g w wl)) (fun j _=>(intOf j).toNat)
   case atStart=>exact⟨m+1,z1D ltV l m,by go_num,Nat.le_refl _,z1Z _ _ _,rfl,HR.out⟩
   case round =>
    obtain⟨p,a,rfl,hp,D,d⟩:=hrel;have V:w.heap.size<=wr.heap.size:=d.out.2.2.size;cases p with
    | zero =>
     have E:decide ((0:Int)<0)=false:=by decide
     go_upto_region 4 with fail
     go_quiet (fail);go_wp2;go_roundw
     case rel=>exact⟨m+1,by go_num,.inl (by omega),(by rw[z1D,d.out.1];exact d.out.2.1),(show z3q g w (wr.drewN nq) from d.out.2.2.drewN nq)⟩
     case measure=>simp[intOf];omega
    | succ p =>
     have o:p+1<a.length:=by omega
     obtain⟨c0,c1⟩:=d.out.2.1.cell (i:=p+1) o;obtain⟨W,X⟩:=d.out.2.1.cell (i:=p) (by omega)
     have M:=z7c (a.getD (p+1) pz) (a.getD p pz);have F:=d.out.2.1.lt;have s:Hid (z8B ltV (m+1) (z1D ltV l m)=if ltV (a.getD (p+1) pz) (a.getD p pz)=true then z8B ltV p (swapAt a p) else a):=d.out.1;have k:Hid (ltV (a.getD (p+1) pz) (a.getD p pz)=decide (j2p (a.getD (p+1) pz) (a.getD p pz)<0)):=rfl;have c:=J6 d.out.2;clear d;generalize j2p (a.getD (p+1) pz) (a.getD p pz)=r at *;generalize N:a.getD (p+1) pz=A at *;generalize P:a.getD p pz=B at *;have Y:=J6 N;have Z:=J6 P;clear N P;have a0:IntKind.i64.wrap (((p+1:Nat):Int) - 1)=(p:Int):=by rw[show ((p+1:Nat):Int) - 1=(p:Int) by omega];exact z5z (by omega) (by omega)
     generalize Q:p+1=q at *;have n:=J6 Q;clear Q;have a1:(0:Int)<=(q:Int):=by omega
     have a2:(q:Int)<(l.length:Int):=by omega
     have a3:(0:Int)<=(p:Int):=by omega
     have a4:(p:Int)<(l.length:Int):=by have:=n.out;omega
     have E:decide (0<q)=true:=by have:=n.out;simp;omega
     go_upto_region 4 with fail
     go_region_held3 (fun z=>z.cell? ⟨g,q * 2,none⟩=some (J I A.1)/\z.cell? ⟨g,q * 2+1,none⟩=some (J I A.2)/\z.cell? ⟨g,p * 2,none⟩=some (J I B.1)/\z.cell? ⟨g,p * 2+1,none⟩=some (J I B.2)) (first | go_keep | (refine⟨?_,?_,?_,?_⟩ <;> (rw[f.cell F];simp[*])))
      (first | (go_at_call 114;refine (M _).mono ?_;rintro e w1⟨rfl,f⟩))
     rename_i hh;obtain⟨a5,a6,a7,a8⟩:=hh;have b:=c.out.1.later (w':=w1) (show Bl wr w1 from ((Below.refl _ wr).drew.trans f));have t:z3q g w w1:=c.out.2.trans (z3q.of_below (show Bl wr w1 from ((Below.refl _ wr).drew.trans f)));have u:=J6 b;have v:=J6 t;have f0:=b.free (q * 2);have f1:=b.free (q * 2+1);have f2:=b.free (p * 2);have f3:=b.free (p * 2+1);clear b t f c0 c1 W X c M
     by_cases R:r<0
     ·have hd:decide (r<0)=true:=by simpa using R
      rw[hd];have G:=n.out;have n1:¬ p=q:=by omega
      have n2:¬ q=p:=by omega
      have n3:¬ p * 2=q * 2+1:=by omega
      have n4:¬ q * 2=p * 2+1:=by omega
      have n5:¬ p * 2+1=q * 2:=by omega
      have n6:¬ q * 2+1=p * 2:=by omega
      have n7:¬ p * 2=q * 2:=by omega
      have n8:¬ q * 2=p * 2:=by omega
      clear G
      go_upto_region 6 with fail
      go_region;have x:(a.set q B).set p A=swapAt a p:=by rw[swapAt,n.out,Y.out,Z.out]
      have H:Hid (z1W (((((w1.setCell ⟨g,q * 2,none⟩ (J I B.1)).setCell ⟨g,q * 2+1,none⟩ (J I B.2)).setCell ⟨g,p * 2,none⟩ (J I A.1)).setCell ⟨g,p * 2+1,none⟩ (J I A.2)).drew) g (swapAt a p)):=by
       rw[<- x];exact (u.out.put o B).put (by simp;omega) A
      have K:Hid (z3q g w (((((w1.setCell ⟨g,q * 2,none⟩ (J I B.1)).setCell ⟨g,q * 2+1,none⟩ (J I B.2)).setCell ⟨g,p * 2,none⟩ (J I A.1)).setCell ⟨g,p * 2+1,none⟩ (J I A.2)).drew)):=((((v.out.set _ _).set _ _).set _ _).set _ _).drew;have y:Hid (z8B ltV (m+1) (z1D ltV l m)=z8B ltV p (swapAt a p)):=by rw[s.out,k.out,hd];exact if_pos rfl
      clear x;generalize ((((w1.setCell ⟨g,q * 2,none⟩ (J I B.1)).setCell ⟨g,q * 2+1,none⟩ (J I B.2)).setCell ⟨g,p * 2,none⟩ (J I A.1)).setCell ⟨g,p * 2+1,none⟩ (J I A.2)).drew=w2 at *;go_wp2;go_roundw
      case rel=>exact⟨p,swapAt a p,rfl,by have:=n.out;omega,(by rw[z3D];exact D),y.out,H.out,K.out⟩
      case measure=>have:=n.out;simp[intOf];omega
     ·have hd:decide (r<0)=false:=by simpa using R
      rw[hd];have y:Hid (z8B ltV (m+1) (z1D ltV l m)=a):=by rw[s.out,k.out,hd];exact if_neg (by simp)
      go_wp2;go_roundw
      case rel=>exact⟨m+1,by go_num,.inl (by omega),(by rw[z1D,y.out];exact u.out),v.out⟩
      case measure=>simp[intOf];omega
  ·have S:z2U ltV l=z1D ltV l m:=by
    unfold z2U
    rcases T with h | rfl
    ·rw[show l.length - 1=m by omega]
    ·rcases (show l.length=0∨l.length=1 by omega) with h | h <;> rw[h]
   have y:=J6 S;clear S;go_wp2;go_end0;exact⟨rfl,by rw[y.out];exact HR.out.1,HR.out.2⟩
theorem y2h(g cap:Nat)(c:Int)(l:List Pw)(w:World)(h:z1W w g l)(d:l.length<=12) :
  Calls prog 153 #[J1 (some ⟨g,0,none⟩) l.length cap,J I 0,J I (l.length:Int),J I c,.func (.func 114) #[] #[]] w fun e w'=>e=.returned (.tuple #[])/\z1W w' g (z2U ltV l)/\z3q g w w':=by
 have f:=j3G g cap l w h d;have i:(l.length:Int)<=12:=by omega
 clear h
 go_enter func153,ntmps153
 go_wp2_with fail
 go_loopw [1,2] (fun a b wl=>a=J I 0/\b=J I (l.length:Int)/\Hid (wl=w)) (fun _ _ _=>0)
 case atStart=>exact⟨rfl,rfl,rfl⟩
 case round =>
  obtain⟨rfl,rfl,HW⟩:=hrel;have e:=HW.out;subst e;clear HW
  go_wp2_with (go_at_call 175;refine f.mono ?_;rintro e w1⟨rfl,h1⟩;have j:=J6 h1;clear h1)
  exact bodyPost_ret (v:=.tuple #[]) (by simp[results,results153]) rfl ⟨rfl,j.out⟩
theorem j1w(n:Nat)(b:n<=12)(w:World):Calls prog 154 #[.int .u64 (n:Int)] w fun e w'=>(∃ k,e=.returned (J I k))/\w=w':=by
 have a:=Ra.j3k n (by omega)
 go_enter func154,ntmps154
 go_wp2_with (go_at_call 184;refine (a _).mono ?_;rintro e w1⟨rfl,rfl⟩)
 go_ret;exact⟨⟨_,rfl⟩,rfl⟩
theorem q7x(g cap:Nat)(l:List Pw)(w:World)(h:z1W w g l)(b:l.length<=12) :
  Calls prog 112 #[J1 (some ⟨g,0,none⟩) l.length cap,.func (.func 114) #[] #[]] w fun e w'=>e=.returned (.tuple #[])/\z1W w' g (z2U ltV l)/\z3q g w w':=by
 have c:=fun a=>y2h g cap a l w h b;have d:=j1w l.length b w;clear h
 go_enter func112,ntmps112
 go_wp2_with (first
  | (go_at_call 154;refine d.mono ?_;rintro e w1⟨⟨k,rfl⟩,rfl⟩)
  | (go_at_call 153;refine (c _).mono ?_;rintro e i⟨rfl,h1⟩;have f:=J6 h1;clear h1))
 go_end0;exact⟨rfl,f.out⟩
end
end Go.Proofs.YtddlhnoedldidaaGreat
