/- Parts of the proof. -/
import Derived.Test.YtjghbciepinofaaGreatPL
import Derived.Test.YtjghbciepinofaaGreatPK41
import Derived.RowKit3
set_option maxRecDepth 100000
set_option maxHeartbeats 16000000
namespace Go.Proofs.YtjghbciepinofaaGreat
open Go.Proofs.Tryz
open Value renaming int->J,slice->J1,pointer->J2,bool->J3,agg->J4
open IntKind renaming i64->I
open Obj renaming cells->J5
namespace Ra
open Go.RowKit
theorem q1e(hi lo y Y y1 y0 H L u N u1 m v t i:Int)(s:Nat)(h0:0<hi)(h1:hi<y)(d3:1<=s)(d4:s<=63)
  (eY:IntKind.u64.wrap (y * 2 ^ s)=Y) (b7:Y / 4294967296=y1) (b9:bits .and .u64 Y 4294967295=y0)
  (eH:IntKind.u64.wrap (hi * 2 ^ s)=H) (eL:lo / 2 ^ (64 - s)=L) (eu:bits .or .u64 H L=u)
  (eN:IntKind.u64.wrap (lo * 2 ^ s)=N) (c4:N / 4294967296=u1) (c5:bits .and .u64 N 4294967295=m)
  (k:0<=y0) (f:y0<4294967296) (a8:2147483648<=y1) (X:y1<4294967296) (bu:0<=u) (HY:Hid (Y=y1 * 4294967296+y0)) (HU:Hid (u<y1 * 4294967296+y0))
  (Z:0<=u1) (a9:u1<4294967296) (M:0<=m) (b4:m<4294967296)
  (U:Hid (v=(u * 4294967296+u1) / (y1 * 4294967296+y0))) (a3:Hid (t=(u * 4294967296+u1) % (y1 * 4294967296+y0))) (n:Hid (i=(t * 4294967296+m) / (y1 * 4294967296+y0)))
  (c:∀ w,Calls prog 168 #[.int .u64 y] w fun e w'=>e=.returned (.int .i64 s)/\w'=w) (w:World) :
  Calls prog 160 #[.int .u64 hi,.int .u64 lo,.int .u64 y] w fun e w'=>∃ r,e=.returned (.tuple #[.int .u64 (v * 4294967296+i),.int .u64 r])/\Bl w w':=by
 have t1:(y == 0)=false:=by simp;omega
 have t2:¬ y<=hi:=by omega
 have t3:(hi == 0)=false:=by simp;omega
 have t4:¬ y1=0:=by omega
 have bR:0<=t:=by rw[a3.out];exact Int.emod_nonneg _ (by omega)
 have HR:Hid (t<y1 * 4294967296+y0):=by show _<_;rw[a3.out];exact Int.emod_lt_of_pos _ (by omega)
 obtain⟨o,a0,K,p0,p1,d1⟩:=Dig.first y1 y0 u u1 v k f a8 X bu HU.out Z a9 U.out
 obtain⟨d,b0,b1,v0,v1,d2⟩:=Dig.first y1 y0 t m i k f a8 X bR HR.out M b4 n.out
 have ed:u.tdiv y1=u / y1:=Int.tdiv_eq_ediv_of_nonneg bu;have c6:t.tdiv y1=t / y1:=Int.tdiv_eq_ediv_of_nonneg bR;have bU:u<18446744073709551616:=by have:=HU.out;omega
 have d5:t<18446744073709551616:=by have:=HR.out;omega
 have gd:0<=u / y1/\u / y1<=4294967297:=⟨o.2.2.1,o.2.2.2.1⟩;have gm:0<=u % y1/\u % y1<4294967296:=⟨o.2.2.2.2.1,o.2.2.2.2.2⟩;have c7:0<=t / y1/\t / y1<=4294967297:=⟨d.2.2.1,d.2.2.2.1⟩;have c8:0<=t % y1/\t % y1<4294967296:=⟨d.2.2.2.2.1,d.2.2.2.2.2⟩
 -- what the text reckons between the loops
 obtain⟨A,eA⟩:∃ A,IntKind.u64.wrap (u * 4294967296)=A:=⟨_,rfl⟩;obtain⟨B,eB⟩:∃ B,IntKind.u64.wrap (A+u1)=B:=⟨_,rfl⟩;obtain⟨C,eC⟩:∃ C,IntKind.u64.wrap (v * Y)=C:=⟨_,rfl⟩
 have eD:IntKind.u64.wrap (B - C)=t:=by
  have e:=Int.mul_ediv_add_emod (u * 4294967296+u1) (y1 * 4294967296+y0);rw[<- a3.out,<- U.out,<- HY.out,Int.mul_comm Y v]at e;rw[<- eB,<- eC,<- eA];simp only[IntKind.wrap_u64];generalize v * Y=z at *;omega
 obtain⟨E1,eE⟩:∃ E,IntKind.u64.wrap (v * 4294967296)=E:=⟨_,rfl⟩
 have eF:IntKind.u64.wrap (E1+i)=v * 4294967296+i:=by
  rw[<- eE];simp only[IntKind.wrap_u64];omega
 obtain⟨q,hq⟩:∃ q,u / y1=q:=⟨_,rfl⟩;obtain⟨r,G⟩:∃ r,u % y1=r:=⟨_,rfl⟩;rw[hq]at gd ed o p0 p1 d1;rw[G]at gm d1 o;obtain⟨p,W⟩:∃ p,q * y1=p:=⟨_,rfl⟩;rw[W]at p0 p1 d1;have c9:IntKind.u64.wrap q=q:=by rw[IntKind.wrap_u64];omega
 have ep:IntKind.u64.wrap p=p:=by rw[IntKind.wrap_u64];omega
 have er:IntKind.u64.wrap (u - p)=r:=by rw[IntKind.wrap_u64];omega
 obtain⟨q',b5⟩:∃ q,t / y1=q:=⟨_,rfl⟩;obtain⟨r',b6⟩:∃ r,t % y1=r:=⟨_,rfl⟩;rw[b5]at c7 c6 d v0 v1 d2;rw[b6]at c8 d2 d;obtain⟨p',d0⟩:∃ p,q' * y1=p:=⟨_,rfl⟩;rw[d0]at v0 v1 d2;have d6:IntKind.u64.wrap q'=q':=by rw[IntKind.wrap_u64];omega
 have d7:IntKind.u64.wrap p'=p':=by rw[IntKind.wrap_u64];omega
 have d8:IntKind.u64.wrap (t - p')=r':=by rw[IntKind.wrap_u64];omega
 have HD:Hid (Dig y1 u v q r):=o;have a4:Hid (Dig y1 t i q' r'):=d;clear o G hq d1 d b6 b5 d2
 go_enter func160,ntmps160
 go_wp2_with (go_at_call 168;refine (c _).mono ?_;rintro e w'⟨rfl,rfl⟩)
 clear eY b7 b9 eH eL eu eN c4 c5 ed W ep er c gd gm p0 p1 c9 t1 t2 t3
 go_loop [15,16] (fun a b=>∃ q r:Int,a=.int .u64 q/\b=.int .u64 r/\Hid (Dig y1 u v q r)) (fun a _=>(intOf a).toNat)
 case atStart=>exact⟨q,r,rfl,rfl,HD⟩
 case round =>
  obtain⟨K,b1,rfl,rfl,o⟩:=hrel;have V:0<=K/\K<=4294967297/\0<=b1/\b1<4294967296/\v<=K:=⟨o.out.2.2.1,o.out.2.2.2.1,o.out.2.2.2.2.1,o.out.2.2.2.2.2,o.out.2.1⟩;obtain⟨V,F,a5,a6,a7⟩:=V
  by_cases g:v<K
  ·by_cases x:4294967296<=K
   ·skip;have Q:IntKind.u64.wrap (K - 1)=K - 1:=by rw[IntKind.wrap_u64];omega
    have W:IntKind.u64.wrap (b1+y1)=b1+y1:=by rw[IntKind.wrap_u64];omega
    by_cases G:4294967296<=b1+y1
    ·have hl:=o.out.last g k f Z (by omega) U.out G
     obtain rfl:K=v+1:=by omega
     have R:IntKind.u64.wrap (v+1 - 1)=v:=by rw[IntKind.wrap_u64];omega
     clear o hl Q;go_wp2
     go_loop [18,16] (fun a b=>∃ q r:Int,a=.int .u64 q/\b=.int .u64 r/\Hid (Dig y1 t i q r)) (fun a _=>(intOf a).toNat)
     case atStart=>exact⟨q',r',rfl,rfl,a4⟩
     case round =>
      obtain⟨j,b2,rfl,rfl,d⟩:=hrel;have F:0<=j/\j<=4294967297/\0<=b2/\b2<4294967296/\i<=j:=⟨d.out.2.2.1,d.out.2.2.2.1,d.out.2.2.2.2.1,d.out.2.2.2.2.2,d.out.2.1⟩;obtain⟨V,F,a5,a6,a7⟩:=F
      by_cases g:i<j
      ·by_cases x:4294967296<=j
       ·skip;have Q:IntKind.u64.wrap (j - 1)=j - 1:=by rw[IntKind.wrap_u64];omega
        have W:IntKind.u64.wrap (b2+y1)=b2+y1:=by rw[IntKind.wrap_u64];omega
        by_cases G:4294967296<=b2+y1
        ·have hl:=d.out.last g k f M (by omega) n.out G
         obtain rfl:j=i+1:=by omega
         have R:IntKind.u64.wrap (i+1 - 1)=i:=by rw[IntKind.wrap_u64];omega
         clear d hl Q;go_wp2;go_ret2;exact⟨⟨_,rfl⟩,⟨rfl,rfl,rfl,Nat.le_refl _,fun _ _=>rfl⟩⟩
        ·have S:Hid (Dig y1 t i (j - 1) (b2+y1)):=d.out.next g (by omega) (by omega) (by omega)
         clear d;go_wp2
         go_round
         case rel=>exact⟨_,_,rfl,rfl,S⟩
         case measure=>simp[intOf];omega
       ·skip;have D:=d.out.prod k f;have l:=d.out.gt (y0:=y0) (u1:=m) (by omega) n.out
        obtain⟨P,T⟩:∃ P,j * y0=P:=⟨_,rfl⟩;rw[T]at D l;have wP:IntKind.u64.wrap P=P:=by rw[IntKind.wrap_u64];omega
        have wT:IntKind.u64.wrap (4294967296 * b2)=4294967296 * b2:=by rw[IntKind.wrap_u64];omega
        have wS:IntKind.u64.wrap (4294967296 * b2+m)=4294967296 * b2+m:=by rw[IntKind.wrap_u64];omega
        have hS:4294967296 * b2+m<P:=l.2 g;clear l D;have Q:IntKind.u64.wrap (j - 1)=j - 1:=by rw[IntKind.wrap_u64];omega
        have W:IntKind.u64.wrap (b2+y1)=b2+y1:=by rw[IntKind.wrap_u64];omega
        by_cases G:4294967296<=b2+y1
        ·have hl:=d.out.last g k f M (by omega) n.out G
         obtain rfl:j=i+1:=by omega
         have R:IntKind.u64.wrap (i+1 - 1)=i:=by rw[IntKind.wrap_u64];omega
         clear d hl Q;go_wp2;go_ret2;exact⟨⟨_,rfl⟩,⟨rfl,rfl,rfl,Nat.le_refl _,fun _ _=>rfl⟩⟩
        ·have S:Hid (Dig y1 t i (j - 1) (b2+y1)):=d.out.next g (by omega) (by omega) (by omega)
         clear d;go_wp2
         go_round
         case rel=>exact⟨_,_,rfl,rfl,S⟩
         case measure=>simp[intOf];omega
      ·obtain rfl:i=j:=by omega
       have x:¬ 4294967296<=i:=by omega
       have D:=d.out.prod k f;have l:=d.out.gt (y0:=y0) (u1:=m) (by omega) n.out
       obtain⟨P,T⟩:∃ P,i * y0=P:=⟨_,rfl⟩;rw[T]at D l;have wP:IntKind.u64.wrap P=P:=by rw[IntKind.wrap_u64];omega
       have wT:IntKind.u64.wrap (4294967296 * b2)=4294967296 * b2:=by rw[IntKind.wrap_u64];omega
       have wS:IntKind.u64.wrap (4294967296 * b2+m)=4294967296 * b2+m:=by rw[IntKind.wrap_u64];omega
       have hS:¬ 4294967296 * b2+m<P:=fun h=>g (l.1 h);clear l D d;go_wp2;go_ret2;exact⟨⟨_,rfl⟩,⟨rfl,rfl,rfl,Nat.le_refl _,fun _ _=>rfl⟩⟩
    ·have S:Hid (Dig y1 u v (K - 1) (b1+y1)):=o.out.next g (by omega) (by omega) (by omega)
     clear o;go_wp2
     go_round
     case rel=>exact⟨_,_,rfl,rfl,S⟩
     case measure=>simp[intOf];omega
   ·skip;have D:=o.out.prod k f;have l:=o.out.gt (y0:=y0) (u1:=u1) (by omega) U.out
    obtain⟨P,T⟩:∃ P,K * y0=P:=⟨_,rfl⟩;rw[T]at D l;have wP:IntKind.u64.wrap P=P:=by rw[IntKind.wrap_u64];omega
    have wT:IntKind.u64.wrap (4294967296 * b1)=4294967296 * b1:=by rw[IntKind.wrap_u64];omega
    have wS:IntKind.u64.wrap (4294967296 * b1+u1)=4294967296 * b1+u1:=by rw[IntKind.wrap_u64];omega
    have hS:4294967296 * b1+u1<P:=l.2 g;clear l D;have Q:IntKind.u64.wrap (K - 1)=K - 1:=by rw[IntKind.wrap_u64];omega
    have W:IntKind.u64.wrap (b1+y1)=b1+y1:=by rw[IntKind.wrap_u64];omega
    by_cases G:4294967296<=b1+y1
    ·have hl:=o.out.last g k f Z (by omega) U.out G
     obtain rfl:K=v+1:=by omega
     have R:IntKind.u64.wrap (v+1 - 1)=v:=by rw[IntKind.wrap_u64];omega
     clear o hl Q;go_wp2
     go_loop [18,16] (fun a b=>∃ q r:Int,a=.int .u64 q/\b=.int .u64 r/\Hid (Dig y1 t i q r)) (fun a _=>(intOf a).toNat)
     case atStart=>exact⟨q',r',rfl,rfl,a4⟩
     case round =>
      obtain⟨j,b2,rfl,rfl,d⟩:=hrel;have F:0<=j/\j<=4294967297/\0<=b2/\b2<4294967296/\i<=j:=⟨d.out.2.2.1,d.out.2.2.2.1,d.out.2.2.2.2.1,d.out.2.2.2.2.2,d.out.2.1⟩;obtain⟨V,F,a5,a6,a7⟩:=F
      by_cases g:i<j
      ·by_cases x:4294967296<=j
       ·skip;have Q:IntKind.u64.wrap (j - 1)=j - 1:=by rw[IntKind.wrap_u64];omega
        have W:IntKind.u64.wrap (b2+y1)=b2+y1:=by rw[IntKind.wrap_u64];omega
        by_cases G:4294967296<=b2+y1
        ·have hl:=d.out.last g k f M (by omega) n.out G
         obtain rfl:j=i+1:=by omega
         have R:IntKind.u64.wrap (i+1 - 1)=i:=by rw[IntKind.wrap_u64];omega
         clear d hl Q;go_wp2;go_ret2;exact⟨⟨_,rfl⟩,⟨rfl,rfl,rfl,Nat.le_refl _,fun _ _=>rfl⟩⟩
        ·have S:Hid (Dig y1 t i (j - 1) (b2+y1)):=d.out.next g (by omega) (by omega) (by omega)
         clear d;go_wp2
         go_round
         case rel=>exact⟨_,_,rfl,rfl,S⟩
         case measure=>simp[intOf];omega
       ·skip;have D:=d.out.prod k f;have l:=d.out.gt (y0:=y0) (u1:=m) (by omega) n.out
        obtain⟨P,T⟩:∃ P,j * y0=P:=⟨_,rfl⟩;rw[T]at D l;have wP:IntKind.u64.wrap P=P:=by rw[IntKind.wrap_u64];omega
        have wT:IntKind.u64.wrap (4294967296 * b2)=4294967296 * b2:=by rw[IntKind.wrap_u64];omega
        have wS:IntKind.u64.wrap (4294967296 * b2+m)=4294967296 * b2+m:=by rw[IntKind.wrap_u64];omega
        have hS:4294967296 * b2+m<P:=l.2 g;clear l D;have Q:IntKind.u64.wrap (j - 1)=j - 1:=by rw[IntKind.wrap_u64];omega
        have W:IntKind.u64.wrap (b2+y1)=b2+y1:=by rw[IntKind.wrap_u64];omega
        by_cases G:4294967296<=b2+y1
        ·have hl:=d.out.last g k f M (by omega) n.out G
         obtain rfl:j=i+1:=by omega
         have R:IntKind.u64.wrap (i+1 - 1)=i:=by rw[IntKind.wrap_u64];omega
         clear d hl Q;go_wp2;go_ret2;exact⟨⟨_,rfl⟩,⟨rfl,rfl,rfl,Nat.le_refl _,fun _ _=>rfl⟩⟩
        ·have S:Hid (Dig y1 t i (j - 1) (b2+y1)):=d.out.next g (by omega) (by omega) (by omega)
         clear d;go_wp2
         go_round
         case rel=>exact⟨_,_,rfl,rfl,S⟩
         case measure=>simp[intOf];omega
      ·obtain rfl:i=j:=by omega
       have x:¬ 4294967296<=i:=by omega
       have D:=d.out.prod k f;have l:=d.out.gt (y0:=y0) (u1:=m) (by omega) n.out
       obtain⟨P,T⟩:∃ P,i * y0=P:=⟨_,rfl⟩;rw[T]at D l;have wP:IntKind.u64.wrap P=P:=by rw[IntKind.wrap_u64];omega
       have wT:IntKind.u64.wrap (4294967296 * b2)=4294967296 * b2:=by rw[IntKind.wrap_u64];omega
       have wS:IntKind.u64.wrap (4294967296 * b2+m)=4294967296 * b2+m:=by rw[IntKind.wrap_u64];omega
       have hS:¬ 4294967296 * b2+m<P:=fun h=>g (l.1 h);clear l D d;go_wp2;go_ret2;exact⟨⟨_,rfl⟩,⟨rfl,rfl,rfl,Nat.le_refl _,fun _ _=>rfl⟩⟩
    ·have S:Hid (Dig y1 u v (K - 1) (b1+y1)):=o.out.next g (by omega) (by omega) (by omega)
     clear o;go_wp2
     go_round
     case rel=>exact⟨_,_,rfl,rfl,S⟩
     case measure=>simp[intOf];omega
  ·obtain rfl:v=K:=by omega
   have x:¬ 4294967296<=v:=by omega
   have D:=o.out.prod k f;have l:=o.out.gt (y0:=y0) (u1:=u1) (by omega) U.out
   obtain⟨P,T⟩:∃ P,v * y0=P:=⟨_,rfl⟩;rw[T]at D l;have wP:IntKind.u64.wrap P=P:=by rw[IntKind.wrap_u64];omega
   have wT:IntKind.u64.wrap (4294967296 * b1)=4294967296 * b1:=by rw[IntKind.wrap_u64];omega
   have wS:IntKind.u64.wrap (4294967296 * b1+u1)=4294967296 * b1+u1:=by rw[IntKind.wrap_u64];omega
   have hS:¬ 4294967296 * b1+u1<P:=fun h=>g (l.1 h);clear l D o;go_wp2
   go_loop [18,16] (fun a b=>∃ q r:Int,a=.int .u64 q/\b=.int .u64 r/\Hid (Dig y1 t i q r)) (fun a _=>(intOf a).toNat)
   case atStart=>exact⟨q',r',rfl,rfl,a4⟩
   case round =>
    obtain⟨j,b2,rfl,rfl,d⟩:=hrel;have F:0<=j/\j<=4294967297/\0<=b2/\b2<4294967296/\i<=j:=⟨d.out.2.2.1,d.out.2.2.2.1,d.out.2.2.2.2.1,d.out.2.2.2.2.2,d.out.2.1⟩;obtain⟨V,F,a5,a6,a7⟩:=F
    by_cases g:i<j
    ·by_cases x:4294967296<=j
     ·skip;have Q:IntKind.u64.wrap (j - 1)=j - 1:=by rw[IntKind.wrap_u64];omega
      have W:IntKind.u64.wrap (b2+y1)=b2+y1:=by rw[IntKind.wrap_u64];omega
      by_cases G:4294967296<=b2+y1
      ·have hl:=d.out.last g k f M (by omega) n.out G
       obtain rfl:j=i+1:=by omega
       have R:IntKind.u64.wrap (i+1 - 1)=i:=by rw[IntKind.wrap_u64];omega
       clear d hl Q;go_wp2;go_ret2;exact⟨⟨_,rfl⟩,⟨rfl,rfl,rfl,Nat.le_refl _,fun _ _=>rfl⟩⟩
      ·have S:Hid (Dig y1 t i (j - 1) (b2+y1)):=d.out.next g (by omega) (by omega) (by omega)
       clear d;go_wp2
       go_round
       case rel=>exact⟨_,_,rfl,rfl,S⟩
       case measure=>simp[intOf];omega
     ·skip;have D:=d.out.prod k f;have l:=d.out.gt (y0:=y0) (u1:=m) (by omega) n.out
      obtain⟨P,T⟩:∃ P,j * y0=P:=⟨_,rfl⟩;rw[T]at D l;have wP:IntKind.u64.wrap P=P:=by rw[IntKind.wrap_u64];omega
      have wT:IntKind.u64.wrap (4294967296 * b2)=4294967296 * b2:=by rw[IntKind.wrap_u64];omega
      have wS:IntKind.u64.wrap (4294967296 * b2+m)=4294967296 * b2+m:=by rw[IntKind.wrap_u64];omega
      have hS:4294967296 * b2+m<P:=l.2 g;clear l D;have Q:IntKind.u64.wrap (j - 1)=j - 1:=by rw[IntKind.wrap_u64];omega
      have W:IntKind.u64.wrap (b2+y1)=b2+y1:=by rw[IntKind.wrap_u64];omega
      by_cases G:4294967296<=b2+y1
      ·have hl:=d.out.last g k f M (by omega) n.out G
       obtain rfl:j=i+1:=by omega
       have R:IntKind.u64.wrap (i+1 - 1)=i:=by rw[IntKind.wrap_u64];omega
       clear d hl Q;go_wp2;go_ret2;exact⟨⟨_,rfl⟩,⟨rfl,rfl,rfl,Nat.le_refl _,fun _ _=>rfl⟩⟩
      ·have S:Hid (Dig y1 t i (j - 1) (b2+y1)):=d.out.next g (by omega) (by omega) (by omega)
       clear d;go_wp2
       go_round
       case rel=>exact⟨_,_,rfl,rfl,S⟩
       case measure=>simp[intOf];omega
    ·obtain rfl:i=j:=by omega
     have x:¬ 4294967296<=i:=by omega
     have D:=d.out.prod k f;have l:=d.out.gt (y0:=y0) (u1:=m) (by omega) n.out
     obtain⟨P,T⟩:∃ P,i * y0=P:=⟨_,rfl⟩;rw[T]at D l;have wP:IntKind.u64.wrap P=P:=by rw[IntKind.wrap_u64];omega
     have wT:IntKind.u64.wrap (4294967296 * b2)=4294967296 * b2:=by rw[IntKind.wrap_u64];omega
     have wS:IntKind.u64.wrap (4294967296 * b2+m)=4294967296 * b2+m:=by rw[IntKind.wrap_u64];omega
     have hS:¬ 4294967296 * b2+m<P:=fun h=>g (l.1 h);clear l D d;go_wp2;go_ret2;exact⟨⟨_,rfl⟩,⟨rfl,rfl,rfl,Nat.le_refl _,fun _ _=>rfl⟩⟩
end Ra
end Go.Proofs.YtjghbciepinofaaGreat
