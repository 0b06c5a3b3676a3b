/- Parts of the proof. -/
import Derived.Test.YtddlhnoedldidaaGreatML
import Derived.Test.YtddlhnoedldidaaGreatMK15
import Derived.LoopN
import Derived.RowKit3
set_option maxRecDepth 100000
set_option maxHeartbeats 16000000
namespace Go.Proofs.YtddlhnoedldidaaGreat
open Go.Proofs.Tryz
open Value renaming int->J,slice->J1,pointer->J2,bool->J3,agg->J4
open IntKind renaming i64->I
open Obj renaming cells->J5
section
open Go.RowKit
theorem z1h(b c:Nat)(d:Int)(w:World)(hc:w.cell? ⟨c,0,none⟩=some (J I d))(h0:0<=d)(h1:d<4) :
  Calls prog 168 #[J2 (some ⟨b,0,none⟩),J2 (some ⟨c,0,none⟩)] w fun e w'=>e=.returned (J2 (some ⟨b,d.toNat,none⟩))/\∃ nq,w'=w.drewN nq:=q6r b c d w h0 h1 hc
theorem q9J(f0 f1 f2 f3 bo wa bu c d f h i j k:Int)(w:World)(r:wrap64 bo=c)(s:wrap64 (c+wa)=d)(t:wrap64 (d+bu)=f)(u:wrap64 (f+f0)=h)(v:wrap64 (h+f1)=i)(x:wrap64 (i+f2)=j)(l:wrap64 (j+f3)=k) :
  Calls prog 165 #[J4 #[J I f0,J I f1,J I f2,J I f3,J I bo,J I wa,J I bu]] w
  fun e w'=>e=.returned (J I k)/\Bl w w':=by
 go_enter func165,ntmps165
 go_wp2_with fail
 refine (z8q _).mono ?_;rintro e w1⟨g,cap,c0,c1,c2,c3,rfl,P,hb⟩;obtain⟨p0,p1,p2,p3,p4,p5,p6,q0,q1,q2,q3,t0,t1,m,n,p⟩:=P;clear t0 t1 m n p;have a:∀ o,w1.cell? ⟨w.heap.size,o,none⟩=(w.alloc (J5 #[J I f0,J I f1,J I f2,J I f3,J I bo,J I wa,J I bu] 35)).cell? ⟨w.heap.size,o,none⟩:=fun o=>hb.cell (by simp)
 have y:w1.cell? ⟨w.heap.size,0,none⟩=some (J I f0):=by rw[a];simp
 have z:w1.cell? ⟨w.heap.size,1,none⟩=some (J I f1):=by rw[a];simp
 have A:w1.cell? ⟨w.heap.size,2,none⟩=some (J I f2):=by rw[a];simp
 have B:w1.cell? ⟨w.heap.size,3,none⟩=some (J I f3):=by rw[a];simp
 have C:w1.cell? ⟨w.heap.size,4,none⟩=some (J I bo):=by rw[a];simp
 have D:w1.cell? ⟨w.heap.size,5,none⟩=some (J I wa):=by rw[a];simp
 have E:w1.cell? ⟨w.heap.size,6,none⟩=some (J I bu):=by rw[a];simp
 have q:Hid (Bl w w1):=(znw w _).trans (hb.mono (by simp))
 clear a hb;go_wp2;refine wp_loop_rounds 8 ?_
 iterate 8 (try (rw[rounds_succ];go_wp2_with (first
  | (go_at_call 169;refine (z1o _ _).mono ?_;rintro e b⟨rfl,rfl⟩)
  | (go_at_call 170;refine (z1i _ _).mono ?_;rintro e b⟨rfl,rfl⟩)
  | (go_at_call 192;refine (z4x _ _).mono ?_;rintro e b⟨rfl,rfl⟩)
  | (go_at_call 168;refine (z1h _ _ _ _ (by first | exact q0 | exact q1 | exact q2 | exact q3) (by decide) (by decide)).mono ?_;rintro e b⟨rfl,nq,rfl⟩))))
 go_ret;subst l;exact⟨rfl,below_drewN q.out _⟩
theorem wrap_add(a b:Int):wrap64 (wrap64 a+b)=wrap64 (a+b):=by
 unfold wrap64;omega
theorem j4R(f0 f1 f2 f3 bo wa bu:Int)(w:World):Calls prog 165 #[J4 #[J I f0,J I f1,J I f2,J I f3,J I bo,J I wa,J I bu]] w
  fun e w'=>e=.returned (J I (wrap64 (f0+f1+f2+f3+bo+wa+bu)))/\Bl w w':=by
 refine (q9J f0 f1 f2 f3 bo wa bu _ _ _ _ _ _ _ w rfl rfl rfl rfl rfl rfl rfl).mono ?_;rintro e w'⟨rfl,h⟩;refine⟨?_,h⟩;simp only[wrap_add];rw[show bo+wa+bu+f0+f1+f2+f3=f0+f1+f2+f3+bo+wa+bu by omega]
end
namespace Ra
open Go.RowKit
theorem q5r(hi lo y Y d y0 H L u N u1 n x v j:Int)(s:Nat)(h0:0<hi)(h1:hi<y)(d0:1<=s)(d3:s<=63)
  (eY:IntKind.u64.wrap (y * 2 ^ s)=Y) (b8:Y / 4294967296=d) (b9:bits .and .u64 Y 4294967295=y0)
  (eH:IntKind.u64.wrap (hi * 2 ^ s)=H) (eL:lo / 2 ^ (64 - s)=L) (eu:bits .or .u64 H L=u)
  (eN:IntKind.u64.wrap (lo * 2 ^ s)=N) (c4:N / 4294967296=u1) (c5:bits .and .u64 N 4294967295=n)
  (l:0<=y0) (g:y0<4294967296) (a9:2147483648<=d) (Z:d<4294967296) (bu:0<=u) (HY:Hid (Y=d * 4294967296+y0)) (HU:Hid (u<d * 4294967296+y0))
  (a3:0<=u1) (b4:u1<4294967296) (Q:0<=n) (b5:n<4294967296)
  (W:Hid (x=(u * 4294967296+u1) / (d * 4294967296+y0))) (a4:Hid (v=(u * 4294967296+u1) % (d * 4294967296+y0))) (o:Hid (j=(v * 4294967296+n) / (d * 4294967296+y0)))
  (c:∀ w,Calls prog 191 #[.int .u64 y] w fun e w'=>e=.returned (.int .i64 s)/\w'=w) (w:World) :
  Calls prog 167 #[.int .u64 hi,.int .u64 lo,.int .u64 y] w fun e w'=>∃ r,e=.returned (.tuple #[.int .u64 (x * 4294967296+j),.int .u64 r])/\Bl w w':=by
 have t1:(y == 0)=false:=by simp;omega
 have t2:¬ y<=hi:=by omega
 have t3:(hi == 0)=false:=by simp;omega
 have t4:¬ d=0:=by omega
 have bR:0<=v:=by rw[a4.out];exact Int.emod_nonneg _ (by omega)
 have HR:Hid (v<d * 4294967296+y0):=by show _<_;rw[a4.out];exact Int.emod_lt_of_pos _ (by omega)
 obtain⟨t,a0,M,p0,p1,d1⟩:=Dig.first d y0 u u1 x l g a9 Z bu HU.out a3 b4 W.out
 obtain⟨f,b0,b1,v0,v1,d2⟩:=Dig.first d y0 v n j l g a9 Z bR HR.out Q b5 o.out
 have ed:u.tdiv d=u / d:=Int.tdiv_eq_ediv_of_nonneg bu;have c6:v.tdiv d=v / d:=Int.tdiv_eq_ediv_of_nonneg bR;have bU:u<18446744073709551616:=by have:=HU.out;omega
 have d4:v<18446744073709551616:=by have:=HR.out;omega
 have gd:0<=u / d/\u / d<=4294967297:=⟨t.2.2.1,t.2.2.2.1⟩;have gm:0<=u % d/\u % d<4294967296:=⟨t.2.2.2.2.1,t.2.2.2.2.2⟩;have c7:0<=v / d/\v / d<=4294967297:=⟨f.2.2.1,f.2.2.2.1⟩;have c8:0<=v % d/\v % d<4294967296:=⟨f.2.2.2.2.1,f.2.2.2.2.2⟩
 -- what the text reckons between the loops
 obtain⟨A,eA⟩:∃ A,IntKind.u64.wrap (u * 4294967296)=A:=⟨_,rfl⟩;obtain⟨B,eB⟩:∃ B,IntKind.u64.wrap (A+u1)=B:=⟨_,rfl⟩;obtain⟨C,eC⟩:∃ C,IntKind.u64.wrap (x * Y)=C:=⟨_,rfl⟩
 have eD:IntKind.u64.wrap (B - C)=v:=by
  have e:=Int.mul_ediv_add_emod (u * 4294967296+u1) (d * 4294967296+y0);rw[<- a4.out,<- W.out,<- HY.out,Int.mul_comm Y x]at e;rw[<- eB,<- eC,<- eA];simp only[IntKind.wrap_u64];generalize x * Y=z at *;omega
 obtain⟨E1,eE⟩:∃ E,IntKind.u64.wrap (x * 4294967296)=E:=⟨_,rfl⟩
 have eF:IntKind.u64.wrap (E1+j)=x * 4294967296+j:=by
  rw[<- eE];simp only[IntKind.wrap_u64];omega
 obtain⟨q,hq⟩:∃ q,u / d=q:=⟨_,rfl⟩;obtain⟨r,K⟩:∃ r,u % d=r:=⟨_,rfl⟩;rw[hq]at gd ed t p0 p1 d1;rw[K]at gm d1 t;obtain⟨p,hp⟩:∃ p,q * d=p:=⟨_,rfl⟩;rw[hp]at p0 p1 d1;have c9:IntKind.u64.wrap q=q:=by rw[IntKind.wrap_u64];omega
 have ep:IntKind.u64.wrap p=p:=by rw[IntKind.wrap_u64];omega
 have er:IntKind.u64.wrap (u - p)=r:=by rw[IntKind.wrap_u64];omega
 obtain⟨q',b6⟩:∃ q,v / d=q:=⟨_,rfl⟩;obtain⟨r',b7⟩:∃ r,v % d=r:=⟨_,rfl⟩;rw[b6]at c7 c6 f v0 v1 d2;rw[b7]at c8 d2 f;obtain⟨p',hp'⟩:∃ p,q' * d=p:=⟨_,rfl⟩;rw[hp']at v0 v1 d2;have d5:IntKind.u64.wrap q'=q':=by rw[IntKind.wrap_u64];omega
 have d6:IntKind.u64.wrap p'=p':=by rw[IntKind.wrap_u64];omega
 have d7:IntKind.u64.wrap (v - p')=r':=by rw[IntKind.wrap_u64];omega
 have HD:Hid (Dig d u x q r):=t;have a5:Hid (Dig d v j q' r'):=f;clear t K hq d1 f b7 b6 d2
 go_enter func167,ntmps167
 go_wp2_with (go_at_call 191;refine (c _).mono ?_;rintro e w'⟨rfl,rfl⟩)
 clear eY b8 b9 eH eL eu eN c4 c5 ed hp ep er c gd gm p0 p1 c9 t1 t2 t3
 go_loop [15,16] (fun a b=>∃ q r:Int,a=.int .u64 q/\b=.int .u64 r/\Hid (Dig d u x q r)) (fun a _=>(intOf a).toNat)
 case atStart=>exact⟨q,r,rfl,rfl,HD⟩
 case round =>
  obtain⟨M,b1,rfl,rfl,t⟩:=hrel;have X:0<=M/\M<=4294967297/\0<=b1/\b1<4294967296/\x<=M:=⟨t.out.2.2.1,t.out.2.2.2.1,t.out.2.2.2.2.1,t.out.2.2.2.2.2,t.out.2.1⟩;obtain⟨X,G,a6,a7,a8⟩:=X
  by_cases i:x<M
  ·by_cases D:4294967296<=M
   ·skip;have R:IntKind.u64.wrap (M - 1)=M - 1:=by rw[IntKind.wrap_u64];omega
    have hp:IntKind.u64.wrap (b1+d)=b1+d:=by rw[IntKind.wrap_u64];omega
    by_cases K:4294967296<=b1+d
    ·have S:=t.out.last i l g a3 (by omega) W.out K
     obtain rfl:M=x+1:=by omega
     have T:IntKind.u64.wrap (x+1 - 1)=x:=by rw[IntKind.wrap_u64];omega
     clear t S R;go_wp2
     go_loop [18,16] (fun a b=>∃ q r:Int,a=.int .u64 q/\b=.int .u64 r/\Hid (Dig d v j q r)) (fun a _=>(intOf a).toNat)
     case atStart=>exact⟨q',r',rfl,rfl,a5⟩
     case round =>
      obtain⟨k,b2,rfl,rfl,f⟩:=hrel;have G:0<=k/\k<=4294967297/\0<=b2/\b2<4294967296/\j<=k:=⟨f.out.2.2.1,f.out.2.2.2.1,f.out.2.2.2.2.1,f.out.2.2.2.2.2,f.out.2.1⟩;obtain⟨X,G,a6,a7,a8⟩:=G
      by_cases i:j<k
      ·by_cases D:4294967296<=k
       ·skip;have R:IntKind.u64.wrap (k - 1)=k - 1:=by rw[IntKind.wrap_u64];omega
        have hp:IntKind.u64.wrap (b2+d)=b2+d:=by rw[IntKind.wrap_u64];omega
        by_cases K:4294967296<=b2+d
        ·have S:=f.out.last i l g Q (by omega) o.out K
         obtain rfl:k=j+1:=by omega
         have T:IntKind.u64.wrap (j+1 - 1)=j:=by rw[IntKind.wrap_u64];omega
         clear f S R;go_wp2;go_ret2;exact⟨⟨_,rfl⟩,⟨rfl,rfl,rfl,Nat.le_refl _,fun _ _=>rfl⟩⟩
        ·have U:Hid (Dig d v j (k - 1) (b2+d)):=f.out.next i (by omega) (by omega) (by omega)
         clear f;go_wp2
         go_round
         case rel=>exact⟨_,_,rfl,rfl,U⟩
         case measure=>simp[intOf];omega
       ·skip;have F:=f.out.prod l g;have m:=f.out.gt (y0:=y0) (u1:=n) (by omega) o.out
        obtain⟨P,V⟩:∃ P,k * y0=P:=⟨_,rfl⟩;rw[V]at F m;have wP:IntKind.u64.wrap P=P:=by rw[IntKind.wrap_u64];omega
        have wT:IntKind.u64.wrap (4294967296 * b2)=4294967296 * b2:=by rw[IntKind.wrap_u64];omega
        have wS:IntKind.u64.wrap (4294967296 * b2+n)=4294967296 * b2+n:=by rw[IntKind.wrap_u64];omega
        have hS:4294967296 * b2+n<P:=m.2 i;clear m F;have R:IntKind.u64.wrap (k - 1)=k - 1:=by rw[IntKind.wrap_u64];omega
        have hp:IntKind.u64.wrap (b2+d)=b2+d:=by rw[IntKind.wrap_u64];omega
        by_cases K:4294967296<=b2+d
        ·have S:=f.out.last i l g Q (by omega) o.out K
         obtain rfl:k=j+1:=by omega
         have T:IntKind.u64.wrap (j+1 - 1)=j:=by rw[IntKind.wrap_u64];omega
         clear f S R;go_wp2;go_ret2;exact⟨⟨_,rfl⟩,⟨rfl,rfl,rfl,Nat.le_refl _,fun _ _=>rfl⟩⟩
        ·have U:Hid (Dig d v j (k - 1) (b2+d)):=f.out.next i (by omega) (by omega) (by omega)
         clear f;go_wp2
         go_round
         case rel=>exact⟨_,_,rfl,rfl,U⟩
         case measure=>simp[intOf];omega
      ·obtain rfl:j=k:=by omega
       have D:¬ 4294967296<=j:=by omega
       have F:=f.out.prod l g;have m:=f.out.gt (y0:=y0) (u1:=n) (by omega) o.out
       obtain⟨P,V⟩:∃ P,j * y0=P:=⟨_,rfl⟩;rw[V]at F m;have wP:IntKind.u64.wrap P=P:=by rw[IntKind.wrap_u64];omega
       have wT:IntKind.u64.wrap (4294967296 * b2)=4294967296 * b2:=by rw[IntKind.wrap_u64];omega
       have wS:IntKind.u64.wrap (4294967296 * b2+n)=4294967296 * b2+n:=by rw[IntKind.wrap_u64];omega
       have hS:¬ 4294967296 * b2+n<P:=fun h=>i (m.1 h);clear m F f;go_wp2;go_ret2;exact⟨⟨_,rfl⟩,⟨rfl,rfl,rfl,Nat.le_refl _,fun _ _=>rfl⟩⟩
    ·have U:Hid (Dig d u x (M - 1) (b1+d)):=t.out.next i (by omega) (by omega) (by omega)
     clear t;go_wp2
     go_round
     case rel=>exact⟨_,_,rfl,rfl,U⟩
     case measure=>simp[intOf];omega
   ·skip;have F:=t.out.prod l g;have m:=t.out.gt (y0:=y0) (u1:=u1) (by omega) W.out
    obtain⟨P,V⟩:∃ P,M * y0=P:=⟨_,rfl⟩;rw[V]at F m;have wP:IntKind.u64.wrap P=P:=by rw[IntKind.wrap_u64];omega
    have wT:IntKind.u64.wrap (4294967296 * b1)=4294967296 * b1:=by rw[IntKind.wrap_u64];omega
    have wS:IntKind.u64.wrap (4294967296 * b1+u1)=4294967296 * b1+u1:=by rw[IntKind.wrap_u64];omega
    have hS:4294967296 * b1+u1<P:=m.2 i;clear m F;have R:IntKind.u64.wrap (M - 1)=M - 1:=by rw[IntKind.wrap_u64];omega
    have hp:IntKind.u64.wrap (b1+d)=b1+d:=by rw[IntKind.wrap_u64];omega
    by_cases K:4294967296<=b1+d
    ·have S:=t.out.last i l g a3 (by omega) W.out K
     obtain rfl:M=x+1:=by omega
     have T:IntKind.u64.wrap (x+1 - 1)=x:=by rw[IntKind.wrap_u64];omega
     clear t S R;go_wp2
     go_loop [18,16] (fun a b=>∃ q r:Int,a=.int .u64 q/\b=.int .u64 r/\Hid (Dig d v j q r)) (fun a _=>(intOf a).toNat)
     case atStart=>exact⟨q',r',rfl,rfl,a5⟩
     case round =>
      obtain⟨k,b2,rfl,rfl,f⟩:=hrel;have G:0<=k/\k<=4294967297/\0<=b2/\b2<4294967296/\j<=k:=⟨f.out.2.2.1,f.out.2.2.2.1,f.out.2.2.2.2.1,f.out.2.2.2.2.2,f.out.2.1⟩;obtain⟨X,G,a6,a7,a8⟩:=G
      by_cases i:j<k
      ·by_cases D:4294967296<=k
       ·skip;have R:IntKind.u64.wrap (k - 1)=k - 1:=by rw[IntKind.wrap_u64];omega
        have hp:IntKind.u64.wrap (b2+d)=b2+d:=by rw[IntKind.wrap_u64];omega
        by_cases K:4294967296<=b2+d
        ·have S:=f.out.last i l g Q (by omega) o.out K
         obtain rfl:k=j+1:=by omega
         have T:IntKind.u64.wrap (j+1 - 1)=j:=by rw[IntKind.wrap_u64];omega
         clear f S R;go_wp2;go_ret2;exact⟨⟨_,rfl⟩,⟨rfl,rfl,rfl,Nat.le_refl _,fun _ _=>rfl⟩⟩
        ·have U:Hid (Dig d v j (k - 1) (b2+d)):=f.out.next i (by omega) (by omega) (by omega)
         clear f;go_wp2
         go_round
         case rel=>exact⟨_,_,rfl,rfl,U⟩
         case measure=>simp[intOf];omega
       ·skip;have F:=f.out.prod l g;have m:=f.out.gt (y0:=y0) (u1:=n) (by omega) o.out
        obtain⟨P,V⟩:∃ P,k * y0=P:=⟨_,rfl⟩;rw[V]at F m;have wP:IntKind.u64.wrap P=P:=by rw[IntKind.wrap_u64];omega
        have wT:IntKind.u64.wrap (4294967296 * b2)=4294967296 * b2:=by rw[IntKind.wrap_u64];omega
        have wS:IntKind.u64.wrap (4294967296 * b2+n)=4294967296 * b2+n:=by rw[IntKind.wrap_u64];omega
        have hS:4294967296 * b2+n<P:=m.2 i;clear m F;have R:IntKind.u64.wrap (k - 1)=k - 1:=by rw[IntKind.wrap_u64];omega
        have hp:IntKind.u64.wrap (b2+d)=b2+d:=by rw[IntKind.wrap_u64];omega
        by_cases K:4294967296<=b2+d
        ·have S:=f.out.last i l g Q (by omega) o.out K
         obtain rfl:k=j+1:=by omega
         have T:IntKind.u64.wrap (j+1 - 1)=j:=by rw[IntKind.wrap_u64];omega
         clear f S R;go_wp2;go_ret2;exact⟨⟨_,rfl⟩,⟨rfl,rfl,rfl,Nat.le_refl _,fun _ _=>rfl⟩⟩
        ·have U:Hid (Dig d v j (k - 1) (b2+d)):=f.out.next i (by omega) (by omega) (by omega)
         clear f;go_wp2
         go_round
         case rel=>exact⟨_,_,rfl,rfl,U⟩
         case measure=>simp[intOf];omega
      ·obtain rfl:j=k:=by omega
       have D:¬ 4294967296<=j:=by omega
       have F:=f.out.prod l g;have m:=f.out.gt (y0:=y0) (u1:=n) (by omega) o.out
       obtain⟨P,V⟩:∃ P,j * y0=P:=⟨_,rfl⟩;rw[V]at F m;have wP:IntKind.u64.wrap P=P:=by rw[IntKind.wrap_u64];omega
       have wT:IntKind.u64.wrap (4294967296 * b2)=4294967296 * b2:=by rw[IntKind.wrap_u64];omega
       have wS:IntKind.u64.wrap (4294967296 * b2+n)=4294967296 * b2+n:=by rw[IntKind.wrap_u64];omega
       have hS:¬ 4294967296 * b2+n<P:=fun h=>i (m.1 h);clear m F f;go_wp2;go_ret2;exact⟨⟨_,rfl⟩,⟨rfl,rfl,rfl,Nat.le_refl _,fun _ _=>rfl⟩⟩
    ·have U:Hid (Dig d u x (M - 1) (b1+d)):=t.out.next i (by omega) (by omega) (by omega)
     clear t;go_wp2
     go_round
     case rel=>exact⟨_,_,rfl,rfl,U⟩
     case measure=>simp[intOf];omega
  ·obtain rfl:x=M:=by omega
   have D:¬ 4294967296<=x:=by omega
   have F:=t.out.prod l g;have m:=t.out.gt (y0:=y0) (u1:=u1) (by omega) W.out
   obtain⟨P,V⟩:∃ P,x * y0=P:=⟨_,rfl⟩;rw[V]at F m;have wP:IntKind.u64.wrap P=P:=by rw[IntKind.wrap_u64];omega
   have wT:IntKind.u64.wrap (4294967296 * b1)=4294967296 * b1:=by rw[IntKind.wrap_u64];omega
   have wS:IntKind.u64.wrap (4294967296 * b1+u1)=4294967296 * b1+u1:=by rw[IntKind.wrap_u64];omega
   have hS:¬ 4294967296 * b1+u1<P:=fun h=>i (m.1 h);clear m F t;go_wp2
   go_loop [18,16] (fun a b=>∃ q r:Int,a=.int .u64 q/\b=.int .u64 r/\Hid (Dig d v j q r)) (fun a _=>(intOf a).toNat)
   case atStart=>exact⟨q',r',rfl,rfl,a5⟩
   case round =>
    obtain⟨k,b2,rfl,rfl,f⟩:=hrel;have G:0<=k/\k<=4294967297/\0<=b2/\b2<4294967296/\j<=k:=⟨f.out.2.2.1,f.out.2.2.2.1,f.out.2.2.2.2.1,f.out.2.2.2.2.2,f.out.2.1⟩;obtain⟨X,G,a6,a7,a8⟩:=G
    by_cases i:j<k
    ·by_cases D:4294967296<=k
     ·skip;have R:IntKind.u64.wrap (k - 1)=k - 1:=by rw[IntKind.wrap_u64];omega
      have hp:IntKind.u64.wrap (b2+d)=b2+d:=by rw[IntKind.wrap_u64];omega
      by_cases K:4294967296<=b2+d
      ·have S:=f.out.last i l g Q (by omega) o.out K
       obtain rfl:k=j+1:=by omega
       have T:IntKind.u64.wrap (j+1 - 1)=j:=by rw[IntKind.wrap_u64];omega
       clear f S R;go_wp2;go_ret2;exact⟨⟨_,rfl⟩,⟨rfl,rfl,rfl,Nat.le_refl _,fun _ _=>rfl⟩⟩
      ·have U:Hid (Dig d v j (k - 1) (b2+d)):=f.out.next i (by omega) (by omega) (by omega)
       clear f;go_wp2
       go_round
       case rel=>exact⟨_,_,rfl,rfl,U⟩
       case measure=>simp[intOf];omega
     ·skip;have F:=f.out.prod l g;have m:=f.out.gt (y0:=y0) (u1:=n) (by omega) o.out
      obtain⟨P,V⟩:∃ P,k * y0=P:=⟨_,rfl⟩;rw[V]at F m;have wP:IntKind.u64.wrap P=P:=by rw[IntKind.wrap_u64];omega
      have wT:IntKind.u64.wrap (4294967296 * b2)=4294967296 * b2:=by rw[IntKind.wrap_u64];omega
      have wS:IntKind.u64.wrap (4294967296 * b2+n)=4294967296 * b2+n:=by rw[IntKind.wrap_u64];omega
      have hS:4294967296 * b2+n<P:=m.2 i;clear m F;have R:IntKind.u64.wrap (k - 1)=k - 1:=by rw[IntKind.wrap_u64];omega
      have hp:IntKind.u64.wrap (b2+d)=b2+d:=by rw[IntKind.wrap_u64];omega
      by_cases K:4294967296<=b2+d
      ·have S:=f.out.last i l g Q (by omega) o.out K
       obtain rfl:k=j+1:=by omega
       have T:IntKind.u64.wrap (j+1 - 1)=j:=by rw[IntKind.wrap_u64];omega
       clear f S R;go_wp2;go_ret2;exact⟨⟨_,rfl⟩,⟨rfl,rfl,rfl,Nat.le_refl _,fun _ _=>rfl⟩⟩
      ·have U:Hid (Dig d v j (k - 1) (b2+d)):=f.out.next i (by omega) (by omega) (by omega)
       clear f;go_wp2
       go_round
       case rel=>exact⟨_,_,rfl,rfl,U⟩
       case measure=>simp[intOf];omega
    ·obtain rfl:j=k:=by omega
     have D:¬ 4294967296<=j:=by omega
     have F:=f.out.prod l g;have m:=f.out.gt (y0:=y0) (u1:=n) (by omega) o.out
     obtain⟨P,V⟩:∃ P,j * y0=P:=⟨_,rfl⟩;rw[V]at F m;have wP:IntKind.u64.wrap P=P:=by rw[IntKind.wrap_u64];omega
     have wT:IntKind.u64.wrap (4294967296 * b2)=4294967296 * b2:=by rw[IntKind.wrap_u64];omega
     have wS:IntKind.u64.wrap (4294967296 * b2+n)=4294967296 * b2+n:=by rw[IntKind.wrap_u64];omega
     have hS:¬ 4294967296 * b2+n<P:=fun h=>i (m.1 h);clear m F f;go_wp2;go_ret2;exact⟨⟨_,rfl⟩,⟨rfl,rfl,rfl,Nat.le_refl _,fun _ _=>rfl⟩⟩
end Ra
end Go.Proofs.YtddlhnoedldidaaGreat
