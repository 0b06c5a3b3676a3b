/- Parts of the proof. -/
import Derived.Test.YtmopekkhmhhcaaaGreatFL
import Derived.Test.YtmopekkhmhhcaaaGreatFK34
import Derived.LoopN
import Derived.RowKit3
set_option maxRecDepth 100000
set_option maxHeartbeats 16000000
namespace Go.Proofs.YtmopekkhmhhcaaaGreat
open Go.Proofs.Tryz
section
open Go.RowKit
theorem z1i(b c:Nat)(d:Int)(w:World)(hc:w.cell? ⟨c,0,none⟩=some (.int .i64 d))(h0:0<=d)(h1:d<4) :
  Calls prog 172 #[.pointer (some ⟨b,0,none⟩),.pointer (some ⟨c,0,none⟩)] w fun e w'=>e=.returned (.pointer (some ⟨b,d.toNat,none⟩))/\∃ nq,w'=w.drewN nq:=q7g b c d w h0 h1 hc
theorem j2d(f0 f1 f2 f3 bo wa bu s1 s2 s3 s4 s5 s6 s7:Int)(w:World)(e1:wrap64 bo=s1)(e2:wrap64 (s1+wa)=s2)(e3:wrap64 (s2+bu)=s3)(e4:wrap64 (s3+f0)=s4)(e5:wrap64 (s4+f1)=s5)(e6:wrap64 (s5+f2)=s6)(e7:wrap64 (s6+f3)=s7) :
  Calls prog 169 #[.agg #[.int .i64 f0,.int .i64 f1,.int .i64 f2,.int .i64 f3,.int .i64 bo,.int .i64 wa,.int .i64 bu]] w
  fun e w'=>e=.returned (.int .i64 s7)/\Below w.heap.size w w':=by
 go_enter func169,ntmps169
 go_wp2_with fail
 refine (z9j _).mono ?_;rintro e w1⟨g,cap,c0,c1,c2,c3,rfl,P,hb⟩;obtain⟨p0,p1,p2,p3,p4,p5,p6,q0,q1,q2,q3,t0,t1,t2,t3,t4⟩:=P;clear t0 t1 t2 t3 t4;have hbox:∀ o,w1.cell? ⟨w.heap.size,o,none⟩=(w.alloc (.cells #[.int .i64 f0,.int .i64 f1,.int .i64 f2,.int .i64 f3,.int .i64 bo,.int .i64 wa,.int .i64 bu] 35)).cell? ⟨w.heap.size,o,none⟩:=fun o=>hb.cell (by simp)
 have x0:w1.cell? ⟨w.heap.size,0,none⟩=some (.int .i64 f0):=by rw[hbox];simp
 have x1:w1.cell? ⟨w.heap.size,1,none⟩=some (.int .i64 f1):=by rw[hbox];simp
 have x2:w1.cell? ⟨w.heap.size,2,none⟩=some (.int .i64 f2):=by rw[hbox];simp
 have x3:w1.cell? ⟨w.heap.size,3,none⟩=some (.int .i64 f3):=by rw[hbox];simp
 have x4:w1.cell? ⟨w.heap.size,4,none⟩=some (.int .i64 bo):=by rw[hbox];simp
 have x5:w1.cell? ⟨w.heap.size,5,none⟩=some (.int .i64 wa):=by rw[hbox];simp
 have x6:w1.cell? ⟨w.heap.size,6,none⟩=some (.int .i64 bu):=by rw[hbox];simp
 have HB:Hid (Below w.heap.size w w1):=(znw w _).trans (hb.mono (by simp))
 clear hbox hb;go_wp2;refine wp_loop_rounds 8 ?_
 iterate 8 (try (rw[rounds_succ];go_wp2_with (first
  | (go_at_call 173;refine (z1v _ _).mono ?_;rintro e w2⟨rfl,rfl⟩)
  | (go_at_call 174;refine (z1h _ _).mono ?_;rintro e w2⟨rfl,rfl⟩)
  | (go_at_call 195;refine (z4Y _ _).mono ?_;rintro e w2⟨rfl,rfl⟩)
  | (go_at_call 172;refine (z1i _ _ _ _ (by first | exact q0 | exact q1 | exact q2 | exact q3) (by decide) (by decide)).mono ?_;rintro e w2⟨rfl,nq,rfl⟩))))
 go_ret;subst e7;exact⟨rfl,below_drewN HB.out _⟩
theorem wrap_add(a b:Int):wrap64 (wrap64 a+b)=wrap64 (a+b):=by
 unfold wrap64;omega
theorem j6n(f0 f1 f2 f3 bo wa bu:Int)(w:World):Calls prog 169 #[.agg #[.int .i64 f0,.int .i64 f1,.int .i64 f2,.int .i64 f3,.int .i64 bo,.int .i64 wa,.int .i64 bu]] w
  fun e w'=>e=.returned (.int .i64 (wrap64 (f0+f1+f2+f3+bo+wa+bu)))/\Below w.heap.size w w':=by
 refine (j2d f0 f1 f2 f3 bo wa bu _ _ _ _ _ _ _ w rfl rfl rfl rfl rfl rfl rfl).mono ?_;rintro e w'⟨rfl,h⟩;refine⟨?_,h⟩;simp only[wrap_add];rw[show bo+wa+bu+f0+f1+f2+f3=f0+f1+f2+f3+bo+wa+bu by omega]
end
namespace Ra
open Go.RowKit
theorem q5t(hi lo y Y y1 y0 H L u N u1 u0 Q1 R1 Q0:Int)(s:Nat)(h0:0<hi)(h1:hi<y)(hs1:1<=s)(hs2:s<=63)
  (eY:IntKind.u64.wrap (y * 2 ^ s)=Y) (ey1:Y / 4294967296=y1) (ey0:bits .and .u64 Y 4294967295=y0)
  (eH:IntKind.u64.wrap (hi * 2 ^ s)=H) (eL:lo / 2 ^ (64 - s)=L) (eu:bits .or .u64 H L=u)
  (eN:IntKind.u64.wrap (lo * 2 ^ s)=N) (eu1:N / 4294967296=u1) (eu0:bits .and .u64 N 4294967295=u0)
  (by0:0<=y0) (by0':y0<4294967296) (by1:2147483648<=y1) (by1':y1<4294967296) (bu:0<=u) (HY:Hid (Y=y1 * 4294967296+y0)) (HU:Hid (u<y1 * 4294967296+y0))
  (bu1:0<=u1) (bu1':u1<4294967296) (bu0:0<=u0) (bu0':u0<4294967296)
  (HQ1:Hid (Q1=(u * 4294967296+u1) / (y1 * 4294967296+y0))) (HR1:Hid (R1=(u * 4294967296+u1) % (y1 * 4294967296+y0))) (HQ0:Hid (Q0=(R1 * 4294967296+u0) / (y1 * 4294967296+y0)))
  (c:∀ w,Calls prog 194 #[.int .u64 y] w fun e w'=>e=.returned (.int .i64 s)/\w'=w) (w:World) :
  Calls prog 171 #[.int .u64 hi,.int .u64 lo,.int .u64 y] w fun e w'=>∃ r,e=.returned (.tuple #[.int .u64 (Q1 * 4294967296+Q0),.int .u64 r])/\Below w.heap.size w w':=by
 have t1:(y == 0)=false:=by simp;omega
 have t2:¬ y<=hi:=by omega
 have t3:(hi == 0)=false:=by simp;omega
 have t4:¬ y1=0:=by omega
 have bR:0<=R1:=by rw[HR1.out];exact Int.emod_nonneg _ (by omega)
 have HR:Hid (R1<y1 * 4294967296+y0):=by show _<_;rw[HR1.out];exact Int.emod_lt_of_pos _ (by omega)
 obtain⟨D1,a0,a1,p0,p1,d1⟩:=Dig.first y1 y0 u u1 Q1 by0 by0' by1 by1' bu HU.out bu1 bu1' HQ1.out
 obtain⟨D2,b0,b1,v0,v1,d2⟩:=Dig.first y1 y0 R1 u0 Q0 by0 by0' by1 by1' bR HR.out bu0 bu0' HQ0.out
 have ed:u.tdiv y1=u / y1:=Int.tdiv_eq_ediv_of_nonneg bu;have ed2:R1.tdiv y1=R1 / y1:=Int.tdiv_eq_ediv_of_nonneg bR;have bU:u<18446744073709551616:=by have:=HU.out;omega
 have bRr:R1<18446744073709551616:=by have:=HR.out;omega
 have gd:0<=u / y1/\u / y1<=4294967297:=⟨D1.2.2.1,D1.2.2.2.1⟩;have gm:0<=u % y1/\u % y1<4294967296:=⟨D1.2.2.2.2.1,D1.2.2.2.2.2⟩;have gd2:0<=R1 / y1/\R1 / y1<=4294967297:=⟨D2.2.2.1,D2.2.2.2.1⟩;have gm2:0<=R1 % y1/\R1 % y1<4294967296:=⟨D2.2.2.2.2.1,D2.2.2.2.2.2⟩
 -- what the text reckons between the loops
 obtain⟨A,eA⟩:∃ A,IntKind.u64.wrap (u * 4294967296)=A:=⟨_,rfl⟩;obtain⟨B,eB⟩:∃ B,IntKind.u64.wrap (A+u1)=B:=⟨_,rfl⟩;obtain⟨C,eC⟩:∃ C,IntKind.u64.wrap (Q1 * Y)=C:=⟨_,rfl⟩
 have eD:IntKind.u64.wrap (B - C)=R1:=by
  have e:=Int.mul_ediv_add_emod (u * 4294967296+u1) (y1 * 4294967296+y0);rw[← HR1.out,← HQ1.out,← HY.out,Int.mul_comm Y Q1]at e;rw[← eB,← eC,← eA];simp only[IntKind.wrap_u64];generalize Q1 * Y=z at *;omega
 obtain⟨E1,eE⟩:∃ E,IntKind.u64.wrap (Q1 * 4294967296)=E:=⟨_,rfl⟩
 have eF:IntKind.u64.wrap (E1+Q0)=Q1 * 4294967296+Q0:=by
  rw[← eE];simp only[IntKind.wrap_u64];omega
 obtain⟨q,hq⟩:∃ q,u / y1=q:=⟨_,rfl⟩;obtain⟨r,hr⟩:∃ r,u % y1=r:=⟨_,rfl⟩;rw[hq]at gd ed D1 p0 p1 d1;rw[hr]at gm d1 D1;obtain⟨p,hp⟩:∃ p,q * y1=p:=⟨_,rfl⟩;rw[hp]at p0 p1 d1;have eq1:IntKind.u64.wrap q=q:=by rw[IntKind.wrap_u64];omega
 have ep:IntKind.u64.wrap p=p:=by rw[IntKind.wrap_u64];omega
 have er:IntKind.u64.wrap (u - p)=r:=by rw[IntKind.wrap_u64];omega
 obtain⟨q',hq'⟩:∃ q,R1 / y1=q:=⟨_,rfl⟩;obtain⟨r',hr'⟩:∃ r,R1 % y1=r:=⟨_,rfl⟩;rw[hq']at gd2 ed2 D2 v0 v1 d2;rw[hr']at gm2 d2 D2;obtain⟨p',hp'⟩:∃ p,q' * y1=p:=⟨_,rfl⟩;rw[hp']at v0 v1 d2;have eq2:IntKind.u64.wrap q'=q':=by rw[IntKind.wrap_u64];omega
 have ep2:IntKind.u64.wrap p'=p':=by rw[IntKind.wrap_u64];omega
 have er2:IntKind.u64.wrap (R1 - p')=r':=by rw[IntKind.wrap_u64];omega
 have HD:Hid (Dig y1 u Q1 q r):=D1;have HD2:Hid (Dig y1 R1 Q0 q' r'):=D2;clear D1 hr hq d1 D2 hr' hq' d2
 go_enter func171,ntmps171
 go_wp2_with (go_at_call 194;refine (c _).mono ?_;rintro e w'⟨rfl,rfl⟩)
 clear eY ey1 ey0 eH eL eu eN eu1 eu0 ed hp ep er c gd gm p0 p1 eq1 t1 t2 t3
 go_loop [15,16] (fun a b=>∃ q r:Int,a=.int .u64 q/\b=.int .u64 r/\Hid (Dig y1 u Q1 q r)) (fun a _=>(intOf a).toNat)
 case atStart=>exact⟨q,r,rfl,rfl,HD⟩
 case round =>
  obtain⟨a1,b1,rfl,rfl,D1⟩:=hrel;have ga1:0<=a1/\a1<=4294967297/\0<=b1/\b1<4294967296/\Q1<=a1:=⟨D1.out.2.2.1,D1.out.2.2.2.1,D1.out.2.2.2.2.1,D1.out.2.2.2.2.2,D1.out.2.1⟩;obtain⟨ga1,ga2,ga3,ga4,ga5⟩:=ga1
  by_cases hlt:Q1<a1
  ·by_cases hbig:4294967296<=a1
   ·skip;have hm:IntKind.u64.wrap (a1 - 1)=a1 - 1:=by rw[IntKind.wrap_u64];omega
    have hp:IntKind.u64.wrap (b1+y1)=b1+y1:=by rw[IntKind.wrap_u64];omega
    by_cases hr:4294967296<=b1+y1
    ·have hl:=D1.out.last hlt by0 by0' bu1 (by omega) HQ1.out hr
     obtain rfl:a1=Q1+1:=by omega
     have hm2:IntKind.u64.wrap (Q1+1 - 1)=Q1:=by rw[IntKind.wrap_u64];omega
     clear D1 hl hm;go_wp2
     go_loop [18,16] (fun a b=>∃ q r:Int,a=.int .u64 q/\b=.int .u64 r/\Hid (Dig y1 R1 Q0 q r)) (fun a _=>(intOf a).toNat)
     case atStart=>exact⟨q',r',rfl,rfl,HD2⟩
     case round =>
      obtain⟨a2,b2,rfl,rfl,D2⟩:=hrel;have ga2:0<=a2/\a2<=4294967297/\0<=b2/\b2<4294967296/\Q0<=a2:=⟨D2.out.2.2.1,D2.out.2.2.2.1,D2.out.2.2.2.2.1,D2.out.2.2.2.2.2,D2.out.2.1⟩;obtain⟨ga1,ga2,ga3,ga4,ga5⟩:=ga2
      by_cases hlt:Q0<a2
      ·by_cases hbig:4294967296<=a2
       ·skip;have hm:IntKind.u64.wrap (a2 - 1)=a2 - 1:=by rw[IntKind.wrap_u64];omega
        have hp:IntKind.u64.wrap (b2+y1)=b2+y1:=by rw[IntKind.wrap_u64];omega
        by_cases hr:4294967296<=b2+y1
        ·have hl:=D2.out.last hlt by0 by0' bu0 (by omega) HQ0.out hr
         obtain rfl:a2=Q0+1:=by omega
         have hm2:IntKind.u64.wrap (Q0+1 - 1)=Q0:=by rw[IntKind.wrap_u64];omega
         clear D2 hl hm;go_wp2;go_ret2;exact⟨⟨_,rfl⟩,⟨rfl,rfl,rfl,Nat.le_refl _,fun _ _=>rfl⟩⟩
        ·have HN:Hid (Dig y1 R1 Q0 (a2 - 1) (b2+y1)):=D2.out.next hlt (by omega) (by omega) (by omega)
         clear D2;go_wp2
         go_round
         case rel=>exact⟨_,_,rfl,rfl,HN⟩
         case measure=>simp[intOf];omega
       ·skip;have hP:=D2.out.prod by0 by0';have hG:=D2.out.gt (y0:=y0) (u1:=u0) (by omega) HQ0.out
        obtain⟨P,eP⟩:∃ P,a2 * y0=P:=⟨_,rfl⟩;rw[eP]at hP hG;have wP:IntKind.u64.wrap P=P:=by rw[IntKind.wrap_u64];omega
        have wT:IntKind.u64.wrap (4294967296 * b2)=4294967296 * b2:=by rw[IntKind.wrap_u64];omega
        have wS:IntKind.u64.wrap (4294967296 * b2+u0)=4294967296 * b2+u0:=by rw[IntKind.wrap_u64];omega
        have hS:4294967296 * b2+u0<P:=hG.2 hlt;clear hG hP;have hm:IntKind.u64.wrap (a2 - 1)=a2 - 1:=by rw[IntKind.wrap_u64];omega
        have hp:IntKind.u64.wrap (b2+y1)=b2+y1:=by rw[IntKind.wrap_u64];omega
        by_cases hr:4294967296<=b2+y1
        ·have hl:=D2.out.last hlt by0 by0' bu0 (by omega) HQ0.out hr
         obtain rfl:a2=Q0+1:=by omega
         have hm2:IntKind.u64.wrap (Q0+1 - 1)=Q0:=by rw[IntKind.wrap_u64];omega
         clear D2 hl hm;go_wp2;go_ret2;exact⟨⟨_,rfl⟩,⟨rfl,rfl,rfl,Nat.le_refl _,fun _ _=>rfl⟩⟩
        ·have HN:Hid (Dig y1 R1 Q0 (a2 - 1) (b2+y1)):=D2.out.next hlt (by omega) (by omega) (by omega)
         clear D2;go_wp2
         go_round
         case rel=>exact⟨_,_,rfl,rfl,HN⟩
         case measure=>simp[intOf];omega
      ·obtain rfl:Q0=a2:=by omega
       have hbig:¬ 4294967296<=Q0:=by omega
       have hP:=D2.out.prod by0 by0';have hG:=D2.out.gt (y0:=y0) (u1:=u0) (by omega) HQ0.out
       obtain⟨P,eP⟩:∃ P,Q0 * y0=P:=⟨_,rfl⟩;rw[eP]at hP hG;have wP:IntKind.u64.wrap P=P:=by rw[IntKind.wrap_u64];omega
       have wT:IntKind.u64.wrap (4294967296 * b2)=4294967296 * b2:=by rw[IntKind.wrap_u64];omega
       have wS:IntKind.u64.wrap (4294967296 * b2+u0)=4294967296 * b2+u0:=by rw[IntKind.wrap_u64];omega
       have hS:¬ 4294967296 * b2+u0<P:=fun h=>hlt (hG.1 h);clear hG hP D2;go_wp2;go_ret2;exact⟨⟨_,rfl⟩,⟨rfl,rfl,rfl,Nat.le_refl _,fun _ _=>rfl⟩⟩
    ·have HN:Hid (Dig y1 u Q1 (a1 - 1) (b1+y1)):=D1.out.next hlt (by omega) (by omega) (by omega)
     clear D1;go_wp2
     go_round
     case rel=>exact⟨_,_,rfl,rfl,HN⟩
     case measure=>simp[intOf];omega
   ·skip;have hP:=D1.out.prod by0 by0';have hG:=D1.out.gt (y0:=y0) (u1:=u1) (by omega) HQ1.out
    obtain⟨P,eP⟩:∃ P,a1 * y0=P:=⟨_,rfl⟩;rw[eP]at hP hG;have wP:IntKind.u64.wrap P=P:=by rw[IntKind.wrap_u64];omega
    have wT:IntKind.u64.wrap (4294967296 * b1)=4294967296 * b1:=by rw[IntKind.wrap_u64];omega
    have wS:IntKind.u64.wrap (4294967296 * b1+u1)=4294967296 * b1+u1:=by rw[IntKind.wrap_u64];omega
    have hS:4294967296 * b1+u1<P:=hG.2 hlt;clear hG hP;have hm:IntKind.u64.wrap (a1 - 1)=a1 - 1:=by rw[IntKind.wrap_u64];omega
    have hp:IntKind.u64.wrap (b1+y1)=b1+y1:=by rw[IntKind.wrap_u64];omega
    by_cases hr:4294967296<=b1+y1
    ·have hl:=D1.out.last hlt by0 by0' bu1 (by omega) HQ1.out hr
     obtain rfl:a1=Q1+1:=by omega
     have hm2:IntKind.u64.wrap (Q1+1 - 1)=Q1:=by rw[IntKind.wrap_u64];omega
     clear D1 hl hm;go_wp2
     go_loop [18,16] (fun a b=>∃ q r:Int,a=.int .u64 q/\b=.int .u64 r/\Hid (Dig y1 R1 Q0 q r)) (fun a _=>(intOf a).toNat)
     case atStart=>exact⟨q',r',rfl,rfl,HD2⟩
     case round =>
      obtain⟨a2,b2,rfl,rfl,D2⟩:=hrel;have ga2:0<=a2/\a2<=4294967297/\0<=b2/\b2<4294967296/\Q0<=a2:=⟨D2.out.2.2.1,D2.out.2.2.2.1,D2.out.2.2.2.2.1,D2.out.2.2.2.2.2,D2.out.2.1⟩;obtain⟨ga1,ga2,ga3,ga4,ga5⟩:=ga2
      by_cases hlt:Q0<a2
      ·by_cases hbig:4294967296<=a2
       ·skip;have hm:IntKind.u64.wrap (a2 - 1)=a2 - 1:=by rw[IntKind.wrap_u64];omega
        have hp:IntKind.u64.wrap (b2+y1)=b2+y1:=by rw[IntKind.wrap_u64];omega
        by_cases hr:4294967296<=b2+y1
        ·have hl:=D2.out.last hlt by0 by0' bu0 (by omega) HQ0.out hr
         obtain rfl:a2=Q0+1:=by omega
         have hm2:IntKind.u64.wrap (Q0+1 - 1)=Q0:=by rw[IntKind.wrap_u64];omega
         clear D2 hl hm;go_wp2;go_ret2;exact⟨⟨_,rfl⟩,⟨rfl,rfl,rfl,Nat.le_refl _,fun _ _=>rfl⟩⟩
        ·have HN:Hid (Dig y1 R1 Q0 (a2 - 1) (b2+y1)):=D2.out.next hlt (by omega) (by omega) (by omega)
         clear D2;go_wp2
         go_round
         case rel=>exact⟨_,_,rfl,rfl,HN⟩
         case measure=>simp[intOf];omega
       ·skip;have hP:=D2.out.prod by0 by0';have hG:=D2.out.gt (y0:=y0) (u1:=u0) (by omega) HQ0.out
        obtain⟨P,eP⟩:∃ P,a2 * y0=P:=⟨_,rfl⟩;rw[eP]at hP hG;have wP:IntKind.u64.wrap P=P:=by rw[IntKind.wrap_u64];omega
        have wT:IntKind.u64.wrap (4294967296 * b2)=4294967296 * b2:=by rw[IntKind.wrap_u64];omega
        have wS:IntKind.u64.wrap (4294967296 * b2+u0)=4294967296 * b2+u0:=by rw[IntKind.wrap_u64];omega
        have hS:4294967296 * b2+u0<P:=hG.2 hlt;clear hG hP;have hm:IntKind.u64.wrap (a2 - 1)=a2 - 1:=by rw[IntKind.wrap_u64];omega
        have hp:IntKind.u64.wrap (b2+y1)=b2+y1:=by rw[IntKind.wrap_u64];omega
        by_cases hr:4294967296<=b2+y1
        ·have hl:=D2.out.last hlt by0 by0' bu0 (by omega) HQ0.out hr
         obtain rfl:a2=Q0+1:=by omega
         have hm2:IntKind.u64.wrap (Q0+1 - 1)=Q0:=by rw[IntKind.wrap_u64];omega
         clear D2 hl hm;go_wp2;go_ret2;exact⟨⟨_,rfl⟩,⟨rfl,rfl,rfl,Nat.le_refl _,fun _ _=>rfl⟩⟩
        ·have HN:Hid (Dig y1 R1 Q0 (a2 - 1) (b2+y1)):=D2.out.next hlt (by omega) (by omega) (by omega)
         clear D2;go_wp2
         go_round
         case rel=>exact⟨_,_,rfl,rfl,HN⟩
         case measure=>simp[intOf];omega
      ·obtain rfl:Q0=a2:=by omega
       have hbig:¬ 4294967296<=Q0:=by omega
       have hP:=D2.out.prod by0 by0';have hG:=D2.out.gt (y0:=y0) (u1:=u0) (by omega) HQ0.out
       obtain⟨P,eP⟩:∃ P,Q0 * y0=P:=⟨_,rfl⟩;rw[eP]at hP hG;have wP:IntKind.u64.wrap P=P:=by rw[IntKind.wrap_u64];omega
       have wT:IntKind.u64.wrap (4294967296 * b2)=4294967296 * b2:=by rw[IntKind.wrap_u64];omega
       have wS:IntKind.u64.wrap (4294967296 * b2+u0)=4294967296 * b2+u0:=by rw[IntKind.wrap_u64];omega
       have hS:¬ 4294967296 * b2+u0<P:=fun h=>hlt (hG.1 h);clear hG hP D2;go_wp2;go_ret2;exact⟨⟨_,rfl⟩,⟨rfl,rfl,rfl,Nat.le_refl _,fun _ _=>rfl⟩⟩
    ·have HN:Hid (Dig y1 u Q1 (a1 - 1) (b1+y1)):=D1.out.next hlt (by omega) (by omega) (by omega)
     clear D1;go_wp2
     go_round
     case rel=>exact⟨_,_,rfl,rfl,HN⟩
     case measure=>simp[intOf];omega
  ·obtain rfl:Q1=a1:=by omega
   have hbig:¬ 4294967296<=Q1:=by omega
   have hP:=D1.out.prod by0 by0';have hG:=D1.out.gt (y0:=y0) (u1:=u1) (by omega) HQ1.out
   obtain⟨P,eP⟩:∃ P,Q1 * y0=P:=⟨_,rfl⟩;rw[eP]at hP hG;have wP:IntKind.u64.wrap P=P:=by rw[IntKind.wrap_u64];omega
   have wT:IntKind.u64.wrap (4294967296 * b1)=4294967296 * b1:=by rw[IntKind.wrap_u64];omega
   have wS:IntKind.u64.wrap (4294967296 * b1+u1)=4294967296 * b1+u1:=by rw[IntKind.wrap_u64];omega
   have hS:¬ 4294967296 * b1+u1<P:=fun h=>hlt (hG.1 h);clear hG hP D1;go_wp2
   go_loop [18,16] (fun a b=>∃ q r:Int,a=.int .u64 q/\b=.int .u64 r/\Hid (Dig y1 R1 Q0 q r)) (fun a _=>(intOf a).toNat)
   case atStart=>exact⟨q',r',rfl,rfl,HD2⟩
   case round =>
    obtain⟨a2,b2,rfl,rfl,D2⟩:=hrel;have ga2:0<=a2/\a2<=4294967297/\0<=b2/\b2<4294967296/\Q0<=a2:=⟨D2.out.2.2.1,D2.out.2.2.2.1,D2.out.2.2.2.2.1,D2.out.2.2.2.2.2,D2.out.2.1⟩;obtain⟨ga1,ga2,ga3,ga4,ga5⟩:=ga2
    by_cases hlt:Q0<a2
    ·by_cases hbig:4294967296<=a2
     ·skip;have hm:IntKind.u64.wrap (a2 - 1)=a2 - 1:=by rw[IntKind.wrap_u64];omega
      have hp:IntKind.u64.wrap (b2+y1)=b2+y1:=by rw[IntKind.wrap_u64];omega
      by_cases hr:4294967296<=b2+y1
      ·have hl:=D2.out.last hlt by0 by0' bu0 (by omega) HQ0.out hr
       obtain rfl:a2=Q0+1:=by omega
       have hm2:IntKind.u64.wrap (Q0+1 - 1)=Q0:=by rw[IntKind.wrap_u64];omega
       clear D2 hl hm;go_wp2;go_ret2;exact⟨⟨_,rfl⟩,⟨rfl,rfl,rfl,Nat.le_refl _,fun _ _=>rfl⟩⟩
      ·have HN:Hid (Dig y1 R1 Q0 (a2 - 1) (b2+y1)):=D2.out.next hlt (by omega) (by omega) (by omega)
       clear D2;go_wp2
       go_round
       case rel=>exact⟨_,_,rfl,rfl,HN⟩
       case measure=>simp[intOf];omega
     ·skip;have hP:=D2.out.prod by0 by0';have hG:=D2.out.gt (y0:=y0) (u1:=u0) (by omega) HQ0.out
      obtain⟨P,eP⟩:∃ P,a2 * y0=P:=⟨_,rfl⟩;rw[eP]at hP hG;have wP:IntKind.u64.wrap P=P:=by rw[IntKind.wrap_u64];omega
      have wT:IntKind.u64.wrap (4294967296 * b2)=4294967296 * b2:=by rw[IntKind.wrap_u64];omega
      have wS:IntKind.u64.wrap (4294967296 * b2+u0)=4294967296 * b2+u0:=by rw[IntKind.wrap_u64];omega
      have hS:4294967296 * b2+u0<P:=hG.2 hlt;clear hG hP;have hm:IntKind.u64.wrap (a2 - 1)=a2 - 1:=by rw[IntKind.wrap_u64];omega
      have hp:IntKind.u64.wrap (b2+y1)=b2+y1:=by rw[IntKind.wrap_u64];omega
      by_cases hr:4294967296<=b2+y1
      ·have hl:=D2.out.last hlt by0 by0' bu0 (by omega) HQ0.out hr
       obtain rfl:a2=Q0+1:=by omega
       have hm2:IntKind.u64.wrap (Q0+1 - 1)=Q0:=by rw[IntKind.wrap_u64];omega
       clear D2 hl hm;go_wp2;go_ret2;exact⟨⟨_,rfl⟩,⟨rfl,rfl,rfl,Nat.le_refl _,fun _ _=>rfl⟩⟩
      ·have HN:Hid (Dig y1 R1 Q0 (a2 - 1) (b2+y1)):=D2.out.next hlt (by omega) (by omega) (by omega)
       clear D2;go_wp2
       go_round
       case rel=>exact⟨_,_,rfl,rfl,HN⟩
       case measure=>simp[intOf];omega
    ·obtain rfl:Q0=a2:=by omega
     have hbig:¬ 4294967296<=Q0:=by omega
     have hP:=D2.out.prod by0 by0';have hG:=D2.out.gt (y0:=y0) (u1:=u0) (by omega) HQ0.out
     obtain⟨P,eP⟩:∃ P,Q0 * y0=P:=⟨_,rfl⟩;rw[eP]at hP hG;have wP:IntKind.u64.wrap P=P:=by rw[IntKind.wrap_u64];omega
     have wT:IntKind.u64.wrap (4294967296 * b2)=4294967296 * b2:=by rw[IntKind.wrap_u64];omega
     have wS:IntKind.u64.wrap (4294967296 * b2+u0)=4294967296 * b2+u0:=by rw[IntKind.wrap_u64];omega
     have hS:¬ 4294967296 * b2+u0<P:=fun h=>hlt (hG.1 h);clear hG hP D2;go_wp2;go_ret2;exact⟨⟨_,rfl⟩,⟨rfl,rfl,rfl,Nat.le_refl _,fun _ _=>rfl⟩⟩
end Ra
end Go.Proofs.YtmopekkhmhhcaaaGreat
