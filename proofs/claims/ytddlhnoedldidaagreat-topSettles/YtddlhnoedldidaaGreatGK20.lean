/- Parts of the proof. -/
import Derived.Test.YtddlhnoedldidaaGreatGL
import Derived.Test.YtddlhnoedldidaaGreatGK9
import Derived.Test.YtddlhnoedldidaaGreatGK31
set_option maxRecDepth 100000
set_option maxHeartbeats 16000000
namespace Go.Proofs.YtddlhnoedldidaaGreat
open Go.Proofs.Tryz
open Value renaming int->J,slice->J1,pointer->J2,bool->J3,agg->J4
open IntKind renaming i64->I
open Obj renaming cells->J5
namespace Wd
open Go.RowKit Pv Kc
theorem q1i(g:Nat)(x:Wo)(v:WoV)(P:Nat->Prop)(w:World)(i:Nat)(j:i<2)(b f:Bool)(k:CAt 97 w g (wdC x v))(l:WIn P w x v)(m:¬ P g)(d:Ln.z1a (z0Y x i b)=true)(e:small (z0Y x i b).S)(a:x.p.q.length*88<=140737488351232)(h:(x.c i).pd.length*80<=140737488351232) :
  Calls prog 63 #[J2 (some ⟨g,0,none⟩),J I (i:Int),J3 b,J3 f] w (q0Q P w g (z7s x i b f)):=by
 cases b
 ·exact y1e f g x v P w i j k l m d e a h
 ·exact y1a f g x v P w i j k l m d e a h
theorem q2D(g:Nat)(x:Wo)(v:WoV)(P:Nat->Prop)(w:World)(i:Nat)(c:i<2)(b:Bool)(k:Int)(d:CAt 97 w g (wdC x v))(e:WIn P w x v)(f:¬ P g)(a:x.p.q.length*88<=140737488351232) :
  Calls prog 64 #[J2 (some ⟨g,0,none⟩),J I (i:Int),J3 b,J I k] w (q3i P w g (z6I x i b k)):=by
 cases b
 ·exact j9T g x v P w i c k d e f a
 ·exact j9j g x v P w i c k d e f a
def Dq(k c d v n:Int)(b f:Bool):Array Value:=#[J I k,J I c,J I d,J I v,J I n,J3 b,J3 f]
structure Small(x:Wo):Prop where
 q88:x.p.q.length*88<=140737488351232
 c80:∀i,i<2->(x.c i).pd.length*80<=140737488351232
 c16:∀i,i<2->((x.c i).rp.length+(x.c i).pd.length)*16<=168884986026393
 gl:∀i,i<2->∀b,Ln.z1a (z0Y x i b)=true
 sm:∀i,i<2->∀b,small (z0Y x i b).S
 k0:0<=x.ck
 k1:x.ck<=1099511627736
theorem j0F{N:Int}{x:Wo}(h:z2P N x):Small x:=by
 have n1:=h.n1;refine⟨by have:=h.ql;omega,λi a=>by have:=h.cl i a;omega,λi a=>by have:=h.cl i a;omega,λi a b=>j0e h a b,λi a b=>z6F h a b,h.k0,h.k1⟩
theorem q8v(g:Nat)(x:Wo)(v:WoV)(P:Nat->Prop)(w:World)(i:Nat)(u:i<2)(k d p n:Int)(b f:Bool)(F:k=7∨k=8∨k=11∨k=12∨k=9∨k=10)(B:CAt 97 w g (wdC x v))(N:WIn P w x v)(R:¬ P g)(hs:Small x) :
  Calls prog 37 #[J2 (some ⟨g,0,none⟩),J4 #[.int .i64 k,.int .i64 (i:Int),.int .i64 d,.int .i64 p,.int .i64 n,J3 b,J3 f]] w (q0Q P w g (z2c x i ⟨k,(i:Int),d,p,n,b,f⟩)):=by
 have S:=B.lt;have q:=N.lo;have s:¬(P g/\g<w.heap.size):=λh=>R h.1;have G:=J6 (λ(o:World) (hb:Bl w o)=>q7J g x v _ o i u (B.over hb) (q.over hb) s (hs.c16 i u));have H:=J6 (λ(o:World) (hb:Bl w o)=>q8o g x v _ o i u b (B.over hb) (q.over hb) s);have K:=J6 (λ(o:World) (hb:Bl w o)=>q1i g x v _ o i u b f (B.over hb) (q.over hb) s (hs.gl i u b) (hs.sm i u b) hs.q88 (hs.c80 i u));have L:=J6 (λ(o:World) (hb:Bl w o)=>q2D g x v _ o i u b n (B.over hb) (q.over hb) s hs.q88);have C:=J6 (λ(o:World) (hb:Bl w o) (F:k=11∨k=12)=>j1T g x v _ o i u ⟨k,(i:Int),d,p,n,b,f⟩ F rfl (B.over hb) (q.over hb) s)
 have m:Hid (∀(o w':World) (y:Wo),Bl w o->z1h (λb=>P b/\b<w.heap.size) o g y w'->z1h P w g y w'):=λo w' y hb h=>by
  obtain⟨v',c,i,a⟩:=h;refine⟨v',c,i.mono λb _ M=>?_,(Alt.of (g:=g) hb).trans a⟩
  rcases M with⟨h1,h2⟩|h1
  ·exact .inl h1
  ·exact .inr (by have:=hb.size;omega)
 have A:=CAt.new 28 w #[.int .i64 k,.int .i64 (i:Int),.int .i64 d,.int .i64 p,.int .i64 n,J3 b,J3 f];have b0:Bl w (w.alloc (J5 #[.int .i64 k,.int .i64 (i:Int),.int .i64 d,.int .i64 p,.int .i64 n,J3 b,J3 f] 28)):=znw w _;clear B N q hs s;generalize Q:z2c x i ⟨k,(i:Int),d,p,n,b,f⟩=D at *;have HD:=J6 Q;clear Q
 go_enter func37,ntmps37
 go_upto_region 1 with fail
 generalize w.alloc (J5 #[.int .i64 k,.int .i64 (i:Int),.int .i64 d,.int .i64 p,.int .i64 n,J3 b,J3 f] 28)=w0 at *;have k0:w0.cell? ⟨w.heap.size,0,none⟩=some (.int .i64 k):=A.cell 0;have k1:w0.cell? ⟨w.heap.size,1,none⟩=some (.int .i64 (i:Int)):=A.cell 1;have W:w0.cell? ⟨w.heap.size,4,none⟩=some (.int .i64 n):=A.cell 4;have X:w0.cell? ⟨w.heap.size,5,none⟩=some (J3 b):=A.cell 5;have Y:w0.cell? ⟨w.heap.size,6,none⟩=some (J3 f):=A.cell 6;have j:=J6 b0;have T:=A.lt;have z:=J6 A;clear A b0
 rcases F with rfl|rfl|rfl|rfl|rfl|rfl
 ·have l:Hid (D=((z3T x i).1,0,(z3T x i).2)):=HD.out.symm;generalize z3T x i=r at *
  go_wp2_with (go_at_call 61;refine(G.out _ j.out).mono ?_;rintro e w1⟨rfl,Z⟩;have t:=J6 Z;clear Z)
  go_ret2;rw[l.out];exact⟨rfl,m.out _ _ _ j.out t.out⟩
 ·have l:Hid (D=(z3H x i b,0,0)):=HD.out.symm;generalize z3H x i b=r at *
  go_wp2_with (go_at_call 62;refine(H.out _ j.out).mono ?_;rintro e w1⟨rfl,Z⟩;have t:=J6 Z;clear Z)
  go_ret2;rw[l.out];exact⟨rfl,m.out _ _ _ j.out t.out⟩
 ·have l:Hid (D=((z9d x i ⟨11,(i:Int),d,p,n,b,f⟩).1,0,(z9d x i ⟨11,(i:Int),d,p,n,b,f⟩).2)):=HD.out.symm;have E:=J6 (C.out _ j.out (.inl rfl));generalize z9d x i ⟨11,(i:Int),d,p,n,b,f⟩=r at *;change Hid (Calls prog 65 #[J2 (some ⟨g,0,none⟩),J4 #[.int .i64 11,.int .i64 (i:Int),.int .i64 d,.int .i64 p,.int .i64 n,J3 b,J3 f]] w0 _)at E;have U:w0.cell? ⟨w.heap.size,2,none⟩=some (.int .i64 d):=z.out.cell 2;have V:w0.cell? ⟨w.heap.size,3,none⟩=some (.int .i64 p):=z.out.cell 3
  go_wp2_with (go_at_call 65;refine E.out.mono ?_;rintro e w1⟨rfl,Z⟩;have t:=J6 Z;clear Z)
  go_ret2;rw[l.out];exact⟨rfl,m.out _ _ _ j.out t.out⟩
 ·have l:Hid (D=((z9d x i ⟨12,(i:Int),d,p,n,b,f⟩).1,0,(z9d x i ⟨12,(i:Int),d,p,n,b,f⟩).2)):=HD.out.symm;have E:=J6 (C.out _ j.out (.inr rfl));generalize z9d x i ⟨12,(i:Int),d,p,n,b,f⟩=r at *;change Hid (Calls prog 65 #[J2 (some ⟨g,0,none⟩),J4 #[.int .i64 12,.int .i64 (i:Int),.int .i64 d,.int .i64 p,.int .i64 n,J3 b,J3 f]] w0 _)at E;have U:w0.cell? ⟨w.heap.size,2,none⟩=some (.int .i64 d):=z.out.cell 2;have V:w0.cell? ⟨w.heap.size,3,none⟩=some (.int .i64 p):=z.out.cell 3
  go_wp2_with (go_at_call 65;refine E.out.mono ?_;rintro e w1⟨rfl,Z⟩;have t:=J6 Z;clear Z)
  go_ret2;rw[l.out];exact⟨rfl,m.out _ _ _ j.out t.out⟩
 ·have l:Hid (D=z7s x i b f):=HD.out.symm;generalize z7s x i b f=r at *;obtain⟨rx,rn,re⟩:=r
  go_wp2_with (go_at_call 63;refine(K.out _ j.out).mono ?_;rintro e w1⟨rfl,Z⟩;have t:=J6 Z;clear Z;dsimp only)
  go_ret2;rw[l.out];exact⟨rfl,m.out _ _ _ j.out t.out⟩
 ·have l:Hid (D=((z6I x i b n).1,0,(z6I x i b n).2)):=HD.out.symm;generalize z6I x i b n=r at *
  go_wp2_with (go_at_call 64;refine(L.out _ j.out).mono ?_;rintro e w1⟨rfl,Z⟩;have t:=J6 Z;clear Z)
  go_ret2;rw[l.out];exact⟨rfl,m.out _ _ _ j.out t.out⟩
theorem j2A{P:Nat->Prop}{w e w':World}{g:Nat}{y:Wo}(hb:Bl w e)(h:z1h (λb=>P b/\b<w.heap.size) e g y w'):z1h P w g y w':=by
 obtain⟨v',c,i,a⟩:=h;refine⟨v',c,i.mono λb _ d=>?_,(Alt.of (g:=g) hb).trans a⟩
 rcases d with⟨h1,h2⟩|h1
 ·exact .inl h1
 ·exact .inr (by have:=hb.size;omega)
theorem z1V(P:Nat->Prop)(w:World)(g:Nat):Hid (∀(a w':World) (y:Wo),Bl w a->z1h (λb=>P b/\b<w.heap.size) a g y w'->z1h P w g y w'):=λ_ _ _ hb h=>j2A hb h
theorem z2x{w:World}{g:Nat}{k c d a n:Int}{b f:Bool}(h:CAt 28 w g #[J I k,J I c,J I d,J I a,J I n,J3 b,J3 f]):w.cell? ⟨g,0,none⟩=some (J I k)/\w.cell? ⟨g,1,none⟩=some (J I c)/\w.cell? ⟨g,2,none⟩=some (J I d)/\w.cell? ⟨g,3,none⟩=some (J I a)/\w.cell? ⟨g,4,none⟩=some (J I n)/\w.cell? ⟨g,5,none⟩=some (J3 b)/\w.cell? ⟨g,6,none⟩=some (J3 f):=⟨h.cell 0,h.cell 1,h.cell 2,h.cell 3,h.cell 4,h.cell 5,h.cell 6⟩
theorem y0z{w:World}{g:Nat}{x:Wo}{v:WoV}(h:CAt 97 w g (wdC x v)){i:Nat}(a:i<2):w.cell? ⟨g,99+i*22,none⟩=some (J3 (x.c i).on):=by
 rw[h.cell]
 match i,a with
 | 0,_=>rfl
 | 1,_=>rfl
theorem j7U(g:Nat)(x:Wo)(v:WoV)(P:Nat->Prop)(w:World)(c d a n:Int)(b f:Bool)(o:CAt 97 w g (wdC x v))(q:WIn P w x v)(u:¬ P g) :
  Calls prog 23 #[J2 (some ⟨g,0,none⟩),J4 #[J I 1,J I c,J I d,J I a,J I n,J3 b,J3 f]] w (q0Q P w g ((atP x ⟨1,c,d,a,n,b,f⟩).1,0,(atP x ⟨1,c,d,a,n,b,f⟩).2)):=by
 have y:=o.lt;have i:=q.lo;have j:¬(P g/\g<w.heap.size):=λh=>u h.1;have p:=J6 (λ(s:World) (hb:Bl w s)=>z7y g x v _ s ⟨1,c,d,a,n,b,f⟩ (by simp) (o.over hb) (i.over hb) j)
 have m:=CAt.new 28 w #[J I 1,J I c,J I d,J I a,J I n,J3 b,J3 f];have b0:Bl w (w.alloc (J5 #[J I 1,J I c,J I d,J I a,J I n,J3 b,J3 f] 28)):=znw w _;have k:=z1V P w g;clear o q i j;generalize atP x ⟨1,c,d,a,n,b,f⟩=r at *
 go_enter func23,ntmps23
 go_upto_region 1 with fail
 generalize w.alloc (J5 #[J I 1,J I c,J I d,J I a,J I n,J3 b,J3 f] 28)=w0 at *;obtain⟨k0,k1,C,D,E,F,G⟩:=z2x m;have l:=J6 b0;have z:=m.lt;have A:=J6 m;clear m b0;have t:=J6 (p.out _ l.out);change Hid (Calls prog 33 #[J2 (some ⟨g,0,none⟩),J4 #[J I 1,J I c,J I d,J I a,J I n,J3 b,J3 f]] w0 _)at t
 go_wp2_with (go_at_call 33;refine t.out.mono ?_;rintro e w1⟨rfl,Z⟩;have B:=J6 Z;clear Z)
 go_ret2;exact⟨rfl,k.out _ _ _ l.out B.out⟩
theorem j8i(g:Nat)(x:Wo)(v:WoV)(P:Nat->Prop)(w:World)(c d a n:Int)(b f:Bool)(o:CAt 97 w g (wdC x v))(q:WIn P w x v)(u:¬ P g) :
  Calls prog 23 #[J2 (some ⟨g,0,none⟩),J4 #[J I 2,J I c,J I d,J I a,J I n,J3 b,J3 f]] w (q0Q P w g ((atP x ⟨2,c,d,a,n,b,f⟩).1,0,(atP x ⟨2,c,d,a,n,b,f⟩).2)):=by
 have y:=o.lt;have i:=q.lo;have j:¬(P g/\g<w.heap.size):=λh=>u h.1;have p:=J6 (λ(s:World) (hb:Bl w s)=>z7y g x v _ s ⟨2,c,d,a,n,b,f⟩ (by simp) (o.over hb) (i.over hb) j)
 have m:=CAt.new 28 w #[J I 2,J I c,J I d,J I a,J I n,J3 b,J3 f];have b0:Bl w (w.alloc (J5 #[J I 2,J I c,J I d,J I a,J I n,J3 b,J3 f] 28)):=znw w _;have k:=z1V P w g;clear o q i j;generalize atP x ⟨2,c,d,a,n,b,f⟩=r at *
 go_enter func23,ntmps23
 go_upto_region 1 with fail
 generalize w.alloc (J5 #[J I 2,J I c,J I d,J I a,J I n,J3 b,J3 f] 28)=w0 at *;obtain⟨k0,k1,C,D,E,F,G⟩:=z2x m;have l:=J6 b0;have z:=m.lt;have A:=J6 m;clear m b0;have t:=J6 (p.out _ l.out);change Hid (Calls prog 33 #[J2 (some ⟨g,0,none⟩),J4 #[J I 2,J I c,J I d,J I a,J I n,J3 b,J3 f]] w0 _)at t
 go_wp2_with (go_at_call 33;refine t.out.mono ?_;rintro e w1⟨rfl,Z⟩;have B:=J6 Z;clear Z)
 go_ret2;exact⟨rfl,k.out _ _ _ l.out B.out⟩
theorem j7Z(g:Nat)(x:Wo)(v:WoV)(P:Nat->Prop)(w:World)(c d a n:Int)(b f:Bool)(o:CAt 97 w g (wdC x v))(q:WIn P w x v)(u:¬ P g) :
  Calls prog 23 #[J2 (some ⟨g,0,none⟩),J4 #[J I 3,J I c,J I d,J I a,J I n,J3 b,J3 f]] w (q0Q P w g ((atP x ⟨3,c,d,a,n,b,f⟩).1,0,(atP x ⟨3,c,d,a,n,b,f⟩).2)):=by
 have y:=o.lt;have i:=q.lo;have j:¬(P g/\g<w.heap.size):=λh=>u h.1;have p:=J6 (λ(s:World) (hb:Bl w s)=>z7y g x v _ s ⟨3,c,d,a,n,b,f⟩ (by simp) (o.over hb) (i.over hb) j)
 have m:=CAt.new 28 w #[J I 3,J I c,J I d,J I a,J I n,J3 b,J3 f];have b0:Bl w (w.alloc (J5 #[J I 3,J I c,J I d,J I a,J I n,J3 b,J3 f] 28)):=znw w _;have k:=z1V P w g;clear o q i j;generalize atP x ⟨3,c,d,a,n,b,f⟩=r at *
 go_enter func23,ntmps23
 go_upto_region 1 with fail
 generalize w.alloc (J5 #[J I 3,J I c,J I d,J I a,J I n,J3 b,J3 f] 28)=w0 at *;obtain⟨k0,k1,C,D,E,F,G⟩:=z2x m;have l:=J6 b0;have z:=m.lt;have A:=J6 m;clear m b0;have t:=J6 (p.out _ l.out);change Hid (Calls prog 33 #[J2 (some ⟨g,0,none⟩),J4 #[J I 3,J I c,J I d,J I a,J I n,J3 b,J3 f]] w0 _)at t
 go_wp2_with (go_at_call 33;refine t.out.mono ?_;rintro e w1⟨rfl,Z⟩;have B:=J6 Z;clear Z)
 go_ret2;exact⟨rfl,k.out _ _ _ l.out B.out⟩
theorem j3Q(g:Nat)(x:Wo)(v:WoV)(P:Nat->Prop)(w:World)(c d a n:Int)(b f:Bool)(o:CAt 97 w g (wdC x v))(q:WIn P w x v)(u:¬ P g) :
  Calls prog 23 #[J2 (some ⟨g,0,none⟩),J4 #[J I 13,J I c,J I d,J I a,J I n,J3 b,J3 f]] w (q0Q P w g ((atP x ⟨13,c,d,a,n,b,f⟩).1,0,(atP x ⟨13,c,d,a,n,b,f⟩).2)):=by
 have y:=o.lt;have i:=q.lo;have j:¬(P g/\g<w.heap.size):=λh=>u h.1;have p:=J6 (λ(s:World) (hb:Bl w s)=>z7y g x v _ s ⟨13,c,d,a,n,b,f⟩ (by simp) (o.over hb) (i.over hb) j)
 have m:=CAt.new 28 w #[J I 13,J I c,J I d,J I a,J I n,J3 b,J3 f];have b0:Bl w (w.alloc (J5 #[J I 13,J I c,J I d,J I a,J I n,J3 b,J3 f] 28)):=znw w _;have k:=z1V P w g;clear o q i j;generalize atP x ⟨13,c,d,a,n,b,f⟩=r at *
 go_enter func23,ntmps23
 go_upto_region 1 with fail
 generalize w.alloc (J5 #[J I 13,J I c,J I d,J I a,J I n,J3 b,J3 f] 28)=w0 at *;obtain⟨k0,k1,C,D,E,F,G⟩:=z2x m;have l:=J6 b0;have z:=m.lt;have A:=J6 m;clear m b0;have t:=J6 (p.out _ l.out);change Hid (Calls prog 33 #[J2 (some ⟨g,0,none⟩),J4 #[J I 13,J I c,J I d,J I a,J I n,J3 b,J3 f]] w0 _)at t
 go_wp2_with (go_at_call 33;refine t.out.mono ?_;rintro e w1⟨rfl,Z⟩;have B:=J6 Z;clear Z)
 go_ret2;exact⟨rfl,k.out _ _ _ l.out B.out⟩
theorem j7G(g:Nat)(x:Wo)(v:WoV)(P:Nat->Prop)(w:World)(c d l n:Int)(b f:Bool)(o:CAt 97 w g (wdC x v))(p:WIn P w x v)(s:¬ P g)(hs:Small x) :
  Calls prog 23 #[J2 (some ⟨g,0,none⟩),J4 #[J I 5,J I c,J I d,J I l,J I n,J3 b,J3 f]] w (q0Q P w g (z4z x n)):=by
 have t:=o.lt;have a:=p.lo;have i:¬(P g/\g<w.heap.size):=λh=>s h.1;have u:=J6 (λ(q:World) (hb:Bl w q)=>q9l g x v _ q n (o.over hb) (a.over hb) i hs.k0 hs.k1);have m:=CAt.new 28 w #[J I 5,J I c,J I d,J I l,J I n,J3 b,J3 f];have b0:Bl w (w.alloc (J5 #[J I 5,J I c,J I d,J I l,J I n,J3 b,J3 f] 28)):=znw w _;have j:=z1V P w g;clear o p a i;generalize z4z x n=r at *;obtain⟨B,C,D⟩:=r
 go_enter func23,ntmps23
 go_upto_region 1 with fail
 generalize w.alloc (J5 #[J I 5,J I c,J I d,J I l,J I n,J3 b,J3 f] 28)=w0 at *;obtain⟨k0,k1,E,F,G,H,K⟩:=z2x m;have k:=J6 b0;have y:=m.lt;have z:=J6 m;clear m b0
 go_wp2_with (go_at_call 34;refine(u.out _ k.out).mono ?_;rintro e w1⟨rfl,Z⟩;have A:=J6 Z;clear Z;dsimp only)
 go_ret2;exact⟨rfl,j.out _ _ _ k.out A.out⟩
theorem j6G(g:Nat)(x:Wo)(v:WoV)(P:Nat->Prop)(w:World)(c d l n:Int)(b f:Bool)(o:CAt 97 w g (wdC x v))(p:WIn P w x v)(s:¬ P g)(hs:Small x) :
  Calls prog 23 #[J2 (some ⟨g,0,none⟩),J4 #[J I 6,J I c,J I d,J I l,J I n,J3 b,J3 f]] w (q0Q P w g (z3F x)):=by
 have t:=o.lt;have a:=p.lo;have i:¬(P g/\g<w.heap.size):=λh=>s h.1;have u:=J6 (λ(q:World) (hb:Bl w q)=>q2l g x v _ q (o.over hb) (a.over hb) i hs.q88);have m:=CAt.new 28 w #[J I 6,J I c,J I d,J I l,J I n,J3 b,J3 f];have b0:Bl w (w.alloc (J5 #[J I 6,J I c,J I d,J I l,J I n,J3 b,J3 f] 28)):=znw w _;have j:=z1V P w g;clear o p a i;generalize z3F x=r at *;obtain⟨B,C,D⟩:=r
 go_enter func23,ntmps23
 go_upto_region 1 with fail
 generalize w.alloc (J5 #[J I 6,J I c,J I d,J I l,J I n,J3 b,J3 f] 28)=w0 at *;obtain⟨k0,k1,E,F,G,H,K⟩:=z2x m;have k:=J6 b0;have y:=m.lt;have z:=J6 m;clear m b0
 go_wp2_with (go_at_call 35;refine(u.out _ k.out).mono ?_;rintro e w1⟨rfl,Z⟩;have A:=J6 Z;clear Z;dsimp only)
 go_ret2;exact⟨rfl,j.out _ _ _ k.out A.out⟩
theorem j7k(g:Nat)(x:Wo)(v:WoV)(P:Nat->Prop)(w:World)(c d l n:Int)(b f:Bool)(o:CAt 97 w g (wdC x v))(p:WIn P w x v)(s:¬ P g) :
  Calls prog 23 #[J2 (some ⟨g,0,none⟩),J4 #[J I 4,J I c,J I d,J I l,J I n,J3 b,J3 f]] w (q0Q P w g (z1X x c)):=by
 have t:=o.lt;have a:=p.lo;have i:¬(P g/\g<w.heap.size):=λh=>s h.1;have u:=J6 (λ(q:World) (hb:Bl w q)=>q5I g x v _ q c (o.over hb) (a.over hb) i);have m:=CAt.new 28 w #[J I 4,J I c,J I d,J I l,J I n,J3 b,J3 f];have b0:Bl w (w.alloc (J5 #[J I 4,J I c,J I d,J I l,J I n,J3 b,J3 f] 28)):=znw w _;have j:=z1V P w g;clear o p a i;generalize z1X x c=r at *;obtain⟨B,C,D⟩:=r
 go_enter func23,ntmps23
 go_upto_region 1 with fail
 generalize w.alloc (J5 #[J I 4,J I c,J I d,J I l,J I n,J3 b,J3 f] 28)=w0 at *;obtain⟨k0,k1,E,F,G,H,K⟩:=z2x m;have k:=J6 b0;have y:=m.lt;have z:=J6 m;clear m b0
 go_wp2_with (go_at_call 36;refine(u.out _ k.out).mono ?_;rintro e w1⟨rfl,Z⟩;have A:=J6 Z;clear Z;dsimp only)
 go_ret2;exact⟨rfl,j.out _ _ _ k.out A.out⟩
theorem q5k(g:Nat)(x:Wo)(v:WoV)(P:Nat->Prop)(w:World)(k c d a n:Int)(b f:Bool)(i:CAt 97 w g (wdC x v))(j:WIn P w x v)(q:¬ P g)(C:(k == 1)=false)(D:(k == 2)=false)(E:(k == 3)=false)(s:(k == 13)=false)(F:(k == 5)=false)(G:(k == 6)=false)(H:(k == 4)=false)(K:(k == 7)=false)(L:(k == 8)=false)(t:(k == 11)=false)(u:(k == 12)=false)(M:(k == 9)=false)(y:(k == 10)=false) :
  Calls prog 23 #[J2 (some ⟨g,0,none⟩),J4 #[J I k,J I c,J I d,J I a,J I n,J3 b,J3 f]] w (q0Q P w g (x,0,3)):=by
 have z:=i.lt;have l:=j.lo;have m:¬(P g/\g<w.heap.size):=λh=>q h.1;have o:=q4y i j q;have e:=CAt.new 28 w #[J I k,J I c,J I d,J I a,J I n,J3 b,J3 f];have b0:Bl w (w.alloc (J5 #[J I k,J I c,J I d,J I a,J I n,J3 b,J3 f] 28)):=znw w _;have r:=z1V P w g;clear i j l m
 go_enter func23,ntmps23
 go_upto_region 1 with fail
 generalize w.alloc (J5 #[J I k,J I c,J I d,J I a,J I n,J3 b,J3 f] 28)=w0 at *;obtain⟨k0,k1,N,Q,R,S,T⟩:=z2x e;have p:=J6 b0;have A:=e.lt;have B:=J6 e;clear e b0;go_wp2;go_ret2;exact⟨rfl,o.out _ p.out⟩
theorem j3U(g:Nat)(x:Wo)(v:WoV)(P:Nat->Prop)(w:World)(k c d m n:Int)(b f:Bool)(p:CAt 97 w g (wdC x v))(q:WIn P w x v)(B:¬ P g)(E:k=7∨k=8∨k=11∨k=12∨k=9∨k=10)(hc:isC c=false) :
  Calls prog 23 #[J2 (some ⟨g,0,none⟩),J4 #[J I k,J I c,J I d,J I m,J I n,J3 b,J3 f]] w (q0Q P w g (x,0,4)):=by
 have F:=p.lt;have r:=q.lo;have s:¬(P g/\g<w.heap.size):=λh=>B h.1;have t:=q4y p q B;have j:=J6 (λ(i:World)=>z3z c i);rw[hc]at j;have o:=CAt.new 28 w #[J I k,J I c,J I d,J I m,J I n,J3 b,J3 f];have b0:Bl w (w.alloc (J5 #[J I k,J I c,J I d,J I m,J I n,J3 b,J3 f] 28)):=znw w _;have C:=z1V P w g;clear p q r s;clear hc
 go_enter func23,ntmps23
 go_upto_region 1 with fail
 generalize w.alloc (J5 #[J I k,J I c,J I d,J I m,J I n,J3 b,J3 f] 28)=w0 at *;obtain⟨k0,k1,H,L,M,N,Q⟩:=z2x o;have u:=J6 b0;have R:=o.lt;have y:=J6 o;clear o b0
 rcases E with rfl|rfl|rfl|rfl|rfl|rfl
 all_goals
  go_upto_region 19 with fail
  have l:Hid (∀i,Bl w0 i->i.cell? ⟨w.heap.size,1,none⟩=some (J I c)/\True):=λi hb=>⟨(y.out.over hb).cell 1,trivial⟩;refine wp_region_held_drew (S:=λi=>Bl w0 i) (by kernel_rfl) (Below.refl _ _).drew (λa=>?_)
  refine O.G 0 (J2 (some ⟨w.heap.size,1,none⟩)) 45 rfl rfl a ?_;simp only[O.pp,O.pb,O.pc];refine O.Z 1 (J I c) 46 rfl rfl a (λi z=>by obtain⟨T,V⟩:=l.out i z;go_simp) ?_
  simp only[O.pp,O.pb,O.pc];refine wpAnyH_ready (rs:=[2]) (by kernel_rfl) (by simp) ?_
  refine AllReadyH.cons rfl (λK D=>?_) AllReadyH.nil;go_simp;refine(j.out _).mono ?_;rintro e W⟨rfl,rfl⟩;dsimp only;refine D.out _ _ a (λa=>?_);clear D K;refine O.G 3 (J3 true) 48 rfl rfl a ?_;simp only[O.pp,O.pb,O.pc];refine O.G 4 (J3 true) 49 rfl rfl a ?_;simp only[O.pp,O.pb,O.pc];refine O.U 5 50 rfl rfl a ?_;simp only[O.pp,O.pb,O.pc];refine O.U 6 51 rfl rfl a ?_;simp only[O.pp,O.pb,O.pc];refine O.U 7 52 rfl rfl a ?_;simp only[O.pp,O.pb,O.pc];refine O.U 8 53 rfl rfl a ?_;simp only[O.pp,O.pb,O.pc];refine O.U 9 54 rfl rfl a ?_;simp only[O.pp,O.pb,O.pc];refine O.U 10 55 rfl rfl a ?_;simp only[O.pp,O.pb,O.pc];refine O.U 11 56 rfl rfl a ?_;simp only[O.pp,O.pb,O.pc];refine O.U 12 57 rfl rfl a ?_;simp only[O.pp,O.pb,O.pc];refine O.U 13 58 rfl rfl a ?_;simp only[O.pp,O.pb,O.pc];refine O.G 14 (J3 true) 59 rfl rfl a ?_;simp only[O.pp,O.pb,O.pc];refine wpAnyH_done (by kernel_rfl) ?_ _
  have A:=J6 (zbt u.out a);clear a k0 k1 H L M N Q l;generalize w0.drew=w1 at *;go_simp;go_wp2;go_ret2;exact⟨rfl,t.out _ A.out⟩
theorem q7w(g:Nat)(x:Wo)(v:WoV)(P:Nat->Prop)(w:World)(i:Nat)(Q:i<2)(k d t n:Int)(b f:Bool)(u:CAt 97 w g (wdC x v))(z:WIn P w x v)(F:¬ P g)(R:k=7∨k=8∨k=11∨k=12∨k=9∨k=10)(o:(x.c i).on=false) :
  Calls prog 23 #[J2 (some ⟨g,0,none⟩),J4 #[J I k,J I (i:Int),J I d,J I t,J I n,J3 b,J3 f]] w (q0Q P w g (x,0,4)):=by
 have T:(i:Int)<2:=by omega
 have U:(0:Int)<=(i:Int):=by omega
 have p:isC (i:Int)=true:=by unfold isC;simp;omega
 have V:=u.lt;have A:=z.lo;have B:¬(P g/\g<w.heap.size):=λh=>F h.1;have C:=q4y u z F;have q:=J6 (λ(j:World)=>z3z (i:Int) j);rw[p]at q;have r:=J6 (λ(j:World) (hb:Bl w j)=>y0z (u.over hb) Q);rw[o]at r;have y:=CAt.new 28 w #[J I k,J I (i:Int),J I d,J I t,J I n,J3 b,J3 f];have b0:Bl w (w.alloc (J5 #[J I k,J I (i:Int),J I d,J I t,J I n,J3 b,J3 f] 28)):=znw w _;have H:=z1V P w g;clear u z A B;clear o p
 go_enter func23,ntmps23
 go_upto_region 1 with fail
 generalize w.alloc (J5 #[J I k,J I (i:Int),J I d,J I t,J I n,J3 b,J3 f] 28)=w0 at *;obtain⟨k0,k1,W,X,Y,k5,k6⟩:=z2x y;have s:=J6 b0;have a0:=y.lt;have D:=J6 y;clear y b0
 rcases R with rfl|rfl|rfl|rfl|rfl|rfl
 all_goals
  go_upto_region 19 with fail
  have m:Hid (∀j,Bl w0 j->j.cell? ⟨w.heap.size,1,none⟩=some (J I (i:Int))/\j.cell? ⟨g,99+i*22,none⟩=some (J3 false)):=λj hb=>⟨(D.out.over hb).cell 1,r.out j (zbt s.out hb)⟩;refine wp_region_held_drew (S:=λj=>Bl w0 j) (by kernel_rfl) (Below.refl _ _).drew (λa=>?_)
  refine O.G 0 (J2 (some ⟨w.heap.size,1,none⟩)) 45 rfl rfl a ?_;simp only[O.pp,O.pb,O.pc];refine O.Z 1 (J I (i:Int)) 46 rfl rfl a (λj l=>by obtain⟨L,M⟩:=m.out j l;go_simp) ?_
  simp only[O.pp,O.pb,O.pc];refine wpAnyH_ready (rs:=[2]) (by kernel_rfl) (by simp) ?_
  refine AllReadyH.cons rfl (λK N=>?_) AllReadyH.nil;go_simp;refine(q.out _).mono ?_;rintro e w3⟨rfl,rfl⟩;dsimp only;refine N.out _ _ a (λa=>?_);clear N K;refine O.G 3 (J3 false) 48 rfl rfl a ?_;simp only[O.pp,O.pb,O.pc];refine O.G 4 (J3 false) 49 rfl rfl a ?_;simp only[O.pp,O.pb,O.pc];refine O.G 5 (J2 (some ⟨g,0,none⟩)) 50 rfl rfl a ?_;simp only[O.pp,O.pb,O.pc];refine O.G 6 (J2 (some ⟨w.heap.size,1,none⟩)) 51 rfl rfl a ?_;simp only[O.pp,O.pb,O.pc];refine O.Z 7 (J I (i:Int)) 52 rfl rfl a (λj l=>by obtain⟨L,M⟩:=m.out j l;go_simp) ?_
  simp only[O.pp,O.pb,O.pc];refine O.G 8 (J2 (some ⟨g,0,none⟩)) 53 rfl rfl a ?_;simp only[O.pp,O.pb,O.pc];refine O.G 9 (J2 (some ⟨g,99,none⟩)) 54 rfl rfl a ?_;simp only[O.pp,O.pb,O.pc];refine O.G 10 (J2 (some ⟨g,99+i*22,none⟩)) 55 rfl rfl a ?_;simp only[O.pp,O.pb,O.pc];refine O.G 11 (J2 (some ⟨g,99+i*22,none⟩)) 56 rfl rfl a ?_;simp only[O.pp,O.pb,O.pc];refine O.Z 12 (J3 false) 57 rfl rfl a (λj l=>by obtain⟨L,M⟩:=m.out j l;go_simp) ?_
  simp only[O.pp,O.pb,O.pc];refine O.G 13 (J3 true) 58 rfl rfl a ?_;simp only[O.pp,O.pb,O.pc];refine O.G 14 (J3 true) 59 rfl rfl a ?_;simp only[O.pp,O.pb,O.pc];refine wpAnyH_done (by kernel_rfl) ?_ _
  have E:=J6 (zbt s.out a);clear a k0 k1 W X Y k5 k6 m;generalize w0.drew=w1 at *;go_simp;go_wp2;go_ret2;exact⟨rfl,C.out _ E.out⟩
theorem j3v(g:Nat)(x:Wo)(v:WoV)(P:Nat->Prop)(w:World)(i:Nat)(L:i<2)(k d o n:Int)(b f:Bool)(E:CAt 97 w g (wdC x v))(M:WIn P w x v)(hg:¬ P g)(N:k=7∨k=8∨k=11∨k=12∨k=9∨k=10)(hs:Small x)(p:(x.c i).on=true) :
  Calls prog 23 #[J2 (some ⟨g,0,none⟩),J4 #[J I k,J I (i:Int),J I d,J I o,J I n,J3 b,J3 f]] w (q0Q P w g (z2c x i ⟨k,(i:Int),d,o,n,b,f⟩)):=by
 have a0:(i:Int)<2:=by omega
 have a1:(0:Int)<=(i:Int):=by omega
 have q:isC (i:Int)=true:=by unfold isC;simp;omega
 have a2:=E.lt;have s:=M.lo;have t:¬(P g/\g<w.heap.size):=λh=>hg h.1;have H:=J6 (λ(a:World) (hb:Bl w a)=>q8v g x v _ a i L k d o n b f N (E.over hb) (s.over hb) t hs);have u:=J6 (λ(a:World)=>z3z (i:Int) a);rw[q]at u;have y:=J6 (λ(a:World) (hb:Bl w a)=>y0z (E.over hb) L);rw[p]at y;have F:=CAt.new 28 w #[J I k,J I (i:Int),J I d,J I o,J I n,J3 b,J3 f];have b0:Bl w (w.alloc (J5 #[J I k,J I (i:Int),J I d,J I o,J I n,J3 b,J3 f] 28)):=znw w _;have z:=z1V P w g;clear E M s t;clear p q;generalize z2c x i ⟨k,(i:Int),d,o,n,b,f⟩=r at *;obtain⟨rx,rn,re⟩:=r
 go_enter func23,ntmps23
 go_upto_region 1 with fail
 generalize w.alloc (J5 #[J I k,J I (i:Int),J I d,J I o,J I n,J3 b,J3 f] 28)=w0 at *;obtain⟨k0,k1,Q,R,T,U,V⟩:=z2x F;have A:=J6 b0;have a3:=F.lt;have B:=J6 F;clear F b0
 rcases N with rfl|rfl|rfl|rfl|rfl|rfl
 all_goals
  go_upto_region 19 with fail
  have m:Hid (∀a,Bl w0 a->a.cell? ⟨w.heap.size,1,none⟩=some (J I (i:Int))/\a.cell? ⟨g,99+i*22,none⟩=some (J3 true)):=λa hb=>⟨(B.out.over hb).cell 1,y.out a (zbt A.out hb)⟩;refine wp_region_held_drew (S:=λa=>Bl w0 a) (by kernel_rfl) (Below.refl _ _).drew (λj=>?_)
  refine O.G 0 (J2 (some ⟨w.heap.size,1,none⟩)) 45 rfl rfl j ?_;simp only[O.pp,O.pb,O.pc];refine O.Z 1 (J I (i:Int)) 46 rfl rfl j (λa l=>by obtain⟨W,X⟩:=m.out a l;go_simp) ?_
  simp only[O.pp,O.pb,O.pc];refine wpAnyH_ready (rs:=[2]) (by kernel_rfl) (by simp) ?_
  refine AllReadyH.cons rfl (λK Y=>?_) AllReadyH.nil;go_simp;refine(u.out _).mono ?_;rintro e w3⟨rfl,rfl⟩;dsimp only;refine Y.out _ _ j (λj=>?_);clear Y K;refine O.G 3 (J3 false) 48 rfl rfl j ?_;simp only[O.pp,O.pb,O.pc];refine O.G 4 (J3 false) 49 rfl rfl j ?_;simp only[O.pp,O.pb,O.pc];refine O.G 5 (J2 (some ⟨g,0,none⟩)) 50 rfl rfl j ?_;simp only[O.pp,O.pb,O.pc];refine O.G 6 (J2 (some ⟨w.heap.size,1,none⟩)) 51 rfl rfl j ?_;simp only[O.pp,O.pb,O.pc];refine O.Z 7 (J I (i:Int)) 52 rfl rfl j (λa l=>by obtain⟨W,X⟩:=m.out a l;go_simp) ?_
  simp only[O.pp,O.pb,O.pc];refine O.G 8 (J2 (some ⟨g,0,none⟩)) 53 rfl rfl j ?_;simp only[O.pp,O.pb,O.pc];refine O.G 9 (J2 (some ⟨g,99,none⟩)) 54 rfl rfl j ?_;simp only[O.pp,O.pb,O.pc];refine O.G 10 (J2 (some ⟨g,99+i*22,none⟩)) 55 rfl rfl j ?_;simp only[O.pp,O.pb,O.pc];refine O.G 11 (J2 (some ⟨g,99+i*22,none⟩)) 56 rfl rfl j ?_;simp only[O.pp,O.pb,O.pc];refine O.Z 12 (J3 true) 57 rfl rfl j (λa l=>by obtain⟨W,X⟩:=m.out a l;go_simp) ?_
  simp only[O.pp,O.pb,O.pc];refine O.G 13 (J3 false) 58 rfl rfl j ?_;simp only[O.pp,O.pb,O.pc];refine O.G 14 (J3 false) 59 rfl rfl j ?_;simp only[O.pp,O.pb,O.pc];refine wpAnyH_done (by kernel_rfl) ?_ _
  have C:=J6 (zbt A.out j);have D:=J6 (B.out.over j);clear j k0 k1 Q R T U V m;generalize w0.drew=w1 at *;obtain⟨k0,k1,Q,R,T,U,V⟩:=z2x D.out;have a4:=D.out.lt;go_simp
  go_wp2_with (go_at_call 37;refine(H.out _ C.out).mono ?_;rintro e w2⟨rfl,Z⟩;have HZ:=J6 Z;clear Z;dsimp only)
  go_ret2;exact⟨rfl,z.out _ _ _ C.out HZ.out⟩
end Wd
end Go.Proofs.YtddlhnoedldidaaGreat
