/- Parts of the proof. -/
import Derived.Test.YtddlhnoedldidaaGreatML
import Derived.Test.YtddlhnoedldidaaGreatMK25
import Derived.Test.YtddlhnoedldidaaGreatMK40
set_option maxRecDepth 100000
set_option maxHeartbeats 16000000
namespace Go.Proofs.YtddlhnoedldidaaGreat
open Go.Proofs.Tryz
open Value renaming int->J,slice->J1,pointer->J2,bool->J3,agg->J4
open IntKind renaming i64->I
open Obj renaming cells->J5
namespace Wd
open Go.RowKit Pv Kc
theorem q0Q(g:Nat)(x:Wo)(v:WoV)(P:Nat->Prop)(w:World)(i:Nat)(j:i<2)(b f:Bool)(k:CAt 97 w g (wdC x v))(l:WIn P w x v)(m:¬ P g)(d:Ln.z0Z (z2O x i b)=true)(e:small (z2O x i b).S)(a:x.p.q.length * 88<=140737488351232)(h:(x.c i).pd.length * 80<=140737488351232) :
  Calls prog 63 #[J2 (some ⟨g,0,none⟩),J I (i:Int),J3 b,J3 f] w (z9z P w g (q4H x i b f)):=by
 cases b
 ·exact j5A f g x v P w i j k l m d e a h
 ·exact j5C f g x v P w i j k l m d e a h
theorem q1W(g:Nat)(x:Wo)(v:WoV)(P:Nat->Prop)(w:World)(i:Nat)(c:i<2)(b:Bool)(k:Int)(d:CAt 97 w g (wdC x v))(e:WIn P w x v)(f:¬ P g)(a:x.p.q.length * 88<=140737488351232) :
  Calls prog 64 #[J2 (some ⟨g,0,none⟩),J I (i:Int),J3 b,J I k] w (q2s P w g (q1T x i b k)):=by
 cases b
 ·exact j5P g x v P w i c k d e f a
 ·exact j5T g x v P w i c k d e f a
def Dq(k c d v n:Int)(b f:Bool):Array Value:=#[J I k,J I c,J I d,J I v,J I n,J3 b,J3 f]
structure Small(x:Wo):Prop where
 q88:x.p.q.length * 88<=140737488351232
 c80:∀ i,i<2->(x.c i).pd.length * 80<=140737488351232
 c16:∀ i,i<2->((x.c i).rp.length+(x.c i).pd.length) * 16<=168884986026393
 gl:∀ i,i<2->∀ b,Ln.z0Z (z2O x i b)=true
 sm:∀ i,i<2->∀ b,small (z2O x i b).S
 k0:0<=x.ck
 k1:x.ck<=1099511627736
theorem q7Y{N:Int}{x:Wo}(h:z2I N x):Small x:=by
 have n1:=h.n1;refine⟨by have:=h.ql;omega,fun i a=>by have:=h.cl i a;omega,fun i a=>by have:=h.cl i a;omega,fun i a b=>q6t h a b,fun i a b=>z6i h a b,h.k0,h.k1⟩
theorem q7g(g:Nat)(x:Wo)(v:WoV)(P:Nat->Prop)(w:World)(i:Nat)(u:i<2)(k d p n:Int)(b f:Bool)(H:k=7∨k=8∨k=11∨k=12∨k=9∨k=10)(B:CAt 97 w g (wdC x v))(R:WIn P w x v)(T:¬ P g)(C:Small x) :
  Calls prog 37 #[J2 (some ⟨g,0,none⟩),J4 #[J I k,J I (i:Int),J I d,J I p,J I n,J3 b,J3 f]] w (z9z P w g (z9v x i ⟨k,(i:Int),d,p,n,b,f⟩)):=by
 have U:=B.lt;have q:=R.lo;have s:¬ (P g/\g<w.heap.size):=fun h=>T h.1;have K:=J6 (fun (o:World) (hb:Bl w o)=>q6m g x v _ o i u (B.over hb) (q.over hb) s (C.c16 i u));have L:=J6 (fun (o:World) (hb:Bl w o)=>q9l g x v _ o i u b (B.over hb) (q.over hb) s);have M:=J6 (fun (o:World) (hb:Bl w o)=>q0Q g x v _ o i u b f (B.over hb) (q.over hb) s (C.gl i u b) (C.sm i u b) C.q88 (C.c80 i u));have N:=J6 (fun (o:World) (hb:Bl w o)=>q1W g x v _ o i u b n (B.over hb) (q.over hb) s C.q88);have F:=J6 (fun (o:World) (hb:Bl w o) (H:k=11∨k=12)=>j1i g x v _ o i u ⟨k,(i:Int),d,p,n,b,f⟩ H rfl (B.over hb) (q.over hb) s)
 have m:Hid (∀ (o w':World) (y:Wo),Bl w o->z1b (fun b=>P b/\b<w.heap.size) o g y w'->z1b P w g y w'):=fun o w' y hb h=>by
  obtain⟨v',c,i,a⟩:=h;refine⟨v',c,i.mono fun b _ Q=>?_,(Alt.of (g:=g) hb).trans a⟩
  rcases Q with⟨h1,h2⟩ | h1
  ·exact .inl h1
  ·exact .inr (by have:=hb.size;omega)
 have A:=CAt.new 28 w #[J I k,J I (i:Int),J I d,J I p,J I n,J3 b,J3 f];have b0:Bl w (w.alloc (J5 #[J I k,J I (i:Int),J I d,J I p,J I n,J3 b,J3 f] 28)):=znw w _;clear B R q C s;generalize S:z9v x i ⟨k,(i:Int),d,p,n,b,f⟩=D at *;have E:=J6 S;clear S
 go_enter func37,ntmps37
 go_upto_region 1 with fail
 generalize w.alloc (J5 #[J I k,J I (i:Int),J I d,J I p,J I n,J3 b,J3 f] 28)=w0 at *;have k0:w0.cell? ⟨w.heap.size,0,none⟩=some (J I k):=A.cell 0;have k1:w0.cell? ⟨w.heap.size,1,none⟩=some (J I (i:Int)):=A.cell 1;have Y:w0.cell? ⟨w.heap.size,4,none⟩=some (J I n):=A.cell 4;have k5:w0.cell? ⟨w.heap.size,5,none⟩=some (J3 b):=A.cell 5;have k6:w0.cell? ⟨w.heap.size,6,none⟩=some (J3 f):=A.cell 6;have j:=J6 b0;have V:=A.lt;have z:=J6 A;clear A b0
 rcases H with rfl | rfl | rfl | rfl | rfl | rfl
 ·have l:Hid (D=((z6G x i).1,0,(z6G x i).2)):=E.out.symm;generalize z6G x i=r at *
  go_wp2_with (go_at_call 61;refine (K.out _ j.out).mono ?_;rintro e w1⟨rfl,Z⟩;have t:=J6 Z;clear Z)
  go_ret2;rw[l.out];exact⟨rfl,m.out _ _ _ j.out t.out⟩
 ·have l:Hid (D=(z7g x i b,0,0)):=E.out.symm;generalize z7g x i b=r at *
  go_wp2_with (go_at_call 62;refine (L.out _ j.out).mono ?_;rintro e w1⟨rfl,Z⟩;have t:=J6 Z;clear Z)
  go_ret2;rw[l.out];exact⟨rfl,m.out _ _ _ j.out t.out⟩
 ·have l:Hid (D=((q5W x i ⟨11,(i:Int),d,p,n,b,f⟩).1,0,(q5W x i ⟨11,(i:Int),d,p,n,b,f⟩).2)):=E.out.symm;have G:=J6 (F.out _ j.out (.inl rfl));generalize q5W x i ⟨11,(i:Int),d,p,n,b,f⟩=r at *;change Hid (Calls prog 65 #[J2 (some ⟨g,0,none⟩),J4 #[J I 11,J I (i:Int),J I d,J I p,J I n,J3 b,J3 f]] w0 _) at G;have W:w0.cell? ⟨w.heap.size,2,none⟩=some (J I d):=z.out.cell 2;have X:w0.cell? ⟨w.heap.size,3,none⟩=some (J I p):=z.out.cell 3
  go_wp2_with (go_at_call 65;refine G.out.mono ?_;rintro e w1⟨rfl,Z⟩;have t:=J6 Z;clear Z)
  go_ret2;rw[l.out];exact⟨rfl,m.out _ _ _ j.out t.out⟩
 ·have l:Hid (D=((q5W x i ⟨12,(i:Int),d,p,n,b,f⟩).1,0,(q5W x i ⟨12,(i:Int),d,p,n,b,f⟩).2)):=E.out.symm;have G:=J6 (F.out _ j.out (.inr rfl));generalize q5W x i ⟨12,(i:Int),d,p,n,b,f⟩=r at *;change Hid (Calls prog 65 #[J2 (some ⟨g,0,none⟩),J4 #[J I 12,J I (i:Int),J I d,J I p,J I n,J3 b,J3 f]] w0 _) at G;have W:w0.cell? ⟨w.heap.size,2,none⟩=some (J I d):=z.out.cell 2;have X:w0.cell? ⟨w.heap.size,3,none⟩=some (J I p):=z.out.cell 3
  go_wp2_with (go_at_call 65;refine G.out.mono ?_;rintro e w1⟨rfl,Z⟩;have t:=J6 Z;clear Z)
  go_ret2;rw[l.out];exact⟨rfl,m.out _ _ _ j.out t.out⟩
 ·have l:Hid (D=q4H x i b f):=E.out.symm;generalize q4H x i b f=r at *;obtain⟨rx,rn,re⟩:=r
  go_wp2_with (go_at_call 63;refine (M.out _ j.out).mono ?_;rintro e w1⟨rfl,Z⟩;have t:=J6 Z;clear Z;dsimp only)
  go_ret2;rw[l.out];exact⟨rfl,m.out _ _ _ j.out t.out⟩
 ·have l:Hid (D=((q1T x i b n).1,0,(q1T x i b n).2)):=E.out.symm;generalize q1T x i b n=r at *
  go_wp2_with (go_at_call 64;refine (N.out _ j.out).mono ?_;rintro e w1⟨rfl,Z⟩;have t:=J6 Z;clear Z)
  go_ret2;rw[l.out];exact⟨rfl,m.out _ _ _ j.out t.out⟩
theorem j0H{P:Nat->Prop}{w e w':World}{g:Nat}{y:Wo}(hb:Bl w e)(h:z1b (fun b=>P b/\b<w.heap.size) e g y w'):z1b P w g y w':=by
 obtain⟨v',c,i,a⟩:=h;refine⟨v',c,i.mono fun b _ d=>?_,(Alt.of (g:=g) hb).trans a⟩
 rcases d with⟨h1,h2⟩ | h1
 ·exact .inl h1
 ·exact .inr (by have:=hb.size;omega)
theorem z1M(P:Nat->Prop)(w:World)(g:Nat):Hid (∀ (a w':World) (y:Wo),Bl w a->z1b (fun b=>P b/\b<w.heap.size) a g y w'->z1b P w g y w'):=fun _ _ _ hb h=>j0H hb h
theorem z2c{w:World}{g:Nat}{k c d a n:Int}{b f:Bool}(h:CAt 28 w g #[J I k,J I c,J I d,J I a,J I n,J3 b,J3 f]):w.cell? ⟨g,0,none⟩=some (J I k)/\w.cell? ⟨g,1,none⟩=some (J I c)/\w.cell? ⟨g,2,none⟩=some (J I d)/\w.cell? ⟨g,3,none⟩=some (J I a)/\w.cell? ⟨g,4,none⟩=some (J I n)/\w.cell? ⟨g,5,none⟩=some (J3 b)/\w.cell? ⟨g,6,none⟩=some (J3 f):=⟨h.cell 0,h.cell 1,h.cell 2,h.cell 3,h.cell 4,h.cell 5,h.cell 6⟩
theorem j6P{w:World}{g:Nat}{x:Wo}{v:WoV}(h:CAt 97 w g (wdC x v)){i:Nat}(a:i<2):w.cell? ⟨g,99+i * 22,none⟩=some (J3 (x.c i).on):=by
 rw[h.cell]
 match i,a with
 | 0,_=>rfl
 | 1,_=>rfl
theorem j5l(g:Nat)(x:Wo)(v:WoV)(P:Nat->Prop)(w:World)(c d a n:Int)(b f:Bool)(o:CAt 97 w g (wdC x v))(q:WIn P w x v)(u:¬ P g) :
  Calls prog 23 #[J2 (some ⟨g,0,none⟩),J4 #[J I 1,J I c,J I d,J I a,J I n,J3 b,J3 f]] w (z9z P w g ((atP x ⟨1,c,d,a,n,b,f⟩).1,0,(atP x ⟨1,c,d,a,n,b,f⟩).2)):=by
 have y:=o.lt;have i:=q.lo;have j:¬ (P g/\g<w.heap.size):=fun h=>u h.1;have p:=J6 (fun (s:World) (hb:Bl w s)=>z6P g x v _ s ⟨1,c,d,a,n,b,f⟩ (by simp) (o.over hb) (i.over hb) j)
 have m:=CAt.new 28 w #[J I 1,J I c,J I d,J I a,J I n,J3 b,J3 f];have b0:Bl w (w.alloc (J5 #[J I 1,J I c,J I d,J I a,J I n,J3 b,J3 f] 28)):=znw w _;have k:=z1M P w g;clear o q i j;generalize atP x ⟨1,c,d,a,n,b,f⟩=r at *
 go_enter func23,ntmps23
 go_upto_region 1 with fail
 generalize w.alloc (J5 #[J I 1,J I c,J I d,J I a,J I n,J3 b,J3 f] 28)=w0 at *;obtain⟨k0,k1,C,D,E,F,G⟩:=z2c m;have l:=J6 b0;have z:=m.lt;have A:=J6 m;clear m b0;have t:=J6 (p.out _ l.out);change Hid (Calls prog 33 #[J2 (some ⟨g,0,none⟩),J4 #[J I 1,J I c,J I d,J I a,J I n,J3 b,J3 f]] w0 _) at t
 go_wp2_with (go_at_call 33;refine t.out.mono ?_;rintro e w1⟨rfl,Z⟩;have B:=J6 Z;clear Z)
 go_ret2;exact⟨rfl,k.out _ _ _ l.out B.out⟩
theorem j5b(g:Nat)(x:Wo)(v:WoV)(P:Nat->Prop)(w:World)(c d a n:Int)(b f:Bool)(o:CAt 97 w g (wdC x v))(q:WIn P w x v)(u:¬ P g) :
  Calls prog 23 #[J2 (some ⟨g,0,none⟩),J4 #[J I 2,J I c,J I d,J I a,J I n,J3 b,J3 f]] w (z9z P w g ((atP x ⟨2,c,d,a,n,b,f⟩).1,0,(atP x ⟨2,c,d,a,n,b,f⟩).2)):=by
 have y:=o.lt;have i:=q.lo;have j:¬ (P g/\g<w.heap.size):=fun h=>u h.1;have p:=J6 (fun (s:World) (hb:Bl w s)=>z6P g x v _ s ⟨2,c,d,a,n,b,f⟩ (by simp) (o.over hb) (i.over hb) j)
 have m:=CAt.new 28 w #[J I 2,J I c,J I d,J I a,J I n,J3 b,J3 f];have b0:Bl w (w.alloc (J5 #[J I 2,J I c,J I d,J I a,J I n,J3 b,J3 f] 28)):=znw w _;have k:=z1M P w g;clear o q i j;generalize atP x ⟨2,c,d,a,n,b,f⟩=r at *
 go_enter func23,ntmps23
 go_upto_region 1 with fail
 generalize w.alloc (J5 #[J I 2,J I c,J I d,J I a,J I n,J3 b,J3 f] 28)=w0 at *;obtain⟨k0,k1,C,D,E,F,G⟩:=z2c m;have l:=J6 b0;have z:=m.lt;have A:=J6 m;clear m b0;have t:=J6 (p.out _ l.out);change Hid (Calls prog 33 #[J2 (some ⟨g,0,none⟩),J4 #[J I 2,J I c,J I d,J I a,J I n,J3 b,J3 f]] w0 _) at t
 go_wp2_with (go_at_call 33;refine t.out.mono ?_;rintro e w1⟨rfl,Z⟩;have B:=J6 Z;clear Z)
 go_ret2;exact⟨rfl,k.out _ _ _ l.out B.out⟩
theorem j3w(g:Nat)(x:Wo)(v:WoV)(P:Nat->Prop)(w:World)(c d a n:Int)(b f:Bool)(o:CAt 97 w g (wdC x v))(q:WIn P w x v)(u:¬ P g) :
  Calls prog 23 #[J2 (some ⟨g,0,none⟩),J4 #[J I 3,J I c,J I d,J I a,J I n,J3 b,J3 f]] w (z9z P w g ((atP x ⟨3,c,d,a,n,b,f⟩).1,0,(atP x ⟨3,c,d,a,n,b,f⟩).2)):=by
 have y:=o.lt;have i:=q.lo;have j:¬ (P g/\g<w.heap.size):=fun h=>u h.1;have p:=J6 (fun (s:World) (hb:Bl w s)=>z6P g x v _ s ⟨3,c,d,a,n,b,f⟩ (by simp) (o.over hb) (i.over hb) j)
 have m:=CAt.new 28 w #[J I 3,J I c,J I d,J I a,J I n,J3 b,J3 f];have b0:Bl w (w.alloc (J5 #[J I 3,J I c,J I d,J I a,J I n,J3 b,J3 f] 28)):=znw w _;have k:=z1M P w g;clear o q i j;generalize atP x ⟨3,c,d,a,n,b,f⟩=r at *
 go_enter func23,ntmps23
 go_upto_region 1 with fail
 generalize w.alloc (J5 #[J I 3,J I c,J I d,J I a,J I n,J3 b,J3 f] 28)=w0 at *;obtain⟨k0,k1,C,D,E,F,G⟩:=z2c m;have l:=J6 b0;have z:=m.lt;have A:=J6 m;clear m b0;have t:=J6 (p.out _ l.out);change Hid (Calls prog 33 #[J2 (some ⟨g,0,none⟩),J4 #[J I 3,J I c,J I d,J I a,J I n,J3 b,J3 f]] w0 _) at t
 go_wp2_with (go_at_call 33;refine t.out.mono ?_;rintro e w1⟨rfl,Z⟩;have B:=J6 Z;clear Z)
 go_ret2;exact⟨rfl,k.out _ _ _ l.out B.out⟩
theorem j2a(g:Nat)(x:Wo)(v:WoV)(P:Nat->Prop)(w:World)(c d a n:Int)(b f:Bool)(o:CAt 97 w g (wdC x v))(q:WIn P w x v)(u:¬ P g) :
  Calls prog 23 #[J2 (some ⟨g,0,none⟩),J4 #[J I 13,J I c,J I d,J I a,J I n,J3 b,J3 f]] w (z9z P w g ((atP x ⟨13,c,d,a,n,b,f⟩).1,0,(atP x ⟨13,c,d,a,n,b,f⟩).2)):=by
 have y:=o.lt;have i:=q.lo;have j:¬ (P g/\g<w.heap.size):=fun h=>u h.1;have p:=J6 (fun (s:World) (hb:Bl w s)=>z6P g x v _ s ⟨13,c,d,a,n,b,f⟩ (by simp) (o.over hb) (i.over hb) j)
 have m:=CAt.new 28 w #[J I 13,J I c,J I d,J I a,J I n,J3 b,J3 f];have b0:Bl w (w.alloc (J5 #[J I 13,J I c,J I d,J I a,J I n,J3 b,J3 f] 28)):=znw w _;have k:=z1M P w g;clear o q i j;generalize atP x ⟨13,c,d,a,n,b,f⟩=r at *
 go_enter func23,ntmps23
 go_upto_region 1 with fail
 generalize w.alloc (J5 #[J I 13,J I c,J I d,J I a,J I n,J3 b,J3 f] 28)=w0 at *;obtain⟨k0,k1,C,D,E,F,G⟩:=z2c m;have l:=J6 b0;have z:=m.lt;have A:=J6 m;clear m b0;have t:=J6 (p.out _ l.out);change Hid (Calls prog 33 #[J2 (some ⟨g,0,none⟩),J4 #[J I 13,J I c,J I d,J I a,J I n,J3 b,J3 f]] w0 _) at t
 go_wp2_with (go_at_call 33;refine t.out.mono ?_;rintro e w1⟨rfl,Z⟩;have B:=J6 Z;clear Z)
 go_ret2;exact⟨rfl,k.out _ _ _ l.out B.out⟩
theorem j5q(g:Nat)(x:Wo)(v:WoV)(P:Nat->Prop)(w:World)(c d l n:Int)(b f:Bool)(o:CAt 97 w g (wdC x v))(p:WIn P w x v)(t:¬ P g)(q:Small x) :
  Calls prog 23 #[J2 (some ⟨g,0,none⟩),J4 #[J I 5,J I c,J I d,J I l,J I n,J3 b,J3 f]] w (z9z P w g (z7T x n)):=by
 have u:=o.lt;have a:=p.lo;have i:¬ (P g/\g<w.heap.size):=fun h=>t h.1;have y:=J6 (fun (s:World) (hb:Bl w s)=>q8V g x v _ s n (o.over hb) (a.over hb) i q.k0 q.k1);have m:=CAt.new 28 w #[J I 5,J I c,J I d,J I l,J I n,J3 b,J3 f];have b0:Bl w (w.alloc (J5 #[J I 5,J I c,J I d,J I l,J I n,J3 b,J3 f] 28)):=znw w _;have j:=z1M P w g;clear o p a i;generalize z7T x n=r at *;obtain⟨C,D,E⟩:=r
 go_enter func23,ntmps23
 go_upto_region 1 with fail
 generalize w.alloc (J5 #[J I 5,J I c,J I d,J I l,J I n,J3 b,J3 f] 28)=w0 at *;obtain⟨k0,k1,F,G,H,K,L⟩:=z2c m;have k:=J6 b0;have z:=m.lt;have A:=J6 m;clear m b0
 go_wp2_with (go_at_call 34;refine (y.out _ k.out).mono ?_;rintro e w1⟨rfl,Z⟩;have B:=J6 Z;clear Z;dsimp only)
 go_ret2;exact⟨rfl,j.out _ _ _ k.out B.out⟩
theorem j3W(g:Nat)(x:Wo)(v:WoV)(P:Nat->Prop)(w:World)(c d l n:Int)(b f:Bool)(o:CAt 97 w g (wdC x v))(p:WIn P w x v)(s:¬ P g)(t:Small x) :
  Calls prog 23 #[J2 (some ⟨g,0,none⟩),J4 #[J I 6,J I c,J I d,J I l,J I n,J3 b,J3 f]] w (z9z P w g (z7W x)):=by
 have u:=o.lt;have a:=p.lo;have i:¬ (P g/\g<w.heap.size):=fun h=>s h.1;have y:=J6 (fun (q:World) (hb:Bl w q)=>q0T g x v _ q (o.over hb) (a.over hb) i t.q88);have m:=CAt.new 28 w #[J I 6,J I c,J I d,J I l,J I n,J3 b,J3 f];have b0:Bl w (w.alloc (J5 #[J I 6,J I c,J I d,J I l,J I n,J3 b,J3 f] 28)):=znw w _;have j:=z1M P w g;clear o p a i;generalize z7W x=r at *;obtain⟨C,D,E⟩:=r
 go_enter func23,ntmps23
 go_upto_region 1 with fail
 generalize w.alloc (J5 #[J I 6,J I c,J I d,J I l,J I n,J3 b,J3 f] 28)=w0 at *;obtain⟨k0,k1,F,G,H,K,L⟩:=z2c m;have k:=J6 b0;have z:=m.lt;have A:=J6 m;clear m b0
 go_wp2_with (go_at_call 35;refine (y.out _ k.out).mono ?_;rintro e w1⟨rfl,Z⟩;have B:=J6 Z;clear Z;dsimp only)
 go_ret2;exact⟨rfl,j.out _ _ _ k.out B.out⟩
theorem j3T(g:Nat)(x:Wo)(v:WoV)(P:Nat->Prop)(w:World)(c d l n:Int)(b f:Bool)(o:CAt 97 w g (wdC x v))(p:WIn P w x v)(s:¬ P g) :
  Calls prog 23 #[J2 (some ⟨g,0,none⟩),J4 #[J I 4,J I c,J I d,J I l,J I n,J3 b,J3 f]] w (z9z P w g (z4I x c)):=by
 have t:=o.lt;have a:=p.lo;have i:¬ (P g/\g<w.heap.size):=fun h=>s h.1;have u:=J6 (fun (q:World) (hb:Bl w q)=>q5p g x v _ q c (o.over hb) (a.over hb) i);have m:=CAt.new 28 w #[J I 4,J I c,J I d,J I l,J I n,J3 b,J3 f];have b0:Bl w (w.alloc (J5 #[J I 4,J I c,J I d,J I l,J I n,J3 b,J3 f] 28)):=znw w _;have j:=z1M P w g;clear o p a i;generalize z4I x c=r at *;obtain⟨B,C,D⟩:=r
 go_enter func23,ntmps23
 go_upto_region 1 with fail
 generalize w.alloc (J5 #[J I 4,J I c,J I d,J I l,J I n,J3 b,J3 f] 28)=w0 at *;obtain⟨k0,k1,E,F,G,H,K⟩:=z2c m;have k:=J6 b0;have y:=m.lt;have z:=J6 m;clear m b0
 go_wp2_with (go_at_call 36;refine (u.out _ k.out).mono ?_;rintro e w1⟨rfl,Z⟩;have A:=J6 Z;clear Z;dsimp only)
 go_ret2;exact⟨rfl,j.out _ _ _ k.out A.out⟩
theorem q5s(g:Nat)(x:Wo)(v:WoV)(P:Nat->Prop)(w:World)(k c d a n:Int)(b f:Bool)(i:CAt 97 w g (wdC x v))(j:WIn P w x v)(q:¬ P g)(C:(k == 1)=false)(D:(k == 2)=false)(E:(k == 3)=false)(s:(k == 13)=false)(F:(k == 5)=false)(G:(k == 6)=false)(H:(k == 4)=false)(K:(k == 7)=false)(L:(k == 8)=false)(t:(k == 11)=false)(u:(k == 12)=false)(M:(k == 9)=false)(y:(k == 10)=false) :
  Calls prog 23 #[J2 (some ⟨g,0,none⟩),J4 #[J I k,J I c,J I d,J I a,J I n,J3 b,J3 f]] w (z9z P w g (x,0,3)):=by
 have z:=i.lt;have l:=j.lo;have m:¬ (P g/\g<w.heap.size):=fun h=>q h.1;have o:=q3J i j q;have e:=CAt.new 28 w #[J I k,J I c,J I d,J I a,J I n,J3 b,J3 f];have b0:Bl w (w.alloc (J5 #[J I k,J I c,J I d,J I a,J I n,J3 b,J3 f] 28)):=znw w _;have r:=z1M P w g;clear i j l m
 go_enter func23,ntmps23
 go_upto_region 1 with fail
 generalize w.alloc (J5 #[J I k,J I c,J I d,J I a,J I n,J3 b,J3 f] 28)=w0 at *;obtain⟨k0,k1,N,Q,R,S,T⟩:=z2c e;have p:=J6 b0;have A:=e.lt;have B:=J6 e;clear e b0;go_wp2;go_ret2;exact⟨rfl,o.out _ p.out⟩
end Wd
end Go.Proofs.YtddlhnoedldidaaGreat
