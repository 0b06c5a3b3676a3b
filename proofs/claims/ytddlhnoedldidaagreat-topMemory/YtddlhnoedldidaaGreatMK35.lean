/- Parts of the proof. -/
import Derived.Test.YtddlhnoedldidaaGreatML
import Derived.Test.YtddlhnoedldidaaGreatMK11
import Derived.Test.YtddlhnoedldidaaGreatMK32
set_option maxRecDepth 100000
set_option maxHeartbeats 16000000
namespace Go.Proofs.YtddlhnoedldidaaGreat
open Go.Proofs.Tryz
open Value renaming int->J,slice->J1,pointer->J2,bool->J3,agg->J4
open IntKind renaming i64->I
open Obj renaming cells->J5
namespace Wd
open Go.RowKit Pv Kc
theorem q6W(g:Nat)(x:Wo)(v:WoV)(P:Nat->Prop)(w:World)(k c d a n:Int)(b f:Bool)(l:CAt 97 w g (wdC x v))(m:WIn P w x v)(o:¬ P g)(z:Small x) :
  Calls prog 23 #[J2 (some ⟨g,0,none⟩),J4 #[J I k,J I c,J I d,J I a,J I n,J3 b,J3 f]] w (z9z P w g (z4l x ⟨k,c,d,a,n,b,f⟩)):=by
 unfold z4l;dsimp only
 by_cases h1:k=1∨k=2∨k=3∨k=13
 ·rw[if_pos h1]
  rcases h1 with rfl | rfl | rfl | rfl
  ·exact j5l g x v P w c d a n b f l m o
  ·exact j5b g x v P w c d a n b f l m o
  ·exact j3w g x v P w c d a n b f l m o
  ·exact j2a g x v P w c d a n b f l m o
 rw[if_neg h1]
 by_cases t:k=5
 ·rw[if_pos t];subst t;exact j5q g x v P w c d a n b f l m o z
 rw[if_neg t]
 by_cases u:k=6
 ·rw[if_pos u];subst u;exact j3W g x v P w c d a n b f l m o z
 rw[if_neg u]
 by_cases y:k=4
 ·rw[if_pos y];subst y;exact j3T g x v P w c d a n b f l m o
 rw[if_neg y]
 by_cases p:k=7∨k=8∨k=11∨k=12∨k=9∨k=10
 case neg =>
  rw[if_neg p];have q:∀ j:Int,k≠j->(k == j)=false:=fun j h=>by simpa using h
  exact q5s g x v P w k c d a n b f l m o (q _ fun e=>h1 (.inl e)) (q _ fun e=>h1 (.inr (.inl e))) (q _ fun e=>h1 (.inr (.inr (.inl e)))) (q _ fun e=>h1 (.inr (.inr (.inr e)))) (q _ t) (q _ u) (q _ y) (q _ fun e=>p (.inl e)) (q _ fun e=>p (.inr (.inl e))) (q _ fun e=>p (.inr (.inr (.inl e)))) (q _ fun e=>p (.inr (.inr (.inr (.inl e))))) (q _ fun e=>p (.inr (.inr (.inr (.inr (.inl e)))))) (q _ fun e=>p (.inr (.inr (.inr (.inr (.inr e))))))
 rw[if_pos p]
 by_cases r:isC c=true
 case neg =>
  have A:isC c=false:=by simpa using r
  rw[if_neg fun h=>r h.1];exact j1r g x v P w k c d a n b f l m o p A
 obtain⟨i,rfl,C⟩:=z9a r;rw[Int.toNat_natCast]
 by_cases s:(x.c i).on=true
 ·rw[if_pos ⟨r,s⟩];exact j1I g x v P w i C k d a n b f l m o p z s
 ·have B:(x.c i).on=false:=by simpa using s
  rw[if_neg fun h=>s h.2];exact q7S g x v P w i C k d a n b f l m o p B
theorem j6j(x:Wo)(v:WoV)(n:Int):(wdC x v).setIfInBounds 1 (J I n)=wdC { x with dn:=n } v:=rfl
theorem z7s{f:Func}{t:Tmp}(c:f.results=#[.cell t 31]){wq:World}{d:Nat}{a b:Int}{Q:Ending->World->Prop}(hc:CAt 31 wq d #[J I a,J I b])(e:Q (.returned (J4 #[J I a,J I b])) wq)(act:Act)
  (g:act.tmps.getD t undef=J2 (some ⟨d,0,none⟩)) (hd:act.defers=[]):bodyPost prog f Q Exit.ret act wq:=
 bodyPost_ret (v:=J4 #[J I a,J I b]) (results_cell_row c _ _ d 31 _ (0,0) _ g hc underlying31 rfl (by kernel_rfl)) hd e
theorem j1t{P P':Nat->Prop}{w w1 j:World}{g d:Nat}{y:Wo}(o:Alt g w w1)(Z:z1b P' w1 g y j)(l:d≠g)(f:w.heap.size<=d)(p:¬ New P' w1 0 d)(hp:∀ b,New P' w1 0 b->New P w 0 b)(m n:Nat)(a b:Value):z1b P w g y ((j.setCell ⟨d,m,none⟩ a).setCell ⟨d,n,none⟩ b):=by
 obtain⟨v,c,i,q⟩:=Z;have h:∀ k,k≠d->((j.setCell ⟨d,m,none⟩ a).setCell ⟨d,n,none⟩ b).heap[k]?=j.heap[k]?:=fun k h=>(Below.heap_setCell _ _ _ _ h).trans (Below.heap_setCell _ _ _ _ h);exact⟨v,(h g (fun e=>l e.symm)).trans c,(i.keep fun b hb _=>h b fun e=>p (e ▸ hb)).mono fun b _ hb=>hp b hb,((o.trans q).far f m a).far f n b⟩
theorem q6y(g:Nat)(x:Wo)(v:WoV)(P:Nat->Prop)(w:World)(k c d i n:Int)(b f:Bool)(y:CAt 97 w g (wdC x v))(W:WIn P w x v)(hg:¬ P g)(S:Inv x) :
  Calls prog 10 #[J2 (some ⟨g,0,none⟩),J4 #[J I k,J I c,J I d,J I i,J I n,J3 b,J3 f]] w fun e w'=>e=.returned (J4 #[J I (doW x ⟨k,c,d,i,n,b,f⟩).2.1,J I (doW x ⟨k,c,d,i,n,b,f⟩).2.2])/\z1b P w g (doW x ⟨k,c,d,i,n,b,f⟩).1 w':=by
 have a5:=y.lt;have X:doW x ⟨k,c,d,i,n,b,f⟩=if 600<=x.dn then (x,6,0) else ((z4l (z6e x) ⟨k,c,d,i,n,b,f⟩).1,(z4l (z6e x) ⟨k,c,d,i,n,b,f⟩).2.2,if (z4l (z6e x) ⟨k,c,d,i,n,b,f⟩).2.2=0 then (z4l (z6e x) ⟨k,c,d,i,n,b,f⟩).2.1 else 0):=by unfold doW;rfl
 have z:=W.lo;have A:¬ (P g/\g<w.heap.size):=fun h=>hg h.1;have a6:0<=x.dn:=S.n0;have a4:x.dn<=600:=S.n1;have B:=J6 (fun (t:World) (hb:Bl w t)=>q6W g (z6e x) v (fun b=>P b/\b<w.heap.size) (t.setCell ⟨g,1,none⟩ (J I (x.dn+1))) k c d i n b f (by have h:=(y.over hb).set 1 (J I (x.dn+1));rw[j6j]at h;exact h) (by have h:=(z.over hb).alt A ((Alt.refl g t).set 1 (J I (x.dn+1)));exact⟨h.p,h.c⟩) A (q7Y (S.dn _)))
 have C:=q3J y W hg;have E:=J6 (fun (t:World) (hb:Bl w t)=>(show t.cell? ⟨g,1,none⟩=some (J I x.dn)/\t.frozen? ⟨g,1,none⟩=false from⟨(y.over hb).cell 1,(y.over hb).free 1⟩));have a7:IntKind.i64.wrap (x.dn+1)=x.dn+1:=z7l (by omega) (by omega)
 generalize doW x ⟨k,c,d,i,n,b,f⟩=D at *;generalize z4l (z6e x) ⟨k,c,d,i,n,b,f⟩=r at *;obtain⟨rx,rn,F⟩:=r;dsimp only at X;have T:=J6 X;have K0:=(CAt.new 28 w #[J I k,J I c,J I d,J I i,J I n,J3 b,J3 f]).alloc (J5 #[J I 0,J I 0] 31);have R0:=CAt.new2 31 w (J5 #[J I k,J I c,J I d,J I i,J I n,J3 b,J3 f] 28) #[J I 0,J I 0];have b0:Bl w ((w.alloc (J5 #[J I k,J I c,J I d,J I i,J I n,J3 b,J3 f] 28)).alloc (J5 #[J I 0,J I 0] 31)):=(znw w _).alloc (by simp) _
 clear X y W z S
 go_enter func10,ntmps10
 go_upto_region 1 with fail
 generalize (w.alloc (J5 #[J I k,J I c,J I d,J I i,J I n,J3 b,J3 f] 28)).alloc (J5 #[J I 0,J I 0] 31)=w0 at *;have o:=J6 b0;have j:=J6 (show _/\_ from⟨K0,R0⟩);have a8:=R0.lt;clear K0 R0 b0;obtain⟨y1,f1⟩:=E.out w0 o.out;have r0:w0.cell? ⟨w.heap.size+1,0,none⟩=some (J I 0):=j.out.2.cell 0;have r1:w0.cell? ⟨w.heap.size+1,1,none⟩=some (J I 0):=j.out.2.cell 1;have G:=j.out.2.free 0;have H:=j.out.2.free 1
 by_cases U:600<=x.dn
 ·have l:=J6 (T.out.trans (if_pos U));have Y:x.dn≥600:=U;have K:=(j.out.2.set 0 (J I 6)).set 1 (J I 0);have B1:=(o.out.setCell (p:=⟨w.heap.size+1,0,none⟩) (Nat.le_succ _) (J I 6)).setCell (p:=⟨w.heap.size+1,1,none⟩) (Nat.le_succ _) (J I 0);have L:=J6 (show _/\_ from⟨K,B1⟩);clear K B1 T;go_wp2;exact z7s results10 (a:=6) (b:=0) L.out.1 ⟨by rw[l.out],by rw[l.out];exact C.out _ L.out.2⟩ _ rfl rfl
 ·have l:=J6 (T.out.trans (if_neg U));have Y:¬ x.dn≥600:=U;have V:Alt g w0 (w0.setCell ⟨g,1,none⟩ (J I (x.dn+1))):=(Alt.refl g w0).set 1 _;have q:=V.cat (b:=w.heap.size) (by omega) j.out.1
  have K:=V.cat (b:=w.heap.size+1) (by omega) j.out.2
  have HP:=J6 (B.out w0 o.out);have s:(w0.setCell ⟨g,1,none⟩ (J I (x.dn+1))).heap.size=w0.heap.size:=by simp[World.setCell]
  have a0:=J6 ((Alt.of (g:=g) o.out).trans V);have M:=J6 s;clear B C T V s r0 r1 G H E
  go_upto_region 6 with fail
  clear y1 f1;generalize w0.setCell ⟨g,1,none⟩ (J I (x.dn+1))=w1 at *;have k0:w1.cell? ⟨w.heap.size,0,none⟩=some (J I k):=q.cell 0;have k1:w1.cell? ⟨w.heap.size,1,none⟩=some (J I c):=q.cell 1;have k2:w1.cell? ⟨w.heap.size,2,none⟩=some (J I d):=q.cell 2;have k3:w1.cell? ⟨w.heap.size,3,none⟩=some (J I i):=q.cell 3;have k4:w1.cell? ⟨w.heap.size,4,none⟩=some (J I n):=q.cell 4;have k5:w1.cell? ⟨w.heap.size,5,none⟩=some (J3 b):=q.cell 5;have k6:w1.cell? ⟨w.heap.size,6,none⟩=some (J3 f):=q.cell 6;have a3:=J6 K;have a9:=q.lt;clear q K
  go_upto_region 7 with (go_at_call 23;refine HP.out.mono ?_;rintro e w2⟨rfl,Z⟩;have L:=J6 Z;clear Z;dsimp only)
  obtain⟨v2,c2,i2,a2⟩:=L.out;have u:=a2.cat (b:=w.heap.size+1) (by omega) a3.out
  have r0:w2.cell? ⟨w.heap.size+1,0,none⟩=some (J I 0):=u.cell 0;have r1:w2.cell? ⟨w.heap.size+1,1,none⟩=some (J I 0):=u.cell 1;have G:=u.free 0;have H:=u.free 1;have b4:=u.lt;have N:=J6 u
  have Q:¬ New (fun b=>P b/\b<w.heap.size) w1 0 (w.heap.size+1):=fun h=>by
   rcases h with⟨h,_⟩ | h
   ·have:=h.2;omega
   ·have:=M.out;omega
  have R:∀ b,New (fun b=>P b/\b<w.heap.size) w1 0 b->New P w 0 b:=fun b h=>by
   rcases h with⟨h,_⟩ | h
   ·exact .inl h
   ·exact .inr (by have:=M.out;omega)
  have HF:=J6 (fun (a b:Value)=>j1t a0.out L.out (show w.heap.size+1≠g by omega) (by omega) Q R 0 1 a b)
  clear k0 k1 k2 k3 k4 k5 k6 c2 i2 a2 u v2 Q R HP
  by_cases he:F=0
  ·subst he;have m:=J6 (l.out);go_wp2;exact z7s results10 (a:=0) (b:=rn) ((N.out.set 0 (J I 0)).set 1 (J I rn)) ⟨by rw[m.out];rfl,by rw[m.out];exact HF.out _ _⟩ _ rfl rfl
  ·have b5:(F != 0)=true:=by simpa using he
   have m:Hid (D=(rx,F,0)):=by show _=_;rw[l.out,if_neg he]
   go_wp2;exact z7s results10 (a:=F) (b:=0) ((N.out.set 0 (J I F)).set 1 (J I 0)) ⟨by rw[m.out],by rw[m.out];exact HF.out _ _⟩ _ rfl rfl
structure StW(B g:Nat)(x:Wo)(w:World):Prop where
 at_:∃ v,CAt 97 w g (wdC x v)/\WIn (fun b=>B<=b/\b≠g) w x v
 inv:Inv x
 le:B<=g
 lt:g<w.heap.size
theorem StW.over{B g:Nat}{x:Wo}{w w':World}(h:StW B g x w)(hb:Bl w w'):StW B g x w':=by
 obtain⟨v,hc,a⟩:=h.at_;exact⟨⟨v,hc.over hb,a.over hb⟩,h.inv,h.le,(hc.over hb).lt⟩
theorem z4v(w:World):Calls prog 7 #[] w fun e w'=>∃ g,e=.returned (J2 (some ⟨g,0,none⟩))/\StW w.heap.size g z8k w'/\Bl w w':=by
 refine (j0O w).mono ?_;rintro e w'⟨g,rfl,hc,a,hb⟩;exact⟨g,rfl,⟨⟨_,hc,j4g _ _⟩,j4A,a,hc.lt⟩,hb⟩
theorem q1F(B g:Nat)(x:Wo)(d:Dd)(w:World)(h:StW B g x w) :
  Calls prog 10 #[J2 (some ⟨g,0,none⟩),J4 #[J I d.k,J I d.c,J I d.d,J I d.v,J I d.n,J3 d.b,J3 d.f]] w fun e w'=>e=.returned (J4 #[J I (doW x d).2.1,J I (doW x d).2.2])/\StW B g (doW x d).1 w'/\Alt g w w':=by
 obtain⟨v,hc,j⟩:=h.at_;refine (q6y g x v _ w d.k d.c d.d d.v d.n d.b d.f hc j (fun h=>h.2 rfl) h.inv).mono ?_;rintro e w'⟨rfl,v',a,i,l⟩;have m:=h.lt;have o:=h.le;refine⟨rfl,⟨⟨v',a,i.mono fun b _ hb=>?_⟩,j2y h.inv d,h.le,a.lt⟩,l⟩
 rcases hb with hb | hb
 ·exact hb.1
 ·exact⟨by omega,by omega⟩
theorem q5F(B g:Nat)(x:Wo)(w:World)(h:StW B g x w):Calls prog 32 #[J2 (some ⟨g,0,none⟩)] w fun e w'=>e=.returned (J I x.ck)/\w=w':=by
 obtain⟨v,hc,a⟩:=h.at_;exact q5t g x v w hc
theorem q0d(B g:Nat)(x:Wo)(w:World)(i:Nat)(a:i<2)(h:StW B g x w):Calls prog 13 #[J2 (some ⟨g,0,none⟩),J I (i:Int)] w fun e w'=>∃ v',e=.returned (J4 (csC (x.c i) v'))/\CIn (fun b=>w.heap.size+1<=b) w' (x.c i) v'/\Bl w w':=by
 obtain⟨v,hc,d⟩:=h.at_;exact q7w g x v _ w i a hc d h.inv
def DoS(x:Wo)(d:Dd)(c n:Int)(h:Wo):Prop:=∀ (B g:Nat) (a:World),StW B g x a->Calls prog 10 #[J2 (some ⟨g,0,none⟩),J4 #[J I d.k,J I d.c,J I d.d,J I d.v,J I d.n,J3 d.b,J3 d.f]] a fun e w'=>e=.returned (J4 #[J I c,J I n])/\StW B g h w'/\Alt g a w'
theorem dos(x:Wo)(d:Dd):DoS x d (doW x d).2.1 (doW x d).2.2 (doW x d).1:=fun B g a h=>q1F B g x d a h
theorem j8k{x a:Wo}{d:Dd}{c n k:Int}(h:DoS x d c n a)(e:c=k):DoS x d k n a:=e ▸ h
theorem j8u{x a:Wo}{d:Dd}{c n k:Int}(h:DoS x d c n a)(e:n=k):DoS x d c k a:=e ▸ h
theorem j1v:∃ (b d e a:Wo) (n1 c2 f g:Int),a.ck=5/\(a.c 0).set.length=1/\DoS z8k dA 0 n1 b/\DoS b dB c2 5 d/\DoS d dC 0 f e/\DoS e dD g 1 a:=
 ⟨_,_,_,_,_,_,_,_,j4z,j3x,j8k (dos z8k dA) j4r,j8u (dos _ dB) j2Y,j8k (dos _ dC) j4T,j8u (dos _ dD) j5f⟩
theorem q3l{w a:World}{g:Nat}{x:Wo}{cs:Array Value}{ty:TypeId}(h:StW w.heap.size g x a)(b:Bl w a):StW w.heap.size g x (a.alloc (J5 cs ty))/\Bl w (a.alloc (J5 cs ty))/\CAt ty (a.alloc (J5 cs ty)) a.heap.size cs:=⟨h.over (znw a _),b.alloc b.size _,CAt.new _ a _⟩
theorem j1x{w wl w':World}{g:Nat}(c:w.heap.size<=g)(b:Bl w wl)(a:Alt g wl w'):Bl w w':=b.trans (a.below c b.size)
theorem j5x{wl w':World}{g b:Nat}{ty:TypeId}{cs cs':Array Value}(h:CAt ty wl b cs)(hb:b≠g)(a:Alt g wl w'):CAt ty (w'.alloc (J5 cs' ty)) b cs:=(a.cat hb h).alloc _
theorem j2Z{B g:Nat}{x:Wo}{a:World}(h:StW B g x a)(h1:(x.c 0).set.length=1):Calls prog 13 #[J2 (some ⟨g,0,none⟩),J I 0] a fun e w'=>∃ A C pd rp sa b,e=.returned (J4 (csC (x.c 0) ⟨J1 A 1 C,pd,rp,sa,b⟩))/\Bl a w':=by
 refine (q0d B g x a 0 (by omega) h).mono ?_
 rintro e w'⟨v',rfl,d,hb⟩;obtain⟨f,pd,rp,sa,b⟩:=v';obtain⟨A,C,i,-,-⟩:=row_of d.set (z0c _) (by decide)
 obtain rfl:f=J1 A (x.c 0).set.length C:=i;rw[h1];exact⟨A,C,pd,rp,sa,b,rfl,hb⟩
theorem j7L(c:Cs)(v:CsV)(w:World):(Instr.field 75 (J4 (csC c v)) 5).run prog w=.ok v.set w:=by kernel_rfl
theorem z8O(w:World):Calls prog 22 #[] w fun e w'=>e=.returned (J3 true)/\Bl w w':=by
 obtain⟨x1,x2,x3,y,n1,c2,v,p,q,m,z,B,D,E⟩:=j1v;have F:=J6 (z4v w);have G:=J6 (fun g n h=>z w.heap.size g n h);have H:=J6 (fun g n h=>B w.heap.size g n h);have K:=J6 (fun g n h=>D w.heap.size g n h);have L:=J6 (fun g n h=>E w.heap.size g n h);have r:=J6 q;have s:=J6 m;clear z B D E q m
 go_enter func22,ntmps22
 go_upto_region 2 with (go_at_call 7;refine F.out.mono ?_;rintro e w1⟨g,rfl,h1,b1⟩;have o:=J6 (show _/\_ from⟨h1,b1⟩);have x:=h1.le;clear h1 b1)
 go_upto_region 5 with (go_at_call 10;refine (G.out g w1 o.out.1).mono ?_;rintro e S⟨rfl,h2,f⟩;have k:=J6 (show _/\_ from⟨h2,f⟩);clear h2 f)
 have M:=q3l (cs:=#[J I 0,J I n1]) (ty:=31) k.out.1 (j1x x o.out.2 k.out.2);have q2:=k.out.1.lt;clear o k F G;generalize S.alloc (J5 #[J I 0,J I n1] 31)=w3 at *;have l:=J6 M;clear M
 go_upto_region 6 with (go_at_call 10;refine (H.out g w3 l.out.1).mono ?_;rintro e T⟨rfl,h2,f⟩;have i:=J6 (show _/\_ from⟨h2,f⟩);clear h2 f)
 have N:=q3l (cs:=#[J I c2,J I 5]) (ty:=31) i.out.1 (j1x x l.out.2.1 i.out.2);have P:=j5x (cs':=#[J I c2,J I 5]) l.out.2.2 (by omega) i.out.2
 have q4:=i.out.1.lt;clear l i H;generalize T.alloc (J5 #[J I c2,J I 5] 31)=w5 at *;have j:=J6 (show _/\_ from⟨N,P⟩);clear N P
 go_upto_region 7 with (go_at_call 10;refine (K.out g w5 j.out.1.1).mono ?_;rintro e w6⟨rfl,h2,f⟩;have a:=J6 (show _/\_ from⟨h2,f⟩);clear h2 f)
 have Q:=q3l (cs:=#[J I 0,J I v]) (ty:=31) a.out.1 (j1x x j.out.1.2.1 a.out.2);have R:=j5x (cs':=#[J I 0,J I v]) j.out.1.2.2 (by omega) a.out.2
 have t:=j5x (cs':=#[J I 0,J I v]) j.out.2 (by omega) a.out.2
 have q6:=a.out.1.lt;clear j a K;generalize w6.alloc (J5 #[J I 0,J I v] 31)=w7 at *;have b:=J6 (show _/\_/\_ from⟨Q,R,t⟩);clear Q R t
 go_upto_region 8 with (go_at_call 10;refine (L.out g w7 b.out.1.1).mono ?_;rintro e U⟨rfl,h2,f⟩;have d:=J6 (show _/\_ from⟨h2,f⟩);clear h2 f)
 have u:=q3l (cs:=#[J I p,J I 1]) (ty:=31) d.out.1 (j1x x b.out.1.2.1 d.out.2);have r4:=(j5x (cs':=#[J I p,J I 1]) b.out.1.2.2 (by omega) d.out.2).cell 0
 have r3:=(j5x (cs':=#[J I p,J I 1]) b.out.2.1 (by omega) d.out.2).cell 1
 have r2:=(j5x (cs':=#[J I p,J I 1]) b.out.2.2 (by omega) d.out.2).cell 0
 have r5:=u.2.2.cell 1;clear b d L;generalize U.alloc (J5 #[J I p,J I 1] 31)=w9 at *;have V:Hid (Calls prog 32 #[J2 (some ⟨g,0,none⟩)] w9 fun e w'=>e=.returned (J I 5)/\w9=w'):=by rw[<- r.out];exact q5F _ g y w9 u.1
 have W:=J6 (j2Z u.1 s.out);have X:=J6 u.2.1;clear u r s
 go_wp2_with (first
  | (go_at_call 32;refine V.out.mono ?_;rintro e w'⟨rfl,rfl⟩)
  | (go_at_call 13;refine W.out.mono ?_;rintro e w'⟨A,C,pd,rp,sa,Y,rfl,hb⟩;have Z:=J6 (zbt X.out hb);clear hb;have f5:=j7L (y.c 0) ⟨J1 A 1 C,pd,rp,sa,Y⟩ w'))
 go_ret;exact⟨rfl,Z.out⟩
noncomputable def j4b(w:World)(p:Pr)(v:PrV):World:=(w.alloc (J5 zeroCells58 58)).setCells w.heap.size 0 (prC p v).toList
theorem z8o{P:Nat->Prop}{w:World}{p:Pr}{v:PrV}(h:PIn P w p v):(z6x (J2 (some ⟨w.heap.size,0,none⟩)) (J4 (prC p v))).run prog (w.alloc (J5 zeroCells58 58))=.ok () (j4b w p v):=z0k (CAt.new _ w _) z0d (z0b p v) (z0Y h)
noncomputable def q9L(w:World)(c:Cs)(v:CsV):World:=(w.alloc (J5 Z22 75)).setCells w.heap.size 0 (csC c v).toList
theorem z8p{P:Nat->Prop}{w:World}{c:Cs}{v:CsV}(h:CIn P w c v):(q2S (J2 (some ⟨w.heap.size,0,none⟩)) (J4 (csC c v))).run prog (w.alloc (J5 Z22 75))=.ok () (q9L w c v):=z1C (CAt.new _ w _) z0p (z0i c v) (z1E h)
structure StP(P:Nat->Prop)(g:Nat)(x:Wo)(w:World):Prop where
 at_:∃ v,CAt 97 w g (wdC x v)/\WIn P w x v
 inv:Inv x
 no:¬ P g
structure PWr(P:Nat->Prop)(w:World)(p:Pr)(v:PrV):Prop where
 ws:Wr 63 P w v.ws p.s.W.length 8
 set:Wr 65 P w v.set p.set.length 2
 told:∀ c,c<2->Wr 65 P w (v.l c).told (p.L c).told.length 2
 done:∀ c,c<2->Wr 3 P w (v.l c).done (p.L c).done.length 1
 said:∀ c,c<2->Wr 9 P w (v.l c).said (p.L c).out.S.length 1
 due:∀ c,c<2->Wr 3 P w (v.l c).due (p.L c).out.D.length 1
 q:Wr 70 P w v.q p.q.length 7
structure PS(n gp:Nat)(w1:World)(p:Pr)(v:PrV)(wl:World):Prop where
 bel:Below n w1 wl
 cat:CAt 58 wl gp (prC p v)
 wr:PWr (fun b=>n<=b/\b≠gp) wl p v
 le:n<=gp
end Wd
namespace Wd
open Go.RowKit Pv Kc
structure T1(n g g2 bw:Nat)(x:Wo)(w1:World):Prop where
 eq:n=w1.heap.size
 inv:Inv x
 a:∃ P,StP P g x w1
 o:∃ P,StP P g2 x w1
 cp:CAt 23 w1 bw #[J2 (some ⟨g2,0,none⟩)]
attribute [local go_sem ↓] z1r z1j
end Wd
end Go.Proofs.YtddlhnoedldidaaGreat
