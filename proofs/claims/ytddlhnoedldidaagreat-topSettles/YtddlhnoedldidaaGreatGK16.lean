/- Parts of the proof. -/
import Derived.Test.YtddlhnoedldidaaGreatGL
import Derived.Test.YtddlhnoedldidaaGreatGK20
import Derived.Maps.RangeWalk
import Derived.Maps.OwnSet
set_option maxRecDepth 100000
set_option maxHeartbeats 16000000
namespace Go.Proofs.YtddlhnoedldidaaGreat
open Go.Proofs.Tryz
open Value renaming int->J,slice->J1,pointer->J2,bool->J3,agg->J4
open IntKind renaming i64->I
open Obj renaming cells->J5
namespace Wd
open Go.RowKit Pv Kc
theorem q7k(g:Nat)(x:Wo)(v:WoV)(P:Nat->Prop)(w:World)(k c d a n:Int)(b f:Bool)(l:CAt 97 w g (wdC x v))(m:WIn P w x v)(o:¬ P g)(hs:Small x) :
  Calls prog 23 #[J2 (some ⟨g,0,none⟩),J4 #[J I k,J I c,J I d,J I a,J I n,J3 b,J3 f]] w (q0Q P w g (z2J x ⟨k,c,d,a,n,b,f⟩)):=by
 unfold z2J;dsimp only
 by_cases h1:k=1∨k=2∨k=3∨k=13
 ·rw[if_pos h1]
  rcases h1 with rfl|rfl|rfl|rfl
  ·exact j7U g x v P w c d a n b f l m o
  ·exact j8i g x v P w c d a n b f l m o
  ·exact j7Z g x v P w c d a n b f l m o
  ·exact j3Q g x v P w c d a n b f l m o
 rw[if_neg h1]
 by_cases t:k=5
 ·rw[if_pos t];subst t;exact j7G g x v P w c d a n b f l m o hs
 rw[if_neg t]
 by_cases u:k=6
 ·rw[if_pos u];subst u;exact j6G g x v P w c d a n b f l m o hs
 rw[if_neg u]
 by_cases y:k=4
 ·rw[if_pos y];subst y;exact j7k g x v P w c d a n b f l m o
 rw[if_neg y]
 by_cases p:k=7∨k=8∨k=11∨k=12∨k=9∨k=10
 case neg =>
  rw[if_neg p];have q:∀j:Int,k≠j->(k == j)=false:=λj h=>by simpa using h
  exact q5k g x v P w k c d a n b f l m o (q _ λe=>h1 (.inl e)) (q _ λe=>h1 (.inr (.inl e))) (q _ λe=>h1 (.inr (.inr (.inl e)))) (q _ λe=>h1 (.inr (.inr (.inr e)))) (q _ t) (q _ u) (q _ y) (q _ λe=>p (.inl e)) (q _ λe=>p (.inr (.inl e))) (q _ λe=>p (.inr (.inr (.inl e)))) (q _ λe=>p (.inr (.inr (.inr (.inl e))))) (q _ λe=>p (.inr (.inr (.inr (.inr (.inl e)))))) (q _ λe=>p (.inr (.inr (.inr (.inr (.inr e))))))
 rw[if_pos p]
 by_cases r:isC c=true
 case neg =>
  have z:isC c=false:=by simpa using r
  rw[if_neg λh=>r h.1];exact j3U g x v P w k c d a n b f l m o p z
 obtain⟨i,rfl,B⟩:=z9F r;rw[Int.toNat_natCast]
 by_cases s:(x.c i).on=true
 ·rw[if_pos ⟨r,s⟩];exact j3v g x v P w i B k d a n b f l m o p hs s
 ·have A:(x.c i).on=false:=by simpa using s
  rw[if_neg λh=>s h.2];exact q7w g x v P w i B k d a n b f l m o p A
theorem y0K(x:Wo)(v:WoV)(n:Int):(wdC x v).setIfInBounds 1 (J I n)=wdC { x with dn:=n} v:=rfl
theorem z7X{f:Func}{t:Tmp}(c:f.results=#[.cell t 31]){wq:World}{d:Nat}{a b:Int}{Q:Ending->World->Prop}(hc:CAt 31 wq d #[J I a,J I b])(e:Q (.returned (J4 #[J I a,J I b])) wq)(act:Act)
  (g:act.tmps.getD t undef=J2 (some ⟨d,0,none⟩)) (hd:act.defers=[]):bodyPost prog f Q Exit.ret act wq:=
 bodyPost_ret (v:=J4 #[J I a,J I b]) (results_cell_row c _ _ d 31 _ (0,0) _ g hc underlying31 rfl (by kernel_rfl)) hd e
theorem j2n{P P':Nat->Prop}{w w1 j:World}{g d:Nat}{y:Wo}(o:Alt g w w1)(Z:z1h P' w1 g y j)(l:d≠g)(f:w.heap.size<=d)(p:¬ New P' w1 0 d)(hp:∀b,New P' w1 0 b->New P w 0 b)(m n:Nat)(a b:Value):z1h P w g y ((j.setCell ⟨d,m,none⟩ a).setCell ⟨d,n,none⟩ b):=by
 obtain⟨v,c,i,q⟩:=Z;have h:∀k,k≠d->((j.setCell ⟨d,m,none⟩ a).setCell ⟨d,n,none⟩ b).heap[k]?=j.heap[k]?:=λk h=>(Below.heap_setCell _ _ _ _ h).trans (Below.heap_setCell _ _ _ _ h);exact⟨v,(h g (λe=>l e.symm)).trans c,(i.keep λb hb _=>h b λe=>p (e ▸ hb)).mono λb _ hb=>hp b hb,((o.trans q).far f m a).far f n b⟩
theorem j8r(g:Nat)(x:Wo)(v:WoV)(P:Nat->Prop)(w:World)(k c d i n:Int)(b f:Bool)(y:CAt 97 w g (wdC x v))(V:WIn P w x v)(hg:¬ P g)(S:Inv x) :
  Calls prog 10 #[J2 (some ⟨g,0,none⟩),J4 #[.int .i64 k,.int .i64 c,.int .i64 d,.int .i64 i,.int .i64 n,J3 b,J3 f]] w λe w'=>e=.returned (J4 #[.int .i64 (doW x ⟨k,c,d,i,n,b,f⟩).2.1,.int .i64 (doW x ⟨k,c,d,i,n,b,f⟩).2.2])/\z1h P w g (doW x ⟨k,c,d,i,n,b,f⟩).1 w':=by
 have a4:=y.lt;have W:doW x ⟨k,c,d,i,n,b,f⟩=if 600<=x.dn then(x,6,0)else((z2J (z2n x) ⟨k,c,d,i,n,b,f⟩).1,(z2J (z2n x) ⟨k,c,d,i,n,b,f⟩).2.2,if(z2J (z2n x) ⟨k,c,d,i,n,b,f⟩).2.2=0 then(z2J (z2n x) ⟨k,c,d,i,n,b,f⟩).2.1 else 0):=by unfold doW;rfl
 have z:=V.lo;have A:¬(P g/\g<w.heap.size):=λh=>hg h.1;have a5:0<=x.dn:=S.n0;have a3:x.dn<=600:=S.n1;have B:=J6 (λ(t:World) (hb:Bl w t)=>q7k g (z2n x) v (λb=>P b/\b<w.heap.size) (t.setCell ⟨g,1,none⟩ (.int .i64 (x.dn+1))) k c d i n b f (by have h:=(y.over hb).set 1 (.int .i64 (x.dn+1));rw[y0K]at h;exact h) (by have h:=(z.over hb).alt A ((Alt.refl g t).set 1 (.int .i64 (x.dn+1)));exact⟨h.p,h.c⟩) A (j0F (S.dn _)))
 have C:=q4y y V hg;have E:=J6 (λ(t:World) (hb:Bl w t)=>(show t.cell? ⟨g,1,none⟩=some (.int .i64 x.dn)/\t.frozen? ⟨g,1,none⟩=false from⟨(y.over hb).cell 1,(y.over hb).free 1⟩));have a6:IntKind.i64.wrap (x.dn+1)=x.dn+1:=z5z (by omega) (by omega)
 generalize doW x ⟨k,c,d,i,n,b,f⟩=D at *;generalize z2J (z2n x) ⟨k,c,d,i,n,b,f⟩=r at *;obtain⟨rx,rn,F⟩:=r;dsimp only at W;have HD:=J6 W;have K0:=(CAt.new 28 w #[.int .i64 k,.int .i64 c,.int .i64 d,.int .i64 i,.int .i64 n,J3 b,J3 f]).alloc (J5 #[.int .i64 0,.int .i64 0] 31);have R0:=CAt.new2 31 w (J5 #[.int .i64 k,.int .i64 c,.int .i64 d,.int .i64 i,.int .i64 n,J3 b,J3 f] 28) #[.int .i64 0,.int .i64 0];have b0:Bl w ((w.alloc (J5 #[.int .i64 k,.int .i64 c,.int .i64 d,.int .i64 i,.int .i64 n,J3 b,J3 f] 28)).alloc (J5 #[.int .i64 0,.int .i64 0] 31)):=(znw w _).alloc (by simp) _
 clear W y V z S
 go_enter func10,ntmps10
 go_upto_region 1 with fail
 generalize (w.alloc (J5 #[.int .i64 k,.int .i64 c,.int .i64 d,.int .i64 i,.int .i64 n,J3 b,J3 f] 28)).alloc (J5 #[.int .i64 0,.int .i64 0] 31)=w0 at *;have o:=J6 b0;have j:=J6 (show _/\_ from⟨K0,R0⟩);have a7:=R0.lt;clear K0 R0 b0;obtain⟨y1,f1⟩:=E.out w0 o.out;have r0:w0.cell? ⟨w.heap.size+1,0,none⟩=some (.int .i64 0):=j.out.2.cell 0;have r1:w0.cell? ⟨w.heap.size+1,1,none⟩=some (.int .i64 0):=j.out.2.cell 1;have G:=j.out.2.free 0;have H:=j.out.2.free 1
 by_cases T:600<=x.dn
 ·have l:=J6 (HD.out.trans (if_pos T));have X:x.dn≥600:=T;have K:=(j.out.2.set 0 (.int .i64 6)).set 1 (.int .i64 0);have B1:=(o.out.setCell (p:=⟨w.heap.size+1,0,none⟩) (Nat.le_succ _) (.int .i64 6)).setCell (p:=⟨w.heap.size+1,1,none⟩) (Nat.le_succ _) (.int .i64 0);have L:=J6 (show _/\_ from⟨K,B1⟩);clear K B1 HD;go_wp2;exact z7X results10 (a:=6) (b:=0) L.out.1 ⟨by rw[l.out],by rw[l.out];exact C.out _ L.out.2⟩ _ rfl rfl
 ·have l:=J6 (HD.out.trans (if_neg T));have X:¬ x.dn≥600:=T;have U:Alt g w0 (w0.setCell ⟨g,1,none⟩ (.int .i64 (x.dn+1))):=(Alt.refl g w0).set 1 _;have q:=U.cat (b:=w.heap.size) (by omega) j.out.1
  have K:=U.cat (b:=w.heap.size+1) (by omega) j.out.2
  have HP:=J6 (B.out w0 o.out);have s:(w0.setCell ⟨g,1,none⟩ (.int .i64 (x.dn+1))).heap.size=w0.heap.size:=by simp[World.setCell]
  have Y:=J6 ((Alt.of (g:=g) o.out).trans U);have M:=J6 s;clear B C HD U s r0 r1 G H E
  go_upto_region 6 with fail
  clear y1 f1;generalize w0.setCell ⟨g,1,none⟩ (.int .i64 (x.dn+1))=w1 at *;have k0:w1.cell? ⟨w.heap.size,0,none⟩=some (.int .i64 k):=q.cell 0;have k1:w1.cell? ⟨w.heap.size,1,none⟩=some (.int .i64 c):=q.cell 1;have k2:w1.cell? ⟨w.heap.size,2,none⟩=some (.int .i64 d):=q.cell 2;have k3:w1.cell? ⟨w.heap.size,3,none⟩=some (.int .i64 i):=q.cell 3;have k4:w1.cell? ⟨w.heap.size,4,none⟩=some (.int .i64 n):=q.cell 4;have k5:w1.cell? ⟨w.heap.size,5,none⟩=some (J3 b):=q.cell 5;have k6:w1.cell? ⟨w.heap.size,6,none⟩=some (J3 f):=q.cell 6;have a0:=J6 K;have a8:=q.lt;clear q K
  go_upto_region 7 with(go_at_call 23;refine HP.out.mono ?_;rintro e w2⟨rfl,Z⟩;have L:=J6 Z;clear Z;dsimp only)
  obtain⟨v2,c2,i2,a2⟩:=L.out;have u:=a2.cat (b:=w.heap.size+1) (by omega) a0.out
  have r0:w2.cell? ⟨w.heap.size+1,0,none⟩=some (.int .i64 0):=u.cell 0;have r1:w2.cell? ⟨w.heap.size+1,1,none⟩=some (.int .i64 0):=u.cell 1;have G:=u.free 0;have H:=u.free 1;have a9:=u.lt;have N:=J6 u
  have Q:¬ New (λb=>P b/\b<w.heap.size) w1 0 (w.heap.size+1):=λh=>by
   rcases h with⟨h,_⟩|h
   ·have:=h.2;omega
   ·have:=M.out;omega
  have R:∀b,New (λb=>P b/\b<w.heap.size) w1 0 b->New P w 0 b:=λb h=>by
   rcases h with⟨h,_⟩|h
   ·exact .inl h
   ·exact .inr (by have:=M.out;omega)
  have HF:=J6 (λ(a b:Value)=>j2n Y.out L.out (show w.heap.size+1≠g by omega) (by omega) Q R 0 1 a b)
  clear k0 k1 k2 k3 k4 k5 k6 c2 i2 a2 u v2 Q R HP
  by_cases he:F=0
  ·subst he;have m:=J6 (l.out);go_wp2;exact z7X results10 (a:=0) (b:=rn) ((N.out.set 0 (.int .i64 0)).set 1 (.int .i64 rn)) ⟨by rw[m.out];rfl,by rw[m.out];exact HF.out _ _⟩ _ rfl rfl
  ·have b4:(F != 0)=true:=by simpa using he
   have m:Hid (D=(rx,F,0)):=by show _=_;rw[l.out,if_neg he]
   go_wp2;exact z7X results10 (a:=F) (b:=0) ((N.out.set 0 (.int .i64 F)).set 1 (.int .i64 0)) ⟨by rw[m.out],by rw[m.out];exact HF.out _ _⟩ _ rfl rfl
structure StW(B g:Nat)(x:Wo)(w:World):Prop where
 at_:∃v,CAt 97 w g (wdC x v)/\WIn (λb=>B<=b/\b≠g) w x v
 inv:Inv x
 le:B<=g
 lt:g<w.heap.size
theorem StW.over{B g:Nat}{x:Wo}{w w':World}(h:StW B g x w)(hb:Bl w w'):StW B g x w':=by
 obtain⟨v,hc,a⟩:=h.at_;exact⟨⟨v,hc.over hb,a.over hb⟩,h.inv,h.le,(hc.over hb).lt⟩
theorem z4S(w:World):Calls prog 7 #[] w λe w'=>∃g,e=.returned (J2 (some ⟨g,0,none⟩))/\StW w.heap.size g z8y w'/\Bl w w':=by
 refine(j2k w).mono ?_;rintro e w'⟨g,rfl,hc,a,hb⟩;exact⟨g,rfl,⟨⟨_,hc,j7B _ _⟩,q7T,a,hc.lt⟩,hb⟩
theorem q0A(B g:Nat)(x:Wo)(d:Dd)(w:World)(h:StW B g x w) :
  Calls prog 10 #[J2 (some ⟨g,0,none⟩),J4 #[J I d.k,J I d.c,J I d.d,J I d.v,J I d.n,J3 d.b,J3 d.f]] w λe w'=>e=.returned (J4 #[J I (doW x d).2.1,J I (doW x d).2.2])/\StW B g (doW x d).1 w'/\Alt g w w':=by
 obtain⟨v,hc,j⟩:=h.at_;refine(j8r g x v _ w d.k d.c d.d d.v d.n d.b d.f hc j (λh=>h.2 rfl) h.inv).mono ?_;rintro e w'⟨rfl,v',a,i,l⟩;have m:=h.lt;have o:=h.le;refine⟨rfl,⟨⟨v',a,i.mono λb _ hb=>?_⟩,j5k h.inv d,h.le,a.lt⟩,l⟩
 rcases hb with hb|hb
 ·exact hb.1
 ·exact⟨by omega,by omega⟩
theorem q5Z(B g:Nat)(x:Wo)(w:World)(h:StW B g x w):Calls prog 32 #[J2 (some ⟨g,0,none⟩)] w λe w'=>e=.returned (J I x.ck)/\w=w':=by
 obtain⟨v,hc,a⟩:=h.at_;exact q6l g x v w hc
theorem z8g(B g:Nat)(x:Wo)(w:World)(h:StW B g x w):Calls prog 11 #[J2 (some ⟨g,0,none⟩)] w λe w'=>∃v',e=.returned (J4 (prC x.p v'))/\PIn (λb=>w.heap.size+1<=b) w' x.p v'/\Bl w w':=by
 obtain⟨v,hc,a⟩:=h.at_;exact q8y g x v _ w hc a h.inv
theorem z6e(B g:Nat)(x:Wo)(w:World)(i:Nat)(a:i<2)(h:StW B g x w):Calls prog 13 #[J2 (some ⟨g,0,none⟩),J I (i:Int)] w λe w'=>∃v',e=.returned (J4 (csC (x.c i) v'))/\CIn (λb=>w.heap.size+1<=b) w' (x.c i) v'/\Bl w w':=by
 obtain⟨v,hc,d⟩:=h.at_;exact j0p g x v _ w i a hc d h.inv
noncomputable def j8J(w:World)(p:Pr)(v:PrV):World:=(w.alloc (J5 zeroCells58 58)).setCells w.heap.size 0 (prC p v).toList
theorem z6G{P:Nat->Prop}{w:World}{p:Pr}{v:PrV}(h:PIn P w p v):(z7f (J2 (some ⟨w.heap.size,0,none⟩)) (J4 (prC p v))).run prog (w.alloc (J5 zeroCells58 58))=.ok () (j8J w p v):=z0m (CAt.new _ w _) z0e (z0a p v) (z1m h)
def DoS(x:Wo)(d:Dd)(c n:Int)(h:Wo):Prop:=∀(B g:Nat) (a:World),StW B g x a->Calls prog 10 #[J2 (some ⟨g,0,none⟩),J4 #[J I d.k,J I d.c,J I d.d,J I d.v,J I d.n,J3 d.b,J3 d.f]] a λe w'=>e=.returned (J4 #[J I c,J I n])/\StW B g h w'/\Alt g a w'
theorem dos(x:Wo)(d:Dd):DoS x d (doW x d).2.1 (doW x d).2.2 (doW x d).1:=λB g a h=>q0A B g x d a h
theorem y2H{x a:Wo}{d:Dd}{c n k:Int}(h:DoS x d c n a)(e:c=k):DoS x d k n a:=e ▸ h
theorem y2M{x a:Wo}{d:Dd}{c n k:Int}(h:DoS x d c n a)(e:n=k):DoS x d c k a:=e ▸ h
theorem j1F:∃(b d e a:Wo) (n1 c2 f g:Int),a.ck=5/\(a.c 0).set.length=1/\DoS z8y dA 0 n1 b/\DoS b dB c2 5 d/\DoS d dC 0 f e/\DoS e dD g 1 a:=
 ⟨_,_,_,_,_,_,_,_,j6r,j6m,y2H (dos z8y dA) j6c,y2M (dos _ dB) j7z,y2H (dos _ dC) j5K,y2M (dos _ dD) j7c⟩
theorem q4W{w a:World}{g:Nat}{x:Wo}{cs:Array Value}{ty:TypeId}(h:StW w.heap.size g x a)(b:Bl w a):StW w.heap.size g x (a.alloc (J5 cs ty))/\Bl w (a.alloc (J5 cs ty))/\CAt ty (a.alloc (J5 cs ty)) a.heap.size cs:=⟨h.over (znw a _),b.alloc b.size _,CAt.new _ a _⟩
theorem j1Y{w wl w':World}{g:Nat}(c:w.heap.size<=g)(b:Bl w wl)(a:Alt g wl w'):Bl w w':=b.trans (a.below c b.size)
theorem j8H{wl w':World}{g b:Nat}{ty:TypeId}{cs cs':Array Value}(h:CAt ty wl b cs)(hb:b≠g)(a:Alt g wl w'):CAt ty (w'.alloc (J5 cs' ty)) b cs:=(a.cat hb h).alloc _
theorem j7n{B g:Nat}{x:Wo}{a:World}(h:StW B g x a)(h1:(x.c 0).set.length=1):Calls prog 13 #[J2 (some ⟨g,0,none⟩),J I 0] a λe w'=>∃A C pd rp sa b,e=.returned (J4 (csC (x.c 0) ⟨J1 A 1 C,pd,rp,sa,b⟩))/\Bl a w':=by
 refine(z6e B g x a 0 (by omega) h).mono ?_
 rintro e w'⟨v',rfl,d,hb⟩;obtain⟨f,pd,rp,sa,b⟩:=v';obtain⟨A,C,i,-,-⟩:=row_of d.set (z0c _) (by decide)
 obtain rfl:f=J1 A (x.c 0).set.length C:=i;rw[h1];exact⟨A,C,pd,rp,sa,b,rfl,hb⟩
theorem y2r(c:Cs)(v:CsV)(w:World):(Instr.field 75 (J4 (csC c v)) 5).run prog w=.ok v.set w:=by kernel_rfl
theorem z6Y(w:World):Calls prog 22 #[] w λe w'=>e=.returned (J3 true)/\Bl w w':=by
 obtain⟨x1,x2,x3,y,n1,c2,v,p,q,m,z,B,D,E⟩:=j1F;have F:=J6 (z4S w);have G:=J6 (λg n h=>z w.heap.size g n h);have H:=J6 (λg n h=>B w.heap.size g n h);have K:=J6 (λg n h=>D w.heap.size g n h);have L:=J6 (λg n h=>E w.heap.size g n h);have r:=J6 q;have s:=J6 m;clear z B D E q m
 go_enter func22,ntmps22
 go_upto_region 2 with(go_at_call 7;refine F.out.mono ?_;rintro e w1⟨g,rfl,h1,b1⟩;have o:=J6 (show _/\_ from⟨h1,b1⟩);have x:=h1.le;clear h1 b1)
 go_upto_region 5 with(go_at_call 10;refine(G.out g w1 o.out.1).mono ?_;rintro e S⟨rfl,h2,f⟩;have k:=J6 (show _/\_ from⟨h2,f⟩);clear h2 f)
 have M:=q4W (cs:=#[J I 0,J I n1]) (ty:=31) k.out.1 (j1Y x o.out.2 k.out.2);have q2:=k.out.1.lt;clear o k F G;generalize S.alloc (J5 #[J I 0,J I n1] 31)=w3 at *;have l:=J6 M;clear M
 go_upto_region 6 with(go_at_call 10;refine(H.out g w3 l.out.1).mono ?_;rintro e T⟨rfl,h2,f⟩;have i:=J6 (show _/\_ from⟨h2,f⟩);clear h2 f)
 have N:=q4W (cs:=#[J I c2,J I 5]) (ty:=31) i.out.1 (j1Y x l.out.2.1 i.out.2);have P:=j8H (cs':=#[J I c2,J I 5]) l.out.2.2 (by omega) i.out.2
 have q4:=i.out.1.lt;clear l i H;generalize T.alloc (J5 #[J I c2,J I 5] 31)=w5 at *;have j:=J6 (show _/\_ from⟨N,P⟩);clear N P
 go_upto_region 7 with(go_at_call 10;refine(K.out g w5 j.out.1.1).mono ?_;rintro e w6⟨rfl,h2,f⟩;have a:=J6 (show _/\_ from⟨h2,f⟩);clear h2 f)
 have Q:=q4W (cs:=#[J I 0,J I v]) (ty:=31) a.out.1 (j1Y x j.out.1.2.1 a.out.2);have R:=j8H (cs':=#[J I 0,J I v]) j.out.1.2.2 (by omega) a.out.2
 have t:=j8H (cs':=#[J I 0,J I v]) j.out.2 (by omega) a.out.2
 have q6:=a.out.1.lt;clear j a K;generalize w6.alloc (J5 #[J I 0,J I v] 31)=w7 at *;have b:=J6 (show _/\_/\_ from⟨Q,R,t⟩);clear Q R t
 go_upto_region 8 with(go_at_call 10;refine(L.out g w7 b.out.1.1).mono ?_;rintro e U⟨rfl,h2,f⟩;have d:=J6 (show _/\_ from⟨h2,f⟩);clear h2 f)
 have u:=q4W (cs:=#[J I p,J I 1]) (ty:=31) d.out.1 (j1Y x b.out.1.2.1 d.out.2);have r4:=(j8H (cs':=#[J I p,J I 1]) b.out.1.2.2 (by omega) d.out.2).cell 0
 have r3:=(j8H (cs':=#[J I p,J I 1]) b.out.2.1 (by omega) d.out.2).cell 1
 have r2:=(j8H (cs':=#[J I p,J I 1]) b.out.2.2 (by omega) d.out.2).cell 0
 have r5:=u.2.2.cell 1;clear b d L;generalize U.alloc (J5 #[J I p,J I 1] 31)=w9 at *;have V:Hid (Calls prog 32 #[J2 (some ⟨g,0,none⟩)] w9 λe w'=>e=.returned (J I 5)/\w9=w'):=by rw[<-r.out];exact q5Z _ g y w9 u.1
 have W:=J6 (j7n u.1 s.out);have X:=J6 u.2.1;clear u r s
 go_wp2_with (first
  | (go_at_call 32;refine V.out.mono ?_;rintro e w'⟨rfl,rfl⟩)
  | (go_at_call 13;refine W.out.mono ?_;rintro e w'⟨A,C,pd,rp,sa,Y,rfl,hb⟩;have Z:=J6 (zbt X.out hb);clear hb;have f5:=y2r (y.c 0) ⟨J1 A 1 C,pd,rp,sa,Y⟩ w'))
 go_ret;exact⟨rfl,Z.out⟩
structure HR(x:Wo)(r u:Wt):Prop where
 due:r.due=u.due
 hold:∀c,c<2->z1M c r=0∨z1M c u=z1M c r∨z3j x c (z1M c r)∨(x.p.L c).gone=true
 off:∀c,c<2->(x.p.L c).on=false->(x.p.L c).gone=false->z1M c r=0
end Wd
namespace Wd
open Go.RowKit Pv Kc Go.Maps
open Classical in
noncomputable def rdW(v:Value):Option (DataW Value×List MemPlace):=if ∃u:Wt,v=J4 (wtC u)then some (.held v,[])else none
structure HD(D:DataW Value)(hs:Int->Bool)(rc:Int->Wt):Prop where
 has_:∀k,has D (.int .i64 k)=hs k
 val:∀k,hs k=true->∀z,D.atKey (.int .i64 k) z=.held (J4 (wtC (rc k)))
structure HM(rb n:Nat)(D:DataW Value)(hs:Int->Bool)(rc:Int->Wt)(rp:Nat->Int)(gn:Nat->Bool)(w:World):Prop where
 own:w.ownsMap prog 3 rdW (rb+2) n D
 hd:HD D hs rc
 cr:CAt 61 w rb #[.int .i64 (rp 0),.int .i64 (rp 1)]
 cg:CAt 82 w (rb+1) #[J3 (gn 0),J3 (gn 1)]
 cm:CAt 83 w (rb+3) #[.map (some (rb+2))]
section
variable {B g rb gp n:Nat} {D:DataW Value} {hs:Int->Bool} {rc:Int->Wt} {rp:Nat->Int} {gn:Nat->Bool} {w:World} {x:Wo} {vp:PrV} {d:Dd} {wl w':World}
end
end Wd
namespace Wd
open Go.RowKit Pv Kc Go.Maps
def j4u(a:Value):Sem Value:=Instr.loadAt 53 a
theorem q8T(a:Value):Instr.loadAt 53 a=j4u a:=rfl
def LL(N gl:Nat)(v:CsV)(S:List ByteArray)(g:Int)(cl:Bool)(wl:World):Prop:=N<=gl/\CAt 48 wl gl #[v.said,v.due,J I g,J3 cl]/\z0U (λb=>N<=b) wl v.said 1 16 (txC S)
attribute [local go_sem ↓] q8T z9x z2E
attribute [local go_sem ↓] z0T z0F
end Wd
end Go.Proofs.YtddlhnoedldidaaGreat
