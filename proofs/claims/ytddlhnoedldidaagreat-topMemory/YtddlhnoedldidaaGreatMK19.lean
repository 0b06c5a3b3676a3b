/- Parts of the proof. -/
import Derived.Test.YtddlhnoedldidaaGreatML
import Derived.Test.YtddlhnoedldidaaGreatMK41
set_option maxRecDepth 100000
set_option maxHeartbeats 16000000
namespace Go.Proofs.YtddlhnoedldidaaGreat
open Go.Proofs.Tryz
open Value renaming int->J,slice->J1,pointer->J2,bool->J3,agg->J4
open IntKind renaming i64->I
open Obj renaming cells->J5
namespace Pv
open Go.RowKit
attribute [local go_sem ↓] z7F z7h
set_option maxRecDepth 1000000 in
theorem j0f(g:Nat)(p D:Pr)(v:PrV)(P:Nat->Prop)(w w5:World)(c o g7:Nat)(x:Ln.Line)(s1 s2:Value)(E1:Int)(hc:c<2)(hC:CAt 58 w g (prC p v))(hp:PIn P w p v)(hg:¬ P g)(G:Hid (o=66+c * 14))(H:Hid (Bl w w5))(m7:w.heap.size<=g7)(a:Hid (CAt 48 w5 g7 #[s1,s2,.int .i64 x.g,J3 x.cl]))(r:Hid (z0C (fun b=>New P w 0 b/\b≠g7) w5 s1 1 16 (txC x.S)))(s:Hid (z0C (fun b=>New P w 0 b/\b≠g7) w5 s2 1 8 (inC x.D)))
  (R:Hid (D=if E1=0 then { p with L:=z1a p.L c { p.L c with out:=x,told:=p.set,fresh:=false,done:=[] } } else p)) (v2 v3 v4 v5 v8 v9 a1 a2 a3 a4 a5 a6 a7 a8 a9 b4 b5 b6 b7 b8 b9 c4 c5 c6 c7 c8 c9 d0 d1 d2 d3 d4 d5 d6 d7 d8 d9 e0 e1 e2 e3 e4 e5 e6 e7 e8 e9 g0 g1 g3 g5 g6 g8 g9 h4 h5 h6 h7 h8 h9 i2 i3 i4 i5 i6 i7 i8 i9 j0 j1 j2 j3 j4 j5 j6 j7 j8 j9 k4 k5 k6 k7 k8 k9 l0 l1 l2 l3 l4 l5 l6 l7 l8 l9:Value) :
  Code.wp prog j7m (bodyPost prog f80 (Turns w g P D)) ⟨List.toArray ((J2 (some ⟨g,0,none⟩)) :: (J2 (some ⟨g,o,none⟩)) :: v2 :: v3 :: v4 :: v5 :: (.int .i64 E1) :: (J2 (some ⟨g7,0,none⟩)) :: v8 :: v9 :: a1 :: a2 :: a3 :: a4 :: a5 :: a6 :: a7 :: a8 :: a9 :: b4 :: b5 :: b6 :: b7 :: b8 :: b9 :: c4 :: c5 :: c6 :: c7 :: c8 :: c9 :: d0 :: d1 :: d2 :: d3 :: d4 :: d5 :: d6 :: d7 :: d8 :: d9 :: e0 :: e1 :: e2 :: e3 :: e4 :: e5 :: e6 :: e7 :: e8 :: e9 :: g0 :: g1 :: g3 :: g5 :: g6 :: g8 :: g9 :: h4 :: h5 :: h6 :: h7 :: h8 :: h9 :: i2 :: i3 :: i4 :: i5 :: i6 :: i7 :: i8 :: i9 :: j0 :: j1 :: j2 :: j3 :: j4 :: j5 :: j6 :: j7 :: j8 :: j9 :: k4 :: k5 :: k6 :: k7 :: k8 :: k9 :: l0 :: l1 :: l2 :: l3 :: l4 :: l5 :: l6 :: l7 :: l8 :: l9 :: []),[]⟩ w5:=by
 conv=>arg 2;whnf
 have T:=J6 hp;have HC:=J6 hC;have m0:=hC.lt;obtain⟨d,n1,f,B1,rfl,-,-⟩:=id r.out;obtain⟨i,m,n,B2,rfl,-,-⟩:=id s.out
 by_cases hE:E1=0
 rotate_left
 ·have hq:Hid (D=p):=R.out.trans (if_neg hE);have m8:(E1 != 0)=true:=by simpa using hE
  clear R r s a hC hp;go_wp2;go_end0;rw[hq.out];exact⟨v,rfl,HC.out.over H.out,T.out.z2y H.out 0,Alt.of H.out⟩
 subst hE;replace R:=J6 (R.out.trans (if_pos rfl));have t:=HC.out.over H.out;have m9:¬ g7=g:=by omega
 have hf:=(t.lk hc).facts;rw[<- G.out]at hf;obtain⟨-,-,-,f3,f4,f5,f6,f7,f8,f9⟩:=hf;have k0:w5.cell? ⟨g7,0,none⟩=_:=a.out.cell 0;have k1:w5.cell? ⟨g7,0+1,none⟩=_:=a.out.cell 1;have k2:w5.cell? ⟨g7,0+2,none⟩=_:=a.out.cell 2;have k3:w5.cell? ⟨g7,0+3,none⟩=_:=a.out.cell 3;have z6:=t.free (o+6);have z7:=t.free (o+6+1);have z8:=t.free (o+6+2);have z9:=t.free (o+6+3);have U:=J6 t;clear hC hp t
 have sN:(q0D (J2 (some ⟨g,o+6,none⟩)) (J4 #[J1 d n1 f,J1 i m n,.int .i64 x.g,J3 x.cl])).run prog w5=.ok () (w5.setCells g (o+6) [J1 d n1 f,J1 i m n,.int .i64 x.g,J3 x.cl]):=
  run_storeAt_mid (P:=prog) w5 g (o+6) 48 #[J1 d n1 f,J1 i m n,.int .i64 x.g,J3 x.cl] (U.out.there (o+6) 4 (by rw[z0b,G.out];omega)) (by rw[q6Q];rfl) (by simp[Value.oneCell'])
 go_upto_region 7 with fail
 have V:CAt 58 (w5.setCells g (o+6) [J1 d n1 f,J1 i m n,.int .i64 x.g,J3 x.cl]) g (((((prC p v).setIfInBounds (o+6) (J1 d n1 f)).setIfInBounds (o+7) (J1 i m n)).setIfInBounds (o+8) (.int .i64 x.g)).setIfInBounds (o+9) (J3 x.cl)):=(((U.out.set (o+6) _).set (o+7) _).set (o+8) _).set (o+9) _;have W:¬ New P w 0 g:=z0I hg m0;have X:Hid (Alt g w (w5.setCells g (o+6) [J1 d n1 f,J1 i m n,.int .i64 x.g,J3 x.cl])):=(Alt.of H.out).sets _ _;have y:Hid (∀ b,b≠g->(w5.setCells g (o+6) [J1 d n1 f,J1 i m n,.int .i64 x.g,J3 x.cl]).heap[b]?=w5.heap[b]?):=fun b hb=>z0M hb _ _ _;have n3:Hid (w5.heap.size=(w5.setCells g (o+6) [J1 d n1 f,J1 i m n,.int .i64 x.g,J3 x.cl]).heap.size):=by show _=_;simp[World.setCells,World.setCell]
 clear f6 f7 f8 f9 k0 k1 k2 k3 z6 z7 z8 z9 sN f3 f4 f5;generalize w5.setCells g (o+6) [J1 d n1 f,J1 i m n,.int .i64 x.g,J3 x.cl]=w6 at *;have Y:=V.lt;have P6:PIn (New P w 0) w6 p v:=(T.out.z2y H.out 0).keep fun b hb _=>y.out b (fun e=>W (by rw[<- e];exact hb))
 have A:=J6 (z6m p.set v.set (New P w 0) w6 P6.set)
 have m1:w6.cell? ⟨g,65,none⟩=some v.set:=by
  rw[V.cell 65];simp only[Array.getElem?_setIfInBounds];have:=G.out;rw[if_neg (by omega),if_neg (by omega),if_neg (by omega),if_neg (by omega)]
  rfl
 obtain⟨At,nt,Ct,et⟩:=(T.out.lk c hc).told.one';obtain⟨Ad,nd,m2,ed⟩:=(T.out.lk c hc).done.one'
 have Z:Hid (∀ B,Bl w6 B->B.cell? ⟨g,o+3,none⟩=some (J1 At nt Ct)/\B.cell? ⟨g,o+4,none⟩=some (J3 (p.L c).fresh)/\B.cell? ⟨g,o+5,none⟩=some (J1 Ad nd m2)/\∀ k,B.frozen? ⟨g,k,none⟩=false):=fun B hb=>by
  have C:=V.over hb
  have hl:∀ j,j<6->∀ z,(lkL (p.L c) (v.l c))[j]?=some z->B.cell? ⟨g,o+j,none⟩=some z:=fun j hj z hz=>by
   rw[C.cell (o+j)];simp only[Array.getElem?_setIfInBounds];rw[if_neg (by omega),if_neg (by omega),if_neg (by omega),if_neg (by omega),G.out,z1s c hc j (by omega),hz]
  exact⟨hl 3 (by omega) _ (by rw[<- et];rfl),hl 4 (by omega) _ rfl,hl 5 (by omega) _ (by rw[<- ed];rfl),fun k=>C.free k⟩
 have H6:=J6 (show _/\_ from⟨V,P6⟩);clear V P6 et ed;obtain⟨As,ns,Cs,es⟩:=T.out.set.one';rw[es]at m1 A;clear es
 go_upto_region 8 with (go_at_call 39;refine A.out.mono ?_;rintro e E⟨u,rfl,U7,q⟩;obtain⟨K,M,N,rfl⟩:=U7.one';obtain⟨q3,q4,q5,qz⟩:=Z.out E q;have m6:g<E.heap.size:=Nat.lt_of_lt_of_le Y q.size;have m3:=qz (o+3);have Q:=J6 (show _/\_ from⟨U7,q⟩);have a0:=J6 qz;clear U7 q qz)
 have m4:=a0.out (o+4);have m5:=a0.out (o+5);go_wp2;go_end0;have e:=G.out;clear G q3 q4 q5 m3 m4 m5 Z A;subst e;rw[R.out];have hk:∀ b,New P w 0 b->b≠g:=fun b hb e=>W (by rw[<- e];exact hb)
 have F:∀ b,New P w 0 b->(((E.setCell ⟨g,66+c * 14+3,none⟩ (J1 K M N)).setCell ⟨g,66+c * 14+4,none⟩ (J3 false)).setCell ⟨g,66+c * 14+5,none⟩ (J1 none 0 0)).heap[b]?=E.heap[b]?:=fun b hb=>(Below.heap_setCell _ _ _ _ (hk b hb)).trans ((Below.heap_setCell _ _ _ _ (hk b hb)).trans (Below.heap_setCell _ _ _ _ (hk b hb)));have C9:=(((H6.out.1.over Q.out.2).set (66+c * 14+3) (J1 K M N)).set (66+c * 14+4) (J3 false)).set (66+c * 14+5) (J1 none 0 0);rw[j3O c hc x p.set (J1 K M N) (J1 d n1 f) (J1 i m n)]at C9;have n4:=X.out.size;have R1:=(((r.out.mono (P':=New P w 0) fun b _ h=>h.1).keep (w':=w6) fun b hb _=>y.out b (hk b hb)).over Q.out.2).keep (w':=((E.setCell ⟨g,66+c * 14+3,none⟩ (J1 K M N)).setCell ⟨g,66+c * 14+4,none⟩ (J3 false)).setCell ⟨g,66+c * 14+5,none⟩ (J1 none 0 0)) fun b hb _=>F b hb;have R2:=(((s.out.mono (P':=New P w 0) fun b _ h=>h.1).keep (w':=w6) fun b hb _=>y.out b (hk b hb)).over Q.out.2).keep (w':=((E.setCell ⟨g,66+c * 14+3,none⟩ (J1 K M N)).setCell ⟨g,66+c * 14+4,none⟩ (J3 false)).setCell ⟨g,66+c * 14+5,none⟩ (J1 none 0 0)) fun b hb _=>F b hb;have T9:=(Q.out.1.mono (P':=New P w 0) fun b _ h=>.inr (by omega)).keep (w':=((E.setCell ⟨g,66+c * 14+3,none⟩ (J1 K M N)).setCell ⟨g,66+c * 14+4,none⟩ (J3 false)).setCell ⟨g,66+c * 14+5,none⟩ (J1 none 0 0)) fun b hb _=>F b hb
 exact⟨_,rfl,C9,j4m ((((H6.out.2.over Q.out.2).put W _ _).put W _ _).put W _ _) c x _ _ _ T9 R1 R2,(((X.out.trans (Alt.of Q.out.2)).put _ _).put _ _).put _ _⟩
end Pv
namespace Pv
open Go.RowKit
structure Sds(P:Nat->Prop)(w w6:World)(x:Ln.Line)(u1 u2:Value)(g7:Nat)(w':World):Prop where
 cat:CAt 48 w' g7 #[u1,u2,J I x.g,J3 x.cl]
 r1:z0C (fun b=>New P w 0 b/\b≠g7) w' u1 1 16 (txC x.S)
 r2:z0C (fun b=>New P w 0 b/\b≠g7) w' u2 1 8 (inC x.D)
 bel:Bl w6 w'
 le:w6.heap.size<=g7
theorem z0C.sets{P:Nat->Prop}{w:World}{v:Value}{sz bts:Nat}{cs:List Value}(h:z0C P w v sz bts cs){g:Nat}(c:¬ P g)(o:Nat)(a:List Value):z0C P (w.setCells g o a) v sz bts cs:=h.keep fun b hb _=>z0M (show b≠g from fun e=>c (by rw[<- e];exact hb)) a o w
theorem z0C.one'{P:Nat->Prop}{w:World}{v:Value}{sz bts:Nat}{cs:List Value}(h:z0C P w v sz bts cs):∃ A n C,v=J1 A n C:=by
 obtain⟨A,n,C,-,rfl,-⟩:=h;exact⟨A,n,C,rfl⟩
theorem z2V{u1 u2:Value}(h1:∃ A n C,u1=J1 A n C)(h2:∃ A n C,u2=J1 A n C)(a:Int)(b:Bool):(#[u1,u2,J I a,J3 b]:Array Value).all (·.oneCell')=true:=by
 obtain⟨A,n,C,rfl⟩:=h1;obtain⟨A',c,C',rfl⟩:=h2
 simp[Value.oneCell']
theorem j4S{P:Nat->Prop}{w w6 w0 a:World}{x:Ln.Line}{u1 u2:Value}(i:w.heap.size<=w6.heap.size)(h0:w6.heap.size<=w0.heap.size)(c:z0C (New (fun b=>P b/\b<w.heap.size) w0 0) a u1 1 16 (txC x.S))(d:z0C (New (fun b=>P b/\b<w.heap.size) w0 0) a u2 1 8 (inC x.D))(hb:Bl w6 a) :
  ∃ e,(q0D (J2 (some ⟨a.heap.size,0,none⟩)) (J4 #[u1,u2,J I x.g,J3 x.cl])).run prog (a.alloc (J5 Z4 48))=.ok () e/\Sds P w w6 x u1 u2 a.heap.size e:=by
 have f:Bl a (a.alloc (J5 Z4 48)):=znw a _
 have m:∀ b,b<a.heap.size->New (fun b=>P b/\b<w.heap.size) w0 0 b->New P w 0 b/\b≠a.heap.size:=fun b j h=>by
  refine⟨?_,by omega⟩
  rcases h with⟨h,_⟩ | h
  ·exact .inl h
  ·exact .inr (by omega)
 refine⟨_,q2P (CAt.new 48 a Z4) rfl rfl (z2V c.one' d.one' _ _),(CAt.new 48 a Z4).z0t rfl,((c.mono m).over f).sets (fun h=>h.2 rfl) _ _,((d.mono m).over f).sets (fun h=>h.2 rfl) _ _,z0a hb.size _ _ _ (hb.alloc hb.size _),hb.size⟩
theorem j3X{P:Nat->Prop}{w w6 w0 a:World}{x:Ln.Line}{u1 u2:Value}(f:w.heap.size<=w6.heap.size)(h0:w6.heap.size+1<=w0.heap.size)(c:z0C (New (fun b=>P b/\b<w.heap.size) w0 0) a u1 1 16 (txC x.S))(d:z0C (New (fun b=>P b/\b<w.heap.size) w0 0) a u2 1 8 (inC x.D))(hb:Bl w6 a)(hc:CAt 48 a w6.heap.size Z4) :
  ∃ e,(q0D (J2 (some ⟨w6.heap.size,0,none⟩)) (J4 #[u1,u2,J I x.g,J3 x.cl])).run prog a=.ok () e/\Sds P w w6 x u1 u2 w6.heap.size e:=by
 have m:∀ b,b<a.heap.size->New (fun b=>P b/\b<w.heap.size) w0 0 b->New P w 0 b/\b≠w6.heap.size:=fun b i h=>by
  rcases h with⟨h,_⟩ | h
  ·exact⟨.inl h,by have:=h.2;omega⟩
  ·exact⟨.inr (by omega),by omega⟩
 refine⟨_,q2P hc rfl rfl (z2V c.one' d.one' _ _),hc.z0t rfl,(c.mono m).sets (fun h=>h.2 rfl) _ _,(d.mono m).sets (fun h=>h.2 rfl) _ _,z0a (Nat.le_refl _) _ _ _ hb,Nat.le_refl _⟩
def j7C(F:Option Addr->Nat->Nat->Option Addr->Nat->Nat->Nat->Act)(R:Option Addr->Nat->Nat->Option Addr->Nat->Nat->Nat->World->Prop)(ex:Exit)(a:Act)(w:World):Prop:=∃ A n C A' b C' g,ex=Exit.normal/\a=F A n C A' b C' g/\R A n C A' b C' g w
theorem j0W{P:Program}{c:Code}{Q:Exit->Act->World->Prop}{a:Act}{w:World}(R:Option Addr->Nat->Nat->Option Addr->Nat->Nat->Nat->World->Prop)(F:Option Addr->Nat->Nat->Option Addr->Nat->Nat->Nat->Act)(h1:Code.wp P c (j7C F R) a w)(h2:∀ A n C A' b C' g w',R A n C A' b C' g w'->Q Exit.normal (F A n C A' b C' g) w'):Code.wp P c Q a w:=
 Code.wp_mono (fun e d w' h=>by obtain⟨A,n,C,A',b,C',g,rfl,rfl,h⟩:=h;exact h2 A n C A' b C' g w' h) h1
attribute [local go_sem ↓] z7F z7h
set_option maxRecDepth 1000000 in
theorem j0n(g:Nat)(p D:Pr)(v:PrV)(P:Nat->Prop)(w w5:World)(c o g4:Nat)(dl:List (Int×Int))(ud ut:Value)(hc:c<2)(hC:CAt 58 w g (prC p v))(hp:PIn P w p v)(hg:¬ P g)(g3:0<=p.t)(g5:p.t<=1099511627776)(HO:Hid (o=66+c * 14))(HB:Hid (Bl w w5))(Q:Hid (CAt 68 w5 g4 #[.int .i64 1,.int .i64 p.h,.int .i64 0,.int .i64 0,ud,ut]))(Y:Hid (Rep (fun _=>True) w5 ud 2 16 (pwC dl)))(a0:Hid (Rep (fun _=>True) w5 ut 1 8 (inC (p.L c).done)))
  (HD:Hid (D=if Cd.z0s 1 p.h 0 0 dl (p.L c).done=0 then if Ln.z6v (p.L c).out (p.t+40)=0 then { p with L:=z1a p.L c { p.L c with out:=Ln.z5K (p.L c).out (Cd.encS 1 p.h 0 0 dl (p.L c).done) (p.t+40),told:=p.set,fresh:=false,done:=[] } } else p else p)) (v8 v9 a2 a3 a4 a5 a6 a7 a8 a9 b4 b5 b6 b7 b8 b9 c4 c5 c6 c7 c8 c9 d0 d1 d2 d3 d4 d5 d6 d7 d8 d9 e0 e1 e2 e3 e4 e5 e6 e7 e8 e9 f4 f5 f6 f7 f8 f9 g0:Value) :
  Code.wp prog j5M (bodyPost prog f80 (Turns w g P D)) ⟨List.toArray ((J2 (some ⟨g,0,none⟩)) :: (J2 (some ⟨g,o,none⟩)) :: undef :: undef :: (J2 (some ⟨g4,0,none⟩)) :: undef :: undef :: undef :: v8 :: v9 :: a2 :: a3 :: a4 :: a5 :: a6 :: a7 :: a8 :: a9 :: b4 :: b5 :: b6 :: b7 :: b8 :: b9 :: c4 :: c5 :: c6 :: c7 :: c8 :: c9 :: d0 :: d1 :: d2 :: d3 :: d4 :: d5 :: d6 :: d7 :: d8 :: d9 :: e0 :: e1 :: e2 :: e3 :: e4 :: e5 :: e6 :: e7 :: e8 :: e9 :: f4 :: f5 :: f6 :: f7 :: f8 :: f9 :: g0 :: undef :: undef :: undef :: undef :: undef :: undef :: undef :: undef :: undef :: undef :: undef :: undef :: undef :: undef :: undef :: undef :: undef :: undef :: undef :: undef :: undef :: undef :: undef :: undef :: undef :: undef :: undef :: undef :: undef :: undef :: undef :: undef :: undef :: undef :: undef :: undef :: undef :: undef :: undef :: undef :: undef :: []),[]⟩ w5:=by
 conv=>arg 2;whnf
 have X:=J6 hp;have HC:=J6 hC;have g6:=hC.lt;obtain⟨A1,C1,A2,C2,sb,so,db,dO,rfl,rfl,hL⟩:=Rep.lies Y.out a0.out;have R:=J6 (Cd.z5M 1 p.h 0 0 dl (p.L c).done A1 A2 C1 C2 sb so db dO w5 hL);generalize Cd.encS 1 p.h 0 0 dl (p.L c).done=es at *;generalize Cd.z0s 1 p.h 0 0 dl (p.L c).done=E0 at *;have k0:w5.cell? ⟨g4,0,none⟩=some (.int .i64 1):=Q.out.cell 0;have k1:w5.cell? ⟨g4,0+1,none⟩=some (.int .i64 p.h):=Q.out.cell 1;have k2:w5.cell? ⟨g4,0+2,none⟩=some (.int .i64 0):=Q.out.cell 2;have k3:w5.cell? ⟨g4,0+3,none⟩=some (.int .i64 0):=Q.out.cell 3;have k4:w5.cell? ⟨g4,0+4,none⟩=some (J1 A1 dl.length C1):=Q.out.cell 4;have k5:w5.cell? ⟨g4,0+5,none⟩=some (J1 A2 (p.L c).done.length C2):=Q.out.cell 5;clear hL Q Y a0 hC hp
 by_cases hE:E0=0
 rotate_left
 ·have hq:Hid (D=p):=HD.out.trans (if_neg hE);have g8:(E0 != 0)=true:=by simpa using hE
  clear HD
  go_wp2_with (go_at_call 117;refine R.out.mono ?_;rintro e w6⟨rfl,s⟩;have f:=J6 (zbt HB.out s);clear s)
  go_end0;rw[hq.out];exact⟨v,rfl,HC.out.over f.out,X.out.z2y f.out 0,Alt.of f.out⟩
 subst hE;replace HD:=J6 (HD.out.trans (if_pos rfl))
 go_upto_region 4 with (go_at_call 117;refine R.out.mono ?_;rintro e w6⟨rfl,s⟩;have f:=J6 (zbt HB.out s);clear s k0 k1 k2 k3 k4 k5)
 have m:=f.out.size;obtain⟨As,ns,Cs,T⟩:=(X.out.lk c hc).said.one';obtain⟨Ae,ne,Ce,U⟩:=(X.out.lk c hc).due.one';have V:=J6 (fun (d:World) (hb:Bl w6 d)=>q6q (p.L c).out es (p.t+40) (v.l c).said (v.l c).due (fun b=>P b/\b<w.heap.size) d (((X.out.lk c hc).said.mono fun b hl h=>⟨h,hl⟩).over (f.out.trans (hb.mono m))) (((X.out.lk c hc).due.mono fun b hl h=>⟨h,hl⟩).over (f.out.trans (hb.mono m))));rw[T,U]at V
 have HF:Hid (∀ d,Bl w6 d->d.cell? ⟨g,o+6,none⟩=some (J1 As ns Cs)/\d.cell? ⟨g,o+6+1,none⟩=some (J1 Ae ne Ce)/\d.cell? ⟨g,o+6+2,none⟩=some (.int .i64 (p.L c).out.g)/\d.cell? ⟨g,o+6+3,none⟩=some (J3 (p.L c).out.cl)/\d.cell? ⟨g,1,none⟩=some (.int .i64 p.t)):=fun d hb=>by
  have C:=HC.out.over (f.out.trans (hb.mono m));have hf:=(C.lk hc).facts;rw[<- HO.out,T,U]at hf;exact⟨hf.2.2.2.2.2.2.1,hf.2.2.2.2.2.2.2.1,hf.2.2.2.2.2.2.2.2.1,hf.2.2.2.2.2.2.2.2.2,C.cell 1⟩
 clear T U;generalize Ln.z5K (p.L c).out es (p.t+40)=x at *;generalize Ln.z6v (p.L c).out (p.t+40)=E1 at *;generalize (p.L c).out.g=gg at *;generalize (p.L c).out.cl=gc at *;have a1:Hid (Bl w6 (w6.alloc (J5 Z4 48))):=znw w6 _;have u:=J6 a1.out.drew;have B:Hid (CAt 48 (w6.alloc (J5 Z4 48)).drew w6.heap.size Z4):=CAt.new 48 w6 Z4;have g1:Hid (w6.heap.size+1<=(w6.alloc (J5 Z4 48)).drew.heap.size):=B.out.lt;have y:=J6 m;have g9:IntKind.i64.wrap (p.t+40)=p.t+40:=z7l (by omega) (by omega)
 clear m R;unfold Z4 at a1 u;apply j0W (fun A n C A' n' C' g7 w'=>Sds P w w6 x (J1 A n C) (J1 A' n' C') g7 w')
 ·refine wp_region_noPanic ?_;refine wp_region_held_drew (S:=fun d=>Bl w6 d) (by kernel_rfl) (Below.refl _ _).drew (fun r=>?_)
  refine O.Z 0 (J2 (some ⟨g,o,none⟩)) 65 rfl rfl r (fun d a=>?_) ?_
  ·try dsimp only at a
   go_simp
  simp only[O.pp,O.pb,O.pc];refine O.Z 1 (J2 (some ⟨g,o,none⟩)) 66 rfl rfl r (fun d a=>?_) ?_
  ·try dsimp only at a
   go_simp
  simp only[O.pp,O.pb,O.pc];refine O.Z 2 (J2 (some ⟨g,o+6,none⟩)) 67 rfl rfl r (fun d a=>?_) ?_
  ·try dsimp only at a
   go_simp
  simp only[O.pp,O.pb,O.pc];refine O.Z 3 (J4 #[J1 As ns Cs,J1 Ae ne Ce,.int .i64 gg,J3 gc]) 68 rfl rfl r (fun d a=>?_) ?_
  ·try dsimp only at a
   obtain⟨l6,l7,l8,l9,l1⟩:=HF.out d a;go_simp
  simp only[O.pp,O.pb,O.pc];refine O.Z 4 (.string es) 69 rfl rfl r (fun d a=>?_) ?_
  ·try dsimp only at a
   go_simp
  simp only[O.pp,O.pb,O.pc];refine O.Z 5 (J2 (some ⟨g,0,none⟩)) 70 rfl rfl r (fun d a=>?_) ?_
  ·try dsimp only at a
   go_simp
  simp only[O.pp,O.pb,O.pc];refine O.Z 6 (J2 (some ⟨g,0,none⟩)) 71 rfl rfl r (fun d a=>?_) ?_
  ·try dsimp only at a
   go_simp
  simp only[O.pp,O.pb,O.pc];refine O.Z 7 (J2 (some ⟨g,1,none⟩)) 72 rfl rfl r (fun d a=>?_) ?_
  ·try dsimp only at a
   go_simp
  simp only[O.pp,O.pb,O.pc];refine O.Z 8 (.int .i64 p.t) 73 rfl rfl r (fun d a=>?_) ?_
  ·try dsimp only at a
   obtain⟨l6,l7,l8,l9,l1⟩:=HF.out d a;go_simp
  simp only[O.pp,O.pb,O.pc];refine O.Z 9 (.int .i64 (p.t+40)) 74 rfl rfl r (fun d a=>?_) ?_
  ·try dsimp only at a
   go_simp
  simp only[O.pp,O.pb,O.pc];refine O.z3j (i:=10) (j:=14) (by kernel_rfl) rfl rfl rfl rfl (fun K q=>?_) (fun K q=>?_)
  ·go_simp
   go_at_call 118
   refine (V.out _ (by with_reducible exact (Below.refl w6.heap.size w6).drew)).mono ?_
   rintro e wb⟨u1,u2,rfl,U1,U2,z⟩;obtain⟨E,F,G,rfl⟩:=U1.one';obtain⟨H,M,N,rfl⟩:=U2.one';have hb:=(Below.refl w6.heap.size w6).drew.trans (z.mono (Below.refl w6.heap.size w6).drew.size);dsimp only;refine q _ _ hb ?_;clear q K
   try simp only[O.pp,O.pb,O.pc]
   refine O.Z 11 (.tuple #[J4 #[J1 E F G,J1 H M N,.int .i64 x.g,J3 x.cl],.int .i64 E1]) 64 rfl rfl hb (fun d a=>?_) ?_
   ·try dsimp only at a
    go_simp
   simp only[O.pp,O.pb,O.pc];refine O.Z 12 (J4 #[J1 E F G,J1 H M N,.int .i64 x.g,J3 x.cl]) 76 rfl rfl hb (fun d a=>?_) ?_
   ·try dsimp only at a
    go_simp
   simp only[O.pp,O.pb,O.pc];refine O.Z 13 (.int .i64 E1) 77 rfl rfl hb (fun d a=>?_) ?_
   ·try dsimp only at a
    go_simp
   simp only[O.pp,O.pb,O.pc];refine O.z0R (i:=14) (by kernel_rfl) rfl rfl (fun K q=>?_)
   go_simp;refine q _ _ (hb.alloc hb.size _) ?_;clear q K
   try simp only[O.pp,O.pb,O.pc]
   obtain⟨wS,sA,k⟩:=j4S (P:=P) y.out (Nat.le_refl _) U1 U2 hb;unfold Z4 at sA;refine O.z0R (i:=15) (by kernel_rfl) rfl rfl (fun K q=>?_)
   go_simp;refine q _ _ k.bel ?_;clear q K;refine O.Z 16 (.int .i64 E1) 6 rfl rfl k.bel (fun d a=>?_) ?_
   ·try dsimp only at a
    go_simp
   simp only[O.pp,O.pb,O.pc];refine wpAnyH_done (by kernel_rfl) ?_ _
   obtain⟨gn,W⟩:∃ gn,gn=wb.heap.size:=⟨_,rfl⟩;rw[<- W]at k ⊢;exact NoPanic.normal ⟨E,F,G,H,M,N,gn,rfl,rfl,k⟩
  ·go_simp;refine q _ _ (r.alloc r.size _) ?_;clear q K
   try simp only[O.pp,O.pb,O.pc]
   refine O.z0R (i:=10) (by kernel_rfl) rfl rfl (fun K q=>?_)
   go_simp
   go_at_call 118
   refine (V.out _ (by with_reducible exact u.out)).mono ?_
   rintro e wb⟨u1,u2,rfl,U1,U2,z⟩;obtain⟨E,F,G,rfl⟩:=U1.one';obtain⟨H,M,N,rfl⟩:=U2.one';have hb:=zbt u.out z;dsimp only;refine q _ _ hb ?_;clear q K
   try simp only[O.pp,O.pb,O.pc]
   refine O.Z 11 (.tuple #[J4 #[J1 E F G,J1 H M N,.int .i64 x.g,J3 x.cl],.int .i64 E1]) 64 rfl rfl hb (fun d a=>?_) ?_
   ·try dsimp only at a
    go_simp
   simp only[O.pp,O.pb,O.pc];refine O.Z 12 (J4 #[J1 E F G,J1 H M N,.int .i64 x.g,J3 x.cl]) 76 rfl rfl hb (fun d a=>?_) ?_
   ·try dsimp only at a
    go_simp
   simp only[O.pp,O.pb,O.pc];refine O.Z 13 (.int .i64 E1) 77 rfl rfl hb (fun d a=>?_) ?_
   ·try dsimp only at a
    go_simp
   simp only[O.pp,O.pb,O.pc];obtain⟨wS,sC,k⟩:=j3X (P:=P) y.out g1.out U1 U2 hb (B.out.over z);refine O.z0R (i:=15) (by kernel_rfl) rfl rfl (fun K q=>?_)
   go_simp;refine q _ _ k.bel ?_;clear q K;refine O.Z 16 (.int .i64 E1) 6 rfl rfl k.bel (fun d a=>?_) ?_
   ·try dsimp only at a
    go_simp
   simp only[O.pp,O.pb,O.pc];refine wpAnyH_done (by kernel_rfl) ?_ _
   obtain⟨gn,W⟩:∃ gn,gn=w6.heap.size:=⟨_,rfl⟩;rw[<- W]at k ⊢;exact NoPanic.normal ⟨E,F,G,H,M,N,gn,rfl,rfl,k⟩
 rintro E F G H M N g7 w7 S7;simp only[Exit.then];apply_assumption;refine j0f g p D v P w w7 c o g7 x _ _ E1 hc HC.out X.out hg HO (f.out.trans (S7.bel.mono y.out)) (Nat.le_trans y.out S7.le) S7.cat S7.r1 S7.r2 HD _ _ _ _ _ _ _ _ _ _ _ _ _ _ _ _ _ _ _ _ _ _ _ _ _ _ _ _ _ _ _ _ _ _ _ _ _ _ _ _ _ _ _ _ _ _ _ _ _ _ _ _ _ _ _ _ _ _ _ _ _ _ _ _ _ _ _ _ _ _ _ _ _ _ _ _ _ _ _ _ _ _ _ _ _ _ _ _ _ _ _ _ _ _
end Pv
namespace Wd
open Go.RowKit Pv
theorem j1u{P:Nat->Prop}{w a:World}{l:List (Int×Int)}{v:Value}(h:Rep P w v 2 16 (pwC l))(hb:Bl w a):∃ A C,v=J1 A l.length C/\l.length<=140737488351232/\∀ k,k<l.length->∃ b o,A=some ⟨b,o,none⟩/\a.cell? ⟨b,o+k * 2,none⟩=some (J I (l.getD k (0,0)).1)/\a.cell? ⟨b,o+k * 2+1,none⟩=some (J I (l.getD k (0,0)).2):=by
 obtain⟨A,C,e,s,-,c,-⟩:=(h.over hb).open (z0c l) (by decide)
 refine⟨A,C,e,by omega,fun k d=>?_⟩
 obtain⟨b,o,f,-,-,hc⟩:=c (by omega)
 obtain⟨g,g2⟩:=z1U l k d;exact⟨b,o,f,hc _ _ g,by rw[Nat.add_assoc];exact hc _ _ g2⟩
theorem j8I(w:World)(a b:Int):(binOp .neq 65 (J4 #[J I a,J I b]) (J4 #[J I a,J I b])).run prog w=.ok (J3 false) w:=by
 rw[run_neq_struct];go_simp
theorem z3V(l:List (Int×Int))(v v':Value)(P P':Nat->Prop)(w:World)(h:Rep P w v 2 16 (pwC l))(d:Rep P' w v' 2 16 (pwC l)) :
  Calls prog 20 #[v,v'] w fun e w'=>e=.returned (J3 true)/\Bl w w':=by
 have g:=J6 (fun (f:World) (hb:Bl w f)=>j1u h hb);have j:=J6 (fun (f:World) (hb:Bl w f)=>j1u d hb);obtain⟨A,C,rfl,p,-⟩:=j1u h (Below.refl _ w);obtain⟨A',C',rfl,-,-⟩:=j1u d (Below.refl _ w);clear h d
 go_enter func20,ntmps20
 go_upto_region 4 with fail
 go_loopw [5] (fun i wl=>∃ k:Nat,k<=l.length/\i=J I (k:Int)/\Hid (Bl w wl)) (fun i _=>l.length - (intOf i).toNat)
 case atStart=>exact⟨0,by omega,rfl,Below.refl _ _⟩
 case round =>
  obtain⟨k,q,rfl,a⟩:=hrel
  by_cases c:k<l.length
  ·obtain⟨r,s,m,-,f1⟩:=g.out wr a.out;obtain⟨t,u,n,-,f2⟩:=j.out wr a.out;cases m;cases n;obtain⟨b,o,rfl,c0,c1⟩:=f1 k c;obtain⟨x,y,rfl,z,B⟩:=f2 k c;clear f1 f2;have D:=fun w=>j8I w (l.getD k (0,0)).1 (l.getD k (0,0)).2;generalize (l.getD k (0,0)).1=y0 at *;generalize (l.getD k (0,0)).2=y1 at *;have hk0:(0:Int)<=(k:Int):=by omega
   have hk1:(k:Int)<(l.length:Int):=by omega
   go_upto_region 6 with fail
   go_quiet (fail);go_wp2;go_roundw
   case rel=>exact⟨k+1,by omega,by go_num,a.out.os,a.out.tape,a.out.output,a.out.size,a.out.block⟩
   case measure=>simp[intOf];omega
  ·go_wp2;go_ret;exact⟨rfl,a.out⟩
end Wd
end Go.Proofs.YtddlhnoedldidaaGreat
