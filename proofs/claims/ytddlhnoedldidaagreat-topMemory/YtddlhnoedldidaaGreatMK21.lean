/- Parts of the proof. -/
import Derived.Test.YtddlhnoedldidaaGreatML
import Derived.Test.YtddlhnoedldidaaGreatMK1
import Derived.Test.YtddlhnoedldidaaGreatMK2
import Derived.Test.YtddlhnoedldidaaGreatMK20
import Derived.Test.YtddlhnoedldidaaGreatMK26
import Derived.Test.YtddlhnoedldidaaGreatMK33
import Derived.Test.YtddlhnoedldidaaGreatMK36
set_option maxRecDepth 100000
set_option maxHeartbeats 16000000
namespace Go.Proofs.YtddlhnoedldidaaGreat
open Go.Proofs.Tryz
open Value renaming int->J,slice->J1,pointer->J2,bool->J3,agg->J4
open IntKind renaming i64->I
open Obj renaming cells->J5
namespace Cd
open Go.RowKit
def z2z(w:World)(b:Nat)(k i v n s d:Value):Prop:=w.heap[b]?=some (J5 #[k,i,v,n,s,d] 68)
theorem z2z.cells{w:World}{b:Nat}{k i v n s d:Value}(h:z2z w b k i v n s d):w.cell? ⟨b,0,none⟩=some k/\w.cell? ⟨b,1,none⟩=some i/\w.cell? ⟨b,2,none⟩=some v/\w.cell? ⟨b,3,none⟩=some n/\w.cell? ⟨b,4,none⟩=some s/\w.cell? ⟨b,5,none⟩=some d/\(∀ o,w.frozen? ⟨b,o,none⟩=false):=by
 unfold z2z at h
 simp[World.cell?,World.frozen?,h]
theorem z2z.set{w:World}{b:Nat}{k i v n s d:Value}(h:z2z w b k i v n s d)(u:Value) :
  z2z (w.setCell ⟨b,0,none⟩ u) b u i v n s d/\z2z (w.setCell ⟨b,1,none⟩ u) b k u v n s d/\z2z (w.setCell ⟨b,2,none⟩ u) b k i u n s d/\z2z (w.setCell ⟨b,3,none⟩ u) b k i v u s d/\z2z (w.setCell ⟨b,4,none⟩ u) b k i v n u d/\z2z (w.setCell ⟨b,5,none⟩ u) b k i v n s u:=by
 unfold z2z at *
 simp[World.setCell,Array.getElem?_modify,h]
theorem z2z.lt{w:World}{b:Nat}{k i v n s d:Value}(h:z2z w b k i v n s d):b<w.heap.size:=(Array.getElem?_eq_some_iff.1 h).1
theorem z2z.keep{w w':World}{b:Nat}{k i v n s d:Value}{r:Option Nat}(h:z2z w b k i v n s d)(c:w.grownBy w' r)(a:some b≠r):z2z w' b k i v n s d:=(c.block b h.lt a).trans h
theorem TS.lt{w:World}{b:Nat}{st:List Int×Bool}(h:TS w b st):b<w.heap.size:=by obtain⟨r,h,_⟩:=h;exact (Array.getElem?_eq_some_iff.1 h).1
theorem TS.keep{w w':World}{b:Nat}{st:List Int×Bool}{r:Option Nat}(h:TS w b st)(d:w.grownBy w' r)(a:some b≠r):TS w' b st:=by
 have c:=h.lt;obtain⟨x,h,h2⟩:=h;exact⟨x,(d.block b c a).trans h,h2⟩
def q1t(w:World)(B:Nat)(v:Value)(l:List (Int×Int)):Prop:=w.ownsRow B 65 2 v l.length (l.flatMap fun p=>[Value.int .i64 p.1,Value.int .i64 p.2])
def Row1(w:World)(B:Nat)(v:Value)(l:List Int):Prop:=w.ownsRow B 3 1 v l.length (l.map (Value.int .i64))
def tkP:Nat->List Int×Bool->List (Int×Int)×(List Int×Bool)
 | 0,st=>([],st)
 | m+1,st=>(((tk 1 st).1,(tk 7 (tk 1 st).2).1) :: (tkP m (tk 7 (tk 1 st).2).2).1,(tkP m (tk 7 (tk 1 st).2).2).2)
def tkD:Nat->List Int×Bool->List Int×(List Int×Bool)
 | 0,st=>([],st)
 | m+1,st=>((tk 1 st).1 :: (tkD m (tk 1 st).2).1,(tkD m (tk 1 st).2).2)
theorem z2m(b:Nat)(st a:List Int×Bool)(x d:Int)(m:Nat)(w:World)(f:TS w b st)(c:d=(m:Int))(g:m<=7)(h:tk m st=(x,a)) :
  Calls prog 46 #[J2 (some ⟨b,0,none⟩),J I d] w fun e w'=>e=.returned (J I x)/\TS w' b a/\w.grownBy w' (some b):=by
 subst c;have:=q5J b st m w f g;rw[h]at this;exact this
theorem q1e{w w1 a:World}{r:Option Nat}(h:w.grownBy w1 r)(k:∀ i,i<w.heap.size->some i≠r->a.heap[i]?=w1.heap[i]?)(d:a.os=w1.os)(e:a.tape=w1.tape)(hu:a.output=w1.output)(f:w1.heap.size<=a.heap.size):w.grownBy a r:=
 ⟨d.trans h.os,e.trans h.tape,hu.trans h.output,Nat.le_trans h.size f,fun i c b=>(k i c b).trans (h.block i c b)⟩
theorem z2R{w w1:World}{r:Option Nat}{b o:Nat}{u:Value}(h:w.grownBy w1 r)(hb:w.heap.size<=b):w.grownBy (w1.setCell ⟨b,o,none⟩ u) r:=
 q1e h (fun i a _=>Below.heap_setCell _ _ _ _ (by simp;omega)) rfl rfl rfl (by simp[World.setCell])
structure PSt(w wl:World)(b:Nat)(st:List Int×Bool)(k i v n s d:Value):Prop where
 T:TS wl b st
 Bx:z2z wl (w.heap.size+1) k i v n s d
 Rs:z2z wl w.heap.size (J I 0) (J I 0) (J I 0) (J I 0) (J1 none 0 0) (J1 none 0 0)
 G:w.grownBy wl (some b)
 hb:b<w.heap.size
theorem PSt.num{w wl a:World}{b:Nat}{st c:List Int×Bool}{k i v n s d:Value}(h:PSt w wl b st k i v n s d)(f:TS a b c)(g:wl.grownBy a (some b)):PSt w a b c k i v n s d:=
 ⟨f,h.Bx.keep g (by intro e;cases e;have:=h.hb;omega),h.Rs.keep g (by intro e;cases e;have:=h.hb;omega),z4w h.G g,h.hb⟩
theorem TS.other{w:World}{b:Nat}{st:List Int×Bool}(h:TS w b st){c o:Nat}{u:Value}(hc:b≠c):TS (w.setCell ⟨c,o,none⟩ u) b st:=by
 obtain⟨x,h,h2⟩:=h;exact⟨x,(Below.heap_setCell _ _ _ _ hc).trans h,h2⟩
theorem PSt.set{w wl:World}{b:Nat}{st:List Int×Bool}{k i v n s d:Value}(h:PSt w wl b st k i v n s d)(u:Value) :
  PSt w (wl.setCell ⟨w.heap.size+1,0,none⟩ u) b st u i v n s d/\PSt w (wl.setCell ⟨w.heap.size+1,1,none⟩ u) b st k u v n s d/\PSt w (wl.setCell ⟨w.heap.size+1,2,none⟩ u) b st k i u n s d /\
  PSt w (wl.setCell ⟨w.heap.size+1,3,none⟩ u) b st k i v u s d/\PSt w (wl.setCell ⟨w.heap.size+1,4,none⟩ u) b st k i v n u d/\PSt w (wl.setCell ⟨w.heap.size+1,5,none⟩ u) b st k i v n s u:=by
 have hb:=h.hb;obtain⟨f,g,j,l,m,p⟩:=h.Bx.set u;have a:∀ o,z2z (wl.setCell ⟨w.heap.size+1,o,none⟩ u) w.heap.size (J I 0) (J I 0) (J I 0) (J I 0) (J1 none 0 0) (J1 none 0 0):=fun o=>(Below.heap_setCell _ _ _ _ (by simp)).trans h.Rs
 have c:∀ o,TS (wl.setCell ⟨w.heap.size+1,o,none⟩ u) b st:=fun o=>h.T.other (by omega)
 have e:∀ o,w.grownBy (wl.setCell ⟨w.heap.size+1,o,none⟩ u) (some b):=fun o=>z2R h.G (Nat.le_succ _);exact⟨⟨c _,f,a _,e _,hb⟩,⟨c _,g,a _,e _,hb⟩,⟨c _,j,a _,e _,hb⟩,⟨c _,l,a _,e _,hb⟩,⟨c _,m,a _,e _,hb⟩,⟨c _,p,a _,e _,hb⟩⟩
theorem PSt.alloc{w wl:World}{b:Nat}{st:List Int×Bool}{k i v n s d:Value}(h:PSt w wl b st k i v n s d)(o:Obj):PSt w (wl.alloc o) b st k i v n s d:=
 have g:=World.grownBy_alloc wl o none
 ⟨h.T.keep g (by simp),h.Bx.keep g (by simp),h.Rs.keep g (by simp),z4w h.G (World.grownBy_alloc wl o _),h.hb⟩
theorem PSt.own{w wl a:World}{b:Nat}{st:List Int×Bool}{k i v n s d:Value}{r:Option Nat}(h:PSt w wl b st k i v n s d)(g:wl.grownBy a r)(l:∀ j,r=some j->w.heap.size+2<=j):PSt w a b st k i v n s d:=by
 have hb:=h.hb;have f:∀ c,c<w.heap.size+2->some c≠r:=fun c hc e=>by have:=l c e.symm;omega
 exact⟨h.T.keep g (f _ (by omega)),h.Bx.keep g (f _ (by omega)),h.Rs.keep g (f _ (by omega)),q1e h.G (fun j m _=>g.block j (Nat.lt_of_lt_of_le m h.G.size) (f j (by omega))) g.os g.tape g.output g.size,h.hb⟩
theorem PSt.big{w wl:World}{b:Nat}{st:List Int×Bool}{k i v n s d:Value}(h:PSt w wl b st k i v n s d):w.heap.size+2<=wl.heap.size:=h.Bx.lt
theorem z7o{w wl a:World}{b e size m:Nat}{v:Value}{c:List Value}(h:wl.ownsRow (w.heap.size+2) e size v m c)(g:wl.grownBy a (some b))(hb:b<w.heap.size):a.ownsRow (w.heap.size+2) e size v m c:=
 h.kept g (by
  cases d:v.ownBlock with
  | none=>exact .inl rfl
  | some g=>right;intro e;cases e;have:=(h.lt _ d).1;omega)
theorem z3U{w wl:World}{c o e size m:Nat}{v u:Value}{a:List Value}(h:wl.ownsRow (w.heap.size+2) e size v m a)(hc:c<w.heap.size+2):(wl.setCell ⟨c,o,none⟩ u).ownsRow (w.heap.size+2) e size v m a:=
 h.kept (z3H _ _ _ _) (by
  cases b:v.ownBlock with
  | none=>exact .inl rfl
  | some g=>right;intro e;cases e;have:=(h.lt _ b).1;omega)
theorem z3k{w:World}{base e size n:Nat}{v:Value}{b:List Value}(h:w.ownsRow base e size v n b):∃ a c,v=J1 a n c:=by
 rcases h.2 with⟨rfl,rfl⟩ | ⟨g,cap,_,rfl,_⟩
 ·exact⟨_,_,rfl⟩
 ·exact⟨_,_,rfl⟩
theorem z0B{ops:Array Oper}{o:Oper}{a:Act}{w:World}{K:Act->World->Prop}{Q:Exit->Act->World->Prop}{E:Prop}(b:o.guard=none)(h:Oper.wp prog o a w K Q) :
  if Region.wanted o (yielded ops a.tmps)=true then Oper.wp prog o a w K Q else E:=by
 have c:Region.wanted o (yielded ops a.tmps)=true:=by simp[Region.wanted,b]
 rw[if_pos c];exact h
theorem PSt.drew{w wl:World}{b:Nat}{st:List Int×Bool}{k i v n s d:Value}(h:PSt w wl b st k i v n s d):PSt w wl.drew b st k i v n s d:=
 ⟨h.T,h.Bx,h.Rs,⟨h.G.os,h.G.tape,h.G.output,h.G.size,h.G.block⟩,h.hb⟩
theorem q3R{wl:World}{base e size m:Nat}{v:Value}{a:List Value}(h:wl.ownsRow base e size v m a):wl.drew.ownsRow base e size v m a:=h
theorem q2N{w wl:World}{c e size m:Nat}{v:Value}{a:List Value}(v0 v1 v2 v3 b d:Value)(h:wl.ownsRow (w.heap.size+2) e size v m a)(hc:c<w.heap.size+2):(z3v wl c v0 v1 v2 v3 b d).ownsRow (w.heap.size+2) e size v m a:=
 z3U (z3U (z3U (z3U (z3U (z3U h hc) hc) hc) hc) hc) hc
theorem q3W{w wl:World}{c:Nat}{r:Option Nat}(v0 v1 v2 v3 a b:Value)(h:w.grownBy wl r)(hc:w.heap.size<=c):w.grownBy (z3v wl c v0 v1 v2 v3 a b) r:=
 z2R (z2R (z2R (z2R (z2R (z2R h hc) hc) hc) hc) hc) hc
theorem TS.z3v{w:World}{b c:Nat}{st:List Int×Bool}(v0 v1 v2 v3 a d:Value)(h:TS w b st)(hc:b≠c):TS (z3v w c v0 v1 v2 v3 a d) b st:=
 (((((h.other hc).other hc).other hc).other hc).other hc).other hc
theorem j3H(w:World)(x y:Value)(t:TypeId):∀ j u,[x,y][j]?=some u->(w.alloc (J5 #[x,y] t)).cell? ((⟨w.heap.size,0,none⟩:Addr).add j)=some u:=
 World.news_of_block (heap_alloc_new w (J5 #[x,y] t))
theorem q4s(b:Nat)(st s1 s2 s3 s4 s5 s6 s7 s8:List Int×Bool)(k i v n:Int)(D dn:Nat)(Ps:List (Int×Int))(Ds:List Int)(w:World)(hT:TS w b st)
  (h1:tk 1 st=(k,s1)) (h2:tk 6 s1=(i,s2)) (h3:tk 1 s2=(v,s3)) (h4:tk 7 s3=(n,s4)) (h5:tk 1 s4=((D:Int),s5)) (h6:tkP D s5=(Ps,s6)) (h7:tk 1 s6=((dn:Int),s7)) (h8:tkD dn s7=(Ds,s8)) (j5:D<=255) (j6:dn<=255) :
  Calls prog 28 #[J2 (some ⟨b,0,none⟩)] w fun e w'=>∃ u d,e=.returned (J4 #[J I k,J I i,J I v,J I n,u,d])/\q1t w' (w.heap.size+2) u Ps/\Row1 w' (w.heap.size+2) d Ds/\TS w' b s8/\w.grownBy w' (some b):=by
 obtain⟨i0,hi,f8,f9,g0⟩:=info_parts j5L;obtain⟨j0,hj,g3,g5,g6⟩:=info_parts info3;have B:=hT.lt;have X:Hid (tk 1 st=(k,s1)/\tk 6 s1=(i,s2)/\tk 1 s2=(v,s3)/\tk 7 s3=(n,s4)/\tk 1 s4=((D:Int),s5)/\tkP D s5=(Ps,s6)/\tk 1 s6=((dn:Int),s7)/\tkD dn s7=(Ds,s8)):=⟨h1,h2,h3,h4,h5,h6,h7,h8⟩;clear h1 h2 h3 h4 h5 h6 h7 h8
 have P0:PSt w ((w.alloc (J5 #[J I 0,J I 0,J I 0,J I 0,J1 none 0 0,J1 none 0 0] 68)).alloc (J5 #[J I 0,J I 0,J I 0,J I 0,J1 none 0 0,J1 none 0 0] 68)) b st (J I 0) (J I 0) (J I 0) (J I 0) (J1 none 0 0) (J1 none 0 0):=by
  have g1:=World.grownBy_alloc w (J5 #[J I 0,J I 0,J I 0,J I 0,J1 none 0 0,J1 none 0 0] 68) none;have g2:=World.grownBy_alloc (w.alloc (J5 #[J I 0,J I 0,J I 0,J I 0,J1 none 0 0,J1 none 0 0] 68)) (J5 #[J I 0,J I 0,J I 0,J I 0,J1 none 0 0,J1 none 0 0] 68) none;refine⟨(hT.keep g1 (by simp)).keep g2 (by simp),?_,?_,z4w (World.grownBy_alloc _ _ _) (World.grownBy_alloc _ _ _),B⟩
  ·unfold z2z;have e:w.heap.size+1=(w.alloc (J5 #[J I 0,J I 0,J I 0,J I 0,J1 none 0 0,J1 none 0 0] 68)).heap.size:=by simp
   rw[e];exact heap_alloc_new _ _
  ·exact (Below.heap_alloc _ _ _ (by simp)).trans (heap_alloc_new _ _)
 clear hT
 go_enter func28,ntmps28
 go_wp2_with fail
 refine (z2m b st s1 k _ 1 _ P0.T rfl (by omega) X.out.1).mono ?_
 rintro e w1⟨rfl,b6,b7⟩;have P1:=P0.num b6 b7;clear b6 b7 P0;obtain⟨c0,c1,c2,c3,F,H,K⟩:=P1.Bx.cells
 go_wp2_with fail
 clear c0 c1 c2 c3 F H K;have a4:=(P1.set (J I k)).1;refine (z2m b s1 s2 i _ 6 _ a4.T rfl (by omega) X.out.2.1).mono ?_
 rintro e w2⟨rfl,b8,b9⟩;have P2:=a4.num b8 b9;clear b8 b9 P1 a4;obtain⟨c0,c1,c2,c3,F,H,K⟩:=P2.Bx.cells
 go_wp2_with fail
 clear c0 c1 c2 c3 F H K;have a5:=(P2.set (J I i)).2.1;refine (z2m b s2 s3 v _ 1 _ a5.T rfl (by omega) X.out.2.2.1).mono ?_
 rintro e w3⟨rfl,c6,c7⟩;have P3:=a5.num c6 c7;clear c6 c7 P2 a5;obtain⟨c0,c1,c2,c3,F,H,K⟩:=P3.Bx.cells
 go_wp2_with fail
 clear c0 c1 c2 c3 F H K;have a6:=(P3.set (J I v)).2.2.1;refine (z2m b s3 s4 n _ 7 _ a6.T rfl (by omega) X.out.2.2.2.1).mono ?_
 rintro e w4⟨rfl,c8,c9⟩;have P4:=a6.num c8 c9;clear c8 c9 P3 a6;obtain⟨c0,c1,c2,c3,F,H,K⟩:=P4.Bx.cells
 go_wp2_with fail
 clear c0 c1 c2 c3 F H K;have a7:=(P4.set (J I n)).2.2.2.1;refine (z2m b s4 s5 (D:Int) _ 1 _ a7.T rfl (by omega) X.out.2.2.2.2.1).mono ?_
 rintro e w5⟨rfl,d6,d7⟩;have P5:=a7.num d6 d7;clear d6 d7 P4 a7
 go_wp2_with fail
 go_loopw [20] (fun j wl=>∃ (m:Nat) (a:List (Int×Int)) (Q:List Int×Bool) (u:Value),m<=D/\j=J I m/\PSt w wl b Q (J I k) (J I i) (J I v) (J I n) u (J1 none 0 0)/\q1t wl (w.heap.size+2) u a/\Hid (a.length=m/\a ++ (tkP (D - m) Q).1=Ps/\(tkP (D - m) Q).2=s6)) (fun j _=>D - (intOf j).toNat)
 case atStart =>
  refine⟨0,[],s5,_,Nat.zero_le _,rfl,P5,World.ownsRow_nil _ _ _ _,rfl,?_,?_⟩
  ·have h6:=X.out.2.2.2.2.2.1
   simp[h6]
  ·have h6:=X.out.2.2.2.2.2.1
   simp[h6]
 case round =>
  obtain⟨m,a,Q,u,hm,rfl,P6,L,P⟩:=hrel;clear P5
  by_cases g8:m<D
  ·obtain⟨f,hf⟩:∃ f,D - m=f+1:=⟨D - m - 1,by omega⟩
   have l:=P.out;rw[hf,tkP]at l;obtain⟨y,sa,hy⟩:∃ y sa,tk 1 Q=(y,sa):=⟨_,_,rfl⟩;obtain⟨z,sc,hz⟩:∃ z sc,tk 7 sa=(z,sc):=⟨_,_,rfl⟩;rw[hy]at l;dsimp only at l;rw[hz]at l;dsimp only at l;have HT:Hid _:=l;have d8:Hid (tk 1 Q=(y,sa)/\tk 7 sa=(z,sc)):=⟨hy,hz⟩;have R:f=D - (m+1):=by omega
   have S:Hid (f=D - (m+1)):=R;have j7:a.length<=255:=by have:=P.out.1;omega
   have g9:Hid (a.length=m):=P.out.1;clear P l hy hz hf R
   go_wp2_with fail
   refine (z2m b Q sa y _ 1 _ P6.T rfl (by omega) d8.out.1).mono ?_
   rintro e wa⟨rfl,d9,a8⟩;have Pa:=P6.num d9 a8;have e6:q1t wa (w.heap.size+2) u a:=z7o L a8 B;clear d9 a8 L P6
   go_wp2_with fail
   refine (z2m b sa sc z _ 7 _ Pa.T rfl (by omega) d8.out.2).mono ?_
   rintro e wb⟨rfl,e7,a9⟩;have Pb:=Pa.num e7 a9;have W:q1t wb (w.heap.size+2) u a:=z7o e6 a9 B;clear e7 a9 e6 Pa;obtain⟨c0,c1,c2,c3,F,H,K⟩:=Pb.Bx.cells;obtain⟨t,A,rfl⟩:=z3k W;have e8:=Pb.big
   go_wp2_with (at_builtin;refine wpList_append_lies _ rfl _ _ 44 rfl (w.heap.size+2) 65 i0 (J4 #[J I 0,J I 0]) 2 16 underlying44 hi f8 f9 g0 rfl (by decide) _ _ _ rfl (World.ownsRow.alloc W _) ⟨wb.heap.size,0,none⟩ 1 1 [J I y,J I z] rfl rfl ?_ ?_ (by decide) (by unfold maxLen;omega) (by omega) (by simp;omega) _ rfl ?_)
   ·exact j3H _ _ _ _
   ·intro u hu;simp at hu;rcases hu with rfl | rfl <;> rfl
   ·intro g cap wd hown r _ _;have Pd:=(Pb.alloc (Obj.cells #[Value.int IntKind.i64 y,Value.int IntKind.i64 z] 65)).own r (fun j hj=>(World.ownsRow.lt W j hj).1);have e9:q1t wd (w.heap.size+2) (J1 (some ⟨g,0,none⟩) (a.length+1) cap) (a ++ [(y,z)]):=by simpa [q1t] using hown
    clear hown r W c0 c1 c2 c3 F H K Pb;obtain⟨c0,c1,c2,c3,F,H,K⟩:=Pd.Bx.cells;have HP:Hid _:=(Pd.set (J1 (some ⟨g,0,none⟩) (a.length+1) cap)).2.2.2.2.1;have HR:Hid _:=z3U (c:=w.heap.size+1) (o:=4) (u:=J1 (some ⟨g,0,none⟩) (a.length+1) cap) e9 (by omega)
    clear e9 Pd;go_wp2;clear c0 c1 c2 c3 F H K;go_roundw
    case rel =>
     refine⟨m+1,a ++ [(y,z)],sc,_,by omega,by go_num,HP.out,HR.out,by rw[List.length_append,g9.out];rfl,?_,?_⟩
     ·rw[<- S.out,List.append_assoc];exact HT.out.2.1
     ·rw[<- S.out];exact HT.out.2.2
    case measure=>simp[intOf];omega
  ·have h9:m=D:=by omega
   subst h9;have l:=P.out;rw[Nat.sub_self,tkP,List.append_nil]at l;obtain⟨i2,rfl,rfl⟩:=l;clear P i2
   go_wp2_with fail
   refine (z2m b Q s7 (dn:Int) _ 1 _ P6.T rfl (by omega) X.out.2.2.2.2.2.2.1).mono ?_
   rintro e w7⟨rfl,f4,b4⟩;have P7:=P6.num f4 b4;have E:q1t w7 (w.heap.size+2) u a:=z7o L b4 B;clear f4 b4 P6 L;obtain⟨t,A,rfl⟩:=z3k E
   go_wp2_with fail
   go_loopw [37] (fun j wl=>∃ (q:Nat) (p:List Int) (Q:List Int×Bool) (d:Value),q<=dn/\j=J I q/\PSt w wl b Q (J I k) (J I i) (J I v) (J I n) (J1 t a.length A) d/\q1t wl (w.heap.size+2) (J1 t a.length A) a/\Row1 wl (w.heap.size+2) d p /\
     Hid ((Value.slice t a.length A).ownBlock=none∨(Value.slice t a.length A).ownBlock≠d.ownBlock)/\Hid (p.length=q/\p ++ (tkD (dn - q) Q).1=Ds/\(tkD (dn - q) Q).2=s8)) (fun j _=>dn - (intOf j).toNat)
   case atStart =>
    have h8:=X.out.2.2.2.2.2.2.2;refine⟨0,[],s7,_,Nat.zero_le _,rfl,P7,E,World.ownsRow_nil _ _ _ _,?_,rfl,?_,?_⟩
    ·cases t with
     | none=>exact .inl rfl
     | some x=>exact .inr (by simp[Value.ownBlock])
    ·simp[h8]
    ·simp[h8]
   case round =>
    obtain⟨q,p,Y,d,hq,rfl,P8,C,s,HN,P⟩:=hrel;clear P7 E
    by_cases g8:q<dn
    ·obtain⟨f,hf⟩:∃ f,dn - q=f+1:=⟨dn - q - 1,by omega⟩
     have l:=P.out;rw[hf,tkD]at l;obtain⟨y,sa,hy⟩:∃ y sa,tk 1 Y=(y,sa):=⟨_,_,rfl⟩;rw[hy]at l;dsimp only at l;have HT:Hid _:=l;have HY:Hid (tk 1 Y=(y,sa)):=hy;have R:f=dn - (q+1):=by omega
     have S:Hid (f=dn - (q+1)):=R;have j8:p.length<=255:=by have:=P.out.1;omega
     have i3:Hid (p.length=q):=P.out.1;clear P l hy hf R;obtain⟨c0,c1,c2,c3,F,H,K⟩:=P8.Bx.cells;obtain⟨M,N,rfl⟩:=z3k s
     go_wp2_with fail
     have b5:=P8.drew;have a0:q1t wr.drew (w.heap.size+2) (J1 t a.length A) a:=q3R C;have a1:Row1 wr.drew (w.heap.size+2) (J1 M p.length N) p:=q3R s;clear P8 C s
     go_region_law (first
      | (refine z0B rfl ?_;go_simp;go_at_call 46;refine (z2m b Y sa y _ 1 _ b5.T rfl (by omega) HY.out).mono ?_;rintro e we⟨rfl,f5,Z⟩;have Pe:=b5.num f5 Z;have U:q1t we (w.heap.size+2) (J1 t a.length A) a:=z7o a0 Z B;have V:Row1 we (w.heap.size+2) (J1 M p.length N) p:=z7o a1 Z B;have i4:=Pe.Bx.cells;have e8:=Pe.big;have i5:w.heap.size+1<we.heap.size:=Pe.big;clear f5 Z)
      | (refine step_append_lies _ rfl _ _ 45 rfl (w.heap.size+2) 3 j0 (J I 0) 1 8 underlying45 hj g3 g5 g6 rfl (by decide) _ _ _ rfl (World.ownsRow.alloc V _) ⟨we.heap.size,0,none⟩ 1 1 [J I y] rfl rfl (cell_one_new _ _ _) (by intro u hu;simp at hu;subst hu;rfl) (by decide) (by unfold maxLen;omega) (by omega) (by simp;omega) _ rfl ?_;intro g cap wf hown r f6 j4;have Pf:=(Pe.alloc (Obj.cells #[Value.int IntKind.i64 y] 3)).own r (fun j hj=>(World.ownsRow.lt V j hj).1);have i6:=Pf.Bx.cells))
     all_goals
      have a2:q1t wf (w.heap.size+2) (J1 t a.length A) a:=World.ownsRow.kept (World.ownsRow.alloc U _) r HN.out;have a3:Row1 wf (w.heap.size+2) (J1 (some ⟨g,0,none⟩) (p.length+1) cap) (p ++ [y]):=by simpa [Row1] using hown
      have f7:(Value.slice t a.length A).ownBlock=none∨(Value.slice t a.length A).ownBlock≠(Value.slice (some ⟨g,0,none⟩) (p.length+1) cap).ownBlock:=by
       rcases f6 with h | h
       ·have e:(Value.slice (some ⟨g,0,none⟩) (p.length+1) cap).ownBlock=(Value.slice M p.length N).ownBlock:=h.symm;rw[e];exact HN.out
       ·right
        intro e;have e2:(Value.slice t a.length A).ownBlock=some g:=e;have:=(World.ownsRow.lt U _ e2).2
        simp at h
        omega
      have HP:Hid _:=(Pf.set (J1 (some ⟨g,0,none⟩) (p.length+1) cap)).2.2.2.2.2;have i7:Hid _:=z3U (c:=w.heap.size+1) (o:=5) (u:=J1 (some ⟨g,0,none⟩) (p.length+1) cap) a2 (by omega)
      have i8:Hid _:=z3U (c:=w.heap.size+1) (o:=5) (u:=J1 (some ⟨g,0,none⟩) (p.length+1) cap) a3 (by omega)
      have i9:Hid _:=f7;clear hown r f6 a2 a3 U V i4 i6 Pe Pf f7 a0 a1 b5 c0 c1 c2 c3 F H K;go_wp2;go_roundw
      case rel =>
       refine⟨q+1,p ++ [y],sa,_,by omega,by go_num,HP.out,i7.out,i8.out,i9,by rw[List.length_append,i3.out];rfl,?_,?_⟩
       ·rw[<- S.out,List.append_assoc];exact HT.out.2.1
       ·rw[<- S.out];exact HT.out.2.2
      case measure=>simp[intOf];omega
    ·have j1:q=dn:=by omega
     subst j1;have l:=P.out;rw[Nat.sub_self,tkD,List.append_nil]at l;obtain⟨j2,rfl,rfl⟩:=l;clear P j2;obtain⟨M,N,rfl⟩:=z3k s;obtain⟨c0,c1,c2,c3,F,H,K⟩:=P8.Bx.cells;obtain⟨d0,d1,d2,d3,d4,d5,df⟩:=P8.Rs.cells
     have hex:∀ o,o<6->∃ u,wr.cell? ⟨w.heap.size,o,none⟩=some u:=fun o ho=>by
      match o,ho with
      | 0,_=>exact⟨_,d0⟩
      | 1,_=>exact⟨_,d1⟩
      | 2,_=>exact⟨_,d2⟩
      | 3,_=>exact⟨_,d3⟩
      | 4,_=>exact⟨_,d4⟩
      | 5,_=>exact⟨_,d5⟩
     have j3:Hid _:=hex;clear hex;have HF:Hid (q1t wr (w.heap.size+2) (J1 t a.length A) a/\Row1 wr (w.heap.size+2) (J1 M p.length N) p/\TS wr b Y/\w.grownBy wr (some b)):=⟨C,s,P8.T,P8.G⟩;clear C s P8;go_wp2
     show bodyPost prog f28 _ Exit.ret _ (z3v wr w.heap.size (J I k) (J I i) (J I v) (J I n) (J1 t a.length A) (J1 M p.length N))
     obtain⟨e0,e1,e2,e3,e4,e5⟩:=z4D (w:=wr) (b:=w.heap.size) (J I k) (J I i) (J I v) (J I n) (J1 t a.length A) (J1 M p.length N) j3.out;have q2:q1t (z3v wr w.heap.size (J I k) (J I i) (J I v) (J I n) (J1 t a.length A) (J1 M p.length N)) (w.heap.size+2) (J1 t a.length A) a:=q2N _ _ _ _ _ _ HF.out.1 (by omega)
     have q1:Row1 (z3v wr w.heap.size (J I k) (J I i) (J I v) (J I n) (J1 t a.length A) (J1 M p.length N)) (w.heap.size+2) (J1 M p.length N) p:=q2N _ _ _ _ _ _ HF.out.2.1 (by omega)
     have q3:=TS.z3v (c:=w.heap.size) (J I k) (J I i) (J I v) (J I n) (J1 t a.length A) (J1 M p.length N) HF.out.2.2.1 (by omega)
     have q4:=q3W (c:=w.heap.size) (J I k) (J I i) (J I v) (J I n) (J1 t a.length A) (J1 M p.length N) HF.out.2.2.2 (Nat.le_refl _);generalize z3v wr w.heap.size (J I k) (J I i) (J I v) (J I n) (J1 t a.length A) (J1 M p.length N)=w9 at *;exact bodyPost_ret (v:=J4 #[J I k,J I i,J I v,J I n,J1 t a.length A,J1 M p.length N]) (by simp[results,results28,go_sem,e0,e1,e2,e3,e4,e5]) rfl ⟨_,_,rfl,q2,q1,q3,q4⟩
def Bytes(l:List Int):Prop:=∀ c∈l,0<=c/\c<256
theorem z3L{m:Nat}{st:List Int×Bool}(h:Bytes st.1):Bytes (tk m st).2.1:=by
 unfold tk
 split
 ·intro c hc;simp at hc
 ·intro c hc;exact h c (List.mem_of_mem_drop hc)
theorem j2H{st:List Int×Bool}(h:Bytes st.1):0<=(tk 1 st).1/\(tk 1 st).1<256:=by
 unfold tk
 split
 ·simp
 ·rename_i hl
  match hs:st.1,hl with
  | c :: t,_ =>
   have:=h c (by rw[hs];exact List.mem_cons_self ..)
   simp[z5h];omega
theorem q8v:∀ (m:Nat) (st:List Int×Bool),Bytes st.1->Bytes (tkP m st).2.1:=by
 intro m
 induction m with
 | zero=>intro st h;exact h
 | succ m ih=>intro st h;exact ih _ (z3L (z3L h))
def p1(l:List Int):Int×(List Int×Bool):=tk 1 (l,false)
def p2(l:List Int):Int×(List Int×Bool):=tk 6 (p1 l).2
def p3(l:List Int):Int×(List Int×Bool):=tk 1 (p2 l).2
def p4(l:List Int):Int×(List Int×Bool):=tk 7 (p3 l).2
def p5(l:List Int):Int×(List Int×Bool):=tk 1 (p4 l).2
def p6(l:List Int):List (Int×Int)×(List Int×Bool):=tkP (p5 l).1.toNat (p5 l).2
def p7(l:List Int):Int×(List Int×Bool):=tk 1 (p6 l).2
def p8(l:List Int):List Int×(List Int×Bool):=tkD (p7 l).1.toNat (p7 l).2
def parse(l:List Int):(Int×Int×Int×Int×List (Int×Int)×List Int)×(List Int×Bool):=(((p1 l).1,(p2 l).1,(p3 l).1,(p4 l).1,(p6 l).1,(p8 l).1),(p8 l).2)
theorem z6p(l:List Int)(h:Bytes l):0<=(p5 l).1/\(p5 l).1<256/\0<=(p7 l).1/\(p7 l).1<256:=by
 have h1:Bytes (p1 l).2.1:=by unfold p1;exact z3L h
 have h2:Bytes (p2 l).2.1:=by unfold p2;exact z3L h1
 have h3:Bytes (p3 l).2.1:=by unfold p3;exact z3L h2
 have a:Bytes (p4 l).2.1:=by unfold p4;exact z3L h3
 have d:Bytes (p5 l).2.1:=by unfold p5;exact z3L a
 have b:0<=(p5 l).1/\(p5 l).1<256:=by unfold p5;exact j2H a
 have e:Bytes (p6 l).2.1:=by unfold p6;exact q8v _ _ d
 have c:0<=(p7 l).1/\(p7 l).1<256:=by unfold p7;exact j2H e
 exact⟨b.1,b.2,c.1,c.2⟩
def z7Q(l:List Int):Int:=if (parse l).2=([],false) then z0s (parse l).1.1 (parse l).1.2.1 (parse l).1.2.2.1 (parse l).1.2.2.2.1 (parse l).1.2.2.2.2.1 (parse l).1.2.2.2.2.2 else 1
def z2l(l:List Int):Int×Int×Int×Int×List (Int×Int)×List Int:=if z7Q l=0 then (parse l).1 else (0,0,0,0,[],[])
theorem flat_get(l:List (Int×Int)):∀ i,i<l.length->(l.flatMap fun p=>[Value.int .i64 p.1,Value.int .i64 p.2])[i * 2]?=some (J I (l.getD i (0,0)).1)/\(l.flatMap fun p=>[Value.int .i64 p.1,Value.int .i64 p.2])[i * 2+1]?=some (J I (l.getD i (0,0)).2):=by
 induction l with
 | nil=>intro i b;simp at b
 | cons a t ih =>
  intro i b
  match i with
  | 0=>simp
  | i+1 =>
   have:=ih i (by simpa using b)
   rw[List.flatMap_cons,show (i+1) * 2=i * 2+1+1 by omega]
   simpa using this
theorem q1t.lies{w:World}{B:Nat}{u:Value}{l:List (Int×Int)}(h:q1t w B u l):∃ a c g,u=J1 a l.length c/\l.length<=maxLen/\(0<l.length->a=some ⟨g,0,none⟩)/\z4Y w g 0 l/\(0<l.length->B<=g)/\((a=none->c=0)/\l.length<=c):=by
 rcases h.2 with⟨rfl,h0⟩ | ⟨g,cap,cur,rfl,hb,hh,hn,hm,hs,ht⟩
 ·exact⟨none,0,0,by rw[h0],by omega,by omega,fun i b=>by omega,by omega,fun _=>rfl,by omega⟩
 ·refine⟨_,cap,g,rfl,by omega,fun _=>rfl,fun i b=>?_,fun _=>hb,fun h=>(by cases h),hn⟩
  have d:w.ownsRow B 65 2 (J1 (some ⟨g,0,none⟩) l.length cap) l.length (l.flatMap fun p=>[Value.int .i64 p.1,Value.int .i64 p.2]):=h;rw[Nat.zero_add,d.cellAt _ (by omega),d.cellAt _ (by omega)]
  exact flat_get l i b
theorem Row1.lies{w:World}{B:Nat}{u:Value}{l:List Int}(h:Row1 w B u l):∃ a c g,u=J1 a l.length c/\l.length<=maxLen/\(0<l.length->a=some ⟨g,0,none⟩)/\z1d w g 0 l/\(0<l.length->B<=g)/\((a=none->c=0)/\l.length<=c):=by
 rcases h.2 with⟨rfl,h0⟩ | ⟨g,cap,cur,rfl,hb,hh,hn,hm,hs,ht⟩
 ·exact⟨none,0,0,by rw[h0],by omega,by omega,fun i b=>by omega,by omega,fun _=>rfl,by omega⟩
 ·refine⟨_,cap,g,rfl,by omega,fun _=>rfl,fun i b=>?_,fun _=>hb,fun h=>(by cases h),hn⟩
  have d:w.ownsRow B 3 1 (J1 (some ⟨g,0,none⟩) l.length cap) l.length (l.map (Value.int .i64)):=h;rw[Nat.zero_add,d.cellAt _ (by omega)]
  simp[List.getD,b]
theorem q0E(b:Nat)(l:List Int)(w:World)(x:TS w b (l,false))(y:Bytes l) :
  Calls prog 28 #[J2 (some ⟨b,0,none⟩)] w fun e w'=>∃ u d,e=.returned (J4 #[J I (parse l).1.1,J I (parse l).1.2.1,J I (parse l).1.2.2.1,J I (parse l).1.2.2.2.1,u,d])/\q1t w' (w.heap.size+2) u (parse l).1.2.2.2.2.1/\Row1 w' (w.heap.size+2) d (parse l).1.2.2.2.2.2/\TS w' b (parse l).2/\w.grownBy w' (some b):=by
 obtain⟨q,s,r,t⟩:=z6p l y
 rcases a:p1 l with⟨k,s1⟩
 rcases f:p2 l with⟨i,s2⟩
 rcases g:p3 l with⟨v,s3⟩
 rcases h:p4 l with⟨n,s4⟩
 rcases j:p5 l with⟨c,s5⟩
 rcases m:p6 l with⟨S,s6⟩
 rcases o:p7 l with⟨d,s7⟩
 rcases p:p8 l with⟨D,s8⟩
 have z:parse l=((k,i,v,n,S,D),s8):=by rw[parse,a,f,g,h,m,p]
 rw[z];rw[j]at q s;rw[o]at r t;rw[p1]at a;rw[p2,p1,a]at f;rw[p3,p2,p1,a,f]at g;rw[p4,p3,p2,p1,a,f,g]at h;rw[p5,p4,p3,p2,p1,a,f,g,h]at j;rw[p6,p5,p4,p3,p2,p1,a,f,g,h,j]at m;rw[p7,p6,p5,p4,p3,p2,p1,a,f,g,h,j,m]at o;rw[p8,p7,p6,p5,p4,p3,p2,p1,a,f,g,h,j,m,o]at p;dsimp only at q s r t m p;refine q4s b (l,false) s1 s2 s3 s4 s5 s6 s7 s8 k i v n c.toNat d.toNat S D w x a f g h ?_ m ?_ p (by omega) (by omega)
 ·rw[Int.toNat_of_nonneg q];exact j
 ·rw[Int.toNat_of_nonneg r];exact o
theorem z2z.six{w:World}{b:Nat}{k i v n s d:Value}(h:z2z w b k i v n s d):∀ o,o<6->∃ u,w.cell? ⟨b,o,none⟩=some u:=fun o a=>by
 obtain⟨c,e,f,g,j,l,_⟩:=h.cells
 match o,a with
 | 0,_=>exact⟨_,c⟩
 | 1,_=>exact⟨_,e⟩
 | 2,_=>exact⟨_,f⟩
 | 3,_=>exact⟨_,g⟩
 | 4,_=>exact⟨_,j⟩
 | 5,_=>exact⟨_,l⟩
theorem j4N{w w1:World}{k i v n s d:Value}(g:z2z w1 w.heap.size k i v n s d)(h:Bl w w1)(v0 v1 v2 v3 c e:Value)(o:Obj) :
  ((z3v w1 w.heap.size v0 v1 v2 v3 c e).alloc o).cell? ⟨w.heap.size,0,none⟩=some v0/\((z3v w1 w.heap.size v0 v1 v2 v3 c e).alloc o).cell? ⟨w.heap.size,1,none⟩=some v1/\((z3v w1 w.heap.size v0 v1 v2 v3 c e).alloc o).cell? ⟨w.heap.size,2,none⟩=some v2 /\
  ((z3v w1 w.heap.size v0 v1 v2 v3 c e).alloc o).cell? ⟨w.heap.size,3,none⟩=some v3/\((z3v w1 w.heap.size v0 v1 v2 v3 c e).alloc o).cell? ⟨w.heap.size,4,none⟩=some c/\((z3v w1 w.heap.size v0 v1 v2 v3 c e).alloc o).cell? ⟨w.heap.size,5,none⟩=some e /\
  Bl w ((z3v w1 w.heap.size v0 v1 v2 v3 c e).alloc o):=by
 obtain⟨f,j,l,m,q,r⟩:=z4D (w:=w1) (b:=w.heap.size) v0 v1 v2 v3 c e g.six;have hb:=z0u (z3v w1 w.heap.size v0 v1 v2 v3 c e) o;have a:w.heap.size<(z3v w1 w.heap.size v0 v1 v2 v3 c e).heap.size:=World.block_lt_of_cell? _ _ f
 exact⟨(hb.cell (p:=⟨w.heap.size,0,none⟩) a).trans f,(hb.cell (p:=⟨w.heap.size,1,none⟩) a).trans j,(hb.cell (p:=⟨w.heap.size,2,none⟩) a).trans l,(hb.cell (p:=⟨w.heap.size,3,none⟩) a).trans m,(hb.cell (p:=⟨w.heap.size,4,none⟩) a).trans q,(hb.cell (p:=⟨w.heap.size,5,none⟩) a).trans r,
  z1N (z3z v0 v1 v2 v3 c e h (Nat.le_refl _)) hb⟩
theorem q2E(w:World):q5V w [] [] none none 0 0 0 0:=⟨by simp,by simp,by simp,by simp,fun i a=>absurd a (by simp),fun i a=>absurd a (by simp)⟩
theorem q5V.z3v{w:World}{S:List (Int×Int)}{D:List Int}{sa da:Option Addr}{sb so db dO:Nat}(L:q5V w S D sa da sb so db dO)(c:Nat)(hc:(0<S.length->sb≠c)/\(0<D.length->db≠c))(v0 v1 v2 v3 a b:Value):q5V (z3v w c v0 v1 v2 v3 a b) S D sa da sb so db dO:=by
 refine⟨L.hls,L.hld,L.hsa,L.hda,fun i d=>?_,fun i d=>?_⟩
 ·have h:=L.PS i d;exact⟨(cell_of_heap (z5S v0 v1 v2 v3 a b (hc.1 (by omega))) _).trans h.1,(cell_of_heap (z5S v0 v1 v2 v3 a b (hc.1 (by omega))) _).trans h.2⟩
 ·exact (cell_of_heap (z5S v0 v1 v2 v3 a b (hc.2 (by omega))) _).trans (L.PD i d)
def Rm(B:Nat)(a:Option Addr)(n c g:Nat):Prop:=(a=none->c=0)/\n<=c/\(0<n->B<=g)
theorem j2O(B:Nat):Rm B none ([]:List (Int×Int)).length 0 0/\Rm B none ([]:List Int).length 0 0:=⟨⟨fun _=>rfl,by simp,by simp⟩,⟨fun _=>rfl,by simp,by simp⟩⟩
theorem z8B(s:ByteArray)(w:World)(hs:s.size<=maxLen) :
  Calls prog 16 #[.string s] w fun e w'=>∃ sa da cs cd sb so db dO,
   e=.returned (.tuple #[J4 #[J I (z2l (bs s)).1,J I (z2l (bs s)).2.1,J I (z2l (bs s)).2.2.1,J I (z2l (bs s)).2.2.2.1,J1 sa (z2l (bs s)).2.2.2.2.1.length cs,J1 da (z2l (bs s)).2.2.2.2.2.length cd],J I (z7Q (bs s))]) /\
   q5V w' (z2l (bs s)).2.2.2.2.1 (z2l (bs s)).2.2.2.2.2 sa da sb so db dO/\(Rm w.heap.size sa (z2l (bs s)).2.2.2.2.1.length cs sb/\Rm w.heap.size da (z2l (bs s)).2.2.2.2.2.length cd db)/\Bl w w':=by
 have T:Hid (z7Q (bs s)=if (parse (bs s)).2=([],false) then z0s (parse (bs s)).1.1 (parse (bs s)).1.2.1 (parse (bs s)).1.2.2.1 (parse (bs s)).1.2.2.2.1 (parse (bs s)).1.2.2.2.2.1 (parse (bs s)).1.2.2.2.2.2 else 1):=rfl;have F:Hid (z2l (bs s)=if z7Q (bs s)=0 then (parse (bs s)).1 else (0,0,0,0,[],[])):=rfl;generalize z7Q (bs s)=E at *;generalize z2l (bs s)=R at *;have U:=fun (w:World) (b:Nat) (h:TS w b (bs s,false))=>q0E b (bs s) w h (z9P s);have H:Hid _:=U;clear U;generalize parse (bs s)=pr at *;obtain⟨⟨k,i,v,n,S,D⟩,st⟩:=pr;dsimp only at T F H
 go_enter func16,ntmps16
 go_wp2_with fail
 have V:TS ((w.alloc (Obj.cells #[Value.int IntKind.i64 0,Value.int IntKind.i64 0,Value.int IntKind.i64 0,Value.int IntKind.i64 0,Value.slice none 0 0,Value.slice none 0 0] 68)).alloc (Obj.cells #[Value.string s,Value.bool false] 106)) (w.heap.size+1) (bs s,false):=by
  refine⟨s,?_,rfl,hs⟩;unfold TAt;have e:w.heap.size+1=(w.alloc (Obj.cells #[Value.int IntKind.i64 0,Value.int IntKind.i64 0,Value.int IntKind.i64 0,Value.int IntKind.i64 0,Value.slice none 0 0,Value.slice none 0 0] 68)).heap.size:=by simp
  rw[e];exact heap_alloc_new _ _
 refine (H.out _ _ V).mono ?_;rintro e w1⟨u,d,rfl,W,X,a6,y⟩;have c6:w.heap.size+2<=w1.heap.size:=by have:=y.size;simpa using this
 have z:Bl w w1:=by
  have a7:Bl w ((w.alloc (Obj.cells #[Value.int IntKind.i64 0,Value.int IntKind.i64 0,Value.int IntKind.i64 0,Value.int IntKind.i64 0,Value.slice none 0 0,Value.slice none 0 0] 68)).alloc (Obj.cells #[Value.string s,Value.bool false] 106)):=(z0u w _).alloc (by simp) _
  exact a7.grown y (by simp;omega) (fun k hk=>by cases hk;omega)
 have p:z2z w1 w.heap.size (J I 0) (J I 0) (J I 0) (J I 0) (J1 none 0 0) (J1 none 0 0):=by
  refine z2z.keep (w:=(w.alloc (Obj.cells #[Value.int IntKind.i64 0,Value.int IntKind.i64 0,Value.int IntKind.i64 0,Value.int IntKind.i64 0,Value.slice none 0 0,Value.slice none 0 0] 68)).alloc (Obj.cells #[Value.string s,Value.bool false] 106)) ?_ y (by simp)
  exact (Below.heap_alloc _ _ _ (by simp)).trans (heap_alloc_new _ _)
 obtain⟨g,l,Y,rfl,l1,l2,l3,l4,l5⟩:=W.lies;obtain⟨j,m,Z,rfl,m1,m2,m3,m4,m5⟩:=X.lies;have a8:Hid (Rm w.heap.size g S.length l Y/\Rm w.heap.size j D.length m Z):=⟨⟨l5.1,l5.2,fun h=>by have:=l4 h;simp at this;omega⟩,⟨m5.1,m5.2,fun h=>by have:=m4 h;simp at this;omega⟩⟩
 clear l5 m5;have A:Hid ((0<S.length->Y≠w.heap.size)/\(0<D.length->Z≠w.heap.size)):=⟨fun h e=>by have:=l4 h;simp at this;omega,fun h e=>by have:=m4 h;simp at this;omega⟩
 have L1:q5V w1 S D g j Y 0 Z 0:=⟨l1,m1,l2,m2,l3,m3⟩;obtain⟨r,B,a0,a9⟩:=a6;clear W X l1 l2 l3 l4 m1 m2 m3 m4 y H V;obtain⟨rest,sh⟩:=st;dsimp only at B a0;subst a0;obtain⟨t0,t1,b4,b5⟩:=B.cells;have b8:w.heap.size<w1.heap.size:=by omega
 have b9:w.heap.size+1<w1.heap.size:=by omega
 obtain⟨d0,d1,d2,d3,d4,d5,df⟩:=p.cells;unfold maxLen at a9
 by_cases o:(bs r,sh)=(([]:List Int),false)
 ·have c:Hid (E=z0s k i v n S D):=by show _=_;rw[T.out,if_pos o]
  obtain⟨a1,rfl⟩:=Prod.mk.inj o;have a2:r.size=0:=by rw[<- z2o,a1];rfl
  have hn:((r.size:Int) != 0)=false:=by rw[a2];rfl
  clear T o a1 a2;have K:=L1.later (z0u w1 (Obj.cells #[Value.int IntKind.i64 k,Value.int IntKind.i64 i,Value.int IntKind.i64 v,Value.int IntKind.i64 n,Value.slice g S.length l,Value.slice j D.length m] 68));have q:=z0o k i v n S D g j l m Y 0 Z 0 _ K.hls K.hld K.hsa K.hda K.PS K.PD;have a3:=q3D w1 k i v n (J1 g S.length l) (J1 j D.length m)
  go_wp2_with fail
  refine q.mono ?_;rintro e L⟨rfl,M⟩;have N:=a3.later M (by simp)
  have f:=z2x M;have L2:=L1.later f;have C:=z1N z f;have t:z2z L w.heap.size (J I 0) (J I 0) (J I 0) (J I 0) (J1 none 0 0) (J1 none 0 0):=p.keep (r:=none) ⟨f.os,f.tape,f.output,f.size,fun k hk _=>f.block k hk⟩ (by simp)
  clear q M a3 f L1 z p K t0 t1 b4 b5 d0 d1 d2 d3 d4 d5 df B;obtain⟨d0,d1,d2,d3,d4,d5,df⟩:=t.cells;obtain⟨c0,c1,c2,c3,c4,c5⟩:=id N
  by_cases Q:z0s k i v n S D=0
  ·have a:Hid (R=(k,i,v,n,S,D)):=by show _=_;rw[F.out,c.out,if_pos Q]
   have b6:Hid (E=0):=c.out.trans Q;rw[Q]at *;have HC:Hid _:=z4D (w:=L) (b:=w.heap.size) (J I k) (J I i) (J I v) (J I n) (J1 g S.length l) (J1 j D.length m) t.six;have x:Hid _:=z3z (b:=w.heap.size) (J I k) (J I i) (J I v) (J I n) (J1 g S.length l) (J1 j D.length m) C (Nat.le_refl _);have a4:Hid _:=L2.z3v w.heap.size A.out (J I k) (J I i) (J I v) (J I n) (J1 g S.length l) (J1 j D.length m);clear F c C t L2 A N;go_wp2
   show bodyPost prog f16 _ Exit.ret _ (z3v L w.heap.size (J I k) (J I i) (J I v) (J I n) (J1 g S.length l) (J1 j D.length m))
   obtain⟨e0,e1,e2,e3,e4,e5⟩:=HC.out;have P:=x.out;have b7:=a4.out;clear HC x a4;generalize z3v L w.heap.size (J I k) (J I i) (J I v) (J I n) (J1 g S.length l) (J1 j D.length m)=w9 at *
   exact bodyPost_ret (v:=.tuple #[J4 #[J I k,J I i,J I v,J I n,J1 g S.length l,J1 j D.length m],J I 0]) (by simp[results,results16,go_sem,e0,e1,e2,e3,e4,e5]) rfl
    ⟨g,j,l,m,Y,0,Z,0,by rw[b6.out,a.out],by rw[a.out];exact b7,by rw[a.out];exact a8.out,P⟩
  ·have a:Hid (R=(0,0,0,0,[],[])):=by show _=_;rw[F.out,c.out,if_neg Q]
   have c7:(z0s k i v n S D != 0)=true:=by simpa using Q
   have HC:Hid _:=z4D (w:=L) (b:=w.heap.size) (J I 0) (J I 0) (J I 0) (J I 0) (J1 none 0 0) (J1 none 0 0) t.six;have x:Hid _:=z3z (b:=w.heap.size) (J I 0) (J I 0) (J I 0) (J I 0) (J1 none 0 0) (J1 none 0 0) C (Nat.le_refl _);clear F C t L2 A N Q;generalize z0s k i v n S D=G at *;go_wp2
   show bodyPost prog f16 _ Exit.ret _ (z3v L w.heap.size (J I 0) (J I 0) (J I 0) (J I 0) (J1 none 0 0) (J1 none 0 0))
   obtain⟨e0,e1,e2,e3,e4,e5⟩:=HC.out;have P:=x.out;clear HC x;generalize z3v L w.heap.size (J I 0) (J I 0) (J I 0) (J I 0) (J1 none 0 0) (J1 none 0 0)=w9 at *
   exact bodyPost_ret (v:=.tuple #[J4 #[J I 0,J I 0,J I 0,J I 0,J1 none 0 0,J1 none 0 0],J I G]) (by simp[results,results16,go_sem,e0,e1,e2,e3,e4,e5]) rfl
    ⟨none,none,0,0,0,0,0,0,by rw[c.out,a.out];rfl,by rw[a.out];exact q2E _,by rw[a.out];exact j2O _,P⟩
 ·have c:Hid (E=1):=by show _=_;rw[T.out,if_neg o]
  have a:Hid (R=(0,0,0,0,[],[])):=by show _=_;rw[F.out,c.out,if_neg (by decide)]
  have a5:Hid _:=j4N p z (J I 0) (J I 0) (J I 0) (J I 0) (J1 none 0 0) (J1 none 0 0) (Obj.cells #[Value.int IntKind.i64 k,Value.int IntKind.i64 i,Value.int IntKind.i64 v,Value.int IntKind.i64 n,Value.slice g S.length l,Value.slice j D.length m] 68)
  have hn:sh=true∨(sh=false/\((r.size:Int) != 0)=true):=by
   cases sh with
   | true=>exact .inl rfl
   | false =>
    refine .inr ⟨rfl,?_⟩;have:r.size≠0:=fun h=>o (by rw[List.eq_nil_of_length_eq_zero (show (bs r).length=0 by rw[z2o];exact h)])
    rw[bne_iff_ne];omega
  clear T F o p z L1 A B
  rcases hn with rfl | ⟨rfl,hn⟩
  all_goals
   go_wp2
   show bodyPost prog f16 _ Exit.ret _ ((z3v w1 w.heap.size (J I 0) (J I 0) (J I 0) (J I 0) (J1 none 0 0) (J1 none 0 0)).alloc (Obj.cells #[Value.int IntKind.i64 k,Value.int IntKind.i64 i,Value.int IntKind.i64 v,Value.int IntKind.i64 n,Value.slice g S.length l,Value.slice j D.length m] 68))
   obtain⟨e0,e1,e2,e3,e4,e5,hB⟩:=a5.out;generalize (z3v w1 w.heap.size (J I 0) (J I 0) (J I 0) (J I 0) (J1 none 0 0) (J1 none 0 0)).alloc (Obj.cells #[Value.int IntKind.i64 k,Value.int IntKind.i64 i,Value.int IntKind.i64 v,Value.int IntKind.i64 n,Value.slice g S.length l,Value.slice j D.length m] 68)=w9 at *
   exact bodyPost_ret (v:=.tuple #[J4 #[J I 0,J I 0,J I 0,J I 0,J1 none 0 0,J1 none 0 0],J I 1]) (by simp[results,results16,go_sem,e0,e1,e2,e3,e4,e5]) rfl
    ⟨none,none,0,0,0,0,0,0,by rw[c.out,a.out];rfl,by rw[a.out];exact q2E _,by rw[a.out];exact j2O _,hB⟩
theorem q5w:∀ (t:List Int) (x:Int),z5h x t=x * 2 ^ (8 * t.length)+z5h 0 t:=by
 intro t
 induction t with
 | nil=>intro x;simp[z5h]
 | cons c t ih =>
  intro x;have h1:z5h x (c :: t)=z5h (x * 256+c) t:=rfl;have h2:z5h 0 (c :: t)=z5h (0 * 256+c) t:=rfl;rw[h1,h2,ih (x * 256+c),ih (0 * 256+c),List.length_cons,q0Y,Int.add_mul,Int.zero_mul,Int.zero_add,Int.mul_assoc,Int.mul_comm 256];omega
theorem z5r(a:List Int)(h:Bytes a):∀ b:Int,be (z5h b a) a.length=a:=by
 induction a with
 | nil=>intro _;rfl
 | cons c t ih =>
  intro b;have d:Bytes t:=fun x e=>h x (List.mem_cons_of_mem _ e);have hc:=h c (List.mem_cons_self ..);have h1:z5h b (c :: t)=z5h (b * 256+c) t:=rfl;have hb:=z8F t 0 0 d (by omega) (by omega)
  rw[Nat.zero_add]at hb;rw[h1,List.length_cons,be,ih d (b * 256+c),q5w t (b * 256+c)]
  congr 1
  rw[Int.mul_comm,Int.add_comm,Int.add_mul_ediv_left _ _ (by have:=j1j t.length;omega),Int.ediv_eq_zero_of_lt hb.1 hb.2]
  omega
theorem z3t{m:Nat}{st:List Int×Bool}(h:(tk m st).2.2=false):st.2=false/\m<=st.1.length:=by
 unfold tk at h
 split at h
 ·cases h
 ·exact⟨h,by omega⟩
theorem z3S{m:Nat}{l:List Int}{x:Int}{b:List Int}(h:tk m (l,false)=(x,(b,false))):∃ a,a.length=m/\l=a ++ b/\x=z5h 0 a:=by
 have c:=z3t (m:=m) (st:=(l,false)) (by rw[h])
 rw[tk,if_neg (by have:=c.2;dsimp only at this ⊢;omega)]at h
 simp only[Prod.mk.injEq]at h;obtain⟨rfl,rfl,_⟩:=h;exact⟨l.take m,by rw[List.length_take];have:=c.2;dsimp only at this;omega,(List.take_append_drop m l).symm,rfl⟩
theorem q2F:∀ (m:Nat) {st:List Int×Bool},(tkP m st).2.2=false->st.2=false:=by
 intro m
 induction m with
 | zero=>intro st h;exact h
 | succ m ih=>intro st h;exact (z3t (z3t (ih h)).1).1
theorem q2Z:∀ (m:Nat) {st:List Int×Bool},(tkD m st).2.2=false->st.2=false:=by
 intro m
 induction m with
 | zero=>intro st h;exact h
 | succ m ih=>intro st h;exact (z3t (ih h)).1
theorem j0c:∀ (m:Nat) {l d:List Int} {S:List (Int×Int)},Bytes l->tkP m (l,false)=(S,(d,false))->S.length=m/\l=S.flatMap z9U ++ d:=by
 intro m
 induction m with
 | zero=>intro l d S _ h;simp only[tkP,Prod.mk.injEq]at h;obtain⟨rfl,rfl,_⟩:=h;exact⟨rfl,rfl⟩
 | succ m ih =>
  intro l d S hb h
  rcases g:tk 1 (l,false) with⟨y,l1,f1⟩
  rcases e:tk 7 (l1,f1) with⟨z,l2,f2⟩
  rcases f:tkP m (l2,f2) with⟨T,l3,f3⟩
  rw[tkP,g]at h;dsimp only at h;rw[e]at h;dsimp only at h;rw[f]at h;simp only[Prod.mk.injEq]at h;obtain⟨rfl,rfl,rfl⟩:=h;have g2:=q2F m (st:=(l2,f2)) (by rw[f])
  dsimp only at g2;subst g2;have i:=(z3t (m:=7) (st:=(l1,f1)) (by rw[e])).1
  dsimp only at i;subst i;obtain⟨a,j,rfl,rfl⟩:=z3S g;obtain⟨c,hc,rfl,rfl⟩:=z3S e;have k:Bytes a:=fun x b=>hb x (by simp[b])
  have n:Bytes c:=fun x b=>hb x (by simp[b])
  have b2:Bytes l2:=fun x b=>hb x (by simp[b])
  obtain⟨r1,r2⟩:=ih b2 f;refine⟨by simp[r1],?_⟩
  have q1:=z5r a k 0;have q2:=z5r c n 0;rw[j]at q1;rw[hc]at q2;rw[List.flatMap_cons,z9U];dsimp only;rw[q1,q2,List.append_assoc,List.append_assoc,<- r2]
theorem j1M:∀ (m:Nat) {l b:List Int} {D:List Int},Bytes l->tkD m (l,false)=(D,(b,false))->D.length=m/\l=D.flatMap (be · 1) ++ b:=by
 intro m
 induction m with
 | zero=>intro l b S _ h;simp only[tkD,Prod.mk.injEq]at h;obtain⟨rfl,rfl,_⟩:=h;exact⟨rfl,rfl⟩
 | succ m ih =>
  intro l b S hb h
  rcases e:tk 1 (l,false) with⟨y,l1,f1⟩
  rcases c:tkD m (l1,f1) with⟨T,l3,f3⟩
  rw[tkD,e]at h;dsimp only at h;rw[c]at h;simp only[Prod.mk.injEq]at h;obtain⟨rfl,rfl,rfl⟩:=h;have f:=q2Z m (st:=(l1,f1)) (by rw[c])
  dsimp only at f;subst f;obtain⟨a,g,rfl,rfl⟩:=z3S e;have i:Bytes a:=fun x d=>hb x (by simp[d])
  have b2:Bytes l1:=fun x d=>hb x (by simp[d])
  obtain⟨r1,r2⟩:=ih b2 c;refine⟨by simp[r1],?_⟩
  have q1:=z5r a i 0;rw[g]at q1;rw[List.flatMap_cons,q1,List.append_assoc,<- r2]
theorem q5L{l r:List Int}{k i v n:Int}{S:List (Int×Int)}{D:List Int}(hb:Bytes l)(h:parse l=((k,i,v,n,S,D),(r,false))):l=enc k i v n S D ++ r:=by
 have b:=z6p l hb
 rcases e:p1 l with⟨x1,l1,f1⟩
 rcases f:p2 l with⟨x2,l2,f2⟩
 rcases g:p3 l with⟨x3,l3,f3⟩
 rcases j:p4 l with⟨x4,l4,f4⟩
 rcases o:p5 l with⟨c,l5,f5⟩
 rcases p:p6 l with⟨S',l6,f6⟩
 rcases q:p7 l with⟨d,l7,f7⟩
 rcases B:p8 l with⟨D',l8,f8⟩
 rw[parse,e,f,g,j,p,B]at h;simp only[Prod.mk.injEq]at h;obtain⟨⟨rfl,rfl,rfl,rfl,rfl,rfl⟩,rfl,rfl⟩:=h;rw[o,q]at b;dsimp only at b;have n1:=e;rw[p1]at n1;have s:=f;rw[p2,e]at s;dsimp only at s;have t:=g;rw[p3,f]at t;dsimp only at t;have u:=j;rw[p4,g]at u;dsimp only at u;have w:=o;rw[p5,j]at w;dsimp only at w;have y:=p;rw[p6,o]at y;dsimp only at y;have z:=q;rw[p7,p]at z;dsimp only at z;have A:=B;rw[p8,q]at A;dsimp only at A;clear e f g j o p q B;have g7:=q2Z d.toNat (st:=(l7,f7)) (by rw[A])
 dsimp only at g7;subst g7;have C:=(z3t (m:=1) (st:=(l6,f6)) (by rw[z])).1
 dsimp only at C;subst C;have E:=q2F c.toNat (st:=(l5,f5)) (by rw[y])
 dsimp only at E;subst E;have g4:=(z3t (m:=1) (st:=(l4,f4)) (by rw[w])).1
 dsimp only at g4;subst g4;have F:=(z3t (m:=7) (st:=(l3,f3)) (by rw[u])).1
 dsimp only at F;subst F;have g2:=(z3t (m:=1) (st:=(l2,f2)) (by rw[t])).1
 dsimp only at g2;subst g2;have G:=(z3t (m:=6) (st:=(l1,f1)) (by rw[s])).1
 dsimp only at G;subst G;obtain⟨P,h1,rfl,rfl⟩:=z3S n1;obtain⟨Q,h2,rfl,rfl⟩:=z3S s;obtain⟨R,h3,rfl,rfl⟩:=z3S t;obtain⟨T,U,rfl,rfl⟩:=z3S u;obtain⟨H,V,rfl,rfl⟩:=z3S w;have W:Bytes l5:=fun x a=>hb x (by simp[a])
 obtain⟨r1,r2⟩:=j0c _ W y;obtain⟨K,X,rfl,rfl⟩:=z3S z;have Y:Bytes l7:=fun x a=>hb x (by rw[r2];simp[a])
 obtain⟨r3,Z⟩:=j1M _ Y A;have q1:=z5r P (fun x a=>hb x (by simp[a])) 0
 have q2:=z5r Q (fun x a=>hb x (by simp[a])) 0
 have q3:=z5r R (fun x a=>hb x (by simp[a])) 0
 have L:=z5r T (fun x a=>hb x (by simp[a])) 0
 have M:=z5r H (fun x a=>hb x (by simp[a])) 0
 have N:=z5r K (fun x a=>hb x (by rw[r2];simp[a])) 0
 rw[h1]at q1;rw[h2]at q2;rw[h3]at q3;rw[U]at L;rw[V]at M;rw[X]at N;have w5:(S'.length:Int)=z5h 0 H:=by omega
 have w7:(D'.length:Int)=z5h 0 K:=by omega
 unfold enc q3X;rw[q1,q2,q3,L,w5,M,w7,N,r2,Z]
 simp
theorem q1q{l:List Int}(hb:Bytes l)(h:z7Q l=0):z0s (z2l l).1 (z2l l).2.1 (z2l l).2.2.1 (z2l l).2.2.2.1 (z2l l).2.2.2.2.1 (z2l l).2.2.2.2.2=0/\enc (z2l l).1 (z2l l).2.1 (z2l l).2.2.1 (z2l l).2.2.2.1 (z2l l).2.2.2.2.1 (z2l l).2.2.2.2.2=l:=by
 have a:z2l l=(parse l).1:=by rw[z2l,if_pos h]
 rw[a];unfold z7Q at h
 split at h
 ·rename_i h2
  rcases e:parse l with⟨⟨k',i',v',n',S',D'⟩,st⟩
  rw[e]at h h2;dsimp only at h2;subst h2;have h3:=q5L hb e;rw[List.append_nil]at h3;exact⟨h,h3.symm⟩
 ·cases h
end Cd
namespace Pv
open Go.RowKit
def isT(n:Int):Bool:=decide (0<=n) && decide (n<=1099511627776)
def z3w(l:List Int):Pkt:=⟨(Cd.z2l l).1,(Cd.z2l l).2.1,(Cd.z2l l).2.2.1,(Cd.z2l l).2.2.2.1,(Cd.z2l l).2.2.2.2.1,(Cd.z2l l).2.2.2.2.2⟩
theorem apR{P:Nat->Prop}(t e:TypeId)(i0:TypeInfo)(z:Value)(hu:prog.underlying t=some (.slice e))(q:prog.info? e=some i0)(f:i0.zero=some z)(w:World)(A:Option Addr)(n y bt:Nat)(cs c:List Value)(D:Rep P w (J1 A n n) i0.size bt cs)(hb:n * i0.bytes<=140737488351232)(m:0<i0.bytes)(E:i0.bytes<=1000)(r:c.length=i0.size)(F:∀ j v,c[j]?=some v->w.cell? ⟨y,j,none⟩=some v) :
  ∃ C w',(Builtin.append_ #[t,t] t #[J1 A n n,J1 (some ⟨y,0,none⟩) 1 1]).run prog w=.ok (J1 (some ⟨w.heap.size,0,none⟩) (n+1) C) w'/\n+1<=C/\(∀ j u,(cs ++ c)[j]?=some u->w'.cell? ⟨w.heap.size,j,none⟩=some u)/\Bl w w'/\w.heap.size<w'.heap.size:=by
 have d:∀ j v,c[j]?=some v->w.cell? ((⟨y,0,none⟩:Addr).add j)=some v:=fun j v l=>by rw[Addr.add_lit,Nat.zero_add];exact F j v l
 have s:n<=140737488351232:=by
  have:=Nat.le_mul_of_pos_right n m;omega
 obtain⟨A',H,C',h1,h2,h3,K,x⟩:=D;cases h1
 have new:∀ (arr tail:Array Value),arr.toList=cs ++ c->∀ j u,(cs ++ c)[j]?=some u->(w.drew.alloc (J5 (arr ++ tail) e)).cell? ⟨w.heap.size,j,none⟩=some u:=fun arr tail G j u B=>by
  have g:arr[j]?=some u:=by rw[<- G]at B;simpa using B
  have o:=(Array.getElem?_eq_some_iff.1 g).1;have h:(w.drew.alloc (J5 (arr ++ tail) e)).heap[w.heap.size]?=some (J5 (arr ++ tail) e):=heap_alloc_new w.drew _;simp only[World.cell?,h];rw[Array.getElem?_append_left o]
  simp[g]
 cases A with
 | none =>
  have h0:n=0:=by
   rcases Nat.eq_zero_or_pos n with h | h
   ·exact h
   ·obtain⟨b,off,e,_⟩:=x h;cases e
  subst h0;have p:cs=[]:=List.length_eq_zero_iff.1 (by rw[h2,Nat.zero_mul])
  subst p;refine⟨_,_,run_append_nil (P:=prog) w t t e i0 z hu q f ⟨y,0,none⟩ 1 1 c (by rw[r,Nat.one_mul]) d (by omega) (by omega) (by omega),grownCap_ge _ _ _ _,?_,(Below.refl _ w).drew.alloc (Nat.le_refl _) _,by simp⟩
  exact new _ _ (by simp)
 | some a =>
  have i:∀ j v,cs[j]?=some v->w.cell? (a.add j)=some v:=fun j v l=>by
   have h0:0<n:=by
    rcases Nat.eq_zero_or_pos n with h | h
    ·subst h;have:=(List.getElem?_eq_some_iff.1 l).1;rw[h2,Nat.zero_mul]at this;omega
    ·exact h
   obtain⟨b,off,e,_,_,hc⟩:=x h0;cases e;rw[Addr.add_lit];exact hc j v l
  have k:Builtin.nextslicecap (n+1) n * i0.bytes<=281474976710656:=by
   rcases Nat.eq_zero_or_pos n with rfl | hp
   ·rw[nextslicecap_zero (by omega)];omega
   ·have:=Nat.mul_le_mul_right i0.bytes (nextslicecap_succ hp);rw[Nat.mul_assoc]at this;omega
  refine⟨_,_,run_append_grow (P:=prog) w t t e i0 z hu q f a n n cs h2 i ⟨y,0,none⟩ 1 1 c (by rw[r,Nat.one_mul]) d (by omega) (by omega) k,grownCap_ge _ _ _ _,?_,(Below.refl _ w).drew.alloc (Nat.le_refl _) _,by simp⟩
  exact new _ _ (by simp)
theorem Rep.clip{P:Nat->Prop}{w:World}{A:Option Addr}{n C sz bts:Nat}{cs:List Value}(h:Rep P w (J1 A n C) sz bts cs):Rep P w (J1 A n n) sz bts cs:=by
 obtain⟨A',c,C',h1,h2,h3,a,b⟩:=h;cases h1;refine⟨A,n,n,rfl,h2,h3,⟨fun e=>?_,Nat.le_refl _⟩,b⟩;have:=a.1 e;omega
theorem q0n{P:Nat->Prop}{w:World}{A:Option Addr}{C sz bts:Nat}(h:A=none->C=0):Rep P w (J1 A 0 C) sz bts []:=⟨A,0,C,rfl,by simp,by simp,⟨h,Nat.zero_le _⟩,fun h=>absurd h (by omega)⟩
theorem j1m{k i v n:Int}{S:List (Int×Int)}{D:List Int}(h:Cd.z0s k i v n S D=0):(1<=k/\k<=4)/\(1<=i/\i<=1099511627776)/\(k=3∨k=4->0<=v/\v<6)/\(k≠1->S=[]/\D=[]):=by
 unfold Cd.z0s at h
 by_cases h1:k<1∨4<k
 ·rw[if_pos h1]at h;exact absurd h (by decide)
 rw[if_neg h1]at h
 by_cases h2:i<1∨1099511627776<i
 ·rw[if_pos h2]at h;exact absurd h (by decide)
 rw[if_neg h2]at h
 by_cases h3:Cd.z6E k=true/\(Cd.isV v=false∨n<1∨1125899906842624<n)
 ·rw[if_pos h3]at h;exact absurd h (by decide)
 rw[if_neg h3]at h
 by_cases e:Cd.z9h k v n S.length D.length=true
 ·rw[if_pos e]at h;exact absurd h (by decide)
 refine⟨by omega,by omega,fun a=>?_,fun a=>?_⟩
 ·have f:Cd.z6E k=true:=by
   unfold Cd.z6E
   rcases a with rfl | rfl <;> rfl
  by_cases b:Cd.isV v=false
  ·exact absurd ⟨f,.inl b⟩ h3
  ·unfold Cd.isV at b;simpa using b
 ·have c:(k != 1 && ((S.length:Int) != 0 || (D.length:Int) != 0))=false:=by
   have:Cd.z9h k v n S.length D.length=false:=by simpa using e
   unfold Cd.z9h at this;simp only[Bool.or_eq_false_iff]at this
   simpa using this.2
  have d:(k != 1)=true:=by simpa using a
  rw[d,Bool.true_and,Bool.or_eq_false_iff]at c;have g:S.length=0:=by have:=c.1;simp at this;simp[this]
  have j:D.length=0:=by have:=c.2;simp at this;simp[this]
  exact⟨List.length_eq_zero_iff.1 g,List.length_eq_zero_iff.1 j⟩
end Pv
section
open Go.RowKit
theorem j7V(b:Bk)(n:Int)(c:Nat)(w:World)(hc:w.cell? ⟨c,0,none⟩=some (J I 0))(f:c<w.heap.size) :
  Calls prog 145 #[J4 #[J I b.f0,J I b.f1,J I b.f2,J I b.f3,J I b.bo,J I b.wa,J I b.bu],(.func (.func 168) #[] #[J2 (some ⟨c,0,none⟩)]),(.func (.func 169) #[] #[]),J I n] w fun e w'=>e=.returned (.tuple #[J4 #[J I (mv b 0 4 n).1.f0,J I (mv b 0 4 n).1.f1,J I (mv b 0 4 n).1.f2,J I (mv b 0 4 n).1.f3,J I (mv b 0 4 n).1.bo,J I (mv b 0 4 n).1.wa,J I (mv b 0 4 n).1.bu],J I (mv b 0 4 n).2])/\Bl w w':=by
 by_cases d:b.good=true
 ·by_cases a:0<=n/\n<=1125899906842624
  ·have h1:¬ (b.good=false∨¬ (0<=n/\n<=1125899906842624)):=by rw[d];simp[a]
   by_cases g:b.f0<n
   ·have e:mv b 0 4 n=(b,7):=by rw[mv,if_neg h1,if_pos (show b.get 0<n from g)]
    rw[e];exact q0g b.f0 b.f1 b.f2 b.f3 b.bo b.wa b.bu n c _ w hc f d a.1 a.2 g
   ·have e:mv b 0 4 n=((b.put 0 (b.f0 - n)).put 4 (b.bo+n),0):=by rw[mv,if_neg h1,if_neg (show ¬ b.get 0<n from g)];rfl
    rw[e];exact q5k b.f0 b.f1 b.f2 b.f3 b.bo b.wa b.bu n c w hc f d a.1 a.2 (by omega)
  ·have e:mv b 0 4 n=(b,2):=by rw[mv,if_pos (.inr a)]
   rw[e];exact z0E b.f0 b.f1 b.f2 b.f3 b.bo b.wa b.bu n _ _ w d a
 ·have e:mv b 0 4 n=(b,2):=by rw[mv,if_pos (.inl (by simpa using d))]
  rw[e];exact z0z b.f0 b.f1 b.f2 b.f3 b.bo b.wa b.bu n _ _ w (by simpa [Bk.good] using d)
theorem j7N(b:Bk)(n:Int)(c:Nat)(w:World)(hc:w.cell? ⟨c,0,none⟩=some (J I 1))(f:c<w.heap.size) :
  Calls prog 145 #[J4 #[J I b.f0,J I b.f1,J I b.f2,J I b.f3,J I b.bo,J I b.wa,J I b.bu],(.func (.func 168) #[] #[J2 (some ⟨c,0,none⟩)]),(.func (.func 169) #[] #[]),J I n] w fun e w'=>e=.returned (.tuple #[J4 #[J I (mv b 1 4 n).1.f0,J I (mv b 1 4 n).1.f1,J I (mv b 1 4 n).1.f2,J I (mv b 1 4 n).1.f3,J I (mv b 1 4 n).1.bo,J I (mv b 1 4 n).1.wa,J I (mv b 1 4 n).1.bu],J I (mv b 1 4 n).2])/\Bl w w':=by
 by_cases d:b.good=true
 ·by_cases a:0<=n/\n<=1125899906842624
  ·have h1:¬ (b.good=false∨¬ (0<=n/\n<=1125899906842624)):=by rw[d];simp[a]
   by_cases g:b.f1<n
   ·have e:mv b 1 4 n=(b,7):=by rw[mv,if_neg h1,if_pos (show b.get 1<n from g)]
    rw[e];exact q0O b.f0 b.f1 b.f2 b.f3 b.bo b.wa b.bu n c _ w hc f d a.1 a.2 g
   ·have e:mv b 1 4 n=((b.put 1 (b.f1 - n)).put 4 (b.bo+n),0):=by rw[mv,if_neg h1,if_neg (show ¬ b.get 1<n from g)];rfl
    rw[e];exact q4l b.f0 b.f1 b.f2 b.f3 b.bo b.wa b.bu n c w hc f d a.1 a.2 (by omega)
  ·have e:mv b 1 4 n=(b,2):=by rw[mv,if_pos (.inr a)]
   rw[e];exact z0E b.f0 b.f1 b.f2 b.f3 b.bo b.wa b.bu n _ _ w d a
 ·have e:mv b 1 4 n=(b,2):=by rw[mv,if_pos (.inl (by simpa using d))]
  rw[e];exact z0z b.f0 b.f1 b.f2 b.f3 b.bo b.wa b.bu n _ _ w (by simpa [Bk.good] using d)
theorem j7R(b:Bk)(n:Int)(c:Nat)(w:World)(hc:w.cell? ⟨c,0,none⟩=some (J I 2))(f:c<w.heap.size) :
  Calls prog 145 #[J4 #[J I b.f0,J I b.f1,J I b.f2,J I b.f3,J I b.bo,J I b.wa,J I b.bu],(.func (.func 168) #[] #[J2 (some ⟨c,0,none⟩)]),(.func (.func 169) #[] #[]),J I n] w fun e w'=>e=.returned (.tuple #[J4 #[J I (mv b 2 4 n).1.f0,J I (mv b 2 4 n).1.f1,J I (mv b 2 4 n).1.f2,J I (mv b 2 4 n).1.f3,J I (mv b 2 4 n).1.bo,J I (mv b 2 4 n).1.wa,J I (mv b 2 4 n).1.bu],J I (mv b 2 4 n).2])/\Bl w w':=by
 by_cases d:b.good=true
 ·by_cases a:0<=n/\n<=1125899906842624
  ·have h1:¬ (b.good=false∨¬ (0<=n/\n<=1125899906842624)):=by rw[d];simp[a]
   by_cases g:b.f2<n
   ·have e:mv b 2 4 n=(b,7):=by rw[mv,if_neg h1,if_pos (show b.get 2<n from g)]
    rw[e];exact q0j b.f0 b.f1 b.f2 b.f3 b.bo b.wa b.bu n c _ w hc f d a.1 a.2 g
   ·have e:mv b 2 4 n=((b.put 2 (b.f2 - n)).put 4 (b.bo+n),0):=by rw[mv,if_neg h1,if_neg (show ¬ b.get 2<n from g)];rfl
    rw[e];exact q5h b.f0 b.f1 b.f2 b.f3 b.bo b.wa b.bu n c w hc f d a.1 a.2 (by omega)
  ·have e:mv b 2 4 n=(b,2):=by rw[mv,if_pos (.inr a)]
   rw[e];exact z0E b.f0 b.f1 b.f2 b.f3 b.bo b.wa b.bu n _ _ w d a
 ·have e:mv b 2 4 n=(b,2):=by rw[mv,if_pos (.inl (by simpa using d))]
  rw[e];exact z0z b.f0 b.f1 b.f2 b.f3 b.bo b.wa b.bu n _ _ w (by simpa [Bk.good] using d)
theorem j7y(b:Bk)(n:Int)(c:Nat)(w:World)(hc:w.cell? ⟨c,0,none⟩=some (J I 3))(f:c<w.heap.size) :
  Calls prog 145 #[J4 #[J I b.f0,J I b.f1,J I b.f2,J I b.f3,J I b.bo,J I b.wa,J I b.bu],(.func (.func 168) #[] #[J2 (some ⟨c,0,none⟩)]),(.func (.func 169) #[] #[]),J I n] w fun e w'=>e=.returned (.tuple #[J4 #[J I (mv b 3 4 n).1.f0,J I (mv b 3 4 n).1.f1,J I (mv b 3 4 n).1.f2,J I (mv b 3 4 n).1.f3,J I (mv b 3 4 n).1.bo,J I (mv b 3 4 n).1.wa,J I (mv b 3 4 n).1.bu],J I (mv b 3 4 n).2])/\Bl w w':=by
 by_cases d:b.good=true
 ·by_cases a:0<=n/\n<=1125899906842624
  ·have h1:¬ (b.good=false∨¬ (0<=n/\n<=1125899906842624)):=by rw[d];simp[a]
   by_cases g:b.f3<n
   ·have e:mv b 3 4 n=(b,7):=by rw[mv,if_neg h1,if_pos (show b.get 3<n from g)]
    rw[e];exact q0b b.f0 b.f1 b.f2 b.f3 b.bo b.wa b.bu n c _ w hc f d a.1 a.2 g
   ·have e:mv b 3 4 n=((b.put 3 (b.f3 - n)).put 4 (b.bo+n),0):=by rw[mv,if_neg h1,if_neg (show ¬ b.get 3<n from g)];rfl
    rw[e];exact q4p b.f0 b.f1 b.f2 b.f3 b.bo b.wa b.bu n c w hc f d a.1 a.2 (by omega)
  ·have e:mv b 3 4 n=(b,2):=by rw[mv,if_pos (.inr a)]
   rw[e];exact z0E b.f0 b.f1 b.f2 b.f3 b.bo b.wa b.bu n _ _ w d a
 ·have e:mv b 3 4 n=(b,2):=by rw[mv,if_pos (.inl (by simpa using d))]
  rw[e];exact z0z b.f0 b.f1 b.f2 b.f3 b.bo b.wa b.bu n _ _ w (by simpa [Bk.good] using d)
theorem j7P(b:Bk)(n:Int)(c:Nat)(w:World)(hc:w.cell? ⟨c,0,none⟩=some (J I 0))(f:c<w.heap.size) :
  Calls prog 145 #[J4 #[J I b.f0,J I b.f1,J I b.f2,J I b.f3,J I b.bo,J I b.wa,J I b.bu],(.func (.func 170) #[] #[]),(.func (.func 168) #[] #[J2 (some ⟨c,0,none⟩)]),J I n] w fun e w'=>e=.returned (.tuple #[J4 #[J I (mv b 5 0 n).1.f0,J I (mv b 5 0 n).1.f1,J I (mv b 5 0 n).1.f2,J I (mv b 5 0 n).1.f3,J I (mv b 5 0 n).1.bo,J I (mv b 5 0 n).1.wa,J I (mv b 5 0 n).1.bu],J I (mv b 5 0 n).2])/\Bl w w':=by
 by_cases d:b.good=true
 ·by_cases a:0<=n/\n<=1125899906842624
  ·have h1:¬ (b.good=false∨¬ (0<=n/\n<=1125899906842624)):=by rw[d];simp[a]
   by_cases g:b.wa<n
   ·have e:mv b 5 0 n=(b,7):=by rw[mv,if_neg h1,if_pos (show b.get 5<n from g)]
    rw[e];exact z2B b.f0 b.f1 b.f2 b.f3 b.bo b.wa b.bu n _ w d a.1 a.2 g
   ·have e:mv b 5 0 n=((b.put 5 (b.wa - n)).put 0 (b.f0+n),0):=by rw[mv,if_neg h1,if_neg (show ¬ b.get 5<n from g)];rfl
    rw[e];exact q4u b.f0 b.f1 b.f2 b.f3 b.bo b.wa b.bu n c w hc f d a.1 a.2 (by omega)
  ·have e:mv b 5 0 n=(b,2):=by rw[mv,if_pos (.inr a)]
   rw[e];exact z0E b.f0 b.f1 b.f2 b.f3 b.bo b.wa b.bu n _ _ w d a
 ·have e:mv b 5 0 n=(b,2):=by rw[mv,if_pos (.inl (by simpa using d))]
  rw[e];exact z0z b.f0 b.f1 b.f2 b.f3 b.bo b.wa b.bu n _ _ w (by simpa [Bk.good] using d)
theorem j7T(b:Bk)(n:Int)(c:Nat)(w:World)(hc:w.cell? ⟨c,0,none⟩=some (J I 1))(f:c<w.heap.size) :
  Calls prog 145 #[J4 #[J I b.f0,J I b.f1,J I b.f2,J I b.f3,J I b.bo,J I b.wa,J I b.bu],(.func (.func 170) #[] #[]),(.func (.func 168) #[] #[J2 (some ⟨c,0,none⟩)]),J I n] w fun e w'=>e=.returned (.tuple #[J4 #[J I (mv b 5 1 n).1.f0,J I (mv b 5 1 n).1.f1,J I (mv b 5 1 n).1.f2,J I (mv b 5 1 n).1.f3,J I (mv b 5 1 n).1.bo,J I (mv b 5 1 n).1.wa,J I (mv b 5 1 n).1.bu],J I (mv b 5 1 n).2])/\Bl w w':=by
 by_cases d:b.good=true
 ·by_cases a:0<=n/\n<=1125899906842624
  ·have h1:¬ (b.good=false∨¬ (0<=n/\n<=1125899906842624)):=by rw[d];simp[a]
   by_cases g:b.wa<n
   ·have e:mv b 5 1 n=(b,7):=by rw[mv,if_neg h1,if_pos (show b.get 5<n from g)]
    rw[e];exact z2B b.f0 b.f1 b.f2 b.f3 b.bo b.wa b.bu n _ w d a.1 a.2 g
   ·have e:mv b 5 1 n=((b.put 5 (b.wa - n)).put 1 (b.f1+n),0):=by rw[mv,if_neg h1,if_neg (show ¬ b.get 5<n from g)];rfl
    rw[e];exact q4j b.f0 b.f1 b.f2 b.f3 b.bo b.wa b.bu n c w hc f d a.1 a.2 (by omega)
  ·have e:mv b 5 1 n=(b,2):=by rw[mv,if_pos (.inr a)]
   rw[e];exact z0E b.f0 b.f1 b.f2 b.f3 b.bo b.wa b.bu n _ _ w d a
 ·have e:mv b 5 1 n=(b,2):=by rw[mv,if_pos (.inl (by simpa using d))]
  rw[e];exact z0z b.f0 b.f1 b.f2 b.f3 b.bo b.wa b.bu n _ _ w (by simpa [Bk.good] using d)
theorem j7Q(b:Bk)(n:Int)(c:Nat)(w:World)(hc:w.cell? ⟨c,0,none⟩=some (J I 2))(f:c<w.heap.size) :
  Calls prog 145 #[J4 #[J I b.f0,J I b.f1,J I b.f2,J I b.f3,J I b.bo,J I b.wa,J I b.bu],(.func (.func 170) #[] #[]),(.func (.func 168) #[] #[J2 (some ⟨c,0,none⟩)]),J I n] w fun e w'=>e=.returned (.tuple #[J4 #[J I (mv b 5 2 n).1.f0,J I (mv b 5 2 n).1.f1,J I (mv b 5 2 n).1.f2,J I (mv b 5 2 n).1.f3,J I (mv b 5 2 n).1.bo,J I (mv b 5 2 n).1.wa,J I (mv b 5 2 n).1.bu],J I (mv b 5 2 n).2])/\Bl w w':=by
 by_cases d:b.good=true
 ·by_cases a:0<=n/\n<=1125899906842624
  ·have h1:¬ (b.good=false∨¬ (0<=n/\n<=1125899906842624)):=by rw[d];simp[a]
   by_cases g:b.wa<n
   ·have e:mv b 5 2 n=(b,7):=by rw[mv,if_neg h1,if_pos (show b.get 5<n from g)]
    rw[e];exact z2B b.f0 b.f1 b.f2 b.f3 b.bo b.wa b.bu n _ w d a.1 a.2 g
   ·have e:mv b 5 2 n=((b.put 5 (b.wa - n)).put 2 (b.f2+n),0):=by rw[mv,if_neg h1,if_neg (show ¬ b.get 5<n from g)];rfl
    rw[e];exact q4V b.f0 b.f1 b.f2 b.f3 b.bo b.wa b.bu n c w hc f d a.1 a.2 (by omega)
  ·have e:mv b 5 2 n=(b,2):=by rw[mv,if_pos (.inr a)]
   rw[e];exact z0E b.f0 b.f1 b.f2 b.f3 b.bo b.wa b.bu n _ _ w d a
 ·have e:mv b 5 2 n=(b,2):=by rw[mv,if_pos (.inl (by simpa using d))]
  rw[e];exact z0z b.f0 b.f1 b.f2 b.f3 b.bo b.wa b.bu n _ _ w (by simpa [Bk.good] using d)
theorem j8d(b:Bk)(n:Int)(c:Nat)(w:World)(hc:w.cell? ⟨c,0,none⟩=some (J I 3))(f:c<w.heap.size) :
  Calls prog 145 #[J4 #[J I b.f0,J I b.f1,J I b.f2,J I b.f3,J I b.bo,J I b.wa,J I b.bu],(.func (.func 170) #[] #[]),(.func (.func 168) #[] #[J2 (some ⟨c,0,none⟩)]),J I n] w fun e w'=>e=.returned (.tuple #[J4 #[J I (mv b 5 3 n).1.f0,J I (mv b 5 3 n).1.f1,J I (mv b 5 3 n).1.f2,J I (mv b 5 3 n).1.f3,J I (mv b 5 3 n).1.bo,J I (mv b 5 3 n).1.wa,J I (mv b 5 3 n).1.bu],J I (mv b 5 3 n).2])/\Bl w w':=by
 by_cases d:b.good=true
 ·by_cases a:0<=n/\n<=1125899906842624
  ·have h1:¬ (b.good=false∨¬ (0<=n/\n<=1125899906842624)):=by rw[d];simp[a]
   by_cases g:b.wa<n
   ·have e:mv b 5 3 n=(b,7):=by rw[mv,if_neg h1,if_pos (show b.get 5<n from g)]
    rw[e];exact z2B b.f0 b.f1 b.f2 b.f3 b.bo b.wa b.bu n _ w d a.1 a.2 g
   ·have e:mv b 5 3 n=((b.put 5 (b.wa - n)).put 3 (b.f3+n),0):=by rw[mv,if_neg h1,if_neg (show ¬ b.get 5<n from g)];rfl
    rw[e];exact q5I b.f0 b.f1 b.f2 b.f3 b.bo b.wa b.bu n c w hc f d a.1 a.2 (by omega)
  ·have e:mv b 5 3 n=(b,2):=by rw[mv,if_pos (.inr a)]
   rw[e];exact z0E b.f0 b.f1 b.f2 b.f3 b.bo b.wa b.bu n _ _ w d a
 ·have e:mv b 5 3 n=(b,2):=by rw[mv,if_pos (.inl (by simpa using d))]
  rw[e];exact z0z b.f0 b.f1 b.f2 b.f3 b.bo b.wa b.bu n _ _ w (by simpa [Bk.good] using d)
theorem j7v(b:Bk)(n:Int)(w:World) :
  Calls prog 145 #[J4 #[J I b.f0,J I b.f1,J I b.f2,J I b.f3,J I b.bo,J I b.wa,J I b.bu],(.func (.func 169) #[] #[]),(.func (.func 170) #[] #[]),J I n] w fun e w'=>e=.returned (.tuple #[J4 #[J I (mv b 4 5 n).1.f0,J I (mv b 4 5 n).1.f1,J I (mv b 4 5 n).1.f2,J I (mv b 4 5 n).1.f3,J I (mv b 4 5 n).1.bo,J I (mv b 4 5 n).1.wa,J I (mv b 4 5 n).1.bu],J I (mv b 4 5 n).2])/\Bl w w':=by
 by_cases c:b.good=true
 ·by_cases a:0<=n/\n<=1125899906842624
  ·have h1:¬ (b.good=false∨¬ (0<=n/\n<=1125899906842624)):=by rw[c];simp[a]
   by_cases d:b.bo<n
   ·have e:mv b 4 5 n=(b,7):=by rw[mv,if_neg h1,if_pos (show b.get 4<n from d)]
    rw[e];exact z6w b.f0 b.f1 b.f2 b.f3 b.bo b.wa b.bu n _ w c a.1 a.2 d
   ·have e:mv b 4 5 n=((b.put 4 (b.bo - n)).put 5 (b.wa+n),0):=by rw[mv,if_neg h1,if_neg (show ¬ b.get 4<n from d)];rfl
    rw[e];exact q4Z b.f0 b.f1 b.f2 b.f3 b.bo b.wa b.bu n w c a.1 a.2 (by omega)
  ·have e:mv b 4 5 n=(b,2):=by rw[mv,if_pos (.inr a)]
   rw[e];exact z0E b.f0 b.f1 b.f2 b.f3 b.bo b.wa b.bu n _ _ w c a
 ·have e:mv b 4 5 n=(b,2):=by rw[mv,if_pos (.inl (by simpa using c))]
  rw[e];exact z0z b.f0 b.f1 b.f2 b.f3 b.bo b.wa b.bu n _ _ w (by simpa [Bk.good] using c)
theorem j7z(b:Bk)(n:Int)(w:World) :
  Calls prog 145 #[J4 #[J I b.f0,J I b.f1,J I b.f2,J I b.f3,J I b.bo,J I b.wa,J I b.bu],(.func (.func 169) #[] #[]),(.func (.func 192) #[] #[]),J I n] w fun e w'=>e=.returned (.tuple #[J4 #[J I (mv b 4 6 n).1.f0,J I (mv b 4 6 n).1.f1,J I (mv b 4 6 n).1.f2,J I (mv b 4 6 n).1.f3,J I (mv b 4 6 n).1.bo,J I (mv b 4 6 n).1.wa,J I (mv b 4 6 n).1.bu],J I (mv b 4 6 n).2])/\Bl w w':=by
 by_cases c:b.good=true
 ·by_cases a:0<=n/\n<=1125899906842624
  ·have h1:¬ (b.good=false∨¬ (0<=n/\n<=1125899906842624)):=by rw[c];simp[a]
   by_cases d:b.bo<n
   ·have e:mv b 4 6 n=(b,7):=by rw[mv,if_neg h1,if_pos (show b.get 4<n from d)]
    rw[e];exact z6w b.f0 b.f1 b.f2 b.f3 b.bo b.wa b.bu n _ w c a.1 a.2 d
   ·have e:mv b 4 6 n=((b.put 4 (b.bo - n)).put 6 (b.bu+n),0):=by rw[mv,if_neg h1,if_neg (show ¬ b.get 4<n from d)];rfl
    rw[e];exact q4G b.f0 b.f1 b.f2 b.f3 b.bo b.wa b.bu n w c a.1 a.2 (by omega)
  ·have e:mv b 4 6 n=(b,2):=by rw[mv,if_pos (.inr a)]
   rw[e];exact z0E b.f0 b.f1 b.f2 b.f3 b.bo b.wa b.bu n _ _ w c a
 ·have e:mv b 4 6 n=(b,2):=by rw[mv,if_pos (.inl (by simpa using c))]
  rw[e];exact z0z b.f0 b.f1 b.f2 b.f3 b.bo b.wa b.bu n _ _ w (by simpa [Bk.good] using c)
theorem j8g(b:Bk)(n:Int)(w:World) :
  Calls prog 145 #[J4 #[J I b.f0,J I b.f1,J I b.f2,J I b.f3,J I b.bo,J I b.wa,J I b.bu],(.func (.func 170) #[] #[]),(.func (.func 192) #[] #[]),J I n] w fun e w'=>e=.returned (.tuple #[J4 #[J I (mv b 5 6 n).1.f0,J I (mv b 5 6 n).1.f1,J I (mv b 5 6 n).1.f2,J I (mv b 5 6 n).1.f3,J I (mv b 5 6 n).1.bo,J I (mv b 5 6 n).1.wa,J I (mv b 5 6 n).1.bu],J I (mv b 5 6 n).2])/\Bl w w':=by
 by_cases c:b.good=true
 ·by_cases a:0<=n/\n<=1125899906842624
  ·have h1:¬ (b.good=false∨¬ (0<=n/\n<=1125899906842624)):=by rw[c];simp[a]
   by_cases d:b.wa<n
   ·have e:mv b 5 6 n=(b,7):=by rw[mv,if_neg h1,if_pos (show b.get 5<n from d)]
    rw[e];exact z2B b.f0 b.f1 b.f2 b.f3 b.bo b.wa b.bu n _ w c a.1 a.2 d
   ·have e:mv b 5 6 n=((b.put 5 (b.wa - n)).put 6 (b.bu+n),0):=by rw[mv,if_neg h1,if_neg (show ¬ b.get 5<n from d)];rfl
    rw[e];exact q5x b.f0 b.f1 b.f2 b.f3 b.bo b.wa b.bu n w c a.1 a.2 (by omega)
  ·have e:mv b 5 6 n=(b,2):=by rw[mv,if_pos (.inr a)]
   rw[e];exact z0E b.f0 b.f1 b.f2 b.f3 b.bo b.wa b.bu n _ _ w c a
 ·have e:mv b 5 6 n=(b,2):=by rw[mv,if_pos (.inl (by simpa using c))]
  rw[e];exact z0z b.f0 b.f1 b.f2 b.f3 b.bo b.wa b.bu n _ _ w (by simpa [Bk.good] using c)
theorem j0k(b:Bk)(d n:Int)(w:World):Calls prog 101 #[J4 #[J I b.f0,J I b.f1,J I b.f2,J I b.f3,J I b.bo,J I b.wa,J I b.bu],J I d,J I n] w fun e w'=>e=.returned (.tuple #[J4 #[J I (z2n b d n).1.f0,J I (z2n b d n).1.f1,J I (z2n b d n).1.f2,J I (z2n b d n).1.f3,J I (z2n b d n).1.bo,J I (z2n b d n).1.wa,J I (z2n b d n).1.bu],J I (z2n b d n).2])/\Bl w w':=by
 by_cases h:0<=d/\d<4
 ·rw[z2n,if_pos h];refine q5Y b.f0 b.f1 b.f2 b.f3 b.bo b.wa b.bu d n (mv b d.toNat 4 n).1.f0 (mv b d.toNat 4 n).1.f1 (mv b d.toNat 4 n).1.f2 (mv b d.toNat 4 n).1.f3 (mv b d.toNat 4 n).1.bo (mv b d.toNat 4 n).1.wa (mv b d.toNat 4 n).1.bu (mv b d.toNat 4 n).2 w h.1 h.2 ?_;intro c w hc a
  rcases (show d=0∨d=1∨d=2∨d=3 by omega) with rfl | rfl | rfl | rfl
  ·exact j7V b n c w hc a
  ·exact j7N b n c w hc a
  ·exact j7R b n c w hc a
  ·exact j7y b n c w hc a
 ·rw[z2n,if_neg h];exact j3e b.f0 b.f1 b.f2 b.f3 b.bo b.wa b.bu d n w h
theorem j2U(b:Bk)(d n:Int)(w:World):Calls prog 111 #[J4 #[J I b.f0,J I b.f1,J I b.f2,J I b.f3,J I b.bo,J I b.wa,J I b.bu],J I d,J I n] w fun e w'=>e=.returned (.tuple #[J4 #[J I (z8c b d n).1.f0,J I (z8c b d n).1.f1,J I (z8c b d n).1.f2,J I (z8c b d n).1.f3,J I (z8c b d n).1.bo,J I (z8c b d n).1.wa,J I (z8c b d n).1.bu],J I (z8c b d n).2])/\Bl w w':=by
 by_cases h:0<=d/\d<4
 ·rw[z8c,if_pos h];refine j0r b.f0 b.f1 b.f2 b.f3 b.bo b.wa b.bu d n (mv b 5 d.toNat n).1.f0 (mv b 5 d.toNat n).1.f1 (mv b 5 d.toNat n).1.f2 (mv b 5 d.toNat n).1.f3 (mv b 5 d.toNat n).1.bo (mv b 5 d.toNat n).1.wa (mv b 5 d.toNat n).1.bu (mv b 5 d.toNat n).2 w h.1 h.2 ?_;intro c w hc a
  rcases (show d=0∨d=1∨d=2∨d=3 by omega) with rfl | rfl | rfl | rfl
  ·exact j7P b n c w hc a
  ·exact j7T b n c w hc a
  ·exact j7Q b n c w hc a
  ·exact j8d b n c w hc a
 ·rw[z8c,if_neg h];exact j6R b.f0 b.f1 b.f2 b.f3 b.bo b.wa b.bu d n w h
theorem q5P(b:Bk)(n:Int)(w:World):Calls prog 104 #[J4 #[J I b.f0,J I b.f1,J I b.f2,J I b.f3,J I b.bo,J I b.wa,J I b.bu],J I n] w fun e w'=>e=.returned (.tuple #[J4 #[J I (z0X b n).1.f0,J I (z0X b n).1.f1,J I (z0X b n).1.f2,J I (z0X b n).1.f3,J I (z0X b n).1.bo,J I (z0X b n).1.wa,J I (z0X b n).1.bu],J I (z0X b n).2])/\Bl w w':=
 q1U b.f0 b.f1 b.f2 b.f3 b.bo b.wa b.bu n (mv b 4 5 n).1.f0 (mv b 4 5 n).1.f1 (mv b 4 5 n).1.f2 (mv b 4 5 n).1.f3 (mv b 4 5 n).1.bo (mv b 4 5 n).1.wa (mv b 4 5 n).1.bu (mv b 4 5 n).2 w (j7v b n)
theorem j1b(b:Bk)(x y:Int)(w:World):Calls prog 151 #[J4 #[J I b.f0,J I b.f1,J I b.f2,J I b.f3,J I b.bo,J I b.wa,J I b.bu],J I x,J I y] w fun e w'=>e=.returned (.tuple #[J4 #[J I (z2w b x y).1.f0,J I (z2w b x y).1.f1,J I (z2w b x y).1.f2,J I (z2w b x y).1.f3,J I (z2w b x y).1.bo,J I (z2w b x y).1.wa,J I (z2w b x y).1.bu],J I (z2w b x y).2])/\Bl w w':=by
 refine q6j b.f0 b.f1 b.f2 b.f3 b.bo b.wa b.bu x y (mv b 4 6 x).1.f0 (mv b 4 6 x).1.f1 (mv b 4 6 x).1.f2 (mv b 4 6 x).1.f3 (mv b 4 6 x).1.bo (mv b 4 6 x).1.wa (mv b 4 6 x).1.bu (mv b 4 6 x).2 (mv (mv b 4 6 x).1 5 6 y).1.f0 (mv (mv b 4 6 x).1 5 6 y).1.f1 (mv (mv b 4 6 x).1 5 6 y).1.f2 (mv (mv b 4 6 x).1 5 6 y).1.f3 (mv (mv b 4 6 x).1 5 6 y).1.bo (mv (mv b 4 6 x).1 5 6 y).1.wa (mv (mv b 4 6 x).1 5 6 y).1.bu (mv (mv b 4 6 x).1 5 6 y).2 (z2w b x y).1.f0 (z2w b x y).1.f1 (z2w b x y).1.f2 (z2w b x y).1.f3 (z2w b x y).1.bo (z2w b x y).1.wa (z2w b x y).1.bu (z2w b x y).2 w ?_ (j7z b x) (j8g (mv b 4 6 x).1 y);unfold z2w
 by_cases h1:(mv b 4 6 x).2=0
 ·by_cases h2:(mv (mv b 4 6 x).1 5 6 y).2=0
  ·rw[if_pos h1,if_pos h2];exact .inr (.inr ⟨h1,h2,rfl,rfl,rfl,rfl,rfl,rfl,rfl,rfl⟩)
  ·rw[if_pos h1,if_neg h2];exact .inr (.inl ⟨h1,h2,rfl,rfl,rfl,rfl,rfl,rfl,rfl,rfl⟩)
 ·rw[if_neg h1];exact .inl ⟨h1,rfl,rfl,rfl,rfl,rfl,rfl,rfl,rfl⟩
end
namespace Kc
open Go.RowKit Pv
structure Cs where
 on:Bool
 gone:Bool
 h:Int
 t:Int
 id:Int
 set:List (Int×Int)
 pd:List Pkt
 rp:List (Int×Int)
 fl:Nat->Bool
 out:Ln.Line
 h0:Int
 h1:Int
 h2:Int
 h3:Int
structure CsV where
 set:Value
 pd:Value
 rp:Value
 said:Value
 due:Value
def csC(c:Cs)(v:CsV):Array Value:=#[J3 c.on,J3 c.gone,J I c.h,J I c.t,J I c.id,v.set,v.pd,v.rp,J3 (c.fl 0),J3 (c.fl 1),J3 (c.fl 2),J3 (c.fl 3),J3 (c.fl 4),J3 (c.fl 5),v.said,v.due,J I c.out.g,J3 c.out.cl,J I c.h0,J I c.h1,J I c.h2,J I c.h3]
theorem z0i(c:Cs)(v:CsV):(csC c v).size=22:=rfl
def pkL(x:Pkt)(y:Value×Value):List Value:=[J I x.k,J I x.i,J I x.v,J I x.n,y.1,y.2]
def pdL:List Pkt->List (Value×Value)->List Value
 | x :: q,y :: z=>pkL x y ++ pdL q z
 | _,_=>[]
def z6S(P:Nat->Prop)(w:World)(v:Value)(q:List Pkt):Prop:=
 ∃ z:List (Value×Value),z.length=q.length/\Rep P w v 6 40 (pdL q z)/\∀ (i:Nat) (x:Pkt) (y:Value×Value),q[i]?=some x->z[i]?=some y->Rep P w y.1 2 16 (pwC x.S)/\Rep P w y.2 1 8 (inC x.D)
structure CIn(P:Nat->Prop)(w:World)(c:Cs)(v:CsV):Prop where
 set:Rep P w v.set 2 16 (pwC c.set)
 pd:z6S P w v.pd c.pd
 rp:Rep P w v.rp 2 8 (pwC c.rp)
 said:z0C P w v.said 1 16 (txC c.out.S)
 due:z0C P w v.due 1 8 (inC c.out.D)
theorem z0W:∀ (q:List Pkt) (z:List (Value×Value)),z.length=q.length->(pdL q z).length=q.length * 6
 | [],[],_=>rfl
 | x :: q,y :: z,h=>by
  have:=z0W q z (by simpa using h)
  show (pkL x y ++ pdL q z).length=_
  rw[List.length_append,this,List.length_cons]
  show 6+_=_
  omega
 | [],_ :: _,h=>by simp at h
 | _ :: _,[],h=>by simp at h
theorem q7J:∀ (q:List Pkt) (z:List (Value×Value)) (x:Pkt) (y:Value×Value),z.length=q.length->pdL (q ++ [x]) (z ++ [y])=pdL q z ++ pkL x y
 | [],[],x,y,_=>by simp[pdL]
 | a :: q,b :: z,x,y,h=>by
  show pkL a b ++ pdL (q ++ [x]) (z ++ [y])=(pkL a b ++ pdL q z) ++ _
  rw[q7J q z x y (by simpa using h),List.append_assoc]
 | [],_ :: _,_,_,h=>by simp at h
 | _ :: _,[],_,_,h=>by simp at h
theorem z4m:∀ (q:List Pkt) (z:List (Value×Value)) (i:Nat) (x:Pkt) (y:Value×Value) (j:Nat),q[i]?=some x->z[i]?=some y->j<6->(pdL q z)[i * 6+j]?=(pkL x y)[j]?
 | a :: q,b :: z,0,x,y,j,h1,h2,hj=>by
  simp at h1 h2
  subst h1 h2
  show (pkL a b ++ pdL q z)[0 * 6+j]?=_
  rw[Nat.zero_mul,Nat.zero_add,List.getElem?_append_left (by exact hj)]
 | a :: q,b :: z,i+1,x,y,j,h1,h2,hj=>by
  show (pkL a b ++ pdL q z)[(i+1) * 6+j]?=_
  rw[List.getElem?_append_right (by show 6<=_;omega)]
  rw[show (i+1) * 6+j - (pkL a b).length=i * 6+j by show (i+1) * 6+j - 6=_;omega]
  exact z4m q z i x y j (by simpa using h1) (by simpa using h2) hj
 | [],_,i,_,_,_,h1,_,_=>by simp at h1
 | _ :: _,[],i,_,_,_,_,h2,_=>by simp at h2
section
variable {P P':Nat->Prop} {w w':World}
theorem z6S.nil(P:Nat->Prop)(w:World):z6S P w (J1 none 0 0) []:=⟨[],rfl,Rep.nil _ _ _ _,fun i x y h=>by simp at h⟩
theorem z6S.mono{v:Value}{q:List Pkt}(h:z6S P w v q)(hp:∀ b,b<w.heap.size->P b->P' b):z6S P' w v q:=by
 obtain⟨z,h1,h2,h3⟩:=h;exact⟨z,h1,h2.mono hp,fun i x y a c=>⟨(h3 i x y a c).1.mono hp,(h3 i x y a c).2.mono hp⟩⟩
theorem z6S.keep{v:Value}{q:List Pkt}(h:z6S P w v q)(a:∀ b,P b->b<w.heap.size->w'.heap[b]?=w.heap[b]?):z6S P w' v q:=by
 obtain⟨z,h1,h2,h3⟩:=h;exact⟨z,h1,h2.keep a,fun i x y c d=>⟨(h3 i x y c d).1.keep a,(h3 i x y c d).2.keep a⟩⟩
theorem z6S.over{v:Value}{q:List Pkt}(h:z6S P w v q)(hb:Bl w w'):z6S P w' v q:=h.keep fun b _ a=>hb.block b a
theorem CIn.mono{c:Cs}{v:CsV}(h:CIn P w c v)(hp:∀ b,b<w.heap.size->P b->P' b):CIn P' w c v:=⟨h.set.mono hp,h.pd.mono hp,h.rp.mono hp,h.said.mono hp,h.due.mono hp⟩
theorem CIn.keep{c:Cs}{v:CsV}(h:CIn P w c v)(a:∀ b,P b->b<w.heap.size->w'.heap[b]?=w.heap[b]?):CIn P w' c v:=⟨h.set.keep a,h.pd.keep a,h.rp.keep a,h.said.keep a,h.due.keep a⟩
theorem CIn.over{c:Cs}{v:CsV}(h:CIn P w c v)(hb:Bl w w'):CIn P w' c v:=h.keep fun b _ a=>hb.block b a
theorem CIn.sets{c:Cs}{v:CsV}(h:CIn P w c v){g:Nat}(d:¬ P g)(o:Nat)(a:List Value):CIn P (w.setCells g o a) c v:=h.keep fun b hb _=>z0M (show b≠g from fun e=>d (by rw[<- e];exact hb)) a o w
theorem CIn.set1{c:Cs}{v:CsV}(h:CIn P w c v){g:Nat}(a:¬ P g)(o:Nat)(x:Value):CIn P (w.setCell ⟨g,o,none⟩ x) c v:=h.keep fun b hb _=>Below.heap_setCell w ⟨g,o,none⟩ x b (show b≠g from fun e=>a (by rw[<- e];exact hb))
theorem CIn.z2y{c:Cs}{v:CsV}(h:CIn P w c v)(hb:Bl w w')(k:Nat):CIn (New P w k) w' c v:=(h.mono (P':=fun b=>New P w k b/\b<w.heap.size) fun _ a hp=>⟨.inl ⟨hp,a⟩,a⟩).over hb |>.mono fun _ _ h=>h.1
theorem _root_.Go.Proofs.YtddlhnoedldidaaGreat.Pv.Alt.cin{g:Nat}{w w':World}(h:Alt g w w'){P:Nat->Prop}(d:¬ P g){c:Cs}{v:CsV}(hp:CIn P w c v):CIn P w' c v:=hp.keep fun b hb a=>h.block b a (fun e=>d (e ▸ hb))
theorem z3e{v:Value}{sz bts:Nat}{cs:List Value}(h:Rep P w v sz bts cs):v.oneCell'=true:=by
 obtain⟨A,n,C,rfl,_⟩:=h;rfl
theorem z6S.slice{v:Value}{q:List Pkt}(h:z6S P w v q):v.oneCell'=true:=by
 obtain⟨z,_,h,_⟩:=h;exact z3e h
theorem z1E{c:Cs}{v:CsV}(h:CIn P w c v):(csC c v).all (·.oneCell')=true:=by
 have h1:=z3e h.set;have h2:=h.pd.slice;have h3:=z3e h.rp;have b:=h.said.one;have d:=h.due.one;simp only[csC,Array.all_eq_true_iff_forall_mem];intro x a;simp only[List.mem_toArray,List.mem_cons,List.not_mem_nil,or_false]at a
 rcases a with rfl | rfl | rfl | rfl | rfl | rfl | rfl | rfl | rfl | rfl | rfl | rfl | rfl | rfl | rfl | rfl | rfl | rfl | rfl | rfl | rfl | rfl <;> first | rfl | assumption
end
theorem z3q:(prog.info? 75).map (·.size)=some 22:=by kernel_rfl
def Z22:Array Value:=#[J3 false,J3 false,J I 0,J I 0,J I 0,J1 none 0 0,J1 none 0 0,J1 none 0 0,J3 false,J3 false,J3 false,J3 false,J3 false,J3 false,J1 none 0 0,J1 none 0 0,J I 0,J3 false,J I 0,J I 0,J I 0,J I 0]
theorem z0p:Z22.size=22:=rfl
def z5b(v:Value):Sem Value:=Instr.loadAt 75 v
theorem z1r(v:Value):Instr.loadAt 75 v=z5b v:=rfl
def q2S(a v:Value):Sem Unit:=Instr.storeAt 75 a v
theorem z1j(a v:Value):Instr.storeAt 75 a v=q2S a v:=rfl
theorem z2p{w:World}{g:Nat}{cs:Array Value}(h:CAt 75 w g cs)(a:cs.size=22):(z5b (J2 (some ⟨g,0,none⟩))).run prog w=.ok (J4 cs) w:=by
 have:=run_loadAt_mid (P:=prog) w g 0 75 cs.toList _ h.range underlying75 rfl (by rw[z3q];simp[a])
 change (Instr.loadAt 75 _).run prog w=_
 simpa using this
theorem z1C{w:World}{g:Nat}{a cs:Array Value}(h:CAt 75 w g a)(c:a.size=22)(b:cs.size=22)(h1:cs.all (·.oneCell')=true):(q2S (J2 (some ⟨g,0,none⟩)) (J4 cs)).run prog w=.ok () (w.setCells g 0 cs.toList):=
 run_storeAt_mid (P:=prog) w g 0 75 cs (h.there 0 _ (by rw[c,b];omega)) (by rw[z3q,b]) h1
def j5u(P:Nat->Prop)(w:World)(r:Cs×Int)(e:Ending)(w':World):Prop:=∃ v',e=.returned (.tuple #[J4 (csC r.1 v'),J I r.2])/\CIn (New P w 2) w' r.1 v'/\Bl w w'
theorem q2y{d:Func}{p q:Tmp}(h:d.results=#[.cell p 75,.tmp q])(a:Array Value)(w:World)(g:Nat)(cs:Array Value)(v:Value)
  (hp:a.getD p undef=J2 (some ⟨g,0,none⟩)) (e:a.getD q undef=v) (f:CAt 75 w g cs) (b:cs.size=22) :
  (results d a).run prog w=.ok (.tuple #[J4 cs,v]) w:=by
 have hp':a[p]?.getD undef=J2 (some ⟨g,0,none⟩):=by simpa using hp
 have c:a[q]?.getD undef=v:=by simpa using e
 simp[results,h,hp',c,asAddr,run_loadVar_row w g 75 75 cs (0,0) _ f underlying75 rfl (by rw[z3q,b])]
theorem z5L{f:Func}{t q:Tmp}(a:f.results=#[.cell t 75,.tmp q]){P:Nat->Prop}{w wq:World}{d:Array Value}(R:CAt 75 wq (w.heap.size+1) d)(e:d.size=22)(H:Bl w wq)(b:Cs)(v':CsV)(c:Int)(r:Cs×Int)(g:r=(b,c))(hp:CIn (New P w 2) wq b v')(act:Act)
  (h:act.tmps.getD t undef=J2 (some ⟨w.heap.size+1,0,none⟩)) (i:act.tmps.getD q undef=J I c) (hd:act.defers=[]) :
  bodyPost prog f (j5u P w r) Exit.ret act (wq.setCells (w.heap.size+1) 0 (csC b v').toList):=by
 subst g;have j:=R.z0t (ds:=csC b v') (by rw[e];rfl)
 exact bodyPost_ret (v:=.tuple #[J4 (csC b v'),J I c]) (q2y a _ _ _ _ _ h i j rfl) hd ⟨v',rfl,hp.sets (z3F (by omega)) _ _,z0a (Nat.le_succ _) _ _ _ H⟩
def j5a(P:Nat->Prop)(w:World)(r:Cs)(k:Nat)(e:Ending)(w':World):Prop:=∃ v',e=.returned (J4 (csC r v'))/\CIn (New P w k) w' r v'/\Bl w w'
theorem z2Y{c:Func}{p:Tmp}(h:c.results=#[.cell p 75])(a:Array Value)(w:World)(g:Nat)(cs:Array Value)
  (hp:a.getD p undef=J2 (some ⟨g,0,none⟩)) (d:CAt 75 w g cs) (b:cs.size=22) :
  (results c a).run prog w=.ok (J4 cs) w:=by
 have hp':a[p]?.getD undef=J2 (some ⟨g,0,none⟩):=by simpa using hp
 simp[results,h,hp',asAddr,run_loadVar_row w g 75 75 cs (0,0) _ d underlying75 rfl (by rw[z3q,b])]
theorem q2h{f:Func}{t:Tmp}(a:f.results=#[.cell t 75]){P:Nat->Prop}{w wq:World}{d:Array Value}{k g:Nat}(R:CAt 75 wq g d)(e:d.size=22)(H:Bl w wq)(c:w.heap.size<=g)(b:Cs)(v':CsV)(h:¬ New P w k g)(hp:CIn (New P w k) wq b v')(act:Act)
  (i:act.tmps.getD t undef=J2 (some ⟨g,0,none⟩)) (hd:act.defers=[]) :
  bodyPost prog f (j5a P w b k) Exit.ret act (wq.setCells g 0 (csC b v').toList):=by
 have j:=R.z0t (ds:=csC b v') (by rw[e];rfl)
 exact bodyPost_ret (v:=J4 (csC b v')) (z2Y a _ _ _ _ i j rfl) hd ⟨v',rfl,hp.sets h _ _,z0a c _ _ _ H⟩
theorem j7c(c:Cs)(v:CsV)(x:Bool):(csC c v).setIfInBounds 0 (J3 x)=csC { c with on:=x } v:=rfl
theorem j1U(c:Cs)(v:CsV)(x:Bool):(csC c v).setIfInBounds 1 (J3 x)=csC { c with gone:=x } v:=rfl
theorem j3K(c:Cs)(v:CsV)(x:Int):(csC c v).setIfInBounds 2 (J I x)=csC { c with h:=x } v:=rfl
theorem j3M(c:Cs)(v:CsV)(x:Int):(csC c v).setIfInBounds 3 (J I x)=csC { c with t:=x } v:=rfl
theorem j7e(c:Cs)(v:CsV)(x:Int):(csC c v).setIfInBounds 4 (J I x)=csC { c with id:=x } v:=rfl
theorem set_set(c:Cs)(v:CsV)(l:List (Int×Int))(x:Value):(csC c v).setIfInBounds 5 x=csC { c with set:=l } { v with set:=x }:=rfl
theorem j2C(c:Cs)(v:CsV)(l:List Pkt)(x:Value):(csC c v).setIfInBounds 6 x=csC { c with pd:=l } { v with pd:=x }:=rfl
theorem q8J(c:Cs)(v:CsV)(l:List (Int×Int))(x:Value):(csC c v).setIfInBounds 7 x=csC { c with rp:=l } { v with rp:=x }:=rfl
def j4Q(f:Nat->Bool)(k:Nat)(x:Bool):Nat->Bool:=fun i=>if i=k then x else f i
theorem j2o(c:Cs)(v:CsV){k:Nat}(a:k<6)(x:Bool):(csC c v).setIfInBounds (8+k) (J3 x)=csC { c with fl:=j4Q c.fl k x } v:=by
 rcases (show k=0∨k=1∨k=2∨k=3∨k=4∨k=5 by omega) with rfl | rfl | rfl | rfl | rfl | rfl <;> rfl
theorem q8e(c:Cs)(v:CsV){k:Nat}(a:k<6):(csC c v)[8+k]?=some (J3 (c.fl k)):=by
 rcases (show k=0∨k=1∨k=2∨k=3∨k=4∨k=5 by omega) with rfl | rfl | rfl | rfl | rfl | rfl <;> rfl
theorem j6q(c:Cs)(v:CsV)(x:Bool):(csC c v).setIfInBounds 17 (J3 x)=csC { c with out:={ c.out with cl:=x } } v:=rfl
end Kc
end Go.Proofs.YtddlhnoedldidaaGreat
