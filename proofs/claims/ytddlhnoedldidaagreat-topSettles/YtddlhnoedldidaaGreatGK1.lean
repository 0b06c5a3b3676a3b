/- Parts of the proof. -/
import Derived.Test.YtddlhnoedldidaaGreatGL
import Derived.Test.YtddlhnoedldidaaGreatGK13
set_option maxRecDepth 100000
set_option maxHeartbeats 16000000
namespace Go.Proofs.YtddlhnoedldidaaGreat
open Go.Proofs.Tryz
open Value renaming int->J,slice->J1,pointer->J2,bool->J3,agg->J4
open IntKind renaming i64->I
open Obj renaming cells->J5
section
open Go.RowKit
theorem q7n(x:Vd)(n:Int):0<=woN x n/\woN x n<=1125899906842624:=by
 have:=z4K n x.tok x.sh;unfold woN
 split
 ·omega
 ·omega
theorem z0H{ops:Array Oper}{o:Oper}{a:Act}{w:World}{K:Act->World->Prop}{Q:Exit->Act->World->Prop}{E:Prop}(b:o.guard=none)(h:Oper.wp prog o a w K Q) :
  if Region.wanted o (yielded ops a.tmps)=true then Oper.wp prog o a w K Q else E:=by
 have c:Region.wanted o (yielded ops a.tmps)=true:=by simp[Region.wanted,b]
 rw[if_pos c];exact h
theorem j3q{ops:Array Oper}{o:Oper}{a:Act}{w:World}{K:Act->World->Prop}{Q:Exit->Act->World->Prop}{E:Prop}(f:o.guard=none)(b:o.type=41)(p q:Operand)
  (c:o.op=Op.call { callee:=Callee.builtin Builtin.append,args:=#[p,q],argTypes:=#[41,41] }) (ao:Option Addr) (sb so y:Nat) (W:List Wt) (x:Wt) (hs:a.eval p=J1 ao W.length W.length) (h:a.eval q=J1 (some ⟨y,0,none⟩) 1 1)
  (i:z2L w ao sb so W) (d:W.length<=60) (k:∀ j v,(wtL x)[j]?=some v->w.cell? ⟨y,j,none⟩=some v)
  (l:∀ g C w',g=w.heap.size->W.length+1<=C->z2L w' (some ⟨g,0,none⟩) g 0 (W ++ [x])->Bl w w'->K (a.put o.dst (J1 (some ⟨g,0,none⟩) (W.length+1) C)) w') :
  if Region.wanted o (yielded ops a.tmps)=true then Oper.wp prog o a w K Q else E:=by
 have m:Region.wanted o (yielded ops a.tmps)=true:=by simp[Region.wanted,f]
 rw[if_pos m];unfold Oper.wp;obtain⟨C,w',n,r,e,s⟩:=ap1 w ao sb so y W x i d k
 simp[execOp,c,resolve,invoke,builtin,hs,h,b,n,Result.andThen]
 exact l _ _ _ rfl r e s
theorem q7o(w:World)(x:Wt)(e:TypeId):∀ j v,(wtL x)[j]?=some v->(w.alloc (J5 #[J I x.num,J I x.d,J I x.v,J I x.amt,J I x.hei,J I x.due,J I x.h0,J I x.h1] e)).cell? ⟨w.heap.size,j,none⟩=some v:=by
 intro j v a;rw[World.cell?_alloc_at _ _ _ _ rfl]
 simpa [wtL] using a
theorem q6g{f:Func}{p q:Tmp}(b:f.results=#[.cell p 43,.tmp q]){B g sb:Nat}{w wq:World}{h:Array Value}(R:SAt wq g h)(i:h.size=63)(H:Below B w wq)(j:B<=g)(a:St)(A:Option Addr)(c ao C n:Nat)(d:Int)(r:St×Int)(k:r=(a,d))(l:a.W.length=n)(m:n<=C)(o:z2L wq A c ao a.W)(s:0<a.W.length->c≠g)(t:0<a.W.length->c=sb∨B<=c)(act:Act)
  (u:act.tmps.getD p undef=J2 (some ⟨g,0,none⟩)) (v:act.tmps.getD q undef=J I d) (hd:act.defers=[]) :
  bodyPost prog f (fun e w'=>z6p B sb w r e w') Exit.ret act (wq.setCells g 0 (stC a (J1 A n C)).toList):=by
 subst l;exact z1L b R i H j a A c ao C d r k m o s t act u v hd
theorem j5C(s:St)(d v:Nat)(a n:Int)(B:Bk)(x:Wt)(sl:Value):stC (j4v s d v a n B x) sl=stC { z8S { s with b:=B } d v (-a) (-n) with next:=s.next+1 } sl:=rfl
theorem j0Y{s:St}(h:z0k s=true):1<=s.next/\s.next<=1125899906842624:=by
 unfold z0k at h;simp only[Bool.and_eq_true,decide_eq_true_eq]at h;exact⟨h.1.1.1.1.1.2,h.1.1.1.1.2⟩
theorem YAt.j1A{w:World}{b:Nat}{x:Wt}(h:YAt w b x)(a c e f:Int):YAt ((((w.setCell ⟨b,0,none⟩ (J I a)).setCell ⟨b,1,none⟩ (J I c)).setCell ⟨b,2,none⟩ (J I e)).setCell ⟨b,3,none⟩ (J I f)) b { x with num:=a,d:=c,v:=e,amt:=f }:=by
 unfold YAt at *
 simp[World.setCell,Array.getElem?_modify,h]
theorem YAt.free{w:World}{b:Nat}{x:Wt}(h:YAt w b x)(o:Nat):w.frozen? ⟨b,o,none⟩=false:=by
 unfold YAt at h
 simp[World.frozen?,h]
theorem j1x(s:St)(ao:Option Addr)(sb so c d v:Nat)(n:Int)(y:Wt)(w:World)(hc:s.W.length<=c)(hW:z2L w ao sb so s.W)(r:St×Int)(hg:z0k s=true)(hd:d<4)(Z:v<6)(B:Bk)(X k F:Int)(hN:woN (s.V v) n=k)(hE:woE (s.V v) n=F)
  (a0:∀ w:World,Calls prog 104 #[J4 #[J I s.b.f0,J I s.b.f1,J I s.b.f2,J I s.b.f3,J I s.b.bo,J I s.b.wa,J I s.b.bu],J I k] w fun e w'=>e=.returned (.tuple #[J4 #[J I B.f0,J I B.f1,J I B.f2,J I B.f3,J I B.bo,J I B.wa,J I B.bu],J I X])/\Bl w w')
  (h1:¬ ((decide (0<n) && inA n)=true/\0<=y.hei/\0<=y.due)->r=(s,2))
  (h2:(decide (0<n) && inA n)=true/\0<=y.hei/\0<=y.due->¬ n<=s.S d v->r=(s,7))
  (h3:(decide (0<n) && inA n)=true/\0<=y.hei/\0<=y.due->n<=s.S d v->¬ (s.W.length<60/\s.next<1125899906842624)->r=(s,6))
  (h4:(decide (0<n) && inA n)=true/\0<=y.hei/\0<=y.due->n<=s.S d v->(s.W.length<60/\s.next<1125899906842624)->F≠0->r=(s,F))
  (h5:(decide (0<n) && inA n)=true/\0<=y.hei/\0<=y.due->n<=s.S d v->(s.W.length<60/\s.next<1125899906842624)->F=0->X≠0->r=(s,X))
  (h6:(decide (0<n) && inA n)=true/\0<=y.hei/\0<=y.due->n<=s.S d v->(s.W.length<60/\s.next<1125899906842624)->F=0->X=0->r=(j4v s d v k n B { y with num:=s.next,d:=d,v:=v,amt:=k },0)) :
  Calls prog 71 #[J4 (stC s (J1 ao s.W.length c)),J I (d:Int),J I (v:Int),J I n,J4 #[J I y.num,J I y.d,J I y.v,J I y.amt,J I y.hei,J I y.due,J I y.h0,J I y.h1]] w fun e w'=>z6p w.heap.size sb w r e w':=by
 have SS:=((SAt.new w (stC s (J1 ao s.W.length c))).alloc (J5 #[J I y.num,J I y.d,J I y.v,J I y.amt,J I y.hei,J I y.due,J I y.h0,J I y.h1] 63)).alloc (J5 Z63 43);have RR:=SAt.y2F w (J5 (stC s (J1 ao s.W.length c)) 43) (J5 #[J I y.num,J I y.d,J I y.v,J I y.amt,J I y.hei,J I y.due,J I y.h0,J I y.h1] 63) Z63;have YY:=YAt.new w (J5 (stC s (J1 ao s.W.length c)) 43) (J5 Z63 43) y;have HB:Hid (Bl w (((w.alloc (J5 (stC s (J1 ao s.W.length c)) 43)).alloc (J5 #[J I y.num,J I y.d,J I y.v,J I y.amt,J I y.hei,J I y.due,J I y.h0,J I y.h1] 63)).alloc (J5 Z63 43))):=((znw w _).alloc (by simp) _).alloc (by simp;omega) _
 have HW:=J6 hW;have q:=J6 hc;have H1:=J6 h1;have H2:=J6 h2;have H3:=J6 h3;have H4:=J6 h4;have H5:=J6 h5;have H6:=J6 h6;obtain⟨L,a1⟩:=z4M hg v Z;have hS:=z8X n;have d6:=z5F hg hd Z;have d7:(d:Int)<4:=by omega
 have d8:(v:Int)<6:=by omega
 have hd0:(0:Int)<=(d:Int):=by omega
 have d9:(0:Int)<=(v:Int):=by omega
 have M:=fun w b o (hn:n<=1125899906842624)=>q3q b o (s.V v) n w hn L;rw[hN,hE]at M;have c6:=q7n (s.V v) n;rw[hN]at c6;clear hW h1 h2 h3 h4 h5 h6 hc hN hE
 go_enter func71,ntmps71
 go_upto_region 1 with fail
 change Code.wp prog _ _ _ (((w.alloc (J5 (stC s (J1 ao s.W.length c)) 43)).alloc (J5 #[J I y.num,J I y.d,J I y.v,J I y.amt,J I y.hei,J I y.due,J I y.h0,J I y.h1] 63)).alloc (J5 Z63 43));generalize ((w.alloc (J5 (stC s (J1 ao s.W.length c)) 43)).alloc (J5 #[J I y.num,J I y.d,J I y.v,J I y.amt,J I y.hei,J I y.due,J I y.h0,J I y.h1] 63)).alloc (J5 Z63 43)=w0 at *
 go_upto_region 2 with (go_at_call 98;refine (z2Q s ao sb so c w.heap.size d v _ SS (by exact HW.out.over HB.out)).mono ?_;rintro e w1⟨rfl,h1⟩)
 have a:=J6 (zbt HB.out h1);have u:=SS.later h1 SS.lt;have l:=RR.later h1 RR.lt;have Y1:=YY.later h1 YY.lt;obtain⟨x0,x1,x2,x3,x4,x5,x6,p,G⟩:=z0u u;obtain⟨c0,c1,_,_,_⟩:=u.val v Z;obtain⟨_,_,_,_,y4,y5,_,_⟩:=Y1.cells;have cs:=u.shr d v hd Z;have e0:w.heap.size+2<w1.heap.size:=l.lt;have HT:Hid ((decide (0<n) && inA n)=true->0<n/\n<=1125899906842624):=fun h=>by simp only[Bool.and_eq_true,decide_eq_true_eq,z0I]at h;omega
 generalize (decide (0<n) && inA n)=t at *;clear SS RR YY h1 HB
 go_upto_region 16 with (first
  | (go_at_call 99;refine (hS _).mono ?_;rintro e w2⟨rfl,rfl⟩)
  | (go_at_call 103;refine (M _ _ _ (by exact (HT.out ‹t=true›).2) c0 c1).mono ?_;rintro e w2⟨rfl,h2⟩;have z:=J6 (a.out.trans (h2.mono (by omega)));have S2:=u.later h2 u.lt;have Y:=l.later h2 l.lt;have Y2:=Y1.later h2 Y1.lt;clear x0 x1 x2 x3 x4 x5 x6 p G;obtain⟨x0,x1,x2,x3,x4,x5,x6,p,G⟩:=z0u S2;have e1:w.heap.size+2<w2.heap.size:=Y.lt;clear h2)
  | (go_at_call 104;refine (a0 _).mono ?_;rintro e H⟨rfl,h3⟩;have a2:=J6 (z.out.trans (h3.mono (by omega)));have S3:=S2.later h3 S2.lt;have R3:=Y.later h3 Y.lt;have Y3:=Y2.later h3 Y2.lt;have e2:w.heap.size+2<H.heap.size:=R3.lt;have m:=S3.alloc (J5 #[J I B.f0,J I B.f1,J I B.f2,J I B.f3,J I B.bo,J I B.wa,J I B.bu] 35);have R4:=R3.alloc (J5 #[J I B.f0,J I B.f1,J I B.f2,J I B.f3,J I B.bo,J I B.wa,J I B.bu] 35);have Y4:=Y3.later (znw _ (J5 #[J I B.f0,J I B.f1,J I B.f2,J I B.f3,J I B.bo,J I B.wa,J I B.bu] 35)) Y3.lt;have A:=J6 (a2.out.alloc (by omega) (J5 #[J I B.f0,J I B.f1,J I B.f2,J I B.f3,J I B.bo,J I B.wa,J I B.bu] 35));have B4:=BAt.new H B.f0 B.f1 B.f2 B.f3 B.bo B.wa B.bu;clear h3 x0 x1 x2 x3 x4 x5 x6 p G S3 R3 Y3)
  | ((fail_if_success (go_not_at_region 5));apply wp_region_lit;refine wpList_load_mid rfl 43 _ rfl _ 0 rfl _ _ u.range underlying43 rfl (by rw[z0B];rfl) ?_;refine wpList_store_mid rfl 43 _ _ rfl _ 0 (stC s (J1 ao s.W.length c)) rfl rfl (l.there 0 _ (by rw[z0v,z0f];omega)) (by rw[z0B];rfl) (z0E _ _ _ _) ?_)
  | ((fail_if_success (go_not_at_region 7));apply wp_region_lit;refine wpList_load_mid rfl 43 _ rfl _ 0 rfl _ _ u.range underlying43 rfl (by rw[z0B];rfl) ?_;refine wpList_store_mid rfl 43 _ _ rfl _ 0 (stC s (J1 ao s.W.length c)) rfl rfl (l.there 0 _ (by rw[z0v,z0f];omega)) (by rw[z0B];rfl) (z0E _ _ _ _) ?_)
  | ((fail_if_success (go_not_at_region 9));apply wp_region_lit;refine wpList_load_mid rfl 43 _ rfl _ 0 rfl _ _ u.range underlying43 rfl (by rw[z0B];rfl) ?_;refine wpList_store_mid rfl 43 _ _ rfl _ 0 (stC s (J1 ao s.W.length c)) rfl rfl (l.there 0 _ (by rw[z0v,z0f];omega)) (by rw[z0B];rfl) (z0E _ _ _ _) ?_)
  | ((fail_if_success (go_not_at_region 12));apply wp_region_lit;refine wpList_load_mid rfl 43 _ rfl _ 0 rfl _ _ S2.range underlying43 rfl (by rw[z0B];rfl) ?_;refine z1U rfl _ rfl ?_;refine wpList_store_mid rfl 43 _ _ rfl _ 0 (stC s (J1 ao s.W.length c)) rfl rfl (Y.there 0 _ (by rw[z0v,z0f];omega)) (by rw[z0B];rfl) (z0E _ _ _ _) ?_)
  | ((fail_if_success (go_not_at_region 15));apply wp_region_lit;refine wpList_load_mid rfl 43 _ rfl _ 0 rfl _ _ m.range underlying43 rfl (by rw[z0B];rfl) ?_;refine z1U rfl _ rfl ?_;refine wpList_store_mid rfl 43 _ _ rfl _ 0 (stC s (J1 ao s.W.length c)) rfl rfl (R4.there 0 _ (by rw[z0v,z0f];omega)) (by rw[z0B];rfl) (z0E _ _ _ _) ?_))
 ·exact z1L results71 l rfl a.out (by omega) s ao sb so c _ r (H1.out (fun h=>by have:=h.2;omega)) q.out (HW.out.over a.out) (fun h=>by have:=HW.out.lt h;omega) (fun _=>.inl rfl) _ rfl rfl rfl
 ·exact z1L results71 l rfl a.out (by omega) s ao sb so c _ r (H2.out ⟨‹t=true›,by omega,by omega⟩ (by omega)) q.out (HW.out.over a.out) (fun h=>by have:=HW.out.lt h;omega) (fun _=>.inl rfl) _ rfl rfl rfl
 ·exact z1L results71 l rfl a.out (by omega) s ao sb so c _ r (H3.out ⟨‹t=true›,by omega,by omega⟩ (by omega) (by omega)) q.out (HW.out.over a.out) (fun h=>by have:=HW.out.lt h;omega) (fun _=>.inl rfl) _ rfl rfl rfl
 ·exact z1L results71 Y rfl z.out (by omega) s ao sb so c _ r (H4.out ⟨‹t=true›,by omega,by omega⟩ (by omega) (by omega) (by simpa using ‹(F != 0)=true›)) q.out (HW.out.over z.out) (fun h=>by have:=HW.out.lt h;omega) (fun _=>.inl rfl) _ rfl rfl rfl
 ·exact z1L results71 R4 rfl A.out (by omega) s ao sb so c _ r (H5.out ⟨‹t=true›,by omega,by omega⟩ (by omega) (by omega) (by simpa using ‹(F != 0)=false›) (by simpa using ‹(X != 0)=true›)) q.out (HW.out.over A.out) (fun h=>by have:=HW.out.lt h;omega) (fun _=>.inl rfl) _ rfl rfl rfl
 ·have HR:=J6 (H6.out ⟨‹t=true›,by omega,by omega⟩ (by omega) (by omega) (by simpa using ‹(F != 0)=false›) (by simpa using ‹(X != 0)=false›))
  have hn:=HT.out ‹t=true›;have d0:s.W.length<60:=by omega
  have e3:s.next<1125899906842624:=by omega
  have d1:=j0Y hg;obtain⟨k1,k2,k3⟩:=z2B L;have k4:=z7h a1 hd;rw[z0I]at k1 k2 k4;obtain⟨x0,x1,x2,x3,x4,x5,x6,p,G⟩:=z0u m;have f0:=m.free 0;have f1:=m.free 1;have f2:=m.free 2;have f3:=m.free 3;have f4:=m.free 4;have f5:=m.free 5;have f6:=m.free 6;have e4:w.heap.size≠H.heap.size:=by omega
  clear H1 H2 H3 H4 H5 H6 HT a0 M hS c0 c1 p G u S2 l Y Y1 Y2 a z L a1 k3 B4 cs y4 y5
  go_upto_region 17 with fail
  change Code.wp prog _ _ _ (z6H (H.alloc (J5 #[J I B.f0,J I B.f1,J I B.f2,J I B.f3,J I B.bo,J I B.wa,J I B.bu] 35)) w.heap.size B);have D:But w.heap.size (H.alloc (J5 #[J I B.f0,J I B.f1,J I B.f2,J I B.f3,J I B.bo,J I B.wa,J I B.bu] 35)) (z6H (H.alloc (J5 #[J I B.f0,J I B.f1,J I B.f2,J I B.f3,J I B.bo,J I B.wa,J I B.bu] 35)) w.heap.size B):=(((((((But.refl _ _).set 0 _).set 1 _).set 2 _).set 3 _).set 4 _).set 5 _).set 6 _;have S5:=z7w m B;have R5:=D.z1q (by omega) R4
  have Y5:YAt (z6H (H.alloc (J5 #[J I B.f0,J I B.f1,J I B.f2,J I B.f3,J I B.bo,J I B.wa,J I B.bu] 35)) w.heap.size B) (w.heap.size+1) y:=(D.block _ (by omega)).trans Y4
  have a3:=J6 (A.out.trans (D.below (Nat.le_refl _)));generalize z6H (H.alloc (J5 #[J I B.f0,J I B.f1,J I B.f2,J I B.f3,J I B.bo,J I B.wa,J I B.bu] 35)) w.heap.size B=w5 at *;have hA:=q4L { s with b:=B } (J1 ao s.W.length c) w.heap.size d v (-k) (-n) w5 S5 hd Z (by simp only;omega) (by simp only;omega) (by simp only;omega)
  clear x0 x1 x2 x3 x4 x5 x6 f0 f1 f2 f3 f4 f5 f6 m R4 Y4 a2 A S5 D
  go_upto_region 18 with (go_at_call 102;refine hA.mono ?_;rintro e w6⟨rfl,S6,i⟩)
  have R6:=i.z1q (by omega) R5
  have N:YAt w6 (w.heap.size+1) y:=(i.block _ (by omega)).trans Y5
  have a4:=J6 (a3.out.trans (i.below (Nat.le_refl _)));have e5:w.heap.size+2<w6.heap.size:=R6.lt;clear R5 Y5 a3 i hA;obtain⟨_,_,_,_,_,_,_,p,G⟩:=z0u S6;obtain⟨y0,y1,y2,y3,_,_,_,_⟩:=N.cells;have g0:=N.free 0;have g1:=N.free 1;have g2:=N.free 2;have g3:=N.free 3;have f2:=S6.free 62;have d2:w.heap.size≠w.heap.size+1:=by omega
  simp only[z8S]at p G
  go_upto_region 20 with fail
  have Y7:=N.j1A s.next d v k
  have E:=((((But.refl (w.heap.size+1) w6).set 0 (J I s.next)).set 1 (J I (d:Int))).set 2 (J I (v:Int))).set 3 (J I k)
  have S7:=E.z1q (c:=w.heap.size) (by omega) S6
  have R7:=E.z1q (c:=w.heap.size+2) (by omega) R6
  have a5:=J6 (a4.out.trans (E.below (B:=w.heap.size) (by omega)))
  generalize (((w6.setCell ⟨w.heap.size+1,0,none⟩ (J I s.next)).setCell ⟨w.heap.size+1,1,none⟩ (J I (d:Int))).setCell ⟨w.heap.size+1,2,none⟩ (J I (v:Int))).setCell ⟨w.heap.size+1,3,none⟩ (J I k)=w7 at *
  have S8:=S7.set 62 (J I (s.next+1))
  rw[j3t]at S8;have f:=(But.refl w.heap.size w7).set 62 (J I (s.next+1))
  have R8:=f.z1q (c:=w.heap.size+2) (by omega) R7
  have Y8:=(f.block (w.heap.size+1) (by omega)).trans Y7
  have P:=J6 (a5.out.trans (f.below (B:=w.heap.size) (by omega)))
  generalize w7.setCell ⟨w.heap.size,62,none⟩ (J I (s.next+1))=w8 at *
  clear S6 R6 N a4 y0 y1 y2 y3 g0 g1 g2 g3 f2 p G E S7 R7 Y7 a5 f;have Y9:YAt w8 (w.heap.size+1) { y with num:=s.next,d:=d,v:=v,amt:=k }:=Y8
  generalize hx:({ y with num:=s.next,d:=d,v:=v,amt:=k }:Wt)=x at *
  clear hx Y8;have Q:=J6 S8;obtain⟨_,_,_,_,_,_,_,p,_⟩:=z0u S8;obtain⟨y0,y1,y2,y3,y4,y5,y6,y7⟩:=Y9.cells;have e6:w.heap.size+2<w8.heap.size:=R8.lt;have d3:w.heap.size<w8.heap.size:=by omega
  have d4:w.heap.size+1<w8.heap.size:=by omega
  have a6:(s.W.length:Int)<4611686018427387904:=by omega
  have a7:ao=none->s.W.length=0:=fun h=>by
   rcases Nat.eq_zero_or_pos s.W.length with h0 | h0
   ·exact h0
   ·have:=HW.out.adr h0;rw[h]at this;cases this
  clear S8
  go_region_law (first
   | (refine z0H rfl ?_;go_simp;go_at_call 105;refine (j2O ao s.W.length c q.out a7 a6 _).mono ?_;rintro e we⟨rfl,rfl⟩)
   | (refine j3q rfl rfl _ _ rfl ao sb so _ s.W x rfl rfl (HW.out.over (P.out.alloc (by omega) _).drew) (by omega) (fun j v hj=>q7o w8 x _ j v hj) ?_;intro g C w9 a8 c7 a9 R;have S9:=(Q.out.later (znw w8 _).drew Q.out.lt).later R (by simp;omega);obtain⟨_,_,_,_,_,_,_,z7,_⟩:=z0u S9;have fz:=S9.free 61;have c8:=S9.lt;have b4:=J6 S9;have T:=J6 R;have b5:=J6 a9;have b6:=J6 a8;clear S9 R a9 a8))
  all_goals
   have b7:g=w8.heap.size+1:=by rw[b6.out];show (w8.alloc _).heap.size=_;simp
   have K:=(P.out.alloc (by omega) _).drew.trans (T.out.mono (by show _<=(w8.alloc _).heap.size;simp;omega))
   have R9:=(R8.later (znw w8 _).drew R8.lt).later T.out (by show _<(w8.alloc _).heap.size;simp;omega)
   have f:=(But.refl w.heap.size w9).set 61 (J1 (some ⟨g,0,none⟩) (s.W.length+1) C);have U:=b4.out.set 61 (J1 (some ⟨g,0,none⟩) (s.W.length+1) C);rw[q2p]at U;have b8:SAt (w9.setCell ⟨w.heap.size,61,none⟩ (J1 (some ⟨g,0,none⟩) (s.W.length+1) C)) w.heap.size (stC (j4v s d v k n B x) (J1 (some ⟨g,0,none⟩) (s.W.length+1) C)):=by rw[j5C];exact U
   have b9:=f.z1q (c:=w.heap.size+2) (by omega) R9
   have c9:=b5.out.but f (fun _=>by omega)
   have c4:=J6 b7;clear b7;have c5:=J6 (K.trans (f.below (Nat.le_refl _)));generalize w9.setCell ⟨w.heap.size,61,none⟩ (J1 (some ⟨g,0,none⟩) (s.W.length+1) C)=w10 at *;have d5:w.heap.size<w10.heap.size:=b8.lt;clear b4 T b6 b5 Q R8 R9 P f U K y0 y1 y2 y3 y4 y5 y6 y7 p z7 fz Y9 c8
   go_upto_region 21 with fail
   apply wp_region_lit;refine wpList_load_mid rfl 43 _ rfl _ 0 rfl _ _ b8.range underlying43 rfl (by rw[z0B];rfl) ?_
   refine wpList_store_mid rfl 43 _ _ rfl _ 0 (stC (j4v s d v k n B x) (J1 (some ⟨g,0,none⟩) (s.W.length+1) C)) rfl rfl (b9.there 0 _ (by rw[z0v,z0f];omega)) (by rw[z0B];rfl) (z0E _ _ _ _) ?_
   go_wp2;exact q6g results71 b9 rfl c5.out (by omega) (j4v s d v k n B x) (some ⟨g,0,none⟩) g 0 C (s.W.length+1) 0 r HR.out (by simp[j4v]) c7 c9 (fun _=>by have:=c4.out;omega) (fun _=>.inr (by have:=c4.out;omega)) _ rfl rfl rfl
 ·exact z1L results71 l rfl a.out (by omega) s ao sb so c _ r (H3.out ⟨‹t=true›,by omega,by omega⟩ (by omega) (by omega)) q.out (HW.out.over a.out) (fun h=>by have:=HW.out.lt h;omega) (fun _=>.inl rfl) _ rfl rfl rfl
 ·exact z1L results71 l rfl a.out (by omega) s ao sb so c _ r (H1.out (fun h=>by have:=h.2;omega)) q.out (HW.out.over a.out) (fun h=>by have:=HW.out.lt h;omega) (fun _=>.inl rfl) _ rfl rfl rfl
 ·exact z1L results71 l rfl a.out (by omega) s ao sb so c _ r (H1.out (fun h=>absurd h.1 ‹¬ t=true›)) q.out (HW.out.over a.out) (fun h=>by have:=HW.out.lt h;omega) (fun _=>.inl rfl) _ rfl rfl rfl
end
end Go.Proofs.YtddlhnoedldidaaGreat
