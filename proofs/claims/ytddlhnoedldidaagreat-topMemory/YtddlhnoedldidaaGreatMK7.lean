/- Parts of the proof. -/
import Derived.Test.YtddlhnoedldidaaGreatML
import Derived.Test.YtddlhnoedldidaaGreatMK42
set_option maxRecDepth 100000
set_option maxHeartbeats 16000000
namespace Go.Proofs.YtddlhnoedldidaaGreat
open Go.Proofs.Tryz
open Value renaming int->J,slice->J1,pointer->J2,bool->J3,agg->J4
open IntKind renaming i64->I
open Obj renaming cells->J5
namespace Kc
open Go.RowKit Pv
structure z7j(P:Nat->Prop)(B:Nat)(o:Option Nat)(w:World)(g:Nat)(c:Cs)(v:CsV):Prop where
 cat:CAt 75 w g (csC c v)
 set:Rep P w v.set 2 16 (pwC c.set)
 pd:z6S P w v.pd c.pd
 rp:RR P B o w v.rp c.rp
 said:z0C P w v.said 1 16 (txC c.out.S)
 due:z0C P w v.due 1 8 (inC c.out.D)
 notg:¬ P g
 noto:∀ r,o=some r->¬ P r/\r≠g
 base:B<=w.heap.size
structure z8w(g:Nat)(o:Option Nat)(w w':World):Prop where
 os:w'.os=w.os
 tape:w'.tape=w.tape
 output:w'.output=w.output
 size:w.heap.size<=w'.heap.size
 block:∀ k,k<w.heap.size->k≠g->some k≠o->w'.heap[k]?=w.heap[k]?
theorem z8w.of{g:Nat}{o:Option Nat}{w w':World}(h:Alt g w w'):z8w g o w w':=⟨h.os,h.tape,h.output,h.size,fun k a b _=>h.block k a b⟩
theorem z8w.trans{g:Nat}{o a:Option Nat}{w w1 b:World}(h:z8w g o w w1)(k:z8w g a w1 b)(j:a=o∨∃ r,a=some r/\w.heap.size<=r):z8w g o w b:=
 ⟨k.os.trans h.os,k.tape.trans h.tape,k.output.trans h.output,Nat.le_trans h.size k.size,fun i c d f=>(k.block i (Nat.lt_of_lt_of_le c h.size) d (by
  rcases j with rfl | ⟨r,rfl,l⟩
  ·exact f
  ·intro e;cases e;omega)).trans (h.block i c d f)⟩
theorem z8w.set{g:Nat}{o:Option Nat}{w w':World}(h:z8w g o w w')(k:Nat)(v:Value):z8w g o w (w'.setCell ⟨g,k,none⟩ v):=
 ⟨h.os,h.tape,h.output,(by simp[World.setCell];exact h.size),fun i b a c=>(Below.heap_setCell _ _ _ _ a).trans (h.block i b a c)⟩
theorem z7j.later{P:Nat->Prop}{B:Nat}{o:Option Nat}{w w':World}{g:Nat}{c:Cs}{v:CsV}(h:z7j P B o w g c v)(hb:Bl w w'):z7j P B o w' g c v:=
 ⟨h.cat.over hb,h.set.over hb,h.pd.over hb,h.rp.keep (fun b _ a=>hb.block b a) (fun b e=>hb.block b (h.rp.lt e).2),h.said.over hb,h.due.over hb,h.notg,h.noto,Nat.le_trans h.base hb.size⟩
theorem z7j.put{P:Nat->Prop}{B:Nat}{o:Option Nat}{w:World}{g:Nat}{c:Cs}{v:CsV}(h:z7j P B o w g c v)(k:Nat)(x:Value)(a:Cs)(e:(csC c v).setIfInBounds k x=csC a v)(i:a.set=c.set)(j:a.pd=c.pd)(l:a.rp=c.rp)(f:a.out=c.out):z7j P B o (w.setCell ⟨g,k,none⟩ x) g a v:=by
 have d:∀ b,P b->b<w.heap.size->(w.setCell ⟨g,k,none⟩ x).heap[b]?=w.heap[b]?:=fun b hb _=>Below.heap_setCell w ⟨g,k,none⟩ x b (show b≠g from fun e=>h.notg (by rw[<- e];exact hb))
 refine⟨by have:=h.cat.set k x;rwa [e]at this,by rw[i];exact h.set.keep d,by rw[j];exact h.pd.keep d,by rw[l];exact h.rp.keep d (fun b m=>Below.heap_setCell w ⟨g,k,none⟩ x b (h.noto b m).2),by rw[f];exact h.said.keep d,by rw[f];exact h.due.keep d,h.notg,h.noto,by simpa [World.setCell] using h.base⟩
theorem z7j.app{P:Nat->Prop}{B:Nat}{o:Option Nat}{w d:World}{g:Nat}{c:Cs}{v:CsV}{r:Nat}{u:Value}{x:Int×Int}(h:z7j P B o w g c v)(q:RR P B (some r) d u (c.rp ++ [x]))(l:w.grownBy d o)(f:o=some r∨r=w.heap.size):z7j (fun b=>P b/\b≠r) B (some r) (d.setCell ⟨g,7,none⟩ u) g { c with rp:=c.rp ++ [x] } { v with rp:=u }:=by
 have m:=h.cat.lt;have i:∀ b,o=some b->b≠g:=fun b e=>(h.noto b e).2;have n:some g≠o:=fun e=>i g e.symm rfl
 have j:r≠g:=by
  rcases f with e | e
  ·exact i r e
  ·omega
 have k0:∀ b,P b->b<w.heap.size->b≠r:=fun b hb a e=>by
  rcases f with p | p
  ·exact (h.noto r p).1 (e ▸ hb)
  ·omega
 have k1:∀ b,(P b/\b≠r)->b<w.heap.size->(d.setCell ⟨g,7,none⟩ u).heap[b]?=w.heap[b]?:=fun b hb a =>
  (Below.heap_setCell d ⟨g,7,none⟩ u b (show b≠g from fun e=>h.notg (e ▸ hb.1))).trans (l.block b a fun e=>(h.noto b e.symm).1 hb.1)
 have s:CAt 75 d g (csC c v):=(l.block g m n).trans h.cat;have k:=s.set 7 u;rw[q8J c v (c.rp ++ [x])]at k;refine⟨k,((h.set.mono fun b a hb=>⟨hb,k0 b hb a⟩).keep k1),((h.pd.mono fun b a hb=>⟨hb,k0 b hb a⟩).keep k1),?_,((h.said.mono fun b a hb=>⟨hb,k0 b hb a⟩).keep k1),((h.due.mono fun b a hb=>⟨hb,k0 b hb a⟩).keep k1),fun e=>h.notg e.1,fun b e=>?_,?_⟩
 ·have:=q.keep (w':=d.setCell ⟨g,7,none⟩ u) (fun b hb _=>Below.heap_setCell d ⟨g,7,none⟩ u b (show b≠g from fun e=>h.notg (e ▸ hb))) (fun b e=>by cases e;exact Below.heap_setCell d ⟨g,7,none⟩ u r j)
  rcases this with⟨e,-⟩ | e
  ·cases e
  ·exact .inr e
 ·cases e;exact⟨fun h=>h.2 rfl,j⟩
 ·have:=h.base;have:=l.size
  simp[World.setCell]
  omega
theorem z8w.grown{g:Nat}{o:Option Nat}{w b c:World}(h:z8w g o w b)(a:b.grownBy c o):z8w g o w c:=
 ⟨a.os.trans h.os,a.tape.trans h.tape,a.output.trans h.output,Nat.le_trans h.size a.size,fun k d f e=>(a.block k (Nat.lt_of_lt_of_le d h.size) e).trans (h.block k d f e)⟩
theorem z7j.mono{P P':Nat->Prop}{B:Nat}{o:Option Nat}{w:World}{g:Nat}{c:Cs}{v:CsV}(h:z7j P B o w g c v)(hp:∀ b,b<w.heap.size->P b->P' b)(a:¬ P' g)(d:∀ r,o=some r->¬ P' r):z7j P' B o w g c v:=by
 refine⟨h.cat,h.set.mono hp,h.pd.mono hp,?_,h.said.mono hp,h.due.mono hp,a,fun r e=>⟨d r e,(h.noto r e).2⟩,h.base⟩
 rcases h.rp with⟨e,hA,hr⟩ | e
 ·exact .inl ⟨e,hA,hr.mono hp⟩
 ·exact .inr e
theorem z7j.j5H{P:Nat->Prop}{B:Nat}{o:Option Nat}{w:World}{g:Nat}{c:Cs}{v:CsV}(h:z7j P B o w g c v)(u:Value)(l:List (Int×Int))(d:Rep P w u 2 16 (pwC l)):z7j P B o (w.setCell ⟨g,5,none⟩ u) g { c with set:=l } { v with set:=u }:=by
 have a:∀ b,P b->b<w.heap.size->(w.setCell ⟨g,5,none⟩ u).heap[b]?=w.heap[b]?:=fun b hb _=>Below.heap_setCell w ⟨g,5,none⟩ u b (show b≠g from fun e=>h.notg (by rw[<- e];exact hb))
 refine⟨by have:=h.cat.set 5 u;rwa [set_set c v l]at this,d.keep a,h.pd.keep a,h.rp.keep a (fun b f=>Below.heap_setCell w ⟨g,5,none⟩ u b (h.noto b f).2),h.said.keep a,h.due.keep a,h.notg,h.noto,by simpa [World.setCell] using h.base⟩
theorem j4y(w:World)(x:Int×Int)(j:Nat)(u:Value)(a:([J I x.1,J I x.2]:List Value)[j]?=some u):(w.alloc (J5 #[J I x.1,J I x.2] 79)).drew.cell? ⟨w.heap.size,j,none⟩=some u:=by
 have h:=((CAt.new 79 w #[J I x.1,J I x.2]).over (Below.refl _ _).drew).cell j;rw[h]
 simpa using a
def j2h(P:Nat->Prop)(B:Nat)(o:Option Nat)(w:World)(g:Nat)(c:Cs)(pv:Value)(e:Ending)(w':World):Prop:=
 ∃ v' a P',e=.returned (.tuple #[])/\z7j P' B a w' g c v'/\v'.pd=pv/\(∀ b,P' b->New P w 0 b)/\(∀ b,P b->b<w.heap.size->P' b)/\(a=o∨∃ r,a=some r/\w.heap.size<=r)/\z8w g o w w'
theorem q0w(f:Nat->Bool)(l:List Int)(x:Int):z3i f (l ++ [x])=j4Q (z3i f l) x.toNat false:=by simp[z3i]
theorem q7b(g:Nat)(c:Cs)(v:CsV)(x:Pkt)(y1 y2:Value)(P:Nat->Prop)(B:Nat)(o:Option Nat)(w:World)(h:z7j P B o w g c v)(h1:Rep P w y1 2 16 (pwC x.S))(h2:Rep P w y2 1 8 (inC x.D))(hD:∀ u∈x.D,0<=u/\u<6)(N:c.rp.length * 16<=168884986026393)(e0:0<=c.t)(e3:c.t<=1099511627776) :
  Calls prog 122 #[J2 (some ⟨g,0,none⟩),J4 #[.int .i64 x.k,.int .i64 x.i,.int .i64 x.v,.int .i64 x.n,y1,y2]] w (j2h P B o w g (takeC c x) v.pd):=by
 have hT:takeC c x={ c with set:=Df.z3W c.set x.S,id:=x.i,fl:=z3i c.fl x.D,rp:=c.rp ++ [(x.i,c.t+15)] }:=rfl
 generalize takeC c x=D at *;have HT:=J6 hT;have HL:=J6 N;have HD:=J6 hD;have s:=J6 h;have H1:=J6 h1;obtain⟨G,n1,H,e1,-⟩:=id h1;obtain⟨Q,R,e2,s2,-,U,-⟩:=h2.open (z0h _) (by decide)
 have b5:=J6 U;have b6:x.D.length<=17592186044405:=by omega
 subst e1 e2;have b7:=J6 (fun (K:World) (hb:Bl w K)=>q9h c.set x.S v.set (J1 G n1 H) P P K (h.set.over hb) (h1.over hb));clear h1 h2 U hT N hD s2
 go_enter func122,ntmps122
 go_upto_region 1 with fail
 have K0:=CAt.new 68 w #[.int .i64 x.k,.int .i64 x.i,.int .i64 x.v,.int .i64 x.n,J1 G n1 H,J1 Q x.D.length R];have b0:Bl w (w.alloc (J5 #[.int .i64 x.k,.int .i64 x.i,.int .i64 x.v,.int .i64 x.n,J1 G n1 H,J1 Q x.D.length R] 68)):=znw w _;have V:(w.alloc (J5 #[.int .i64 x.k,.int .i64 x.i,.int .i64 x.v,.int .i64 x.n,J1 G n1 H,J1 Q x.D.length R] 68)).heap.size=w.heap.size+1:=by simp
 generalize w.alloc (J5 #[.int .i64 x.k,.int .i64 x.i,.int .i64 x.v,.int .i64 x.n,J1 G n1 H,J1 Q x.D.length R] 68)=w0 at *;have a5:w0.cell? ⟨g,5,none⟩=some v.set:=(h.cat.over b0).cell 5;have k4:w0.cell? ⟨w.heap.size,4,none⟩=some (J1 G n1 H):=K0.cell 4;have T:=J6 (show _/\_/\_ from⟨K0,b0,V⟩);clear K0 b0 V h;have e4:g<w0.heap.size:=by have:=T.out.2.1.size;have:=s.out.cat.lt;omega
 apply j0X (fun A n C w2=>∃ w1,w2=w1.setCell ⟨g,5,none⟩ (J1 A n C)/\Rep (fun b=>w0.heap.size<=b) w1 (J1 A n C) 2 16 (pwC (Df.z3W c.set x.S))/\Bl w0 w1)
 ·refine wp_region_noPanic ?_
  have HF:Hid (∀ w1,Bl w0 w1->w1.cell? ⟨g,5,none⟩=some v.set/\w1.frozen? ⟨g,5,none⟩=false):=fun w1 b1=>by
   have c1:=(s.out.cat.over T.out.2.1).over b1;exact⟨c1.cell 5,c1.free 5⟩
  go_region_with (go_at_call 161;refine (b7.out _ (by exact T.out.2.1.drew)).mono ?_;rintro e w1⟨A,n,C,rfl,hr,p⟩;have b1:=(Below.refl w0.heap.size w0).drew.trans p;obtain⟨y5,e5⟩:=HF.out w1 b1;have b9:=J6 hr;have c4:=J6 b1;clear hr p b1)
  all_goals exact NoPanic.normal ⟨A,n,C,rfl,rfl,w1,rfl,b9.out,c4.out⟩
 rintro A n C w2⟨w1,rfl,W,p⟩;clear a5 k4;have X:Bl w w1:=zbt T.out.2.1 p;have c5:=s.out.cat.lt;have c6:¬ New P w 0 g:=z0I s.out.notg c5;have c7:∀ r,o=some r->¬ New P w 0 r:=fun r e=>z0I (s.out.noto r e).1 (s.out.rp.lt e).2;have T1:z7j (New P w 0) B o w1 g c v:=(z7j.mono (s.out) (P':=fun b=>New P w 0 b) (fun b N hb=>.inl ⟨hb,N⟩) c6 c7).later X;have Y:=T1.j5H (J1 A n C) (Df.z3W c.set x.S) (W.mono fun b _ hb=>.inr (by have:=T.out.2.2;omega))
 have K2:=(T.out.1.over p).other (c:=g) (o:=5) (by omega) (J1 A n C)
 have d0:z8w g o w (w1.setCell ⟨g,5,none⟩ (J1 A n C)):=(z8w.of (Alt.of X)).set 5 _;have a4:=(z0G Y.cat).1.2.2.2.2;have f4:=Y.cat.free 4;have k1:(w1.setCell ⟨g,5,none⟩ (J1 A n C)).cell? ⟨w.heap.size,1,none⟩=some (.int .i64 x.i):=K2.cell 1;have Z:=Y.cat.lt;have T3:=Y.put 4 (.int .i64 x.i) { c with set:=Df.z3W c.set x.S,id:=x.i } (j7e _ _ _) rfl rfl rfl rfl
 have K3:=K2.other (c:=g) (o:=4) (by omega) (.int .i64 x.i)
 have d1:=d0.set 4 (.int .i64 x.i);have HY:=J6 (show _/\_/\_ from⟨T3,K3,d1⟩);clear T1 Y K2 T3 K3 W p;generalize w1.setCell ⟨g,5,none⟩ (J1 A n C)=w2 at *;simp only[Exit.then];apply_assumption
 go_upto_region 3 with fail
 clear a4 f4 k1 Z;generalize w2.setCell ⟨g,4,none⟩ (.int .i64 x.i)=w3 at *;have k5:w3.cell? ⟨w.heap.size,5,none⟩=some (J1 Q x.D.length R):=HY.out.2.1.cell 5
 go_upto_region 4 with fail
 clear k5
 go_loopw [24] (fun i wl=>∃ (k:Nat),k<=x.D.length/\i=.int .i64 (k:Int)/\Hid (z7j (New P w 0) B o wl g { c with set:=Df.z3W c.set x.S,id:=x.i,fl:=z3i c.fl (x.D.take k) } { v with set:=J1 A n C })/\Hid (CAt 68 wl w.heap.size #[.int .i64 x.k,.int .i64 x.i,.int .i64 x.v,.int .i64 x.n,J1 G n1 H,J1 Q x.D.length R])/\Hid (z8w g o w wl)) (fun i _=>x.D.length - (intOf i).toNat)
 case atStart=>exact⟨0,Nat.zero_le _,rfl,HY.out.1,HY.out.2.1,HY.out.2.2⟩
 case round =>
  obtain⟨k,hk,rfl,d,L,q⟩:=hrel
  by_cases E:k<x.D.length
  ·have e6:(k:Int)<(x.D.length:Int):=by omega
   obtain⟨b,off,rfl,a0,d2,hcell⟩:=b5.out (by omega)
   have a1:x.D.getD k 0=x.D[k]:=by simp[List.getD,E]
   have hu:=HD.out x.D[k] (List.getElem_mem E);have d3:some b≠o:=fun e=>(s.out.noto b e.symm).1 a0
   have cD:wr.cell? ⟨b,off+k,none⟩=some (.int .i64 x.D[k]):=by
    rw[World.cell?_of_block (w:=w) (a:=⟨b,off+k,none⟩) (q.out.block b d2 (fun e=>s.out.notg (e ▸ a0)) d3),hcell k _ (z3J _ k E),a1]
   have a2:x.D.take (k+1)=x.D.take k ++ [x.D[k]]:=List.take_succ_eq_append_getElem E;obtain⟨m,hm⟩:∃ m:Nat,x.D[k]=(m:Int):=⟨x.D[k].toNat,by omega⟩
   have a6:m<6:=by omega
   have e7:(m:Int)<6:=by omega
   have e8:(0:Int)<=(m:Int):=by omega
   rw[hm]at cD;have aF:wr.cell? ⟨g,8+m,none⟩=some (J3 (z3i c.fl (x.D.take k) m)):=(d.out.cat.cell _).trans (q8e _ _ a6);have fF:=d.out.cat.free (8+m);have d8:=d.out.cat.lt;have T5:=d.out.put (8+m) (J3 false) { c with set:=Df.z3W c.set x.S,id:=x.i,fl:=z3i c.fl (x.D.take (k+1)) } (by rw[j2o _ _ a6,a2,q0w,hm,Int.toNat_natCast]) rfl rfl rfl rfl
   have K5:=L.out.other (c:=g) (o:=8+m) (by omega) (J3 false)
   have A5:=q.out.set (8+m) (J3 false);have y:=J6 (show _/\_/\_ from⟨T5,K5,A5⟩);clear T5 K5 A5 hcell hu a1 hm a2 d L q
   go_upto_region 7 with fail
   clear cD aF fF;generalize wr.setCell ⟨g,8+m,none⟩ (J3 false)=w5 at *;go_wp2
   first | exact⟨⟨k+1,by omega,by go_num,y.out.1,y.out.2.1,y.out.2.2⟩,by simp[intOf];omega⟩ | ((repeat apply Exists.intro);exact⟨⟨k+1,by omega,by go_num,y.out.1,y.out.2.1,y.out.2.2⟩,rfl⟩)
  ·obtain rfl:k=x.D.length:=by omega
   rw[List.take_length]at d;obtain⟨Ar,Cr,er⟩:=d.out.rp.slice;have M:v.rp=J1 Ar c.rp.length Cr:=er;have a7:wr.cell? ⟨g,7,none⟩=some (J1 Ar c.rp.length Cr):=by rw[<- M];exact d.out.cat.cell 7
   have a3:wr.cell? ⟨g,3,none⟩=some (.int .i64 c.t):=d.out.cat.cell 3;have k1:wr.cell? ⟨w.heap.size,1,none⟩=some (.int .i64 x.i):=L.out.cell 1
   go_upto_region 8 with fail
   have a8:Hid (∀ K,Bl wr K->RR (New P w 0) B o K (J1 Ar c.rp.length Cr) c.rp/\B<=K.heap.size):=fun K hb=>by
    have t:=d.out.later hb;have:=t.rp;rw[er]at this;exact⟨this,t.base⟩
   have d4:some g≠o:=fun e=>(s.out.noto g e.symm).2 rfl;have e9:g<wr.heap.size:=d.out.cat.lt;have d5:=J6 d.out.cat
   have HF:Hid (∀ (w8 F:World),Bl wr w8->w8.grownBy F o->F.cell? ⟨g,7,none⟩=some (J1 Ar c.rp.length Cr)/\F.frozen? ⟨g,7,none⟩=false):=fun w8 F hb l=>by
    have c8:=d5.out.over hb;have c9:=c8.keep (l.block g c8.lt d4);exact⟨by rw[<- M];exact c9.cell 7,c9.free 7⟩
   have d9:IntKind.i64.wrap (c.t+15)=c.t+15:=by simp[IntKind.wrap,IntKind.bits,IntKind.signed];omega
   have d6:=HL.out;clear er M
   go_region_law (first
    | (refine j0q rfl rfl _ _ rfl (v:=J1 Ar c.rp.length Cr) (B:=B) (o:=o) rfl (x.i,c.t+15) wr.heap.size rfl (a8.out _ (by exact (znw wr _).drew)).1 (a8.out _ (by exact (znw wr _).drew)).2 d6 (fun j u hj=>j4y wr (x.i,c.t+15) j u hj) ?_;intro r C9 F z l f;obtain⟨y7,d7⟩:=HF.out _ F (by exact (znw wr (J5 #[.int .i64 x.i,.int .i64 (c.t+15)] 79)).drew) l;have HW:=J6 (show _/\_/\_ from⟨z,l,f⟩);clear z l f))
   all_goals
    obtain⟨z,l,f⟩:=HW.out;have b8:Bl wr (wr.alloc (J5 #[.int .i64 x.i,.int .i64 (c.t+15)] 79)).drew:=(znw wr _).drew;have T9:=(d.out.later b8).app z l f;have A9:z8w g o w (F.setCell ⟨g,7,none⟩ (J1 (some ⟨r,0,none⟩) (c.rp.length+1) C9)):=((q.out.trans (z8w.of (Alt.of b8)) (.inl rfl)).grown l).set 7 _
    have a9:some r=o∨∃ r',some r=some r'/\w.heap.size<=r':=by
     rcases f with e | e
     ·exact .inl e.symm
     ·exact .inr ⟨r,rfl,by rw[e];exact Nat.le_trans q.out.size b8.size⟩
    have b4:∀ b,P b->b<w.heap.size->New P w 0 b/\b≠r:=fun b hb N=>⟨.inl ⟨hb,N⟩,fun e=>by
     rcases f with e' | e'
     ·exact (s.out.noto r e').1 (e ▸ hb)
     ·have:=q.out.size;have:=b8.size;omega⟩
    have y:=J6 (show _/\_/\_/\_ from⟨T9,A9,a9,b4⟩);clear T9 A9 a9 b4 z l f HW b8 y7 d7 a7 a3 k1;generalize F.setCell ⟨g,7,none⟩ (J1 (some ⟨r,0,none⟩) (c.rp.length+1) C9)=w10 at *;go_end0;have e:=HT.out;subst e;exact⟨_,some r,_,rfl,y.out.1,rfl,fun b hb=>hb.1,y.out.2.2.2,y.out.2.2.1,y.out.2.1⟩
end Kc
end Go.Proofs.YtddlhnoedldidaaGreat
