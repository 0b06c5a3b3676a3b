/- Parts of the proof. -/
import Derived.Test.YtddlhnoedldidaaGreatGL
import Derived.Test.YtddlhnoedldidaaGreatGK19
import Derived.Test.YtddlhnoedldidaaGreatGK22
import Derived.OrdersHeld
import Derived.RegionTactic
set_option maxRecDepth 100000
set_option maxHeartbeats 16000000
namespace Go.Proofs.YtddlhnoedldidaaGreat
open Go.Proofs.Tryz
open Value renaming int->J,slice->J1,pointer->J2,bool->J3,agg->J4
open IntKind renaming i64->I
open Obj renaming cells->J5
namespace Pv
open Go.RowKit
structure Alt(g:Nat)(w w':World):Prop where
 os:w'.os=w.os
 tape:w'.tape=w.tape
 output:w'.output=w.output
 size:w.heap.size<=w'.heap.size
 block:∀ k,k<w.heap.size->k≠g->w'.heap[k]?=w.heap[k]?
theorem Alt.refl(g:Nat)(w:World):Alt g w w:=⟨rfl,rfl,rfl,Nat.le_refl _,fun _ _ _=>rfl⟩
theorem Alt.trans{g:Nat}{w w1 a:World}(h:Alt g w w1)(k:Alt g w1 a):Alt g w a:=⟨k.os.trans h.os,k.tape.trans h.tape,k.output.trans h.output,Nat.le_trans h.size k.size,fun i b c=>(k.block i (Nat.lt_of_lt_of_le b h.size) c).trans (h.block i b c)⟩
theorem Alt.of{g:Nat}{w w':World}(h:Bl w w'):Alt g w w':=⟨h.os,h.tape,h.output,h.size,fun k a _=>h.block k a⟩
theorem Alt.below{g B:Nat}{w w':World}(h:Alt g w w')(a:B<=g)(b:B<=w.heap.size):Below B w w':=⟨h.os,h.tape,h.output,h.size,fun k c=>h.block k (by omega) (by omega)⟩
theorem Alt.set{g:Nat}{w w':World}(h:Alt g w w')(o:Nat)(v:Value):Alt g w (w'.setCell ⟨g,o,none⟩ v):=
 ⟨h.os,h.tape,h.output,(by simp[World.setCell];exact h.size),fun k b a=>(Below.heap_setCell _ _ _ _ a).trans (h.block k b a)⟩
theorem Alt.sets{g:Nat}:∀ (a:List Value) {w w':World} (_:Alt g w w') (o:Nat),Alt g w (w'.setCells g o a)
 | [],_,_,h,_=>h
 | _ :: r,_,_,h,o=>Alt.sets r (h.set o _) (o+1)
theorem Alt.cat{g:Nat}{w w':World}(h:Alt g w w'){b:Nat}(hb:b≠g){t:TypeId}{cs:Array Value}(c:CAt t w b cs):CAt t w' b cs:=(h.block b c.lt hb).trans c
theorem Alt.rep{g:Nat}{w w':World}(h:Alt g w w'){P:Nat->Prop}(c:¬ P g){v:Value}{sz bts:Nat}{cs:List Value}(hp:Rep P w v sz bts cs):Rep P w' v sz bts cs:=hp.keep fun b hb a=>h.block b a (fun e=>c (e ▸ hb))
def New(P:Nat->Prop)(w:World)(k b:Nat):Prop:=(P b/\b<w.heap.size)∨w.heap.size+k<=b
theorem z4d{P:Nat->Prop}{w:World}{k j:Nat}(h:j<k):¬ New P w k (w.heap.size+j):=fun a=>by
 rcases a with⟨_,h1⟩ | h1 <;> omega
end Pv
namespace Pv
open Go.RowKit
def z0U(P:Nat->Prop)(w:World)(v:Value)(sz bts:Nat)(cs:List Value):Prop:=∃ (A:Option Addr) (n C C':Nat),v=J1 A n C/\(A=none->C=0)/\Rep P w (J1 A n C') sz bts cs
section
variable {P P':Nat->Prop} {w w':World} {v:Value} {sz bts:Nat} {cs:List Value}
theorem Rep.c(h:Rep P w v sz bts cs):z0U P w v sz bts cs:=by
 obtain⟨A,n,C,rfl,h2⟩:=id h;exact⟨A,n,C,C,rfl,h2.2.2.1.1,h⟩
theorem z0U.nil(P:Nat->Prop)(w:World)(sz bts:Nat):z0U P w (J1 none 0 0) sz bts []:=(Rep.nil P w sz bts).c
theorem z0U.mono(h:z0U P w v sz bts cs)(hp:∀ b,b<w.heap.size->P b->P' b):z0U P' w v sz bts cs:=by
 obtain⟨A,n,C,C',h1,h2,h3⟩:=h;exact⟨A,n,C,C',h1,h2,h3.mono hp⟩
theorem z0U.keep(h:z0U P w v sz bts cs)(a:∀ b,P b->b<w.heap.size->w'.heap[b]?=w.heap[b]?):z0U P w' v sz bts cs:=by
 obtain⟨A,n,C,C',h1,h2,h3⟩:=h;exact⟨A,n,C,C',h1,h2,h3.keep a⟩
theorem z0U.over(h:z0U P w v sz bts cs)(hb:Bl w w'):z0U P w' v sz bts cs:=h.keep fun b _ a=>hb.block b a
theorem z0U.one(h:z0U P w v sz bts cs):v.oneCell'=true:=by
 obtain⟨A,n,C,C',rfl,_⟩:=h;rfl
theorem z0U.line{x:Ln.Line}{v1 v2:Value}(h1:z0U P w v1 1 16 (txC x.S))(h2:z0U P w v2 1 8 (inC x.D)):∃ a b c d sb so db dO,v1=J1 a x.S.length b/\v2=J1 c x.D.length d/\Ln.LAt w x a c b d sb so db dO/\(0<x.S.length->P sb)/\(0<x.D.length->P db):=by
 obtain⟨A,n,C,C',rfl,n1,r1⟩:=h1;obtain⟨B,m,D,h,rfl,e,r2⟩:=h2;obtain⟨a,b,c,d,sb,so,db,dO,f,g,L,p1,p2⟩:=Rep.line r1 r2;cases f;cases g;exact⟨_,_,_,_,sb,so,db,dO,rfl,rfl,⟨L.hls,L.hld,L.hsa,L.hda,n1,e,L.PS,L.PD⟩,p1,p2⟩
theorem j8k{x:Ln.Line}{sa da:Option Addr}{cs cd sb so db dO:Nat}(L:Ln.LAt w x sa da cs cd sb so db dO)(hp:0<x.S.length->P sb):z0U P w (J1 sa x.S.length cs) 1 16 (txC x.S):=by
 refine⟨sa,x.S.length,cs,x.S.length,rfl,L.ncs,sa,x.S.length,x.S.length,rfl,z2a _,L.hls,⟨fun e=>?_,Nat.le_refl _⟩,fun h0=>⟨sb,so,L.hsa h0,hp h0,L.ltS h0,fun j u hu=>?_⟩⟩
 ·rcases Nat.eq_zero_or_pos x.S.length with h | h
  ·exact h
  ·rw[L.hsa h]at e;cases e
 ·have a:j<x.S.length:=by have:=(List.getElem?_eq_some_iff.1 hu).1;rw[z2a]at this;omega
  rw[L.PS j a,<- hu,z8h _ j a]
theorem j8f{x:Ln.Line}{sa da:Option Addr}{cs cd sb so db dO:Nat}(L:Ln.LAt w x sa da cs cd sb so db dO)(hp:0<x.D.length->P db):z0U P w (J1 da x.D.length cd) 1 8 (inC x.D):=by
 refine⟨da,x.D.length,cd,x.D.length,rfl,L.ncd,da,x.D.length,x.D.length,rfl,z0s _,L.hld,⟨fun e=>?_,Nat.le_refl _⟩,fun h0=>⟨db,dO,L.hda h0,hp h0,L.ltD h0,fun j u hu=>?_⟩⟩
 ·rcases Nat.eq_zero_or_pos x.D.length with h | h
  ·exact h
  ·rw[L.hda h]at e;cases e
 ·have a:j<x.D.length:=by have:=(List.getElem?_eq_some_iff.1 hu).1;rw[z0s]at this;omega
  rw[L.PD j a,<- hu,z4F _ j a]
end
def y1q(P:Nat->Prop)(w:World)(x:Ln.Line)(a:Int)(e:Ending)(w':World):Prop:=∃ u1 u2,e=.returned (.tuple #[J4 #[u1,u2,J I x.g,J3 x.cl],J I a])/\z0U (New P w 0) w' u1 1 16 (txC x.S)/\z0U (New P w 0) w' u2 1 8 (inC x.D)/\Bl w w'
theorem j7Q{P:Nat->Prop}{w w':World}{x y:Ln.Line}{a:Int}{e:Ending}{c d:Option Addr}{f g sb so db dO:Nat}(L:Ln.LAt w x c d f g sb so db dO)(p1:0<x.S.length->P sb)(p2:0<x.D.length->P db)(h:Ln.Ans sb db x w (y,a) e w'):y1q P w y a e w':=by
 obtain⟨v,rfl,⟨sa,da,cs,cd,i,j,k,l,rfl,b,m,n⟩,hb⟩:=h;refine⟨_,_,rfl,j8k b fun h0=>?_,j8f b fun h0=>?_,hb⟩
 ·rcases (m h0).2 with⟨rfl,e⟩ | h
  ·rw[e]at h0;exact .inl ⟨p1 h0,L.ltS h0⟩
  ·exact .inr h
 ·rcases (n h0).2 with⟨rfl,e⟩ | h
  ·rw[e]at h0;exact .inl ⟨p2 h0,L.ltD h0⟩
  ·exact .inr h
theorem q9o(x:Ln.Line)(s:ByteArray)(due:Int)(v1 v2:Value)(P:Nat->Prop)(w:World)(h1:z0U P w v1 1 16 (txC x.S))(h2:z0U P w v2 1 8 (inC x.D)):Calls prog 118 #[J4 #[v1,v2,J I x.g,J3 x.cl],.string s,J I due] w (y1q P w (Ln.z4C x s due) (Ln.z5O x due)):=by
 obtain⟨a,b,c,d,sb,so,db,dO,rfl,rfl,L,p1,p2⟩:=z0U.line h1 h2;exact (Ln.j5F x a c b d sb so db dO s due w L).mono fun e w' h=>j7Q L p1 p2 h
theorem q8r(x:Ln.Line)(v1 v2:Value)(P:Nat->Prop)(w:World)(h1:z0U P w v1 1 16 (txC x.S))(h2:z0U P w v2 1 8 (inC x.D)):Calls prog 140 #[J4 #[v1,v2,J I x.g,J3 x.cl]] w fun e w'=>e=.returned (J3 (Ln.z1a x))/\Bl w w':=by
 obtain⟨a,b,c,d,sb,so,db,dO,rfl,rfl,L,-,-⟩:=z0U.line h1 h2;exact Ln.z0p x a c b d sb so db dO w L
end Pv
namespace Pv
open Go.RowKit
structure Lk where
 on:Bool
 gone:Bool
 base:Int
 told:List (Int×Int)
 fresh:Bool
 done:List Int
 out:Ln.Line
 h0:Int
 h1:Int
 h2:Int
 h3:Int
structure Pr where
 h:Int
 t:Int
 s:St
 set:List (Int×Int)
 L:Nat->Lk
 ml:Int
 mn:Int
 q:List (Int×Pkt)
structure LkV where
 told:Value
 done:Value
 said:Value
 due:Value
structure PrV where
 ws:Value
 set:Value
 l:Nat->LkV
 q:Value
def lkL(x:Lk)(v:LkV):List Value:=[J3 x.on,J3 x.gone,J I x.base,v.told,J3 x.fresh,v.done,v.said,v.due,J I x.out.g,J3 x.out.cl,J I x.h0,J I x.h1,J I x.h2,J I x.h3]
def prC(p:Pr)(v:PrV):Array Value:=(([J I p.h,J I p.t]:List Value) ++ ((stC p.s v.ws).toList ++ (v.set :: (lkL (p.L 0) (v.l 0) ++ (lkL (p.L 1) (v.l 1) ++ [J I p.ml,J I p.mn,v.q]))))).toArray
theorem z0a(p:Pr)(v:PrV):(prC p v).size=97:=rfl
def akL(x:Int×Pkt)(y:Value×Value):List Value:=[J I x.1,J I x.2.k,J I x.2.i,J I x.2.v,J I x.2.n,y.1,y.2]
def quL:List (Int×Pkt)->List (Value×Value)->List Value
 | x :: q,y :: z=>akL x y ++ quL q z
 | _,_=>[]
def q4E(P:Nat->Prop)(w:World)(v:Value)(q:List (Int×Pkt)):Prop:=
 ∃ z:List (Value×Value),z.length=q.length/\Rep P w v 7 80 (quL q z)/\∀ (i:Nat) (x:Int×Pkt) (y:Value×Value),q[i]?=some x->z[i]?=some y->Rep P w y.1 2 16 (pwC x.2.S)/\Rep P w y.2 1 8 (inC x.2.D)
structure z5M(P:Nat->Prop)(w:World)(x:Lk)(v:LkV):Prop where
 told:Rep P w v.told 2 16 (pwC x.told)
 done:Rep P w v.done 1 8 (inC x.done)
 said:z0U P w v.said 1 16 (txC x.out.S)
 due:z0U P w v.due 1 8 (inC x.out.D)
structure PIn(P:Nat->Prop)(w:World)(p:Pr)(v:PrV):Prop where
 ws:Rep P w v.ws 8 64 (wsL p.s.W)
 set:Rep P w v.set 2 16 (pwC p.set)
 lk:∀ c,c<2->z5M P w (p.L c) (v.l c)
 q:q4E P w v.q p.q
section
variable {P P':Nat->Prop} {w w':World}
theorem q4E.mono{v:Value}{q:List (Int×Pkt)}(h:q4E P w v q)(hp:∀ b,b<w.heap.size->P b->P' b):q4E P' w v q:=by
 obtain⟨z,h1,h2,h3⟩:=h;exact⟨z,h1,h2.mono hp,fun i x y a c=>⟨(h3 i x y a c).1.mono hp,(h3 i x y a c).2.mono hp⟩⟩
theorem q4E.keep{v:Value}{q:List (Int×Pkt)}(h:q4E P w v q)(a:∀ b,P b->b<w.heap.size->w'.heap[b]?=w.heap[b]?):q4E P w' v q:=by
 obtain⟨z,h1,h2,h3⟩:=h;exact⟨z,h1,h2.keep a,fun i x y c d=>⟨(h3 i x y c d).1.keep a,(h3 i x y c d).2.keep a⟩⟩
theorem z5M.mono{x:Lk}{v:LkV}(h:z5M P w x v)(hp:∀ b,b<w.heap.size->P b->P' b):z5M P' w x v:=⟨h.told.mono hp,h.done.mono hp,h.said.mono hp,h.due.mono hp⟩
theorem z5M.keep{x:Lk}{v:LkV}(h:z5M P w x v)(a:∀ b,P b->b<w.heap.size->w'.heap[b]?=w.heap[b]?):z5M P w' x v:=⟨h.told.keep a,h.done.keep a,h.said.keep a,h.due.keep a⟩
theorem PIn.mono{p:Pr}{v:PrV}(h:PIn P w p v)(hp:∀ b,b<w.heap.size->P b->P' b):PIn P' w p v:=⟨h.ws.mono hp,h.set.mono hp,fun c hc=>(h.lk c hc).mono hp,h.q.mono hp⟩
theorem PIn.keep{p:Pr}{v:PrV}(h:PIn P w p v)(a:∀ b,P b->b<w.heap.size->w'.heap[b]?=w.heap[b]?):PIn P w' p v:=⟨h.ws.keep a,h.set.keep a,fun c hc=>(h.lk c hc).keep a,h.q.keep a⟩
theorem PIn.over{p:Pr}{v:PrV}(h:PIn P w p v)(hb:Bl w w'):PIn P w' p v:=h.keep fun b _ a=>hb.block b a
end
end Pv
namespace Pv
open Go.RowKit
section
variable {P:Nat->Prop} {w w':World} {v:Value} {sz bts:Nat} {cs:List Value}
theorem Rep.q0q{W:List Wt}(h:Rep P w v 8 64 (wsL W)):∃ A C b o,v=J1 A W.length C/\z2L w A b o W/\(A=none->C=0)/\(0<W.length->P b):=by
 obtain⟨A,n,C,h1,h2,h3,c,d⟩:=h;rw[z1K]at h2;have e:n=W.length:=by omega
 subst e
 rcases Nat.eq_zero_or_pos W.length with h0 | h0
 ·refine⟨A,C,0,0,h1,⟨fun h=>by omega,h3,fun i x a=>?_⟩,c.1,fun h=>by omega⟩
  have:=(List.getElem?_eq_some_iff.1 a).1;omega
 ·obtain⟨b,off,rfl,hp,_,hc⟩:=d h0;refine⟨_,C,b,off,h1,⟨fun _=>rfl,h3,fun i x a=>?_⟩,c.1,fun _=>hp⟩
  have k:∀ j,j<8->∀ u,(wtL x)[j]?=some u->w.cell? ⟨b,off+i * 8+j,none⟩=some u:=fun j f u hu=>by
   rw[Nat.add_assoc];exact hc _ _ ((z4I W i x j a f).trans hu)
  exact⟨k 0 (by omega) _ rfl,k 1 (by omega) _ rfl,k 2 (by omega) _ rfl,k 3 (by omega) _ rfl,k 4 (by omega) _ rfl,k 5 (by omega) _ rfl,k 6 (by omega) _ rfl,k 7 (by omega) _ rfl⟩
end
end Pv
namespace O
open Go
section
variable {P:Program} {md:Region.Mode} {ops:Array Oper} {Q:Exit->Act->World->Prop} {S:World->Prop} {c:Nat}
def q2s(P:Program)(md:Region.Mode)(ops:Array Oper)(Q:Exit->Act->World->Prop)(S:World->Prop)(c:Nat):Nat->Array Bool->Act->World->Prop
 | 0,L,a,w=>Region.ready md ops L=[]/\Q .normal a w
 | n+1,L,a,w=>(Region.ready md ops L=[]->Q .normal a w) /\
  ∀ i∈Region.ready md ops L,wpOp P ops Q i (fun b w'=>(i=c->wpAny P md ops Q n (L.setIfInBounds i true) b w')/\(i≠c->S w'/\q2s P md ops Q S c n (L.setIfInBounds i true) b w')) a w
theorem q4t:∀ (n:Nat) (L:Array Bool) (a:Act) (w:World),q2s P md ops Q S c n L a w->wpAny P md ops Q n L a w
 | 0,_,_,_,h=>h
 | n+1,L,a,w,h=>⟨h.1,fun i b=>wpOp_mono (fun d w' h'=>by
   by_cases e:i=c
   ·exact h'.1 e
   ·exact q4t n _ d w' (h'.2 e).2) (h.2 i b)⟩
structure Shut(md:Region.Mode)(ops:Array Oper)(i c:Nat)(R:Array Bool):Prop where
 noC:R.getD c false=false
 noI:R.getD i false=false
 closed:∀ j o,j≠i->ops[j]?=some o->(∀ e∈o.after,Region.binds md e=true->R.getD e.on false=true)->R.getD j false=true
theorem q6k{i:Nat}{s:Oper}{v:Value}{R:Array Bool}(G:ops[i]?=some s)(m:∀ (j:Nat) (o:Oper) cs b,ops[j]?=some o->o.op≠.select cs b)
  (W:∀ c a w,Q (.panic c) (a.put s.dst v) w->Q (.panic c) a w) (K:Shut md ops i c R) :
  ∀ (n:Nat) (L:Array Bool) (a:Act) (w:World),(∀ j,L.getD j false=true->R.getD j false=true) ->
   (∀ j p,ops[j]?=some p->j≠i->L.getD j true=false->(∀ e∈p.after,Region.binds md e=true->e.on≠i)->s.apart ops p=true) ->
   i∈Region.ready md ops L->YieldsIf P ops S s v a->S w->i≠c ->
   q2s P md ops Q S c n (L.setIfInBounds i true) (a.put s.dst v) w->q2s P md ops Q S c (n+1) L a w:=by
 intro n
 induction n with
 | zero =>
  intro L a w _ _ t D u g H;refine⟨fun h=>(by rw[h]at t;cases t),fun j E=>?_⟩
  by_cases d:j=i
  ·subst d;exact D.wpOp G u ⟨fun e=>absurd e g,fun _=>⟨u,H⟩⟩
  ·have:=ready_mono E d;rw[H.1]at this;cases this
 | succ n ih =>
  intro L a w f hfree t D u g H;refine⟨fun h=>(by rw[h]at t;cases t),fun j E=>?_⟩
  by_cases d:j=i
  ·subst d;exact D.wpOp G u ⟨fun e=>absurd e g,fun _=>⟨u,H⟩⟩
  ·have X:=H.2 j (ready_mono E d);obtain⟨q,p,l,hall⟩:=mem_ready.1 E;have r:R.getD j false=true:=K.closed j p d l fun e M hb=>f _ (hall e M hb);have x:j≠c:=fun e=>by rw[e,K.noC]at r;cases r
   have y:∀ e∈p.after,Region.binds md e=true->e.on≠i:=fun e M hb N=>by
    have:=f _ (hall e M hb);rw[N,K.noI]at this;cases this
   refine wpOp_mono (fun Y w' h3=>⟨fun e=>absurd e x,fun _=>?_⟩) (wpOp_putIf l (hfree j p l d q y) (fun cs b=>m i s cs b G) (fun cs b=>m j p cs b l) W D X);obtain⟨T,-,Z⟩:=h3;obtain⟨z,h5⟩:=Z x;refine⟨z,ih (L.setIfInBounds j true) Y w' (fun k F=>?_) (fun k ok F U A V=>?_) (ready_mono t (Ne.symm d)) T z g ?_⟩
   ·by_cases B:j=k
    ·subst B;exact r
    ·rw[getD_set_ne false B]at F;exact f k F
   ·refine hfree k ok F U ?_ V
    by_cases C:j=k
    ·subst C;exact q
    ·rw[getD_set_ne true C]at A;exact A
   ·rw[Array.setIfInBounds_comm _ _ d];exact h5
def q4c(md:Region.Mode)(ops:Array Oper)(i:Nat):Nat->Array Bool->Array Bool
 | 0,R=>R
 | n+1,R=>q4c md ops i n ((List.range ops.size).map fun j=>R.getD j false || (j != i && match ops[j]? with | some o=>o.after.all (fun e=>!(Region.binds md e) || R.getD e.on false) | none=>false)).toArray
def q9v(md:Region.Mode)(ops:Array Oper)(L:Array Bool)(i c:Nat)(R:Array Bool):Bool:=
 !(R.getD c false) && !(R.getD i false) && (L.size == ops.size) && (List.range ops.size).all fun j=>(!(L.getD j false) || R.getD j false) && (j == i || R.getD j false || match ops[j]? with | some o=>o.after.any (fun e=>Region.binds md e && !(R.getD e.on false)) | none=>true)
theorem z9G{L:Array Bool}{i:Nat}{R:Array Bool}(h:q9v md ops L i c R=true):Shut md ops i c R/\∀ j,L.getD j false=true->R.getD j false=true:=by
 simp only[q9v,Bool.and_eq_true,Bool.not_eq_true',beq_iff_eq,List.all_eq_true,List.mem_range]at h;obtain⟨⟨⟨h1,h2⟩,h3⟩,d⟩:=h;refine⟨⟨h1,h2,fun j o b f hall=>?_⟩,fun j b=>?_⟩
 ·have a:j<ops.size:=(Array.getElem?_eq_some_iff.1 f).1;have:=(d j a).2;rw[f]at this;simp only[Bool.or_eq_true,beq_iff_eq,Array.any_eq_true',Bool.and_eq_true,Bool.not_eq_true']at this
  rcases this with (h | h) | ⟨e,g,hb,k⟩
  ·exact absurd h b
  ·exact h
  ·have:=hall e g hb;rw[k]at this;cases this
 ·by_cases a:j<ops.size
  ·have:=(d j a).1;simp only[Bool.or_eq_true,Bool.not_eq_true']at this
   rcases this with h | h
   ·rw[b]at h;cases h
   ·exact h
  ·have:L.getD j false=false:=by
    simp[Array.getD_eq_getD_getElem?,Array.getElem?_eq_none (show L.size<=j by omega)]
   rw[this]at b;cases b
theorem q8R{i:Nat}{b:Oper}{v:Value}{n:Nat}{L:Array Bool}{a:Act}{w:World}(e:ops[i]?=some b)
  (hs:Region.noSelect ops=true) (g:Region.free md ops L i=true) (j:(Region.ready md ops L).contains i=true) (f:q9v md ops L i c (q4c md ops i ops.size L)=true) (d:i≠c)
  (k:∀ c a w,Q (.panic c) (a.put b.dst v) w->Q (.panic c) a w) (l:YieldsIf P ops S b v a) (m:S w)
  (h:q2s P md ops Q S c n (L.setIfInBounds i true) (a.put b.dst v) w):q2s P md ops Q S c (n+1) L a w:=
 q6k e (Region.noSelect_spec hs) k (z9G f).1 n L a w (z9G f).2 (Region.free_spec e g) (by simpa using j) l m d h
theorem z2t{o:Oper}{n:Nat}{L:Array Bool}{a:Act}{w:World}(d:Region.ready md ops L=[c])(g:ops[c]?=some o)
  (h:∀ b:Act->World->Prop,(∀ a w,wpAny P md ops Q n (L.setIfInBounds c true) a w->b a w)->if Region.wanted o (yielded ops a.tmps)=true then Oper.wp P o a w b Q else b (a.put o.dst undef) w):q2s P md ops Q S c (n+1) L a w:=by
 refine⟨fun h0=>(by rw[d]at h0;cases h0),fun j f=>?_⟩
 rw[d,List.mem_singleton]at f;subst f;exact wpOp_step g fun b i=>h b fun a w k=>i a w ⟨fun _=>k,fun e=>absurd rfl e⟩
theorem j8m{i:Nat}{o:Oper}{n:Nat}{L:Array Bool}{a:Act}{w:World}(c:Region.ready md ops L=[i])(e:ops[i]?=some o)
  (h:∀ b:Act->World->Prop,(∀ a w,wpAny P md ops Q n (L.setIfInBounds i true) a w->b a w)->if Region.wanted o (yielded ops a.tmps)=true then Oper.wp P o a w b Q else b (a.put o.dst undef) w):wpAny P md ops Q (n+1) L a w:=by
 refine⟨fun h0=>(by rw[c]at h0;cases h0),fun j d=>?_⟩
 rw[c,List.mem_singleton]at d;subst d;exact wpOp_step e fun b f=>h b fun a w g=>f a w g
theorem j6M{i:Nat}{b:Oper}{v:Value}{n:Nat}{L:Array Bool}{a:Act}{w:World}(d:Option Tmp)(f:ops[i]?=some b)(hd:b.dst=d)
  (hs:Region.noSelect ops=true) (g:Region.free md ops L i=true) (j:(Region.ready md ops L).contains i=true) (k:q9v md ops L i c (q4c md ops i ops.size L)=true) (e:i≠c)
  (l:∀ c a w,Q (.panic c) (a.put d v) w->Q (.panic c) a w) (m:YieldsIf P ops S b v a) (o:S w)
  (h:q2s P md ops Q S c n (L.setIfInBounds i true) (a.put d v) w):q2s P md ops Q S c (n+1) L a w:=by
 subst hd;exact q8R f hs g j k e l m o h
theorem j9x{i:Nat}{b:Oper}{v:Value}{n:Nat}{L:Array Bool}{a:Act}{w:World}(d:Option Tmp)(e:ops[i]?=some b)(hd:b.dst=d)
  (hs:Region.noSelect ops=true) (f:Region.free md ops L i=true) (g:(Region.ready md ops L).contains i=true)
  (j:∀ c a w,Q (.panic c) (a.put d v) w->Q (.panic c) a w) (k:Yields P ops b v a)
  (h:wpAny P md ops Q n (L.setIfInBounds i true) (a.put d v) w):wpAny P md ops Q (n+1) L a w:=by
 subst hd;exact wpAny_take e hs f g j k h
theorem Y{b:Oper}{n:Nat}{L:Array Bool}{a:Act}{w:World}(i:Nat)(v:Value)(s:Tmp)(e:ops[i]?=some b)(hd:b.dst=some s)(f:S w)
  (g:∀ w,S w->(execOp a.eval b).run P w=.ok (.value v) w) (h:q2s P md ops Q S c n (L.setIfInBounds i true) (a.put (some s) v) w)
  (j:Region.wanted b (yielded ops a.tmps)=true:=by rfl) (hs:Region.noSelect ops=true:=by kernel_rfl) (k:Region.free md ops L i=true:=by kernel_rfl) (l:(Region.ready md ops L).contains i=true:=by kernel_rfl) (m:q9v md ops L i c (q4c md ops i ops.size L)=true:=by kernel_rfl) (d:i≠c:=by decide)
  (o:∀ c a w,Q (.panic c) (a.put (some s) v) w->Q (.panic c) a w:=by exact fun _ _ _ h=>h):q2s P md ops Q S c (n+1) L a w:=j6M (some s) e hd hs k l m d o (Or.inl ⟨j,g⟩) f h
theorem X{b:Oper}{n:Nat}{L:Array Bool}{a:Act}{w:World}(i:Nat)(v:Value)(s:Tmp)(d:ops[i]?=some b)(hd:b.dst=some s)
  (e:∀ w,(execOp a.eval b).run P w=.ok (.value v) w) (h:wpAny P md ops Q n (L.setIfInBounds i true) (a.put (some s) v) w)
  (f:Region.wanted b (yielded ops a.tmps)=true:=by rfl) (hs:Region.noSelect ops=true:=by kernel_rfl) (g:Region.free md ops L i=true:=by kernel_rfl) (j:(Region.ready md ops L).contains i=true:=by kernel_rfl)
  (k:∀ c a w,Q (.panic c) (a.put (some s) v) w->Q (.panic c) a w:=by exact fun _ _ _ h=>h):wpAny P md ops Q (n+1) L a w:=j9x (some s) d hd hs g j k (Or.inl ⟨f,e⟩) h
theorem pp{l:List Value}{d:List Deferred}{k:Nat}{v:Value}:Act.put ⟨l.toArray,d⟩ (some k) v=⟨(l.set k v).toArray,d⟩:=by simp[Act.put]
theorem pb{α:Type}{a b:α}{l:List α}:(a :: l).set 0 b=b :: l:=rfl
theorem pc{α:Type}{a b:α}{l:List α}{n:Nat}:(a :: l).set (n+1) b=a :: l.set n b:=rfl
theorem j9Y{i:Nat}{o:Oper}{n:Nat}{L:Array Bool}{a:Act}{w:World}(c:Region.ready md ops L=[i])(d:ops[i]?=some o)(e:o.guard=none)
  (h:∀ b:Act->World->Prop,(∀ a w,wpAny P md ops Q n (L.setIfInBounds i true) a w->b a w)->Oper.wp P o a w b Q):wpAny P md ops Q (n+1) L a w:=
 j8m c d fun b f=>by
  have g:Region.wanted o (yielded ops a.tmps)=true:=by simp[Region.wanted,e]
  rw[if_pos g];exact h b f
theorem z2q{i:Nat}{o:Oper}{n:Nat}{L:Array Bool}{a:Act}{w:World}(d:Region.ready md ops L=[i])(e:ops[i]?=some o)(f:o.guard=none)
  (ty:TypeId) (x y:Operand) (c:o.op=.store ty x y) (hd:o.dst=none) (b off:Nat) (cells:Array Value) (g:a.eval x=J2 (some ⟨b,off,none⟩)) (j:a.eval y=J4 cells)
  (k:w.there b off cells.size) (l:(P.info? ty).map (·.size)=some cells.size) (h1:cells.all (·.oneCell')=true)
  (h:wpAny P md ops Q n (L.setIfInBounds i true) a (w.setCells b off cells.toList)):wpAny P md ops Q (n+1) L a w:=
 j9Y d e f fun _ m=>wp_store_mid ty x y c b off cells g j k l h1 (m _ _ (by rw[hd];exact h))
theorem z1r{id:Nat}{a:Act}{w:World}(b:P.follows .mixedOrders=true)(h:q2s P .any ops Q S c ops.size (Array.replicate ops.size false) a w.drew):(Code.region id ops true).wp P Q a w:=
 wp_region_any b (q4t _ _ _ _ h)
end
end O
namespace O
open Go
section
variable {P:Program} {md:Region.Mode} {ops:Array Oper} {Q:Exit->Act->World->Prop} {S:World->Prop} {c:Nat}
theorem q6h{i:Nat}{p:Oper}{v:Value}(z:ops[i]?=some p)(g:∀ (j:Nat) (o:Oper) cs b,ops[j]?=some o->o.op≠.select cs b)
  (G:∀ c a w,Q (.panic c) (a.put p.dst v) w->Q (.panic c) a w) (s:i≠c) :
  ∀ (n:Nat) (L:Array Bool) (a:Act) (w:World),
   (∀ j q,ops[j]?=some q->j≠i->L.getD j true=false->(∀ e∈q.after,Region.binds md e=true->e.on≠i)->p.apart ops q=true) ->
   i∈Region.ready md ops L->Yields P ops p v a->S w ->
   q2s P md ops Q S c n (L.setIfInBounds i true) (a.put p.dst v) w->q2s P md ops Q S c (n+1) L a w:=by
 intro n
 induction n with
 | zero =>
  intro L a w _ l A C H;refine⟨fun h=>(by rw[h]at l;cases l),fun j B=>?_⟩
  by_cases d:j=i
  ·subst d;exact A.wpOp z ⟨fun e=>absurd e s,fun _=>⟨C,H⟩⟩
  ·have:=ready_mono B d;rw[H.1]at this;cases this
 | succ n ih =>
  intro L a w hfree l A C H;refine⟨fun h=>(by rw[h]at l;cases l),fun j B=>?_⟩
  by_cases d:j=i
  ·subst d;exact A.wpOp z ⟨fun e=>absurd e s,fun _=>⟨C,H⟩⟩
  ·have M:=H.2 j (ready_mono B d);obtain⟨m,q,r,hall⟩:=mem_ready.1 B
   have t:∀ e∈q.after,Region.binds md e=true->e.on≠i:=fun e N hb D=>by
    have h1:=hall e N hb;have h0:=(mem_ready.1 l).1;rw[D]at h1
    rcases Nat.lt_or_ge i L.size with h' | h'
    ·simp[h']at h0 h1;rw[h0]at h1;cases h1
    ·simp[Array.getElem?_eq_none h']at h1
   have f:∀ k ok,ops[k]?=some ok->k≠i->(L.setIfInBounds j true).getD k true=false ->
     (∀ e∈ok.after,Region.binds md e=true->e.on≠i)->p.apart ops ok=true:=fun k ok R E u F=>by
    refine hfree k ok R E ?_ F
    by_cases x:j=k
    ·subst x;exact m
    ·rw[getD_set_ne true x]at u;exact u
   refine wpOp_mono (fun K w' h3=>⟨fun e=>?_,fun e=>?_⟩) (wpOp_put r (hfree j q r d m t) (fun cs b=>g i p cs b z) (fun cs b=>g j q cs b r) G A M)
   ·refine wpAny_first z g G n (L.setIfInBounds j true) K w' f (ready_mono l (Ne.symm d)) h3.1 ?_;rw[Array.setIfInBounds_comm _ _ d];exact h3.2.1 e
   ·obtain⟨y,T⟩:=h3.2.2 e;refine⟨y,ih (L.setIfInBounds j true) K w' f (ready_mono l (Ne.symm d)) h3.1 y ?_⟩;rw[Array.setIfInBounds_comm _ _ d];exact T
theorem q2U{i:Nat}{b:Oper}{v:Value}{n:Nat}{L:Array Bool}{a:Act}{w:World}(d:Option Tmp)(e:ops[i]?=some b)(hd:b.dst=d)
  (hs:Region.noSelect ops=true) (f:Region.free md ops L i=true) (g:(Region.ready md ops L).contains i=true)
  (j:∀ c a w,Q (.panic c) (a.put d v) w->Q (.panic c) a w) (k:YieldsIf P ops S b v a) (l:S w)
  (h:wpAnyH P md ops Q S n (L.setIfInBounds i true) (a.put d v) w):wpAnyH P md ops Q S (n+1) L a w:=by
 subst hd;exact wpAnyH_take e hs f g j k l h
theorem Z{b:Oper}{n:Nat}{L:Array Bool}{a:Act}{w:World}(i:Nat)(v:Value)(s:Tmp)(d:ops[i]?=some b)(hd:b.dst=some s)(e:S w)
  (f:∀ w,S w->(execOp a.eval b).run P w=.ok (.value v) w) (h:wpAnyH P md ops Q S n (L.setIfInBounds i true) (a.put (some s) v) w)
  (g:Region.wanted b (yielded ops a.tmps)=true:=by rfl) (hs:Region.noSelect ops=true:=by kernel_rfl) (j:Region.free md ops L i=true:=by kernel_rfl) (k:(Region.ready md ops L).contains i=true:=by kernel_rfl)
  (l:∀ c a w,Q (.panic c) (a.put (some s) v) w->Q (.panic c) a w:=by exact fun _ _ _ h=>h):wpAnyH P md ops Q S (n+1) L a w:=q2U (some s) d hd hs j k l (Or.inl ⟨g,f⟩) e h
theorem G{b:Oper}{n:Nat}{L:Array Bool}{a:Act}{w:World}(i:Nat)(v:Value)(s:Tmp)(d:ops[i]?=some b)(hd:b.dst=some s)(e:S w)
  (h:wpAnyH P md ops Q S n (L.setIfInBounds i true) (a.put (some s) v) w)
  (f:∀ w,(execOp a.eval b).run P w=.ok (.value v) w:=by intro _;go_simp)
  (g:Region.wanted b (yielded ops a.tmps)=true:=by rfl) (hs:Region.noSelect ops=true:=by kernel_rfl) (j:Region.free md ops L i=true:=by kernel_rfl) (k:(Region.ready md ops L).contains i=true:=by kernel_rfl)
  (l:∀ c a w,Q (.panic c) (a.put (some s) v) w->Q (.panic c) a w:=by exact fun _ _ _ h=>h):wpAnyH P md ops Q S (n+1) L a w:=q2U (some s) d hd hs j k l (Or.inl ⟨g,fun w _=>f w⟩) e h
theorem U{b:Oper}{n:Nat}{L:Array Bool}{a:Act}{w:World}(i:Nat)(s:Tmp)(d:ops[i]?=some b)(hd:b.dst=some s)(e:S w)
  (h:wpAnyH P md ops Q S n (L.setIfInBounds i true) (a.put (some s) undef) w)
  (f:Region.wanted b (yielded ops a.tmps)=false:=by rfl) (hs:Region.noSelect ops=true:=by kernel_rfl) (g:Region.free md ops L i=true:=by kernel_rfl) (j:(Region.ready md ops L).contains i=true:=by kernel_rfl)
  (k:∀ c a w,Q (.panic c) (a.put (some s) undef) w->Q (.panic c) a w:=by exact fun _ _ _ h=>h):wpAnyH P md ops Q S (n+1) L a w:=q2U (some s) d hd hs g j k (Or.inr ⟨f,rfl⟩) e h
theorem z1k{i:Nat}{o:Oper}{n:Nat}{L:Array Bool}{a:Act}{w:World}(c:Region.ready md ops L=[i])(e:ops[i]?=some o)(f:o.guard=none)
  (h:∀ b:Act->World->Prop,(∀ a w,S w->wpAnyH P md ops Q S n (L.setIfInBounds i true) a w->b a w)->Oper.wp P o a w b Q):wpAnyH P md ops Q S (n+1) L a w:=by
 refine⟨fun h0=>(by rw[c]at h0;cases h0),fun j d=>?_⟩
 rw[c,List.mem_singleton]at d;subst d;refine wpOp_step e fun b g=>?_;rw[if_pos (show Region.wanted o (yielded ops a.tmps)=true by simp[Region.wanted,f])]
 exact h b fun a w k l=>g a w ⟨k,l⟩
theorem z4n{i j:Nat}{d e:Oper}{n:Nat}{L:Array Bool}{a:Act}{w:World}(q:Region.ready md ops L=[i,j])(f:ops[i]?=some d)(g:d.guard=none)(h:ops[j]?=some e)(l:e.guard=none)
  (h1:∀ b:Act->World->Prop,(∀ a w,S w->wpAnyH P md ops Q S n (L.setIfInBounds i true) a w->b a w)->Oper.wp P d a w b Q)
  (h2:∀ b:Act->World->Prop,(∀ a w,S w->wpAnyH P md ops Q S n (L.setIfInBounds j true) a w->b a w)->Oper.wp P e a w b Q):wpAnyH P md ops Q S (n+1) L a w:=by
 refine⟨fun h0=>(by rw[q]at h0;cases h0),fun k c=>?_⟩
 rw[q]at c
 rcases List.mem_cons.1 c with rfl | c
 ·refine wpOp_step f fun b m=>?_;rw[if_pos (show Region.wanted d (yielded ops a.tmps)=true by simp[Region.wanted,g])]
  exact h1 b fun a w o p=>m a w ⟨o,p⟩
 ·rw[List.mem_singleton]at c;subst c;refine wpOp_step h fun b m=>?_;rw[if_pos (show Region.wanted e (yielded ops a.tmps)=true by simp[Region.wanted,l])]
  exact h2 b fun a w o p=>m a w ⟨o,p⟩
theorem z0D{i:Nat}{o:Oper}{n:Nat}{L:Array Bool}{a:Act}{w:World}(d:Region.ready md ops L=[i])(e:ops[i]?=some o)(f:o.guard=none)
  (ty:TypeId) (x y:Operand) (c:o.op=.store ty x y) (hd:o.dst=none) (b off:Nat) (cells:Array Value) (g:a.eval x=J2 (some ⟨b,off,none⟩)) (j:a.eval y=J4 cells)
  (k:w.there b off cells.size) (l:(P.info? ty).map (·.size)=some cells.size) (h1:cells.all (·.oneCell')=true) (m:S (w.setCells b off cells.toList))
  (h:wpAnyH P md ops Q S n (L.setIfInBounds i true) a (w.setCells b off cells.toList)):wpAnyH P md ops Q S (n+1) L a w:=
 z1k d e f fun _ p=>wp_store_mid ty x y c b off cells g j k l h1 (p _ _ m (by rw[hd];exact h))
theorem z0z{i:Nat}{b:Oper}{v:Value}{n:Nat}{L:Array Bool}{a:Act}{w:World}(d:Option Tmp)(f:ops[i]?=some b)(hd:b.dst=d)
  (hs:Region.noSelect ops=true) (g:Region.free md ops L i=true) (j:(Region.ready md ops L).contains i=true) (e:i≠c)
  (k:∀ c a w,Q (.panic c) (a.put d v) w->Q (.panic c) a w) (l:Yields P ops b v a) (m:S w)
  (h:q2s P md ops Q S c n (L.setIfInBounds i true) (a.put d v) w):q2s P md ops Q S c (n+1) L a w:=by
 subst hd;exact q6h f (Region.noSelect_spec hs) k e n L a w (Region.free_spec f g) (by simpa using j) l m h
end
end O
section
open Go.RowKit
theorem j4G{s:St}:∀ {n k:Nat},k<n->j4O s k=false->pvs s n=false
  | 0,_,h,_=>by omega
  | n+1,k,h,hk=>by
    rw[pvs]
    rcases (show k<n∨k=n by omega) with h' | rfl
    · rw[j4G h' hk,Bool.false_and]
    · rw[hk,Bool.and_false]
theorem q4K{s:St}:∀ {n k:Nat},pvs s n=true->k<n->j4O s k=true
  | 0,_,_,h=>by omega
  | n+1,k,h,hk=>by
    rw[pvs,Bool.and_eq_true]at h
    rcases (show k<n∨k=n by omega) with h' | rfl
    · exact q4K h.1 h'
    · exact h.2
theorem z2B{x:Vd}(h:vOk x=true):inA x.tok=true/\inA x.sh=true/\inA x.lost=true:=by
  unfold vOk at h;simp only[Bool.and_eq_true]at h;exact⟨h.1.1.1.1,h.1.1.1.2,h.1.1.2⟩
theorem z8c{next:Int}:∀ {l:List Wt} {last:Int},wOk next last l=true->∀ x∈l,inA x.amt=true
  | [],_,_,x,a=>by cases a
  | y :: r,last,h,x,a=>by
    rw[wOk,Bool.and_eq_true]at h
    rcases List.mem_cons.1 a with rfl | a
    · have:=h.1;unfold q1t at this;simp only[Bool.and_eq_true]at this;exact this.1.1.2
    · exact z8c h.2 x a
theorem z8b(s:St)(ao:Option Addr)(sb so c:Nat)(w:World)(A:z2L w ao sb so s.W) :
    Calls prog 94 #[J4 (stC s (J1 ao s.W.length c))] w fun e w'=>e=.returned (J3 (z0k s))/\Bl w w':=by
  have v:=SAt.new w (stC s (J1 ao s.W.length c));have g:Hid (Bl w (w.alloc (J5 (stC s (J1 ao s.W.length c)) 43))):=znw w _;have HW:Hid (z2L w ao sb so s.W):=A;have E:=A.len;have j:=z0p s.b.f0 s.b.f1 s.b.f2 s.b.f3 s.b.bo s.b.wa s.b.bu;have l:=fun w h=>q0I s.W ao sb so c s.next w h
  have y:Hid (z0k s=(z1I s.b.f0 s.b.f1 s.b.f2 s.b.f3 s.b.bo s.b.wa s.b.bu && decide (1<=s.next) && decide (s.next<=1125899906842624) && decide (s.W.length<=60) && wOk s.next 0 s.W && pvs s 6 && bal s)):=rfl
  have m:Hid (wOk s.next 0 s.W=true->∀ x∈s.W,inA x.amt=true):=z8c
  generalize z1I s.b.f0 s.b.f1 s.b.f2 s.b.f3 s.b.bo s.b.wa s.b.bu=t1 at *;generalize wOk s.next 0 s.W=t2 at *
  clear A
  go_enter func94,ntmps94
  go_upto_region 1 with fail
  generalize w.alloc (J5 (stC s (J1 ao s.W.length c)) 43)=w0 at *;obtain⟨H,K,L,M,N,P,Q,R,T⟩:=z0u v
  go_wp2_with (first
    | (go_at_call 134;refine (j _).mono ?_;rintro e w1⟨rfl,h1⟩;have z:=v.later h1 v.lt;have a:Hid (Bl w w1):=zbt g.out h1;obtain⟨y0,U,X,Y,Z,y5,y6,y7,y8⟩:=z0u z;clear H K L M N P Q R T y0 U X Y Z y5 y6 h1 v g)
    | (go_at_call 135;refine (l _ (by exact HW.out.over a.out)).mono ?_;rintro e B⟨rfl,h2⟩;have n:Hid (Bl w B):=zbt a.out h2;have C:=z.later h2 z.lt;clear h2 z y7 y8))
  all_goals first
    | (go_ret;first | (refine⟨?_,n.out⟩;rw[y.out];congr 1;congr 1;first | (simp_all;done) | (cases t2 <;> simp_all <;> omega) | (simp_all;omega) | (simp_all;intros;omega)) | (refine⟨?_,a.out⟩;rw[y.out];congr 1;congr 1;first | (simp_all;done) | (simp_all;omega) | (simp_all;intros;omega)))
    | skip
  have o:s.W.length<=60:=by omega
  have p:z0k s=(pvs s 6 && bal s):=by rw[y.out];simp_all
  have q:Hid (z0k s=(pvs s 6 && bal s)):=p;have HA:Hid (∀ x∈s.W,inA x.amt=true):=m.out (by simp_all)
  have r:w.heap.size<B.heap.size:=C.lt;clear y m j l a;clear p;obtain rfl:t2=true:=by simp_all
  simp only[Bool.not_true,Bool.or_false]
  go_loopw [30] (fun i wl=>∃ k:Nat,k<=6/\i=J I (k:Int)/\Hid (pvs s k=true/\Bl B wl)) (fun i _=>(6 - intOf i).toNat)
  case atStart=>exact⟨0,by omega,rfl,rfl,Below.refl _ _⟩
  case round =>
    obtain⟨k,hk,rfl,HR⟩:=hrel;have d:Hid (Bl w wr):=n.out.trans (HR.out.2.mono (Nat.le_of_lt r));have t:=C.later HR.out.2 r;clear C
    by_cases f:k<6
    · obtain⟨c0,c1,c2,c3,F⟩:=t.val k f
      have a0:(k:Int)<6:=by omega
      have j1:=z6L w.heap.size (7+k * 5) (s.V k) wr c0 c1 c2 c3 F;have j2:=z8F s (J1 ao s.W.length c) w.heap.size k f wr t;have G:Hid (j4O s k=(vOk (s.V k) && q5h s.S k (s.V k).sh)):=rfl;generalize vOk (s.V k)=t3 at *;generalize q5h s.S k (s.V k).sh=t4 at *;clear c0 c1 c2 c3 F t
      go_wp2_with (first
        | (go_at_call 136;refine j1.mono ?_;rintro e w4⟨rfl,rfl⟩)
        | (go_at_call 137;refine j2.mono ?_;rintro e w4⟨rfl,rfl⟩))
      all_goals first
        | (go_ret;refine⟨?_,d.out⟩;rw[q.out,j4G f (by rw[G.out];simp_all)];rfl)
        | (go_roundw
           case rel =>
             have hp:pvs s (k+1)=true:=by rw[pvs,HR.out.1,G.out];simp_all
             exact⟨k+1,by omega,by go_num,hp,HR.out.2⟩
           case measure=>simp[intOf];omega)
    · obtain rfl:k=6:=by omega
      have hj:=z8D s ao sb so c w.heap.size wr t (HW.out.over d.out) o (fun i hi=>by have h:=q4K HR.out.1 hi;rw[j4O,Bool.and_eq_true]at h;exact⟨(z2B h.1).1,(z2B h.1).2.2⟩) HA.out
      have u:z0k s=bal s:=by rw[q.out,HR.out.1,Bool.true_and]
      have D:Hid (z0k s=bal s):=u;clear u;generalize bal s=t5 at *;clear t
      go_wp2_with (go_at_call 138;refine hj.mono ?_;rintro e w5⟨rfl,h5⟩)
      go_ret;refine⟨?_,zbt d.out h5⟩;rw[D.out];rfl
theorem z1S(s:St)(ao:Option Addr)(sb so c b:Nat)(v:Int)(w:World)(h:SAt w b (stC s (J1 ao s.W.length c)))(d:z2L w ao sb so s.W) :
  Calls prog 72 #[J2 (some ⟨b,0,none⟩),J I v] w fun e w'=>e=.returned (J I (z6z s v))/\Bl w w':=by
 have a:=h.range;have f:=z8b s ao sb so c w d;have g:=z8s v;unfold z6z;generalize z0k s=t1 at *;generalize isV v=t2 at *;clear h d
 go_enter func72,ntmps72
 go_upto_region 1 with fail
 apply wp_region_lit
 iterate 6 go_step
 refine wpList_load_mid rfl 43 _ rfl b 0 rfl _ _ a underlying43 rfl (by rw[z0B];rfl) ?_
 clear a
 go_wp2_with (first
  | (go_at_call 94;refine f.mono ?_;rintro e w1⟨rfl,i⟩)
  | (go_at_call 106;refine (g _).mono ?_;rintro e j⟨rfl,rfl⟩))
 all_goals (go_ret;refine⟨?_,i⟩;first | (simp_all;done) | (congr 1;congr 1;simp_all))
theorem z2Q(s:St)(ao:Option Addr)(sb so c b:Nat)(d v:Int)(w:World)(h:SAt w b (stC s (J1 ao s.W.length c)))(a:z2L w ao sb so s.W) :
  Calls prog 98 #[J2 (some ⟨b,0,none⟩),J I d,J I v] w fun e w'=>e=.returned (J I (z0Z s d v))/\Bl w w':=by
 have f:=z1S s ao sb so c b v w h a;have g:=z9P d;unfold z0Z;generalize z6z s v=t1 at *;generalize isD d=t2 at *;clear h a
 go_enter func98,ntmps98
 go_wp2_with (first
  | (go_at_call 72;refine f.mono ?_;rintro e w1⟨rfl,i⟩)
  | (go_at_call 141;refine (g _).mono ?_;rintro e j⟨rfl,rfl⟩))
 all_goals (go_ret;refine⟨?_,i⟩;first | (simp_all;done) | (congr 1;congr 1;simp_all))
structure But(b:Nat)(w w':World):Prop where
 os:w'.os=w.os
 tape:w'.tape=w.tape
 output:w'.output=w.output
 size:w'.heap.size=w.heap.size
 block:∀ k,k≠b->w'.heap[k]?=w.heap[k]?
theorem But.refl(b:Nat)(w:World):But b w w:=⟨rfl,rfl,rfl,rfl,fun _ _=>rfl⟩
theorem But.set{b:Nat}{w w':World}(h:But b w w')(o:Nat)(v:Value):But b w (w'.setCell ⟨b,o,none⟩ v):=
 ⟨h.os,h.tape,h.output,(by simp[World.setCell];exact h.size),fun k a=>(Below.heap_setCell _ _ _ _ a).trans (h.block k a)⟩
theorem But.below{b B:Nat}{w w':World}(h:But b w w')(a:B<=b):Below B w w':=⟨h.os,h.tape,h.output,by rw[h.size];exact Nat.le_refl _,fun k c=>h.block k (by omega)⟩
theorem But.z1q{b c:Nat}{w w':World}{cs:Array Value}(h:But b w w')(hc:c≠b)(S:SAt w c cs):SAt w' c cs:=(h.block c hc).trans S
theorem j0g(s:St)(sl:Value)(v:Nat)(a:v<6)(x:Int):(stC s sl).setIfInBounds (7+v * 5) (J I x)=stC { s with V:=z1Q s.V v { s.V v with tok:=x } } sl:=by
 rcases (show v=0∨v=1∨v=2∨v=3∨v=4∨v=5 by omega) with rfl | rfl | rfl | rfl | rfl | rfl <;> rfl
theorem y0G(s:St)(sl:Value)(v:Nat)(a:v<6)(x:Int):(stC s sl).setIfInBounds (7+v * 5+1) (J I x)=stC { s with V:=z1Q s.V v { s.V v with sh:=x } } sl:=by
 rcases (show v=0∨v=1∨v=2∨v=3∨v=4∨v=5 by omega) with rfl | rfl | rfl | rfl | rfl | rfl <;> rfl
theorem j3s(s:St)(sl:Value)(v:Nat)(a:v<6)(x:Int):(stC s sl).setIfInBounds (7+v * 5+2) (J I x)=stC { s with V:=z1Q s.V v { s.V v with lost:=x } } sl:=by
 rcases (show v=0∨v=1∨v=2∨v=3∨v=4∨v=5 by omega) with rfl | rfl | rfl | rfl | rfl | rfl <;> rfl
theorem j2d(s:St)(sl:Value)(v:Nat)(a:v<6)(x:Bool):(stC s sl).setIfInBounds (7+v * 5+3) (J3 x)=stC { s with V:=z1Q s.V v { s.V v with jail:=x } } sl:=by
 rcases (show v=0∨v=1∨v=2∨v=3∨v=4∨v=5 by omega) with rfl | rfl | rfl | rfl | rfl | rfl <;> rfl
theorem j2b(s:St)(sl:Value)(v:Nat)(a:v<6)(x:Bool):(stC s sl).setIfInBounds (7+v * 5+4) (J3 x)=stC { s with V:=z1Q s.V v { s.V v with dead:=x } } sl:=by
 rcases (show v=0∨v=1∨v=2∨v=3∨v=4∨v=5 by omega) with rfl | rfl | rfl | rfl | rfl | rfl <;> rfl
theorem j6S(s:St)(sl:Value)(d v:Nat)(hd:d<4)(a:v<6)(x:Int):(stC s sl).setIfInBounds (37+d * 6+v) (J I x)=stC { s with S:=z6T s.S d v x } sl:=by
 rcases (show d=0∨d=1∨d=2∨d=3 by omega) with rfl | rfl | rfl | rfl <;> rcases (show v=0∨v=1∨v=2∨v=3∨v=4∨v=5 by omega) with rfl | rfl | rfl | rfl | rfl | rfl <;> rfl
theorem j3t(s:St)(sl:Value)(x:Int):(stC s sl).setIfInBounds 62 (J I x)=stC { s with next:=x } sl:=rfl
theorem q2p(s:St)(sl a:Value):(stC s sl).setIfInBounds 61 a=stC s a:=rfl
theorem q1I(V:Nat->Vd)(v:Nat)(x y:Vd):z1Q (z1Q V v x) v y=z1Q V v y:=by funext i;unfold z1Q;split <;> rfl
theorem z6S(V:Nat->Vd)(v:Nat)(x:Vd):z1Q V v x v=x:=if_pos rfl
theorem add_eq(s:St)(d v:Nat)(t n:Int):z8S s d v t n={ ({ ({ s with V:=z1Q s.V v { s.V v with tok:=(s.V v).tok+t } }:St) with V:=z1Q (z1Q s.V v { s.V v with tok:=(s.V v).tok+t }) v { (z1Q s.V v { s.V v with tok:=(s.V v).tok+t }) v with sh:=(s.V v).sh+n } }:St) with S:=z6T s.S d v (s.S d v+n) }:=by
 unfold z8S;rw[q1I,z6S]
theorem j0W(b:Nat)(w:World)(n:Nat):But b w (w.drewN n):=⟨rfl,rfl,rfl,rfl,fun _ _=>rfl⟩
theorem q4L(s:St)(sl:Value)(b d v:Nat)(t n:Int)(w:World)(h:SAt w b (stC s sl))(hd:d<4)(a:v<6)
  (h1:-4611686018427387904<=(s.V v).tok+t/\(s.V v).tok+t<=4611686018427387904) (h2:-4611686018427387904<=(s.V v).sh+n/\(s.V v).sh+n<=4611686018427387904) (h3:-4611686018427387904<=s.S d v+n/\s.S d v+n<=4611686018427387904) :
  Calls prog 102 #[J2 (some ⟨b,0,none⟩),J I (d:Int),J I (v:Int),J I t,J I n] w fun e w'=>e=.returned (.tuple #[])/\SAt w' b (stC (z8S s d v t n) sl)/\But b w w':=by
 have p:(d:Int)<4:=by omega
 have q:(v:Int)<6:=by omega
 have hd0:(0:Int)<=(d:Int):=by omega
 have r:(0:Int)<=(v:Int):=by omega
 go_enter func102,ntmps102
 go_upto_region 0 with fail
 go_quiet (fail);have j:SAt (w.drewN nq) b (stC s sl):=h;have c:Hid (But b w (w.drewN nq)):=j0W b w nq;generalize w.drewN nq=w0 at *;obtain⟨c0,c1,c2,c3,k⟩:=j.val v a;have f0:=j.free (7+v * 5)
 go_upto_region 2 with fail
 have f:=j.set (7+v * 5) (J I ((s.V v).tok+t));rw[j0g s sl v a]at f;have g:Hid (But b w (w0.setCell ⟨b,7+v * 5,none⟩ (J I ((s.V v).tok+t)))):=c.out.set _ _;generalize w0.setCell ⟨b,7+v * 5,none⟩ (J I ((s.V v).tok+t))=w1 at *;clear c0 c1 c2 c3 k f0 j c h;obtain⟨c0,c1,c2,c3,k⟩:=f.val v a;simp only[z6S]at c1;have f0:=f.free (7+v * 5+1)
 go_upto_region 3 with fail
 have i:=f.set (7+v * 5+1) (J I ((s.V v).sh+n));rw[y0G _ sl v a]at i;have l:Hid (But b w (w1.setCell ⟨b,7+v * 5+1,none⟩ (J I ((s.V v).sh+n)))):=g.out.set _ _;generalize w1.setCell ⟨b,7+v * 5+1,none⟩ (J I ((s.V v).sh+n))=w2 at *;clear c0 c1 c2 c3 k f0 f g;have c0:=i.shr d v hd a;have f0:=i.free (37+d * 6+v);have m:=i.set (37+d * 6+v) (J I (s.S d v+n));rw[j6S _ sl d v hd a]at m;have o:Hid (SAt (w2.setCell ⟨b,37+d * 6+v,none⟩ (J I (s.S d v+n))) b (stC (z8S s d v t n) sl)):=by rw[add_eq];exact m
 clear i m;go_wp2;go_end0;exact⟨rfl,o.out,l.out.set _ _⟩
theorem z5r{d:Func}{p q:Tmp}(h:d.results=#[.cell p 43,.tmp q])(a:Array Value)(w:World)(g:Nat)(cs:Array Value)(v:Value)
  (hp:a.getD p undef=J2 (some ⟨g,0,none⟩)) (e:a.getD q undef=v) (f:SAt w g cs) (b:cs.size=63) :
  (results d a).run prog w=.ok (.tuple #[J4 cs,v]) w:=by
 have hp':a[p]?.getD undef=J2 (some ⟨g,0,none⟩):=by simpa using hp
 have c:a[q]?.getD undef=v:=by simpa using e
 simp[results,h,hp',c,asAddr,run_loadVar_row w g 43 43 cs (0,0) _ f underlying43 rfl (by rw[z0B,b])]
theorem z0O{f:Func}{p q:Tmp}(a:f.results=#[.cell p 43,.tmp q]){B g:Nat}{w wq:World}{d:Array Value}(R:SAt wq g d)(h:d.size=63)(H:Below B w wq)(i:B<=g)(b:St)(sl:Value)(c:Int)(r:St×Int)(j:r=(b,c))(act:Act)
  (k:act.tmps.getD p undef=J2 (some ⟨g,0,none⟩)) (l:act.tmps.getD q undef=J I c) (hd:act.defers=[]) :
  bodyPost prog f (fun e w'=>e=.returned (.tuple #[J4 (stC r.1 sl),J I r.2])/\Below B w w') Exit.ret act (wq.setCells g 0 (stC b sl).toList):=by
 subst j;have m:=R.z0L (ds:=stC b sl) (by rw[h];rfl)
 exact bodyPost_ret (v:=.tuple #[J4 (stC b sl),J I c]) (z5r a _ _ g _ _ k l m rfl) hd ⟨rfl,z0b i _ _ _ H⟩
theorem z1U{ops:Array Oper}{rest:List Oper}{o:Oper}{a:Act}{w:World}{Q:Exit->Act->World->Prop}(d:o.guard=none)(x:Operand)(b:o.op=Op.move x)(e:wpList prog ops Q rest (a.put o.dst (a.eval x)) w) :
  wpList prog ops Q (o :: rest) a w:=by
 refine wpList_plain d fun _ c=>?_;unfold Oper.wp
 simp[execOp,b]
 exact c _ _ e
theorem z0v:Z63.size=63:=rfl
theorem z3m{b k o:Nat}(c:k≠b)(a:List Value)(p:Nat)(w:World):(w.setCells b p a).cell? ⟨k,o,none⟩=w.cell? ⟨k,o,none⟩:=World.cell?_of_block (w:=w) (z1l c a p w)
theorem z2L.sets{w:World}{ao:Option Addr}{b o g:Nat}{W:List Wt}(h:z2L w ao b o W)(d:0<W.length->b≠g)(e:List Value)(p:Nat):z2L (w.setCells g p e) ao b o W:=by
 refine⟨h.adr,h.len,fun i x c=>?_⟩;have a:b≠g:=d (by have:=(List.getElem?_eq_some_iff.1 c).1;omega)
 obtain⟨h0,h1,h2,h3,f,j,k,l⟩:=h.cell i x c;exact⟨(z3m a _ _ _).trans h0,(z3m a _ _ _).trans h1,(z3m a _ _ _).trans h2,(z3m a _ _ _).trans h3,(z3m a _ _ _).trans f,(z3m a _ _ _).trans j,(z3m a _ _ _).trans k,(z3m a _ _ _).trans l⟩
theorem z2L.but{w w':World}{ao:Option Addr}{b o g:Nat}{W:List Wt}(h:z2L w ao b o W)(hb:But g w w')(d:0<W.length->b≠g):z2L w' ao b o W:=by
 refine⟨h.adr,h.len,fun i x c=>?_⟩;have a:b≠g:=d (by have:=(List.getElem?_eq_some_iff.1 c).1;omega)
 have k:∀ o,w'.cell? ⟨b,o,none⟩=w.cell? ⟨b,o,none⟩:=fun o=>World.cell?_of_block (w:=w) (hb.block b a);obtain⟨h0,h1,h2,h3,e,f,j,l⟩:=h.cell i x c;exact⟨(k _).trans h0,(k _).trans h1,(k _).trans h2,(k _).trans h3,(k _).trans e,(k _).trans f,(k _).trans j,(k _).trans l⟩
def z8M(v:Value):Sem Value:=Instr.loadAt 43 v
theorem z1P(v:Value):Instr.loadAt 43 v=z8M v:=rfl
theorem SAt.z8M{w:World}{b:Nat}{cs:Array Value}(h:SAt w b cs)(hs:cs.size=63):(z8M (J2 (some ⟨b,0,none⟩))).run prog w=.ok (J4 cs) w:=h.load hs
end
namespace Cd
open Go.RowKit
def z4D(a:Int)(l:List Int):Int:=l.foldl (fun n c=>n * 256+c) a
theorem z7H(m:Nat):(2:Int) ^ (8 * (m+1))=2 ^ (8 * m) * 256:=by
 rw[show 8 * (m+1)=8 * m+8 by omega,Int.pow_add];rfl
theorem q5b(m:Nat):(0:Int)<2 ^ (8 * m):=Int.pow_pos (by decide)
theorem j7Y(n:Int)(m:Nat):∀ c∈be n m,0<=c/\c<256:=by
 induction m with
 | zero=>simp[be]
 | succ m ih =>
  intro c hc
  rcases List.mem_cons.1 hc with rfl | hc
  ·omega
  ·exact ih c hc
theorem j1C(k i v n:Int)(S:List (Int×Int))(D:List Int):∀ c∈enc k i v n S D,0<=c/\c<256:=by
 intro c hc;unfold enc q4j at hc;simp only[List.mem_append,List.mem_flatMap,z5p]at hc
 rcases hc with ((((((h | h) | h) | h) | h) | ⟨p,_,h | h⟩) | h) | ⟨p,_,h⟩ <;> exact j7Y _ _ c h
def encS(k i v n:Int)(S:List (Int×Int))(D:List Int):ByteArray:=if z0n k i v n S D=0 then strOfNums (enc k i v n S D) else ⟨#[]⟩
theorem z6E(k i v n:Int)(S:List (Int×Int))(D:List Int)(sa da:Option Addr)(cs cd sb so db dO:Nat)(w:World)(L:q7h w S D sa da sb so db dO) :
  Calls prog 117 #[J4 #[J I k,J I i,J I v,J I n,J1 sa S.length cs,J1 da D.length cd]] w fun e w'=>e=.returned (.tuple #[.string (encS k i v n S D),J I (z0n k i v n S D)])/\Bl w w':=by
 by_cases h:z0n k i v n S D=0
 ·rw[encS,if_pos h,h];exact q8J k i v n S D sa da cs cd sb so db dO w L.hls L.hld L.hsa L.hda L.PS L.PD h
 ·rw[encS,if_neg h];exact q5G k i v n S D sa da cs cd sb so db dO w L.hls L.hld L.hsa L.hda L.PS L.PD h
end Cd
namespace Pv
open Go.RowKit
def z8K(last:Int)(x:Int×Int):Bool:=decide (last<x.1) && decide (x.1<=5) && decide (1<=x.2) && decide (x.2<=1125899906842624)
def z2W(last:Int):List (Int×Int)->Bool
 | []=>true
 | x :: l=>z8K last x && z2W x.1 l
def z2m(last:Int):List Int->Bool
 | []=>true
 | x :: l=>(decide (last<x) && decide (x<=5)) && z2m x l
theorem z4V{α:Type}{l:List α}{k:Nat}(h:k<l.length):∃ x,l[k]?=some x/\l.drop k=x :: l.drop (k+1):=⟨l[k],List.getElem?_eq_getElem h,List.drop_eq_getElem_cons h⟩
theorem q0R{α:Type}{l:List α}{k:Nat}(h:k<l.length):∃ x,l[k]?=some x/\l.drop k=x :: l.drop (k+1):=⟨l[k],List.getElem?_eq_getElem h,List.drop_eq_getElem_cons h⟩
theorem q5r(a b:List (Int×Int))(u v:Value)(P P':Nat->Prop)(w:World)(hu:Rep P w u 2 16 (pwC a))(N:Rep P' w v 2 16 (pwC b)) :
  Calls prog 115 #[u,v] w fun e w'=>e=.returned (J3 (decide (a=b)))/\Bl w w':=by
 obtain⟨A,C,rfl,hs,-,hc,-⟩:=hu.open (z0c _) (by decide)
 obtain⟨A',C',rfl,F,-,m,-⟩:=N.open (z0c _) (by decide)
 have X:=J6 hc;have H:=J6 m;have Y:a.length<=8796093022202:=by omega
 have Z:b.length<=8796093022202:=by omega
 obtain⟨G,K⟩:∃ G,decide (a=b)=G:=⟨_,rfl⟩;have L:=J6 K;rw[K];clear hc m hu N hs F K
 go_enter func115,ntmps115
 by_cases Q:a.length=b.length
 ·have j:(a.length:Int)=(b.length:Int):=by omega
  have n:((a.length:Int) != (b.length:Int))=false:=by simpa using j
  go_upto_region 4 with fail
  go_loopw [13] (fun i wl=>∃ (k:Nat),k<=a.length/\i=J I (k:Int)/\Hid (G=decide (a.drop k=b.drop k)/\Bl w wl)) (fun i _=>a.length - (intOf i).toNat)
  case atStart=>exact⟨0,Nat.zero_le _,rfl,by rw[List.drop_zero,List.drop_zero];exact L.out.symm,Below.refl _ _⟩
  case round =>
   obtain⟨k,hk,rfl,HR⟩:=hrel
   by_cases o:k<a.length
   ·have a0:(k:Int)<(a.length:Int):=by omega
    have a1:(k:Int)<(b.length:Int):=by omega
    obtain⟨x,R,hd⟩:=q0R o;obtain⟨y,S,q⟩:=q0R (l:=b) (k:=k) (by omega)
    obtain⟨s,t,rfl,-,r,hcell⟩:=X.out (by omega)
    obtain⟨bb,z,rfl,-,f,hcell'⟩:=H.out (by omega)
    have T:a.getD k (0,0)=x:=by simp[List.getD,R]
    have U:b.getD k (0,0)=y:=by simp[List.getD,S]
    obtain⟨p0,p1⟩:=z2j a k o;obtain⟨q0,q1⟩:=z2j b k (by omega)
    rw[T]at p0 p1;rw[U]at q0 q1;have c0:wr.cell? ⟨s,t+k * 2,none⟩=some (J I x.1):=(HR.out.2.cell (p:=⟨s,t+k * 2,none⟩) r).trans (hcell _ _ p0);have c1:wr.cell? ⟨s,t+k * 2+1,none⟩=some (J I x.2):=(HR.out.2.cell (p:=⟨s,t+k * 2+1,none⟩) r).trans (hcell _ _ p1);have d0:wr.cell? ⟨bb,z+k * 2,none⟩=some (J I y.1):=(HR.out.2.cell (p:=⟨bb,z+k * 2,none⟩) f).trans (hcell' _ _ q0);have d1:wr.cell? ⟨bb,z+k * 2+1,none⟩=some (J I y.2):=(HR.out.2.cell (p:=⟨bb,z+k * 2+1,none⟩) f).trans (hcell' _ _ q1);have B:Hid (G=decide (x :: a.drop (k+1)=y :: b.drop (k+1))):=by have:=HR.out.1;rw[hd,q]at this;exact this
    have g:=J6 HR.out.2;clear HR hd q R S T U p0 p1 q0 q1 hcell hcell';obtain⟨D,V⟩:=x;obtain⟨E,W⟩:=y;dsimp only at c0 c1 d0 d1
    by_cases c:D=E/\V=W
    ·obtain⟨rfl,rfl⟩:=c;have d:Hid (G=decide (a.drop (k+1)=b.drop (k+1))):=by rw[Hid,B.out];simp
     clear B
     go_upto_region 6 with fail
     go_quiet (fail);simp only[Exit.then];apply_assumption;go_wp2
     first | exact⟨⟨k+1,by omega,by go_num,d.out,below_drewN g.out _⟩,by simp[intOf];omega⟩ | exact⟨⟨k+1,by omega,by go_num,d.out,g.out⟩,by simp[intOf];omega⟩ | ((repeat apply Exists.intro);exact⟨⟨k+1,by omega,by go_num,d.out,below_drewN g.out _⟩,rfl⟩) | ((repeat apply Exists.intro);exact⟨⟨k+1,by omega,by go_num,d.out,g.out⟩,rfl⟩)
    ·have e:G=false:=by
      rw[B.out];refine decide_eq_false fun h=>c ?_;have:=(List.cons.inj h).1;exact⟨congrArg Prod.fst this,congrArg Prod.snd this⟩
     subst e
     have M:D≠E∨(D=E/\V≠W):=by
      by_cases h:D=E
      ·exact .inr ⟨h,fun h2=>c ⟨h,h2⟩⟩
      ·exact .inl h
     clear B c L
     rcases M with h1 | ⟨rfl,h2⟩
     ·go_upto_region 6 with fail
      go_quiet (fail);simp only[Exit.then];apply_assumption;go_wp2;go_ret
      first | exact⟨rfl,below_drewN g.out _⟩ | exact⟨rfl,g.out⟩
     ·go_upto_region 6 with fail
      go_quiet (fail);simp only[Exit.then];apply_assumption;go_wp2;go_ret
      first | exact⟨rfl,below_drewN g.out _⟩ | exact⟨rfl,g.out⟩
   ·obtain rfl:k=a.length:=by omega
    have e:G=true:=by have:=HR.out.1;rw[List.drop_length,Q,List.drop_length]at this;simpa using this
    subst e;go_wp2;go_ret;exact⟨rfl,HR.out.2⟩
 ·have j:¬ ((a.length:Int)=(b.length:Int)):=by omega
  have n:((a.length:Int) != (b.length:Int))=true:=by simpa using j
  have e:G=false:=by rw[<- L.out];exact decide_eq_false fun h=>Q (by rw[h])
  subst e;go_wp2;go_ret;exact⟨rfl,Below.refl _ _⟩
theorem j7j:(prog.info? 65).map (fun i=>(i.zero,i.size,i.bytes))=some (some (J4 #[J I 0,J I 0]),2,16):=by kernel_rfl
theorem q2i(w:World)(a:Option Addr)(n c:Nat):(binOp .eql 44 (J1 a n c) (J1 none 0 0)).run prog w=.ok (J3 a.isNone) w:=by
 simp[binOp,run_equal_slice_nil w 44 65 a n c underlying44]
theorem z9V(w:World):(w.alloc (J5 #[] 65)).ownsRow w.heap.size 65 2 (J1 (some ⟨w.heap.size,0,none⟩) 0 0) 0 []:=⟨rfl,.inr ⟨w.heap.size,0,#[],rfl,Nat.le_refl _,heap_alloc_new _ _,Nat.le_refl _,Nat.zero_le _,rfl,rfl⟩⟩
theorem z7O{P:Nat->Prop}(w:World)(a:Addr)(c:Nat)(l:List (Int×Int))(h:Rep P w (J1 (some a) l.length c) 2 16 (pwC l)) :
  ∃ A C w',(Builtin.append_ #[44,44] 44 #[J1 (some ⟨w.heap.size,0,none⟩) 0 0,J1 (some a) l.length c]).run prog (w.alloc (J5 #[] 65))=.ok (J1 A l.length C) w'/\w'.ownsRow w.heap.size 65 2 (J1 A l.length C) l.length (pwC l)/\Bl w w':=by
 obtain⟨i0,n,d,e,f⟩:=info_parts j7j;obtain⟨v,C0,o,x,-,-,i⟩:=(h.over (znw w (J5 #[] 65))).open (z0c l) (by decide)
 cases o
 obtain⟨v',w',p,m,b,-,q⟩:=run_append_own_at (P:=prog) (w.alloc (J5 #[] 65)) w.heap.size 44 44 65 i0 _ 2 16 underlying44 n d e f rfl (by omega) _ 0 [] (z9V w) a l.length c (pwC l) (z0c l)
  (fun j u r=>i a rfl j u r) (z6U l) (by simp only[maxLen];omega) (by omega) (by simp)
 rw[Nat.zero_add,List.nil_append]at m
 have s:∃ A C,v'=J1 A l.length C:=by
  rcases m.2 with⟨rfl,h0⟩ | ⟨g,cap,cur,rfl,_⟩
  ·rw[h0];exact⟨none,0,rfl⟩
  ·exact⟨_,_,rfl⟩
 obtain⟨A,C,rfl⟩:=s;refine⟨A,C,w',p,m,?_⟩;have hb:=(Below.refl w.heap.size w).alloc (Nat.le_refl _) (J5 #[] 65);exact⟨b.os.trans hb.os,b.tape.trans hb.tape,b.output.trans hb.output,Nat.le_trans hb.size b.size,fun k t=>(b.block k (by simp;omega) (by simp[Value.ownBlock];omega)).trans (hb.block k t)⟩
theorem z6B{P:Nat->Prop}{ops:Array Oper}{rest:List Oper}{o:Oper}{a:Act}{w:World}{Q:Exit->Act->World->Prop}(f:o.guard=none)(b:o.type=44)(p q:Operand)
  (d:o.op=Op.call { callee:=Callee.builtin Builtin.append,args:=#[p,q],argTypes:=#[44,44] }) (ad:Addr) (c:Nat) (l:List (Int×Int)) (hs:a.eval p=J1 (some ⟨w.heap.size,0,none⟩) 0 0) (g:a.eval q=J1 (some ad) l.length c) (h:Rep P w (J1 (some ad) l.length c) 2 16 (pwC l))
  (i:∀ A C w',w'.ownsRow w.heap.size 65 2 (J1 A l.length C) l.length (pwC l)/\Bl w w'->wpList prog ops Q rest (a.put o.dst (J1 A l.length C)) w'):wpList prog ops Q (o :: rest) a (w.alloc (J5 #[] 65)):=by
 refine wpList_plain f fun _ e=>?_;unfold Oper.wp;obtain⟨A,C,w',j,h1⟩:=z7O w ad c l h
 simp[execOp,d,resolve,invoke,builtin,hs,g,b,j,Result.andThen]
 exact e _ _ (i _ _ _ h1)
theorem z6P(l:List (Int×Int))(v:Value)(P:Nat->Prop)(w:World)(h:Rep P w v 2 16 (pwC l)) :
  Calls prog 39 #[v] w fun e w'=>∃ u,e=.returned u/\Rep (fun b=>w.heap.size<=b) w' u 2 16 (pwC l)/\Bl w w':=by
 obtain⟨A,C,rfl,j,h0,-,-⟩:=id (h.open (z0c l) (by decide))
 cases A with
 | none =>
  obtain⟨c,rfl⟩:=h0 rfl;obtain rfl:l=[]:=List.length_eq_zero_iff.1 c;have d:=fun w=>q2i w none 0 0;clear h h0
  go_enter func39,ntmps39
  go_wp2;go_ret;exact⟨_,rfl,Rep.nil _ _ _ _,Below.refl _ _⟩
 | some a =>
  have d:=fun w=>q2i w (some a) l.length C;have f:=J6 h;clear h h0
  go_enter func39,ntmps39
  go_upto_region 3 with fail
  apply wp_region_lit
  iterate 6 go_step
  refine z6B rfl rfl _ _ rfl a C l rfl rfl f.out ?_;rintro A' C' w'⟨h1,h2⟩;have g:=J6 h1;have i:=J6 h2;clear h1 h2;go_wp2;go_ret;exact⟨_,rfl,Rep.own g.out (by omega),i.out⟩
end Pv
section
open Go.RowKit
theorem y1x(g cap:Nat)(c:Int)(l:List Pw)(w:World)(h:z1W w g l)(d:l.length<=12) :
  Calls prog 153 #[J1 (some ⟨g,0,none⟩) l.length cap,J I 0,J I (l.length:Int),J I c,.func (.func 113) #[] #[]] w fun e w'=>e=.returned (.tuple #[])/\z1W w' g (z2U ltP l)/\z3q g w w':=by
 have f:=j2G g cap l w h d;have i:(l.length:Int)<=12:=by omega
 clear h
 go_enter func153,ntmps153
 go_wp2_with fail
 go_loopw [1,2] (fun a b wl=>a=J I 0/\b=J I (l.length:Int)/\Hid (wl=w)) (fun _ _ _=>0)
 case atStart=>exact⟨rfl,rfl,rfl⟩
 case round =>
  obtain⟨rfl,rfl,HW⟩:=hrel;have e:=HW.out;subst e;clear HW
  go_wp2_with (go_at_call 175;refine f.mono ?_;rintro e w1⟨rfl,h1⟩;have j:=J6 h1;clear h1)
  exact bodyPost_ret (v:=.tuple #[]) (by simp[results,results153]) rfl ⟨rfl,j.out⟩
theorem q2a(n:Nat)(b:n<=12)(w:World):Calls prog 154 #[.int .u64 (n:Int)] w fun e w'=>(∃ k,e=.returned (J I k))/\w=w':=by
 have a:=Ra.j3k n (by omega)
 go_enter func154,ntmps154
 go_wp2_with (go_at_call 184;refine (a _).mono ?_;rintro e w1⟨rfl,rfl⟩)
 go_ret;exact⟨⟨_,rfl⟩,rfl⟩
theorem j7s(g cap:Nat)(l:List Pw)(w:World)(h:z1W w g l)(b:l.length<=12) :
  Calls prog 112 #[J1 (some ⟨g,0,none⟩) l.length cap,.func (.func 113) #[] #[]] w fun e w'=>e=.returned (.tuple #[])/\z1W w' g (z2U ltP l)/\z3q g w w':=by
 have c:=fun a=>y1x g cap a l w h b;have d:=q2a l.length b w;clear h
 go_enter func112,ntmps112
 go_wp2_with (first
  | (go_at_call 154;refine d.mono ?_;rintro e w1⟨⟨k,rfl⟩,rfl⟩)
  | (go_at_call 153;refine (c _).mono ?_;rintro e i⟨rfl,h1⟩;have f:=J6 h1;clear h1))
 go_end0;exact⟨rfl,f.out⟩
def pwL:List Pw->List Value
 | []=>[]
 | x :: r=>.int .i64 x.1 :: J I x.2 :: pwL r
theorem z9v:∀ (a b:List Pw),pwL (a ++ b)=pwL a ++ pwL b
 | [],_=>rfl
 | x :: r,b=>by simp only[List.cons_append,pwL,z9v r b]
theorem q9E:∀ (l:List Pw) (i:Nat) (x:Pw),l[i]?=some x->(pwL l)[i * 2]?=some (J I x.1)/\(pwL l)[i * 2+1]?=some (J I x.2)
 | [],i,x,h=>by simp at h
 | y :: r,0,x,h=>by simp at h;subst h;exact⟨rfl,rfl⟩
 | y :: r,i+1,x,h=>by
  have:=q9E r i x (by simpa using h)
  rw[show (i+1) * 2=i * 2+1+1 by omega]
  simpa [pwL] using this
theorem q9H:(prog.info? 65).map (fun i=>(i.zero,i.size,i.bytes))=some (some (J4 #[J I 0,J I 0]),2,16):=by kernel_rfl
def z6t(w:World)(B:Nat)(v:Value)(l:List Pw):Prop:=w.ownsRow B 65 2 v l.length (pwL l)
theorem z6t.nil(w:World)(B:Nat):z6t w B (J1 none 0 0) []:=⟨rfl,.inl ⟨rfl,rfl⟩⟩
theorem z6t.row{w:World}{B:Nat}{v:Value}{l:List Pw}(h:z6t w B v l):(v=J1 none 0 0/\l=[])∨∃ g cap,v=J1 (some ⟨g,0,none⟩) l.length cap/\B<=g/\z1W w g l/\l.length<=cap/\cap<=maxLen:=by
 obtain⟨_,h⟩:=h
 rcases h with⟨h1,h2⟩ | ⟨g,cap,cur,h1,h2,h3,h4,h5,h6,h7⟩
 ·exact .inl ⟨h1,List.length_eq_zero_iff.1 h2⟩
 ·refine .inr ⟨g,cap,h1,h2,⟨cur,h3,fun i x a=>?_⟩,h4,h5⟩;obtain⟨b,c⟩:=q9E l i x a;have d:=(List.getElem?_eq_some_iff.1 a).1;rw[<- h7,List.getElem?_take_of_lt (by omega)]at b c
  exact⟨by simpa using b,by simpa using c⟩
def y2X(w:World)(B:Nat)(v:Value)(l:List Pw):Prop:=(v=J1 none 0 0/\l=[])∨∃ g cap,v=J1 (some ⟨g,0,none⟩) l.length cap/\B<=g/\z1W w g l/\l.length<=cap/\cap<=maxLen
theorem q2L(w:World)(a b:Int)(t:TypeId):∀ j u,([J I a,J I b]:List Value)[j]?=some u->(w.alloc (J5 #[J I a,J I b] t)).cell? ((⟨w.heap.size,0,none⟩:Addr).add j)=some u:=by
 intro j u c
 rcases j with _ | _ | j
 ·simp at c;subst c;simp[Addr.add]
 ·simp at c;subst c;simp[Addr.add]
 ·simp at c
theorem z6t.append{w:World}{B:Nat}{v:Value}{l:List Pw}{x:Pw}{n:Nat}(h:w.ownsRow B 65 2 v n (pwL l ++ [J I x.1,J I x.2]))(a:n=l.length+1):z6t w B v (l ++ [x]):=by
 unfold z6t;rw[List.length_append,z9v];subst a;exact h
theorem z6t.own{w:World}{B:Nat}{v:Value}{l:List Pw}(h:z6t w B v l):∀ k,v.ownBlock=some k->B<=k:=by
 intro k a
 rcases h.row with⟨rfl,_⟩ | ⟨g,cap,rfl,hg,_⟩
 ·simp[Value.ownBlock]at a
 ·simp[Value.ownBlock]at a;omega
theorem z6t.grow{w w1:World}{B C:Nat}{v:Value}{l:List Pw}{a:World}{o:Obj}(h:z6t w B v l)(hb:Below C a w)(c:(w.alloc o).grownBy w1 v.ownBlock)(b:C<=B)(hs:B<=w.heap.size):Below C a w1:=
 (hb.alloc (Nat.le_trans b hs) o).grown c (by simp;omega) (fun k d=>Nat.le_trans b (h.own k d))
theorem q3F(a:Value)(w:World):Calls prog 175 #[J1 none 0 0,J I 0,J I 0,a] w fun e w'=>e=.returned (.tuple #[])/\w=w':=by
 go_enter func175,ntmps175
 go_wp2
 go_loop [8] (fun i=>i=J I 1) (fun _=>0)
 case atStart=>rfl
 case round =>
  subst hrel;go_wp2;go_end0;exact⟨rfl,rfl⟩
theorem q6I(c:Value)(w:World):Calls prog 112 #[J1 none 0 0,c] w fun e w'=>e=.returned (.tuple #[])/\w=w':=by
 have f:=q2a 0 (by omega) w
 have g:∀ k,Calls prog 153 #[J1 none 0 0,J I 0,J I 0,J I k,c] w fun e w'=>e=.returned (.tuple #[])/\w=w':=by
  intro k;have h:=q3F c w
  go_enter func153,ntmps153
  go_wp2_with fail
  go_loopw [1,2] (fun a b wl=>a=J I 0/\b=J I 0/\Hid (wl=w)) (fun _ _ _=>0)
  case atStart=>exact⟨rfl,rfl,rfl⟩
  case round =>
   obtain⟨rfl,rfl,HW⟩:=hrel;have e:=HW.out;subst e;clear HW
   go_wp2_with (go_at_call 175;refine h.mono ?_;rintro e w1⟨rfl,h1⟩;have d:=J6 h1;clear h1)
   exact bodyPost_ret (v:=.tuple #[]) (by simp[results,results153]) rfl ⟨rfl,d.out⟩
 go_enter func112,ntmps112
 go_wp2_with (first
  | (go_at_call 154;refine f.mono ?_;rintro e w1⟨⟨k,rfl⟩,rfl⟩)
  | (go_at_call 153;refine (g _).mono ?_;rintro e i⟨rfl,h1⟩;have d:=J6 h1;clear h1))
 go_end0;exact⟨rfl,d.out⟩
end
end Go.Proofs.YtddlhnoedldidaaGreat
