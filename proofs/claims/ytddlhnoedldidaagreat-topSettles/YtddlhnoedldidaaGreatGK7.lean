/- Parts of the proof. -/
import Derived.Test.YtddlhnoedldidaaGreatGL
import Derived.Test.YtddlhnoedldidaaGreatGK4
import Derived.Test.YtddlhnoedldidaaGreatGK25
import Derived.Test.YtddlhnoedldidaaGreatGK29
set_option maxRecDepth 100000
set_option maxHeartbeats 16000000
namespace Go.Proofs.YtddlhnoedldidaaGreat
open Go.Proofs.Tryz
open Value renaming int->J,slice->J1,pointer->J2,bool->J3,agg->J4
open IntKind renaming i64->I
open Obj renaming cells->J5
namespace Pv
open Go.RowKit
def q8x(p:Pr):Prop:=z0k p.s=true/\∀c,c<2->z2m (-1) (p.L c).done=true
def j5l(x:Pkt):Prop:=(x.k=2∨x.k=3∨x.k=4)/\((x.k=3∨x.k=4)->0<=x.v/\x.v<6)
theorem q5a{p:Pr}(h:∀c,c<2->z2m (-1) (p.L c).done=true)(k:Nat)(v:Int):∀c,c<2->z2m (-1) (z0P p.L k { p.L k with done:=z3s (p.L k).done v} c).done=true:=λc hc=>by
 unfold z0P
 by_cases e:c=k
 ·rw[if_pos e];exact j0S _ _
 ·rw[if_neg e];exact h c hc
theorem q0H{p:Pr}(h:q8x p)(c:Nat){x:Pkt}(j:j5l x):q8x (z1y p c x).1:=by
 obtain⟨a,b⟩:=h;obtain⟨n,l⟩:=j;unfold z1y
 by_cases h2:x.k=2
 ·rw[if_pos h2];exact⟨(j5q a c x.i).good,b⟩
 ·rw[if_neg h2];have m:=l (by omega)
  have d:x.v.toNat<6:=by omega
  by_cases e:x.k=4
  ·rw[if_pos e]
   by_cases hd:(p.s.V x.v.toNat).dead=true
   ·rw[if_pos hd];exact⟨a,b⟩
   ·rw[if_neg hd];exact⟨z5P (z6Q a d _ (by decide)) d (λ_=>rfl),b⟩
  ·rw[if_neg e]
   by_cases f:(p.s.V x.v.toNat).jail=true
   ·rw[if_pos f];exact⟨a,q5a b c x.v⟩
   ·rw[if_neg f]
    by_cases g:p.ml<1
    ·rw[if_pos g];exact⟨a,b⟩
    ·rw[if_neg g];exact⟨z5P a d (λ_=>rfl),q5a b c x.v⟩
theorem q9Z(g:Nat)(p:Pr)(v:PrV)(P:Nat->Prop)(w:World)(c:Nat)(hc:c<2)(x:Pkt)(d e:Value)(f:CAt 58 w g (prC p v))(hp:PIn P w p v)(j:¬ P g)(b:q8x p)(a:j5l x) :
  Calls prog 109 #[J2 (some ⟨g,0,none⟩),J4 #[J I (c:Int),J I x.k,J I x.i,J I x.v,J I x.n,d,e]] w (z4E w g P (z1y p c x)):=by
 rcases a.1 with h|h|h
 ·exact q0j g p v P w c hc x d e f hp j b.1 h a.2
 ·exact q6f g p v P w c hc x d e f hp j b.1 h a.2 λo q v' P' l hp' m=>q9V g p v' P' q c hc x l hp' m o (b.2 c hc) b.1 (a.2 (.inl h)).1 (a.2 (.inl h)).2
 ·exact q2e g p v P w c hc x d e f hp j b.1 h a.2
theorem j7W{k i v n:Int}{S:List (Int×Int)}{D:List Int}(h:Cd.z0n k i v n S D=0):1<=k/\k<=4/\(Cd.z7j k=true->Cd.isV v=true):=by
 unfold Cd.z0n at h
 by_cases h1:k<1∨4<k
 ·rw[if_pos h1]at h;omega
 rw[if_neg h1]at h
 by_cases h2:i<1∨1099511627776<i
 ·rw[if_pos h2]at h;omega
 rw[if_neg h2]at h
 by_cases h3:Cd.z7j k=true/\(Cd.isV v=false∨n<1∨1125899906842624<n)
 ·rw[if_pos h3]at h;omega
 refine⟨by omega,by omega,λa=>?_⟩
 cases b:Cd.isV v
 ·exact absurd ⟨a,.inl b⟩ h3
 ·rfl
theorem j6D{L:Nat->Lk}{a:Int×Pkt}(h:z6f L a=true):(0<=a.1/\a.1<2)/\j5l a.2:=by
 unfold z6f at h;simp only[Bool.and_eq_true,decide_eq_true_eq]at h;obtain⟨⟨⟨⟨h0,h1⟩,-⟩,e⟩,c⟩:=h;refine⟨⟨h0,by omega⟩,?_⟩
 obtain⟨k1,f,d⟩:=j7W c;refine⟨by omega,λh=>?_⟩
 have b:=d (by rcases h with h|h <;> rw[h] <;> rfl)
 unfold Cd.isV at b
 simp at b
 omega
theorem q5u(g:Nat)(p:Pr)(v:PrV)(P:Nat->Prop)(w:World)(k:CAt 58 w g (prC p v))(hp:PIn P w p v)(l:¬ P g)(h0:q8x p)(b:p.q.length*88<=140737488355328)(d:∀a∈p.q,(0<=a.1/\a.1<2)/\j5l a.2) :
  Calls prog 77 #[J2 (some ⟨g,0,none⟩)] w (Turns w g P (z0q p)):=
 q8H q8x g p v P w k hp l h0 b (λa c=>(d a c).1) (λa c j v' P' m n o f h hp' i=>by
  obtain⟨⟨h0,h1⟩,r⟩:=d a c;have e:a.1=(a.1.toNat:Int):=by omega
  rw[e];have:=q9Z g j v' P' m a.1.toNat (by omega) a.2 n o h hp' i f r
  rw[Int.toNat_natCast]
  exact this) (λa c j f=>q0H f _ (d a c).2)
theorem q1V:∀(l:List (Int×Pkt)) (z:QS),(∀a∈l,j5l a.2)->q8x z.p->q8x (l.foldl z1n z).p
 | [],z,_,h=>h
 | a :: l,z,ho,h=>by
  rw[List.foldl_cons];refine q1V l _ (λb hb=>ho b (List.mem_cons_of_mem _ hb)) ?_;unfold z1n
  split
  ·exact h
  ·split
   ·exact q0H h _ (ho a List.mem_cons_self)
   ·exact h
theorem z9Z{p:Pr}(a:z0o p=true)(now:Int):q8x (z0y p now):=by
 unfold z0o at a;simp only[Bool.and_eq_true,z2G]at a;obtain⟨⟨⟨⟨⟨⟨⟨h,-⟩,-⟩,-⟩,-⟩,-⟩,⟨⟨b,-⟩,⟨r1,-⟩⟩⟩,-⟩:=a;refine⟨h,λc hc=>?_⟩
 rcases(show c=0∨c=1 by omega)with rfl|rfl
 ·exact b
 ·exact r1
theorem q0G{p:Pr}(b:z0o p=true):∀a∈p.q,(0<=a.1/\a.1<2)/\j5l a.2:=λa c=>by
 unfold z0o at b;simp only[Bool.and_eq_true]at b;exact j6D (List.all_eq_true.1 b.2 a c)
theorem z8e{p:Pr}(b:z0o p=true)(now:Int):q8x (goQ (z0y p now)).p:=q1V p.q _ (λa c=>(q0G b a c).2) (z9Z b now)
theorem q8U:∀(l:List (Int×Pkt)) (z:QS),(l.foldl z1n z).p.t=z.p.t/\(l.foldl z1n z).p.h=z.p.h
 | [],z=>⟨rfl,rfl⟩
 | a :: l,z=>by
  rw[List.foldl_cons];have h:=q8U l (z1n z a)
  have e:(z1n z a).p.t=z.p.t/\(z1n z a).p.h=z.p.h:=by
   unfold z1n
   split
   ·exact⟨rfl,rfl⟩
   ·split
    ·show(z1y z.p a.1.toNat a.2).1.t=z.p.t/\(z1y z.p a.1.toNat a.2).1.h=z.p.h
     unfold z1y
     repeat' split
     all_goals exact⟨rfl,rfl⟩
    ·exact⟨rfl,rfl⟩
  exact⟨h.1.trans e.1,h.2.trans e.2⟩
theorem j5v(p:Pr)(c:Nat):(z1t p c).t=p.t:=by
 unfold z1t
 repeat' split
 all_goals rfl
theorem j3E(p:Pr)(v:PrV)(P:Nat->Prop)(w:World)(now:Int)(hp:PIn P w p v)(e:p.q.length*88<=140737488355328) :
  Calls prog 58 #[J4 (prC p v),J I now] w (y1S P w (endP p now)):=by
 have h:(z3l (z0q (z0y p now)) now).t=now:=(q8U p.q ⟨z0y p now,λ_=>false,[]⟩).1;refine j6k p v P w now hp _ _ _ (λf j k g v' i P' b hp' d=>?_) (λf=>(z8e f now).1) (λf j k c hc g v' i P' b hp' d=>?_) rfl rfl rfl
 ·exact q5u g (z0y p now) v' P' i b hp' d (z9Z f now) e (λa l=>q0G f a l)
 ·have hb:0<=now/\now<=1099511627776:=by
   unfold isT at j
   simpa using j
  rcases(show c=0∨c=1 by omega)with rfl|rfl
  ·exact q2d g _ v' P' i 0 (by omega) b hp' d (by rw[h];exact hb.1) (by rw[h];exact hb.2)
  ·exact q2d g _ v' P' i 1 (by omega) b hp' d (by rw[j5v,h];exact hb.1) (by rw[j5v,h];exact hb.2)
theorem j0i{k i v n:Int}{S:List (Int×Int)}{D:List Int}(h:Cd.z0n k i v n S D=0):Cd.bs (Cd.encS k i v n S D)=Cd.enc k i v n S D:=by
 rw[Cd.encS,if_pos h]
 show((Cd.enc k i v n S D).map (λn=>UInt8.ofNat n.toNat)).map (λu=>(u.toNat:Int))=_
 rw[List.map_map]
 conv=>rhs;rw[<-List.map_id (Cd.enc k i v n S D)]
 refine List.map_congr_left λc hc=>?_;have:=Cd.j1C _ _ _ _ _ _ c hc;simp only[Function.comp,id,UInt8.toNat_ofNat'];omega
theorem j0V{k i v n:Int}{S:List (Int×Int)}{D:List Int}(h:Cd.z0n k i v n S D=0):(Cd.encS k i v n S D).size=17+8*S.length+D.length:=by
 rw[<-Cd.z2M,j0i h,Cd.q6e]
theorem z2R:∀(l:List (Int×Int)) (a:Int),z2W a l=true->∀x∈l,a<x.1/\x.1<=5/\1<=x.2/\x.2<=1125899906842624
 | [],_,_,x,b=>by cases b
 | y :: l,a,h,x,b=>by
  simp only[z2W,z8K,Bool.and_eq_true,decide_eq_true_eq]at h
  rcases List.mem_cons.1 b with rfl|b
  ·exact⟨h.1.1.1.1,h.1.1.1.2,h.1.1.2,h.1.2⟩
  ·have:=z2R l y.1 h.2 x b;exact⟨by omega,this.2⟩
theorem q0g:∀(l:List (Int×Int)) (a:Int),(∀x∈l,a<x.1/\x.1<=5/\1<=x.2/\x.2<=1125899906842624)->l.Pairwise (λx y=>x.1<y.1)->z2W a l=true
 | [],_,_,_=>rfl
 | y :: l,a,h,hp=>by
  have b:=h y List.mem_cons_self;have hp':=List.pairwise_cons.1 hp;simp only[z2W,z8K,Bool.and_eq_true,decide_eq_true_eq];exact⟨⟨⟨⟨b.1,b.2.1⟩,b.2.2.1⟩,b.2.2.2⟩,q0g l y.1 (λx c=>⟨hp'.1 x c,(h x (List.mem_cons_of_mem _ c)).2⟩) hp'.2⟩
theorem z5U(c:Nat->Bool)(f:Nat->Int)(x:Int×Int):∀n,x∈Df.those c f n↔∃i:Nat,i<n/\c i=true/\x=((i:Int),f i)
 | 0=>by simp[Df.those]
 | n+1=>by
  rw[Df.z2h];have b:=z5U c f x n
  by_cases h:c n=true
  ·rw[if_pos h,List.mem_append,b,List.mem_singleton]
   constructor
   ·rintro(⟨i,a,h1⟩|rfl)
    ·exact⟨i,by omega,h1⟩
    ·exact⟨n,by omega,h,rfl⟩
   ·rintro⟨i,a,h1⟩
    rcases Nat.lt_or_ge i n with h2|h2
    ·exact .inl ⟨i,h2,h1⟩
    ·obtain rfl:i=n:=by omega
     exact .inr h1.2
  ·rw[if_neg h,b]
   constructor
   ·rintro⟨i,a,h1⟩;exact⟨i,by omega,h1⟩
   ·rintro⟨i,a,h1⟩
    rcases Nat.lt_or_ge i n with h2|h2
    ·exact⟨i,h2,h1⟩
    ·obtain rfl:i=n:=by omega
     exact absurd h1.1 h
theorem z5d(c:Nat->Bool)(f:Nat->Int):∀n,(Df.those c f n).Pairwise (λx y=>x.1<y.1)
 | 0=>by simp[Df.those]
 | n+1=>by
  rw[Df.z2h]
  split
  ·rw[List.pairwise_append];refine⟨z5d c f n,List.pairwise_singleton _ _,λa d b hb=>?_⟩;obtain⟨i,e,-,rfl⟩:=(z5U c f a n).1 d;rw[List.mem_singleton]at hb;subst hb
   show(i:Int)<(n:Int)
   omega
  ·exact z5d c f n
theorem j1Z{V:Nat->Vd}(l:∀k,k<6->(V k).tok<=1125899906842624):z2W (-1) (z7C V)=true:=by
 refine q0g _ _ (λx m=>?_) ?_
 ·obtain⟨i,e,rfl,hp,-⟩:=j9c V x m;have:=l i e;unfold pwr at *;refine⟨by show(-1:Int)<(i:Int);omega,by show(i:Int)<=5;omega,by show 1<=(V i).tok / 100;omega,by show(V i).tok / 100<=_;omega⟩
 ·have hs:=q9t y3b ((z2U ltP (z4Z V 6)).take 4)
  have c:(z7C V).Pairwise (λa b=>a.1≠b.1):=by
   have h1:(z2U ltP (z4Z V 6)).Pairwise (λa b=>a.1≠b.1):=(z3e ltP (z4Z V 6)).symm.pairwise (z6A V 6) (λh=>h.symm);exact(z3e ltV _).symm.pairwise (h1.sublist (List.take_sublist _ _)) (λh=>h.symm)
  rw[List.pairwise_iff_getElem]at c⊢;intro i j e f d;have g:(z7C V).length=((z2U ltP (z4Z V 6)).take 4).length:=(z3e ltV _).length_eq;have h1:=hs i j d (by omega)
  rw[j0l]at h1;have h2:=c i j e f d;have n:(z2U ltV ((z2U ltP (z4Z V 6)).take 4)).getD i pz=(z7C V)[i]:=by show(z7C V).getD i pz=_;simp[List.getD,e]
  have o:(z2U ltV ((z2U ltP (z4Z V 6)).take 4)).getD j pz=(z7C V)[j]:=by show(z7C V).getD j pz=_;simp[List.getD,f]
  rw[n,o]at h1;omega
structure z5l(y x:Lk):Prop where
 on:x.on=y.on
 gone:x.gone=y.gone
 base:x.base=y.base
 told:x.told=y.told
 fresh:x.fresh=y.fresh
 out:x.out=y.out
 hd:x.h0=y.h0/\x.h1=y.h1/\x.h2=y.h2/\x.h3=y.h3
theorem z5l.refl(y:Lk):z5l y y:=⟨rfl,rfl,rfl,rfl,rfl,rfl,rfl,rfl,rfl,rfl⟩
theorem z5l.trans{a b c:Lk}(h:z5l a b)(k:z5l b c):z5l a c:=⟨k.on.trans h.on,k.gone.trans h.gone,k.base.trans h.base,k.told.trans h.told,k.fresh.trans h.fresh,k.out.trans h.out,k.hd.1.trans h.hd.1,k.hd.2.1.trans h.hd.2.1,k.hd.2.2.1.trans h.hd.2.2.1,k.hd.2.2.2.trans h.hd.2.2.2⟩
theorem z5l.done(L:Nat->Lk)(c:Nat)(l:List Int)(k:Nat):z5l (L k) (z0P L c { L c with done:=l} k):=by
 unfold z0P
 by_cases e:k=c
 ·subst e;rw[if_pos rfl];exact⟨rfl,rfl,rfl,rfl,rfl,rfl,rfl,rfl,rfl,rfl⟩
 ·rw[if_neg e];exact z5l.refl _
structure z6q(p r:Pr):Prop where
 h:r.h=p.h
 t:r.t=p.t
 set:r.set=p.set
 mn:r.mn=p.mn
 lk:∀k,z5l (p.L k) (r.L k)
theorem z6q.refl(p:Pr):z6q p p:=⟨rfl,rfl,rfl,rfl,λ_=>z5l.refl _⟩
theorem z6q.trans{a b c:Pr}(h:z6q a b)(k:z6q b c):z6q a c:=⟨k.h.trans h.h,k.t.trans h.t,k.set.trans h.set,k.mn.trans h.mn,λi=>(h.lk i).trans (k.lk i)⟩
theorem j0s(p:Pr)(c:Nat)(x:Pkt):z6q p (z1y p c x).1:=by
 unfold z1y
 repeat' split
 all_goals first|exact z6q.refl p|exact⟨rfl,rfl,rfl,rfl,λ_=>z5l.refl _⟩|exact⟨rfl,rfl,rfl,rfl,λk=>z5l.done _ _ _ k⟩
theorem z9a:∀(l:List (Int×Pkt)) (z:QS),z6q z.p (l.foldl z1n z).p
 | [],z=>z6q.refl _
 | a :: l,z=>by
  rw[List.foldl_cons];refine z6q.trans ?_ (z9a l (z1n z a));unfold z1n
  split
  ·exact z6q.refl _
  ·split
   ·exact j0s _ _ _
   ·exact z6q.refl _
theorem z9j(p:Pr):z6q p (z0q p):=by
 have h:=z9a p.q ⟨p,λ_=>false,[]⟩;exact⟨h.h,h.t,h.set,h.mn,h.lk⟩
theorem z6j(p:Pr)(c k:Nat)(h:k≠c):(z1t p c).L k=p.L k:=by
 unfold z1t
 repeat' split
 all_goals first|rfl|(show z0P p.L c _ k=p.L k;unfold z0P;rw[if_neg h])
theorem z6i(p:Pr)(c:Nat):(z1t p c).h=p.h/\(z1t p c).t=p.t/\(z1t p c).s=p.s/\(z1t p c).set=p.set/\(z1t p c).ml=p.ml/\(z1t p c).mn=p.mn/\(z1t p c).q=p.q:=by
 unfold z1t
 repeat' split
 all_goals exact⟨rfl,rfl,rfl,rfl,rfl,rfl,rfl⟩
structure Told(h t:Int)(set:List (Int×Int))(y x:Lk):Prop where
 on:y.on=true
 good:Cd.z0n 1 h 0 0 (Df.z3v y.told set) y.done=0
 say:Ln.z5O y.out (t+40)=0
 eq:x={ y with out:=Ln.z4C y.out (Cd.encS 1 h 0 0 (Df.z3v y.told set) y.done) (t+40),told:=set,fresh:=false,done:=[]}
theorem q2I(p:Pr)(c:Nat):(z1t p c).L c=p.L c∨Told p.h p.t p.set (p.L c) ((z1t p c).L c):=by
 unfold z1t
 by_cases a:z5q p (p.L c)=true
 ·rw[if_pos a];exact .inl rfl
 rw[if_neg a]
 by_cases h1:Cd.z0n 1 p.h 0 0 (Df.z3v (p.L c).told p.set) (p.L c).done=0
 ·rw[if_pos h1]
  by_cases h2:Ln.z5O (p.L c).out (p.t+40)=0
  ·rw[if_pos h2];refine .inr ⟨?_,h1,h2,?_⟩
   ·cases b:(p.L c).on
    ·exact absurd (by unfold z5q;rw[b];rfl) a
    ·rfl
   ·show z0P p.L c _ c=_
    unfold z0P;rw[if_pos rfl]
  ·rw[if_neg h2];exact .inl rfl
 ·rw[if_neg h1];exact .inl rfl
structure j2e(h t:Int)(set:List (Int×Int))(y x:Lk):Prop where
 ex:∃z,z5l y z/\z2m (-1) z.done=true/\(x=z∨Told h t set z x)
structure y1A(p a:Pr)(now:Int):Prop where
 h:a.h=p.h+1
 t:a.t=now
 s:a.s=z5K (z0q (z0y p now)).s now
 good:z0k a.s=true
 set:a.set=z7C a.s.V
 z2W:z2W (-1) a.set=true
 q:a.q=(goQ (z0y p now)).left
 ql:a.q.length<=p.q.length
 lk:∀c,c<2->j2e a.h a.t a.set (p.L c) (a.L c)
theorem z3a{p:Pr}{now:Int}(b:z0o p=true/\isT now=true/\p.t<=now):y1A p (endP p now).1 now:=by
 have v:(endP p now).1=z1t (z1t (z3l (z0q (z0y p now)) now) 0) 1:=by unfold endP;rw[if_pos b]
 rw[v];have g:=z8e b.1 now;have hs:=z9j (z0y p now);obtain⟨w,x,y,A,C,D,i⟩:=z6i (z1t (z3l (z0q (z0y p now)) now) 0) 1;obtain⟨b1,b2,b3,j,E,F,l⟩:=z6i (z3l (z0q (z0y p now)) now) 0;have m:z0k (z5K (z0q (z0y p now)).s now)=true:=q4b g.1 now;have n:(z1t (z1t (z3l (z0q (z0y p now)) now) 0) 1).h=p.h+1:=by rw[w,b1];exact hs.h
 have o:(z1t (z1t (z3l (z0q (z0y p now)) now) 0) 1).t=now:=by rw[x,b2];exact hs.t
 have es:(z1t (z1t (z3l (z0q (z0y p now)) now) 0) 1).s=z5K (z0q (z0y p now)).s now:=by rw[y,b3];rfl
 have a:(z1t (z1t (z3l (z0q (z0y p now)) now) 0) 1).set=z7C (z5K (z0q (z0y p now)).s now).V:=by rw[A,j];rfl
 have d:z2W (-1) (z7C (z5K (z0q (z0y p now)).s now).V)=true:=j1Z λk B=>(y1s m B).2;refine⟨n,o,es,by rw[es];exact m,by rw[a,es],by rw[a];exact d,by rw[i,l];rfl,?_,λc hc=>?_⟩
 ·rw[i,l];have:=(q0f p.q ⟨z0y p now,λ_=>false,[]⟩).2
  show(p.q.foldl z1n ⟨z0y p now,λ_=>false,[]⟩).left.length<=p.q.length
  simpa using this
 ·rw[n,o,a];have z:=hs.lk c;have r:=g.2 c hc
  rcases(show c=0∨c=1 by omega)with rfl|rfl
  ·refine⟨(z0q (z0y p now)).L 0,z,r,?_⟩;rw[z6j _ 1 0 (by omega)]
   rcases q2I (z3l (z0q (z0y p now)) now) 0 with h|h
   ·exact .inl h
   ·refine .inr ?_;have e:(z3l (z0q (z0y p now)) now).h=p.h+1:=hs.h;have f:(z3l (z0q (z0y p now)) now).t=now:=hs.t;rw[e,f]at h;exact h
  ·refine⟨(z0q (z0y p now)).L 1,z,r,?_⟩;have u:(z1t (z3l (z0q (z0y p now)) now) 0).L 1=(z0q (z0y p now)).L 1:=z6j _ 0 1 (by omega)
   rcases q2I (z1t (z3l (z0q (z0y p now)) now) 0) 1 with h|h
   ·exact .inl (h.trans u)
   ·refine .inr ?_;rw[b1,b2,j,u]at h;have e:(z3l (z0q (z0y p now)) now).h=p.h+1:=hs.h;have f:(z3l (z0q (z0y p now)) now).t=now:=hs.t;rw[e,f]at h;exact h
theorem q7u(a d:List (Int×Int)):(Df.z3v a d).length<=6:=Df.z4b _ _ 6
end Pv
namespace Pv
open Go.RowKit
theorem j0d{h:Int}{x:Lk}(a:z2G h x=true):z2G h (z4w x)=true:=by
 unfold z2G z4w at *;simp only[Bool.and_eq_true,Ln.z1a]at a⊢
 simp_all [z2m]
theorem q3j{p:Pr}{c:Int}(l:z0o p=true)(d:z8G p c=true):z0o (z0j p c)=true:=by
 have f:isC c=true:=by unfold z8G at d;simp at d;exact d.1
 obtain⟨k,rfl,B⟩:=z9F f
 have n:z0j p k={ p with s:={ p.s with W:=z4X k 1099511627776 p.s.W},L:=z0P p.L k (z4w (p.L k)),q:=p.q.filter λa=>decide (a.1≠(k:Int))}:=by
  unfold z0j;rw[if_pos ⟨l,d⟩,Int.toNat_natCast]
 rw[n];have h1:=l;unfold z0o at h1⊢;simp only[Bool.and_eq_true,List.all_eq_true,decide_eq_true_eq]at h1⊢;obtain⟨⟨⟨⟨⟨⟨⟨o,r⟩,t⟩,u⟩,v⟩,w⟩,b0,b1⟩,y⟩:=h1
 have m:∀i,i<2->z2G p.h (z0P p.L k (z4w (p.L k)) i)=true:=λi C=>by
  have b:z2G p.h (p.L i)=true:=by
   rcases(show i=0∨i=1 by omega)with rfl|rfl
   ·exact b0
   ·exact b1
  unfold z0P
  by_cases e:i=k
  ·subst e;rw[if_pos rfl];exact j0d b
  ·rw[if_neg e];exact b
 refine⟨⟨⟨⟨⟨⟨⟨(j5q o k 1099511627776).good,r⟩,t⟩,u⟩,v⟩,w⟩,m 0 (by omega),m 1 (by omega)⟩,λx z=>?_⟩
 obtain⟨g,j⟩:=List.mem_filter.1 z;have:=y x g;have A:x.1≠(k:Int):=by simpa using j
 unfold z6f at this⊢;simp only[Bool.and_eq_true,decide_eq_true_eq]at this⊢;refine⟨⟨⟨this.1.1.1,?_⟩,this.1.2⟩,this.2⟩;unfold z0P;rw[if_neg (by omega)]
 exact this.1.1.2
attribute [local go_sem ↓] z1P z0T z0F z1H
end Pv
namespace Wd
open Go.RowKit Pv Kc
theorem z1A(x:Ln.Line):Ln.z1a x=true↔x.D.length=x.S.length/\x.S.length<=400/\Ln.nonneg x.D=true/\0<=x.g/\x.g<=x.S.length:=by
 unfold Ln.z1a;simp only[Bool.and_eq_true,decide_eq_true_eq];exact⟨λ⟨⟨⟨⟨a,b⟩,c⟩,d⟩,e⟩=>⟨a,b,c,d,e⟩,λ⟨a,b,c,d,e⟩=>⟨⟨⟨⟨a,b⟩,c⟩,d⟩,e⟩⟩
theorem z9o{x:Ln.Line}(h:Ln.z4i x=0):Ln.z1a x=true/\x.cl=false:=by
 unfold Ln.z4i at h;cases a:Ln.z1a x
 ·rw[a]at h;simp at h
 ·rw[a]at h;cases hc:x.cl
  ·exact⟨rfl,rfl⟩
  ·rw[hc]at h;simp at h
theorem j9p{x:Ln.Line}{due:Int}(h:Ln.z5O x due=0):Ln.z1a x=true/\x.cl=false/\x.S.length<400/\0<=due:=by
 unfold Ln.z5O at h
 by_cases h1:due<0
 ·rw[if_pos h1]at h;omega
 rw[if_neg h1]at h
 by_cases h2:Ln.z4i x≠0
 ·rw[if_pos h2]at h;exact absurd h h2
 rw[if_neg h2]at h;have a:Ln.z4i x=0:=by omega
 by_cases h3:400<=x.S.length
 ·rw[if_pos h3]at h;omega
 ·exact⟨(z9o a).1,(z9o a).2,by omega,by omega⟩
theorem q9m{x:Ln.Line}{s:ByteArray}{due:Int}(h:Ln.z5O x due=0):Ln.z4C x s due=⟨x.S++[s],x.D++[due],x.g,x.cl⟩:=by unfold Ln.z4C;rw[if_pos h]
theorem j7N{x:Ln.Line}{s:ByteArray}{due:Int}(h:Ln.z5O x due≠0):Ln.z4C x s due=x:=by unfold Ln.z4C;rw[if_neg h]
theorem q4e{x:Ln.Line}(s:ByteArray)(due:Int)(f:Ln.z1a x=true):Ln.z1a (Ln.z4C x s due)=true:=by
 by_cases h:Ln.z5O x due=0
 ·rw[q9m h];obtain⟨h1,-,h3,g⟩:=j9p h;obtain⟨a,b,c,d,e⟩:=(z1A x).1 h1;refine(z1A _).2 ⟨by simp[a],by simp;omega,?_,d,by simp;omega⟩
  unfold Ln.nonneg at c⊢;rw[List.all_append,c]
  simp[g]
 ·rw[j7N h];exact f
theorem y1j{x:Ln.Line}{k:Int}{s:ByteArray}{said now:Int}(h:Ln.z4B x k s said now=0):Ln.z1a x=true/\x.cl=false/\k=x.g+1/\k<=said/\k<=x.S.length/\x.S.getD (k - 1).toNat ByteArray.empty=s/\now<x.D.getD (k - 1).toNat 0:=by
 unfold Ln.z4B at h
 by_cases h1:Ln.z4i x≠0
 ·rw[if_pos h1]at h;exact absurd h h1
 rw[if_neg h1]at h;have a:Ln.z4i x=0:=by omega
 by_cases h2:k≠x.g+1
 ·rw[if_pos h2]at h;omega
 rw[if_neg h2]at h
 by_cases h3:said<k∨(x.S.length:Int)<k∨x.S.getD (k - 1).toNat ByteArray.empty≠s
 ·rw[if_pos h3]at h;omega
 rw[if_neg h3]at h
 by_cases c:x.D.getD (k - 1).toNat 0<=now
 ·rw[if_pos c]at h;omega
 have d:¬ said<k:=λe=>h3 (.inl e);have f:¬(x.S.length:Int)<k:=λe=>h3 (.inr (.inl e));have b:x.S.getD (k - 1).toNat ByteArray.empty=s:=Classical.byContradiction λe=>h3 (.inr (.inr e));exact⟨(z9o a).1,(z9o a).2,by omega,by omega,by omega,b,by omega⟩
theorem q0h{x:Ln.Line}{k:Int}{s:ByteArray}{said now:Int}(h:Ln.z4B x k s said now=0):Ln.z5L x k s said now=⟨x.S,x.D,k,x.cl⟩:=by unfold Ln.z5L;rw[if_pos h]
theorem j4a{x:Ln.Line}{k:Int}{s:ByteArray}{said now:Int}(h:Ln.z4B x k s said now=0):Ln.z1a (Ln.z5L x k s said now)=true:=by
 rw[q0h h];obtain⟨h1,h2,h3,g,f,-,-⟩:=y1j h;obtain⟨a,b,c,d,e⟩:=(z1A x).1 h1;exact(z1A _).2 ⟨a,b,c,by show 0<=k;omega,f⟩
theorem y0Y{x:Ln.Line}{k time got:Int}(h:Ln.z6h x k time got=0):Ln.z1a x=true/\x.cl=false/\1<=k/\k<=x.S.length/\got<k/\x.D.getD (k - 1).toNat 0<=time:=by
 unfold Ln.z6h at h
 by_cases h1:Ln.z4i x≠0
 ·rw[if_pos h1]at h;exact absurd h h1
 rw[if_neg h1]at h;have a:Ln.z4i x=0:=by omega
 by_cases h2:k<1∨(x.S.length:Int)<k
 ·rw[if_pos h2]at h;omega
 rw[if_neg h2]at h
 by_cases h3:k<=got
 ·rw[if_pos h3]at h;omega
 rw[if_neg h3]at h
 by_cases b:time<x.D.getD (k - 1).toNat 0
 ·rw[if_pos b]at h;omega
 exact⟨(z9o a).1,(z9o a).2,by omega,by omega,by omega,by omega⟩
theorem j0Q{x:Ln.Line}{k time got:Int}(h:Ln.z6h x k time got=0):Ln.z4N x k time got=⟨x.S,x.D,x.g,true⟩:=by unfold Ln.z4N;rw[if_pos h]
theorem j3K{x:Ln.Line}{k time got:Int}(h:Ln.z6h x k time got=0):Ln.z1a (Ln.z4N x k time got)=true:=by
 rw[j0Q h];exact(z1A _).2 ((z1A x).1 (y0Y h).1)
structure GL(h:Int)(x:Lk):Prop where
 done:z2m (-1) x.done=true
 og:¬(x.on=true/\x.gone=true)
 b0:0<=x.base
 b1:x.base<=h
 told:z2W (-1) x.told=true
 out:Ln.z1a x.out=true
theorem j9e(h:Int)(x:Lk):z2G h x=true↔GL h x:=by
 unfold z2G;simp only[Bool.and_eq_true,decide_eq_true_eq,Bool.not_eq_true',Bool.and_eq_false_iff]
 constructor
 ·rintro⟨a,⟨⟨⟨b,c⟩,d⟩,e⟩,f⟩;refine⟨a,λ⟨h1,h2⟩=>?_,c,d,e,f⟩
  rcases b with b|b
  ·rw[h1]at b;cases b
  ·rw[h2]at b;cases b
 ·rintro⟨a,b,c,d,e,f⟩;refine⟨a,⟨⟨⟨?_,c⟩,d⟩,e⟩,f⟩;cases h1:x.on
  ·exact .inl rfl
  ·cases h2:x.gone
   ·exact .inr rfl
   ·exact absurd ⟨h1,h2⟩ b
structure GQ(L:Nat->Lk)(a:Int×Pkt):Prop where
 c0:0<=a.1
 c1:a.1<=1
 on:(L a.1.toNat).on=true
 k:a.2.k≠1
 good:Cd.z0n a.2.k a.2.i a.2.v a.2.n a.2.S a.2.D=0
theorem j8Y(L:Nat->Lk)(a:Int×Pkt):z6f L a=true↔GQ L a:=by
 unfold z6f;simp only[Bool.and_eq_true,decide_eq_true_eq];exact⟨λ⟨⟨⟨⟨a,b⟩,c⟩,d⟩,e⟩=>⟨a,b,c,d,e⟩,λ⟨a,b,c,d,e⟩=>⟨⟨⟨⟨a,b⟩,c⟩,d⟩,e⟩⟩
structure GP(p:Pr):Prop where
 s:z0k p.s=true
 h0:0<=p.h
 h1:p.h<=1099511627775
 t0:0<=p.t
 t1:p.t<=1099511627776
 set:z2W (-1) p.set=true
 lk:∀c,c<2->GL p.h (p.L c)
 q:∀a∈p.q,GQ p.L a
theorem z6o(p:Pr):z0o p=true↔GP p:=by
 unfold z0o;simp only[Bool.and_eq_true,decide_eq_true_eq,List.all_eq_true,j9e,j8Y]
 constructor
 ·rintro⟨⟨⟨⟨⟨⟨⟨a,b⟩,c⟩,d⟩,e⟩,f⟩,g,h⟩,i⟩;refine⟨a,b,c,d,e,f,λc hc=>?_,i⟩
  rcases(show c=0∨c=1 by omega)with rfl|rfl
  ·exact g
  ·exact h
 ·rintro⟨a,b,c,d,e,f,g,i⟩;exact⟨⟨⟨⟨⟨⟨⟨a,b⟩,c⟩,d⟩,e⟩,f⟩,g 0 (by omega),g 1 (by omega)⟩,i⟩
theorem q0x{p:Pr}(h:GP p){s:St}(hs:z0k s=true):GP { p with s:=s}:=⟨hs,h.h0,h.h1,h.t0,h.t1,h.set,h.lk,h.q⟩
theorem j3O{p:Pr}(h:GP p)(d v n:Int):GP (z1T p d v n).1:=by
 unfold z1T;rw[if_pos ((z6o p).2 h)];exact q0x h (j2J h.s d v n).good
theorem z6n{s:St}{d v n:Int}{y:Wt}(h:(z0N s d v n y).2=0):z0Z s d v=0:=by
 unfold z0N at h
 by_cases h0:z0Z s d v=0
 ·exact h0
 ·rw[if_neg h0]at h;exact absurd h h0
theorem q7a{s:St}{d v:Int}(h:z0Z s d v=0):z0k s=true/\∃i j:Nat,d=(i:Int)/\v=(j:Int)/\i<4/\j<6:=by
 unfold z0Z at h
 by_cases h0:z6z s v=0
 ·rw[if_pos h0]at h;obtain⟨a,h1⟩:=z3W h0
  by_cases h2:isD d=true
  ·have h3:=z5J.1 h2;exact⟨a,d.toNat,v.toNat,by omega,by omega,by omega,by omega⟩
  ·rw[if_neg h2]at h;omega
 ·rw[if_neg h0]at h;exact absurd h h0
theorem q6p{s:St}(a:z0k s=true)(d v n:Int)(y:Wt)(h:(z0N s d v n y).2=0):z0k (z0N s d v n y).1=true:=by
 obtain⟨-,i,j,rfl,rfl,b,c⟩:=q7a (z6n h);exact(j2a a b c n y).good
theorem j3V(L:Nat->Lk)(c:Nat):(z1u L c).on=(L c).on:=by unfold z1u;split <;> rfl
theorem j3l{h:Int}{L:Nat->Lk}{c:Nat}(g:GL h (L c)):GL h (z1u L c):=by
 unfold z1u
 split
 ·exact⟨g.done,g.og,g.b0,g.b1,g.told,g.out⟩
 ·exact g
theorem j3p{p:Pr}(h:GP p)(d v n now:Int):GP (z1f p d v n now).1:=by
 unfold z1f
 split
 ·split
  ·rename_i h2;refine⟨q6p h.s _ _ _ _ h2,h.h0,h.h1,h.t0,h.t1,h.set,λc hc=>j3l (h.lk c hc),λa b=>?_⟩;have:=h.q a b;exact⟨this.c0,this.c1,by show(z1u p.L _).on=true;rw[j3V];exact this.on,this.k,this.good⟩
  ·exact h
 ·exact h
theorem q3E{s:St}(a:z0k s=true)(v:Int):z0k (z1s s v).1=true:=by
 unfold z1s
 split
 ·rename_i h0;obtain⟨-,h1⟩:=z3W h0
  split
  ·exact a
  ·split
   ·exact z5P a (by omega) (λh=>by cases h)
   ·exact a
 ·exact a
theorem j1L{s:St}(b:z0k s=true){v:Nat}(a:v<6)(h:Int):z0k (z8x s v h)=true:=z5P (z6Q b a _ (by decide)) a (λ_=>rfl)
theorem j7f{p:Pr}(h:GP p)(v n:Int):GP (z3R p v n).1:=by
 unfold z3R
 split
 ·split
  ·rename_i hv;have:=z3p.1 hv
   split
   ·split
    ·exact h
    ·exact q0x h (j1L h.s (by omega) _)
   ·exact h
  ·exact h
 ·exact h
theorem q3N:∀(l:List (Int×Pkt)) (z:QS),∀a∈(l.foldl z1n z).left,a∈z.left∨a∈l
 | [],z,a,h=>.inl h
 | b :: l,z,a,h=>by
  rw[List.foldl_cons]at h
  rcases q3N l _ a h with h1|h1
  ·have:a∈z.left∨a=b:=by
    unfold z1n at h1
    split at h1
    ·simpa using h1
    ·split at h1
     ·exact .inl h1
     ·simpa using h1
   rcases this with h2|rfl
   ·exact .inl h2
   ·exact .inr List.mem_cons_self
  ·exact .inr (List.mem_cons_of_mem _ h1)
theorem j2e.same{h t:Int}{set:List (Int×Int)}{y x:Lk}(H:j2e h t set y x):x.on=y.on/\x.gone=y.gone/\x.base=y.base/\x.out.g=y.out.g/\x.out.cl=y.out.cl:=by
 obtain⟨z,a,-,b⟩:=H.ex
 rcases b with rfl|T
 ·exact⟨a.on,a.gone,a.base,by rw[a.out],by rw[a.out]⟩
 ·have e:=T.eq;rw[q9m T.say]at e;exact⟨by rw[e];exact a.on,by rw[e];exact a.gone,by rw[e];exact a.base,by rw[e];show z.out.g=_;rw[a.out],by rw[e];show z.out.cl=_;rw[a.out]⟩
theorem j9s{h t:Int}{set:List (Int×Int)}{y x:Lk}(H:j2e (h+1) t set y x)(hs:z2W (-1) set=true)(g:GL h y):GL (h+1) x:=by
 obtain⟨z,a,c,d⟩:=H.ex;have e:=g.b1;have b:GL (h+1) z:=⟨c,by rw[a.on,a.gone];exact g.og,by rw[a.base];exact g.b0,by rw[a.base];omega,by rw[a.told];exact g.told,by rw[a.out];exact g.out⟩
 rcases d with rfl|T
 ·exact b
 ·rw[T.eq];exact⟨rfl,b.og,b.b0,b.b1,hs,q4e _ _ b.out⟩
theorem j9m{p:Pr}(h:GP p){now:Int}(b:z0o p=true/\isT now=true/\p.t<=now)(i:p.h<1099511627775):GP (endP p now).1:=by
 have E:=z3a b;have d:=b.2.1;unfold isT at d;simp only[Bool.and_eq_true,decide_eq_true_eq]at d;have j:=E.h;have l:=E.t;have m:=h.h0;refine⟨E.good,by omega,by omega,by omega,by omega,E.z2W,λc hc=>?_,λa e=>?_⟩
 ·have:=E.lk c hc;rw[E.h]at this⊢;exact j9s this E.z2W (h.lk c hc)
 ·rw[E.q]at e
  have f:a∈p.q:=by
   rcases q3N p.q ⟨z0y p now,λ_=>false,[]⟩ a e with h1|h1
   ·cases h1
   ·exact h1
  have g:=h.q a f;have hc:a.1.toNat<2:=by have:=g.c0;have:=g.c1;omega
  exact⟨g.c0,g.c1,by rw[(j2e.same (E.lk _ hc)).1];exact g.on,g.k,g.good⟩
theorem q6C(c:Nat)(h:Int)(x:Wt):(z0V c h x).num=x.num/\(z0V c h x).d=x.d/\(z0V c h x).v=x.v/\(z0V c h x).amt=x.amt/\(z0V c h x).hei=x.hei/\(z0V c h x).due=x.due:=by
 unfold z0V
 split
 ·split <;> exact⟨rfl,rfl,rfl,rfl,rfl,rfl⟩
 ·exact⟨rfl,rfl,rfl,rfl,rfl,rfl⟩
theorem q9p{F:Wt->Wt}(g:∀x,(F x).num=x.num/\(F x).d=x.d/\(F x).v=x.v/\(F x).amt=x.amt/\(F x).hei=x.hei/\(F x).due=x.due)(next:Int):∀(W:List Wt) (last:Int),wOk next last (W.map F)=wOk next last W
 | [],_=>rfl
 | x :: W,last=>by
  obtain⟨a,b,c,d,e,f⟩:=g x
  show(q1t last next (F x) && wOk next (F x).num (W.map F))=_
  rw[q9p g next W,wOk,q1t,q1t,a,b,c,d,e,f]
theorem q4J{F:Wt->Wt}(a:∀x,(F x).amt=x.amt):∀W:List Wt,z2V (W.map F)=z2V W
 | []=>rfl
 | x :: W=>by show(F x).amt+z2V (W.map F)=_;rw[q4J a W,a x];rfl
theorem j2y{F:Wt->Wt}(a:∀x,(F x).num=x.num/\(F x).d=x.d/\(F x).v=x.v/\(F x).amt=x.amt/\(F x).hei=x.hei/\(F x).due=x.due){s:St}(b:z0k s=true):z0k { s with W:=s.W.map F}=true:=by
 have c:=q9p a s.next s.W 0
 have e:=q4J (λx=>(a x).2.2.2.1) s.W
 have f:∀k,pvs { s with W:=s.W.map F} k=pvs s k:=by
  intro k
  induction k with
  | zero=>rfl
  | succ k ih=>rw[pvs,ih];rfl
 unfold z0k bal at b⊢;rw[f,List.length_map,c,e];exact b
theorem j2o{p:Pr}(h:GP p)(c:Int):GP (z0x p c).1:=by
 unfold z0x;rw[if_pos ((z6o p).2 h)]
 split
 ·rename_i hc
  split
  ·exact h
  ·split
   ·exact h
   ·rename_i hon
    split
    ·exact h
    ·refine⟨j2y (q6C _ _) h.s,h.h0,h.h1,h.t0,h.t1,h.set,λk b=>?_,λa d=>?_⟩
     ·show GL p.h (z0P p.L c.toNat (z6M p) k)
      unfold z0P
      split
      ·exact⟨rfl,(λ⟨_,h2⟩=>by cases h2),h.h0,Int.le_refl _,h.set,rfl⟩
      ·exact h.lk k b
     ·have g:=h.q a d;refine⟨g.c0,g.c1,?_,g.k,g.good⟩
      show(z0P p.L c.toNat (z6M p) a.1.toNat).on=true
      unfold z0P
      split
      ·rfl
      ·exact g.on
 ·exact h
theorem j0h{p:Pr}(h:GP p)(c:Int):GP (z0j p c):=by
 by_cases a:z8G p c=true
 ·exact(z6o _).1 (q3j ((z6o p).2 h) a)
 ·unfold z0j;rw[if_neg λe=>a e.2];exact h
theorem q4I{l:List Int}(h:Cd.z4x l=0):Cd.z0n (z0X l).k (z0X l).i (z0X l).v (z0X l).n (z0X l).S (z0X l).D=0:=by
 have e:Cd.z2w l=(Cd.parse l).1:=by unfold Cd.z2w;rw[if_pos h]
 have hp:z0X l=⟨(Cd.parse l).1.1,(Cd.parse l).1.2.1,(Cd.parse l).1.2.2.1,(Cd.parse l).1.2.2.2.1,(Cd.parse l).1.2.2.2.2.1,(Cd.parse l).1.2.2.2.2.2⟩:=by unfold z0X;rw[e]
 rw[hp];unfold Cd.z4x at h;generalize Cd.parse l=q at *
 by_cases a:q.2=([],false)
 ·rw[if_pos a]at h;exact h
 ·rw[if_neg a]at h;omega
theorem j8z{p:Pr}(h:GP p)(c:Int)(l:List Int):GP (z2z p c l).1:=by
 unfold z2z;rw[if_pos ((z6o p).2 h)]
 split
 ·rename_i hon
  split
  ·rename_i hd
   split
   ·exact h
   ·rename_i hk;refine⟨h.s,h.h0,h.h1,h.t0,h.t1,h.set,h.lk,λa b=>?_⟩
    rcases List.mem_append.1 b with h1|h1
    ·exact h.q a h1
    ·rw[List.mem_singleton]at h1;subst h1;unfold z8G isC at hon;simp only[Bool.and_eq_true,decide_eq_true_eq]at hon;exact⟨hon.1.1,by show c<=1;omega,hon.2,hk,q4I hd⟩
  ·exact h
 ·exact h
theorem q8l{p:Pr}(h:GP p){i:Nat}{y:Lk}(b:GL p.h y)(c:y.on=(p.L i).on):GP { p with L:=z0P p.L i y}:=by
 refine⟨h.s,h.h0,h.h1,h.t0,h.t1,h.set,λk d=>?_,λa f=>?_⟩
 ·show GL p.h (z0P p.L i y k)
  unfold z0P
  split
  ·exact b
  ·exact h.lk k d
 ·have g:=h.q a f;refine⟨g.c0,g.c1,?_,g.k,g.good⟩
  show(z0P p.L i y a.1.toNat).on=true
  unfold z0P
  split
  ·rename_i e;rw[c,<-e];exact g.on
  ·exact g.on
theorem z9X(n:Int):isT n=true↔0<=n/\n<=1099511627776:=by
 unfold isT;simp only[Bool.and_eq_true,decide_eq_true_eq]
theorem z4Y{k i v n:Int}{S:List (Int×Int)}{D:List Int}(h:Cd.z0n k i v n S D=0):1<=i/\i<=1099511627776/\Cd.z0d (-1) S=true/\Cd.z0i (-1) D=true:=by
 unfold Cd.z0n at h
 by_cases h1:k<1∨4<k
 ·rw[if_pos h1]at h;omega
 rw[if_neg h1]at h
 by_cases h2:i<1∨1099511627776<i
 ·rw[if_pos h2]at h;omega
 rw[if_neg h2]at h
 by_cases h3:Cd.z7j k=true/\(Cd.isV v=false∨n<1∨1125899906842624<n)
 ·rw[if_pos h3]at h;omega
 rw[if_neg h3]at h
 by_cases b:Cd.z8w k v n S.length D.length=true
 ·rw[if_pos b]at h;omega
 rw[if_neg b]at h
 by_cases a:Cd.z0d (-1) S=false∨Cd.z0i (-1) D=false
 ·rw[if_pos a]at h;omega
 refine⟨by omega,by omega,?_,?_⟩
 ·cases e:Cd.z0d (-1) S
  ·exact absurd (.inl e) a
  ·rfl
 ·cases e:Cd.z0i (-1) D
  ·exact absurd (.inr e) a
  ·rfl
theorem z9A:∀(l:List (Int×Int)) (a:Int),Cd.z0d a l=true->∀x∈l,a<x.1/\(0<=x.1/\x.1<6)/\0<=x.2/\x.2<=1125899906842624
 | [],_,_,x,b=>by cases b
 | y :: l,a,h,x,b=>by
  simp only[Cd.z0d,Bool.and_eq_true,decide_eq_true_eq]at h
  rcases List.mem_cons.1 b with rfl|b
  ·have c:=h.1.1.1.2;simp only[Cd.isV,decide_eq_true_eq]at c;exact⟨h.1.1.1.1,by omega,h.1.1.2,h.1.2⟩
  ·have:=z9A l y.1 h.2 x b;exact⟨by omega,this.2⟩
theorem q2H(M:Int):∀(l:List (Int×Int)) (P:Nat->Int),(∀i,P i<=M)->(∀x∈l,x.2<=M)->∀i,Df.z1N P l i<=M
 | [],P,h,_,i=>h i
 | y :: l,P,h,hl,i=>by
  refine q2H M l (Df.z8z P y) (λj=>?_) (λx a=>hl x (List.mem_cons_of_mem _ a)) i;have:=hl y List.mem_cons_self;unfold Df.z8z
  split
  ·show(if j=y.1.toNat then y.2 else P j)<=M
   split
   ·exact this
   ·exact h j
  ·exact h j
theorem q9z{a d:List (Int×Int)}(e:z2W (-1) a=true)(hd:Cd.z0d (-1) d=true):z2W (-1) (Df.z2F a d)=true:=by
 refine q0g _ _ (λx b=>?_) (z5d _ _ _);obtain⟨i,g,hc,rfl⟩:=(z5U _ _ x 6).1 b;have c:0<Df.z1N (Df.z1N Df.z2A a) d i:=by simpa using hc
 have f:=q2H 1125899906842624 d (Df.z1N Df.z2A a) (q2H _ a Df.z2A (λ_=>by show(0:Int)<=_;omega) (λx b=>(z2R a _ e x b).2.2.2)) (λx b=>(z9A d _ hd x b).2.2.2) i
 exact⟨by show -1<(i:Int);omega,by show(i:Int)<=5;omega,c,f⟩
structure GC(c:Cs):Prop where
 og:¬(c.on=true/\c.gone=true)
 h0:0<=c.h
 h1:c.h<1099511627776
 t0:0<=c.t
 t1:c.t<=1099511627776
 i0:0<=c.id
 i1:c.id<=1099511627776
 set:z2W (-1) c.set=true
 pd:∀x∈c.pd,x.k=1/\Cd.z0n x.k x.i x.v x.n x.S x.D=0
 rp:∀x∈c.rp,1<=x.1/\x.1<=1099511627776/\0<=x.2
 out:Ln.z1a c.out=true
theorem j5b{c:Cs}(h:GC c){l:Ln.Line}(a:Ln.z1a l=true):GC { c with out:=l}:=⟨h.og,h.h0,h.h1,h.t0,h.t1,h.i0,h.i1,h.set,h.pd,h.rp,a⟩
theorem j3W{set:List (Int×Int)}{id now:Int}(hs:z2W (-1) set=true)(h0:0<=id)(h1:id<=1099511627776)(t0:0<=now)(t1:now<=1099511627776):GC (z2s set id now):=
 ⟨(λ⟨_,h⟩=>by cases h),Int.le_refl _,(by show(0:Int)<_;omega),t0,t1,h0,h1,hs,(λx a=>by cases a),(λx a=>by cases a),rfl⟩
theorem j8j{c:Cs}(h:GC c)(l:List Int):GC (z3c c l).1:=by
 unfold z3c
 split
 ·split
  ·rename_i hd
   split
   ·rename_i hk;refine⟨h.og,h.h0,h.h1,h.t0,h.t1,h.i0,h.i1,h.set,λx a=>?_,h.rp,h.out⟩
    rcases List.mem_append.1 a with h1|h1
    ·exact h.pd x h1
    ·rw[List.mem_singleton]at h1;subst h1;exact⟨hk,q4I hd⟩
   ·exact h
  ·exact h
 ·exact h
theorem q9P{c:Cs}(h:GC c)(k i v n now:Int):GC (z2o c k i v n now).1:=by
 unfold z2o
 split
 ·exact j5b h (q4e _ _ h.out)
 ·exact h
theorem z5Y(c:Cs)(k i v n now:Int):(z2o c k i v n now).1={ c with out:=(z2o c k i v n now).1.out}:=by
 unfold z2o
 split <;> rfl
theorem j2H{c:Cs}(h:GC c)(f:Nat->Bool):GC { c with fl:=f}:=⟨h.og,h.h0,h.h1,h.t0,h.t1,h.i0,h.i1,h.set,h.pd,h.rp,h.out⟩
theorem j6X{c:Cs}(h:GC c)(v now:Int):GC (z3o c v now).1:=by
 unfold z3o
 repeat' split
 all_goals first|exact h|exact j2H (q9P h _ _ _ _ _) _
theorem q8i{c:Cs}(h:GC c)(v id now:Int):GC (z1c c v id now).1:=by
 unfold z1c
 repeat' split
 all_goals first|exact h|exact q9P h _ _ _ _ _
theorem q8K{c:Cs}(h:GC c):GC (z1d c):=by
 unfold z1d
 split
 ·exact⟨(λ⟨h1,_⟩=>by cases h1),h.h0,h.h1,h.t0,h.t1,h.i0,h.i1,h.set,h.pd,h.rp,(z1A _).2 ((z1A c.out).1 h.out)⟩
 ·exact h
theorem j6l{c:Cs}(h:GC c){x:Pkt}(d:x.k=1/\Cd.z0n x.k x.i x.v x.n x.S x.D=0):GC (takeC c x):=by
 obtain⟨a,b,p,-⟩:=z4Y d.2;refine⟨h.og,h.h0,h.h1,h.t0,h.t1,by show 0<=x.i;omega,b,q9z h.set p,h.pd,λy e=>?_,h.out⟩
 rcases List.mem_append.1 e with h1|h1
 ·exact h.rp y h1
 ·rw[List.mem_singleton]at h1;subst h1;have:=h.t0;exact⟨a,b,by show 0<=c.t+15;omega⟩
theorem q4N:∀(l:List Pkt) {c:Cs},GC c->(∀x∈l,x.k=1/\Cd.z0n x.k x.i x.v x.n x.S x.D=0)->GC (l.foldl takeC c)
 | [],_,h,_=>h
 | x :: l,_,h,hl=>q4N l (j6l h (hl x List.mem_cons_self)) λy a=>hl y (List.mem_cons_of_mem _ a)
theorem j5W{c:Cs}(h:GC c){l:List (Int×Int)}(a:∀x∈l,1<=x.1/\x.1<=1099511627776/\0<=x.2):GC { c with rp:=l}:=⟨h.og,h.h0,h.h1,h.t0,h.t1,h.i0,h.i1,h.set,h.pd,a,h.out⟩
theorem q7q:∀(l:List (Int×Int)) {c:Cs},GC c->(∀x∈l,1<=x.1/\x.1<=1099511627776/\0<=x.2)->GC (z1R c l)
 | [],_,h,_=>j5W h λx a=>by cases a
 | x :: l,c,h,hl=>by
  unfold z1R
  split
  ·split
   ·exact q7q l (q9P h _ _ _ _ _) λy b=>hl y (List.mem_cons_of_mem _ b)
   ·exact j5W h hl
  ·exact j5W h hl
theorem j6i{c:Cs}(h:GC c):GC (z2K c):=by
 have h1:GC (z1w c):=q4N c.pd h h.pd;unfold z2K;refine q7q _ ?_ h1.rp;exact⟨h1.og,h1.h0,h1.h1,h1.t0,h1.t1,h1.i0,h1.i1,h1.set,λx a=>(by cases a),h1.rp,h1.out⟩
theorem y0M{c:Cs}(h:GC c)(d:c.h<1099511627775)(now:Int):GC (z7A c now).1:=by
 unfold z7A
 split
 ·split
  ·rename_i hn;obtain⟨a,b⟩:=(z9X now).1 hn.1;have:=h.h0;exact j6i ⟨h.og,by show 0<=c.h+1;omega,by show c.h+1<_;omega,a,b,h.i0,h.i1,h.set,h.pd,h.rp,h.out⟩
  ·exact h
 ·exact h
structure z4y(c d:Cs):Prop where
 on:d.on=c.on
 gone:d.gone=c.gone
 h:d.h=c.h
 t:d.t=c.t
 hd:d.h0=c.h0/\d.h1=c.h1/\d.h2=c.h2/\d.h3=c.h3
 got:d.out.g=c.out.g
 cl:d.out.cl=c.out.cl
theorem z4y.refl(c:Cs):z4y c c:=⟨rfl,rfl,rfl,rfl,⟨rfl,rfl,rfl,rfl⟩,rfl,rfl⟩
theorem z4y.trans{a b c:Cs}(h:z4y a b)(k:z4y b c):z4y a c:=⟨k.on.trans h.on,k.gone.trans h.gone,k.h.trans h.h,k.t.trans h.t,⟨k.hd.1.trans h.hd.1,k.hd.2.1.trans h.hd.2.1,k.hd.2.2.1.trans h.hd.2.2.1,k.hd.2.2.2.trans h.hd.2.2.2⟩,k.got.trans h.got,k.cl.trans h.cl⟩
theorem z6x:∀(l:List Pkt) (c:Cs),z4y c (l.foldl takeC c)/\(l.foldl takeC c).out=c.out/\(l.foldl takeC c).pd=c.pd/\(l.foldl takeC c).rp.length=c.rp.length+l.length
 | [],c=>⟨z4y.refl c,rfl,rfl,rfl⟩
 | x :: l,c=>by
  rw[List.foldl_cons];obtain⟨a,b,d,e⟩:=z6x l (takeC c x);refine⟨z4y.trans (b:=takeC c x) ⟨rfl,rfl,rfl,rfl,⟨rfl,rfl,rfl,rfl⟩,rfl,rfl⟩ a,b,d,?_⟩;rw[e]
  show(c.rp++[_]).length+l.length=_
  simp
  omega
theorem q1s(l:Ln.Line)(s:ByteArray)(due:Int):(Ln.z4C l s due).g=l.g/\(Ln.z4C l s due).cl=l.cl:=by
 unfold Ln.z4C
 split <;> exact⟨rfl,rfl⟩
theorem z7M(c:Cs)(k i v n now:Int):z4y c (z2o c k i v n now).1:=by
 unfold z2o
 split
 ·exact⟨rfl,rfl,rfl,rfl,⟨rfl,rfl,rfl,rfl⟩,(q1s _ _ _).1,(q1s _ _ _).2⟩
 ·exact z4y.refl c
theorem q1j:∀(l:List (Int×Int)) (c:Cs),z4y c (z1R c l)/\(z1R c l).pd=c.pd/\(z1R c l).rp.length<=l.length
 | [],c=>⟨⟨rfl,rfl,rfl,rfl,⟨rfl,rfl,rfl,rfl⟩,rfl,rfl⟩,rfl,Nat.le_refl _⟩
 | x :: l,c=>by
  unfold z1R
  split
  ·split
   ·obtain⟨a,b,d⟩:=q1j l (z2o c 2 x.1 0 0 c.t).1;refine⟨(z7M c 2 x.1 0 0 c.t).trans a,?_,by simp;omega⟩
    rw[b,z5Y]
   ·exact⟨⟨rfl,rfl,rfl,rfl,⟨rfl,rfl,rfl,rfl⟩,rfl,rfl⟩,rfl,Nat.le_refl _⟩
  ·exact⟨⟨rfl,rfl,rfl,rfl,⟨rfl,rfl,rfl,rfl⟩,rfl,rfl⟩,rfl,Nat.le_refl _⟩
theorem j0r(c:Cs):z4y c (z2K c)/\(z2K c).pd=[]/\(z2K c).rp.length<=c.rp.length+c.pd.length:=by
 obtain⟨a,b,d,e⟩:=z6x c.pd c;obtain⟨f,g,h⟩:=q1j (z1w c).rp { z1w c with pd:=[]}
 refine⟨a.trans (z4y.trans (b:={ z1w c with pd:=[]}) ⟨rfl,rfl,rfl,rfl,⟨rfl,rfl,rfl,rfl⟩,rfl,rfl⟩ f),g,?_⟩
 show(z1R { z1w c with pd:=[]} (z1w c).rp).rp.length<=_
 have:(z1w c).rp.length=_:=e;omega
def small(l:List ByteArray):Prop:=∀s∈l,s.size<=100
theorem z5X:small []:=λs h=>by cases h
theorem z6b{k i v n:Int}{S:List (Int×Int)}{D:List Int}(a:S.length<=6)(b:D.length<=6):(Cd.encS k i v n S D).size<=100:=by
 by_cases h:Cd.z0n k i v n S D=0
 ·rw[j0V h];omega
 ·unfold Cd.encS;rw[if_neg h]
  decide
theorem q1g{l:Ln.Line}{s:ByteArray}{due:Int}(a:small l.S)(hs:s.size<=100):small (Ln.z4C l s due).S:=by
 unfold Ln.z4C
 split
 ·intro x b
  rcases List.mem_append.1 b with h|h
  ·exact a x h
  ·rw[List.mem_singleton]at h;rw[h];exact hs
 ·exact a
theorem z6N{c:Cs}{k i v n now:Int}(a:small c.out.S):small (z2o c k i v n now).1.out.S:=by
 unfold z2o
 split
 ·exact q1g a (z6b (by simp) (by simp))
 ·exact a
theorem z9u:∀(l:List (Int×Int)) (c:Cs),small c.out.S->small (z1R c l).out.S
 | [],c,h=>h
 | x :: l,c,h=>by
  unfold z1R
  split
  ·split
   ·exact z9u l _ (z6N h)
   ·exact h
  ·exact h
theorem q6w{c:Cs}(h:small c.out.S):small (z2K c).out.S:=by
 refine z9u _ _ ?_
 show small (z1w c).out.S
 unfold z1w;rw[(z6x c.pd c).2.1];exact h
theorem z0S(f:Nat->Cs)(i:Nat)(y:Cs):z2k f i y i=y:=by unfold z2k;rw[if_pos rfl]
theorem z0w(f:Nat->Cs){i k:Nat}(y:Cs)(h:k≠i):z2k f i y k=f k:=by unfold z2k;rw[if_neg h]
theorem z2u(f:Nat->Lk)(i:Nat)(y:Lk):z0P f i y i=y:=by unfold z0P;rw[if_pos rfl]
theorem z2d(f:Nat->Lk){i k:Nat}(y:Lk)(h:k≠i):z0P f i y k=f k:=by unfold z0P;rw[if_neg h]
structure z2P(N:Int)(x:Wo):Prop where
  n0:0<=N
  n1:N<=600
  k0:0<=x.ck
  k1:x.ck<=1099511627736
  gp:GP x.p
  gc:∀i,i<2->GC (x.c i)
  ph:x.p.h<=N
  pt:x.p.t<=x.ck
  ch:∀i,i<2->(x.c i).h<=N
  ct:∀i,i<2->(x.c i).t<=x.ck
  ql:(x.p.q.length:Int)<=N
  cl:∀i,i<2->(((x.c i).pd.length+(x.c i).rp.length:Nat):Int)<=N
  on:∀i,i<2->(x.c i).on=(x.p.L i).on/\(x.c i).gone=(x.p.L i).gone
  sp:∀i,i<2->small (x.p.L i).out.S
  sc:∀i,i<2->small (x.c i).out.S
theorem z2P.up{N:Int}{x:Wo}(h:z2P N x)(b:N<600):z2P (N+1) x:=
  ⟨by have:=h.n0;omega,by omega,h.k0,h.k1,h.gp,h.gc,by have:=h.ph;omega,h.pt,λi a=>by have:=h.ch i a;omega,h.ct,by have:=h.ql;omega,λi a=>by have:=h.cl i a;omega,h.on,h.sp,h.sc⟩
theorem z2P.q1J{N:Int}{x:Wo}(h:z2P N x){p:Pr}(gp:GP p)(ph:p.h<=N)(pt:p.t<=x.ck)(ql:(p.q.length:Int)<=N)(on:∀i,i<2->(p.L i).on=(x.p.L i).on/\(p.L i).gone=(x.p.L i).gone)(sp:∀i,i<2->small (p.L i).out.S):z2P N { x with p:=p}:=
  ⟨h.n0,h.n1,h.k0,h.k1,gp,h.gc,ph,pt,h.ch,h.ct,ql,h.cl,λi a=>⟨(h.on i a).1.trans (on i a).1.symm,(h.on i a).2.trans (on i a).2.symm⟩,sp,h.sc⟩
theorem z2P.cons{N:Int}{x:Wo}(h:z2P N x){i:Nat}(b:i<2){y:Cs}(gc:GC y)(ch:y.h<=N)(ct:y.t<=x.ck)(cl:((y.pd.length+y.rp.length:Nat):Int)<=N)(on:y.on=(x.c i).on/\y.gone=(x.c i).gone)(sc:small y.out.S):z2P N { x with c:=z2k x.c i y}:=by
  have key:∀{Q:Cs->Prop},Q y->(∀k,k<2->Q (x.c k))->∀k,k<2->Q (z2k x.c i y k):=λh1 h2 k a=>by
    by_cases e:k=i
    · subst e;rw[z0S];exact h1
    · rw[z0w _ _ e];exact h2 k a
  refine⟨h.n0,h.n1,h.k0,h.k1,h.gp,key (Q:=GC) gc h.gc,h.ph,h.pt,key (Q:=λc=>c.h<=N) ch h.ch,key (Q:=λc=>c.t<=x.ck) ct h.ct,h.ql,key (Q:=λc=>((c.pd.length+c.rp.length:Nat):Int)<=N) cl h.cl,λk a=>?_,h.sp,key (Q:=λc=>small c.out.S) sc h.sc⟩
  show(z2k x.c i y k).on=_/\(z2k x.c i y k).gone=_
  by_cases e:k=i
  · subst e;rw[z0S,on.1,on.2];exact h.on k a
  · rw[z0w _ _ e];exact h.on k a
theorem z2P.heads{N:Int}{x:Wo}(h:z2P N x)(a b:Nat->Hd):z2P N { x with hp:=a,hc:=b}:=⟨h.n0,h.n1,h.k0,h.k1,h.gp,h.gc,h.ph,h.pt,h.ch,h.ct,h.ql,h.cl,h.on,h.sp,h.sc⟩
theorem z2P.dn{N:Int}{x:Wo}(h:z2P N x)(n:Int):z2P N { x with dn:=n}:=⟨h.n0,h.n1,h.k0,h.k1,h.gp,h.gc,h.ph,h.pt,h.ch,h.ct,h.ql,h.cl,h.on,h.sp,h.sc⟩
theorem z5c(p:Pr)(d v n:Int):(z1T p d v n).1={ p with s:=(z1T p d v n).1.s}:=by unfold z1T;split <;> rfl
theorem z4W(p:Pr)(d v n now:Int):(z1f p d v n now).1.h=p.h/\(z1f p d v n now).1.t=p.t/\(z1f p d v n now).1.q=p.q/\(z1f p d v n now).1.set=p.set/\((z1f p d v n now).1.L=p.L∨(z1f p d v n now).1.L=z1u p.L):=by
  unfold z1f
  split
  · split
    · exact⟨rfl,rfl,rfl,rfl,.inr rfl⟩
    · exact⟨rfl,rfl,rfl,rfl,.inl rfl⟩
  · exact⟨rfl,rfl,rfl,rfl,.inl rfl⟩
theorem z2Z(L:Nat->Lk)(c:Nat):(z1u L c).on=(L c).on/\(z1u L c).gone=(L c).gone/\(z1u L c).out=(L c).out/\(z1u L c).told=(L c).told:=by unfold z1u;split <;> exact⟨rfl,rfl,rfl,rfl⟩
theorem z5S(p:Pr)(v n:Int):(z3R p v n).1={ p with s:=(z3R p v n).1.s}:=by
  unfold z3R
  repeat' split
  all_goals rfl
theorem z2P.z1q{N:Int}{x:Wo}(h:z2P N x){s:St}(gp:GP { x.p with s:=s}):z2P N { x with p:={ x.p with s:=s}}:=h.q1J gp h.ph h.pt h.ql (λ_ _=>⟨rfl,rfl⟩) h.sp
theorem j5z{N:Int}{x:Wo}(h:z2P N x)(d:Dd):z2P N (atP x d).1:=by
  unfold atP
  split
  · have:=j3O h.gp d.d d.v d.n
    rw[z5c]at this⊢;exact h.z1q this
  · split
    · obtain⟨c,f,g,-,b⟩:=z4W x.p d.d d.v d.n x.ck
      refine h.q1J (j3p h.gp _ _ _ _) (by rw[c];exact h.ph) (by rw[f];exact h.pt) (by rw[g];exact h.ql) (λi a=>?_) (λi a=>?_)
      · rcases b with e|e
        · rw[e];exact⟨rfl,rfl⟩
        · rw[e];exact⟨(z2Z _ i).1,(z2Z _ i).2.1⟩
      · rcases b with e|e
        · rw[e];exact h.sp i a
        · rw[e,(z2Z _ i).2.2.1];exact h.sp i a
    · split
      · exact h.z1q (q0x h.gp (q3E h.gp.s _))
      · have:=j7f h.gp d.v d.n
        rw[z5S]at this⊢;exact h.z1q this
theorem q7E{N:Int}{x:Wo}(h:z2P N x)(n:Int):z2P N (z4z x n).1:=by
  unfold z4z
  split
  · exact h
  · rename_i hn
    have a:=h.k0;have b:=h.pt;exact⟨h.n0,h.n1,by show 0<=x.ck+n;omega,by show x.ck+n<=_;omega,h.gp,h.gc,h.ph,by show x.p.t<=x.ck+n;omega,h.ch,λi d=>by have:=h.ct i d;show(x.c i).t<=x.ck+n;omega,h.ql,h.cl,h.on,h.sp,h.sc⟩
theorem j9N{p:Pr}{now:Int}(h:(endP p now).2.2=0):z0o p=true/\isT now=true/\p.t<=now:=by
  unfold endP at h
  split at h
  · assumption
  · simp at h
theorem q6L{h t:Int}{set:List (Int×Int)}{y x:Lk}(H:j2e h t set y x)(a:small y.out.S):small x.out.S:=by
  obtain⟨z,b,c,d⟩:=H.ex
  rcases d with rfl|T
  · rw[b.out];exact a
  · rw[T.eq]
    exact q1g (by rw[b.out];exact a) (z6b (q7u _ _) (q4H c))
theorem j3r{N:Int}{x:Wo}(h:z2P N x)(c:N<600):z2P (N+1) (z3F x).1:=by
  unfold z3F
  split
  · rename_i h0
    have a:=j9N h0;have E:=z3a a;have hp:=h.ph;refine((h.up c).q1J (p:=(endP x.p x.ck).1) (j9m h.gp a (by have:=h.n1;omega)) (by rw[E.h];omega) (by rw[E.t];exact Int.le_refl _) (by have:=E.ql;have:=h.ql;omega) (λi b=>?_) (λi b=>q6L (E.lk i b) (h.sp i b))).heads _ _
    have:=j2e.same (E.lk i b);exact⟨this.1,this.2.1⟩
  · exact h.up c
theorem j2s{p:Pr}{c:Int}(h:(z0x p c).2=0):∃i:Nat,c=(i:Int)/\i<2/\z0o p=true/\(p.L i).gone=false/\(p.L i).on=false/\p.h≠0/\p.set.length≠0/\(z0x p c).1={ p with s:={ p.s with W:=p.s.W.map (z0V i (p.h+1))},L:=z0P p.L i (z6M p)}:=by
  unfold z0x at h⊢
  by_cases h1:z0o p=true
  case neg=>rw[if_neg h1]at h;simp at h
  rw[if_pos h1]at h⊢
  by_cases h2:isC c=true
  case neg=>rw[if_neg h2]at h;simp at h
  rw[if_pos h2]at h⊢
  by_cases h3:(p.L c.toNat).gone=true
  · rw[if_pos h3]at h;simp at h
  rw[if_neg h3]at h⊢
  by_cases b:(p.L c.toNat).on=true
  · rw[if_pos b]at h;simp at h
  rw[if_neg b]at h⊢
  by_cases a:p.h=0∨p.set.length=0
  · rw[if_pos a]at h;simp at h
  rw[if_neg a];unfold isC at h2;simp only[Bool.and_eq_true,decide_eq_true_eq]at h2;exact⟨c.toNat,by omega,by omega,h1,by simpa using h3,by simpa using b,λe=>a (.inl e),λe=>a (.inr e),rfl⟩
theorem j1z{N:Int}{x:Wo}(h:z2P N x)(c:Int):z2P N (z1X x c).1:=by
  unfold z1X
  split
  · split
    · rename_i h0
      obtain⟨i,rfl,j,-,l,m,-,-,e⟩:=j2s h0;have gp:=j2o h.gp (i:Int);rw[Int.toNat_natCast,e];rw[e]at gp;generalize a:({ x.p with s:={ x.p.s with W:=x.p.s.W.map (z0V i (x.p.h+1))},L:=z0P x.p.L i (z6M x.p)}:Pr)=P at *
      have f:P.h=x.p.h:=by rw[<-a]
      have g:P.t=x.p.t:=by rw[<-a]
      have es:P.set=x.p.set:=by rw[<-a]
      have eq:P.q=x.p.q:=by rw[<-a]
      have d:P.L=z0P x.p.L i (z6M x.p):=by rw[<-a]
      have key:∀{Q:Cs->Prop},Q (z2s P.set P.h x.ck)->(∀k,k<2->Q (x.c k))->∀k,k<2->Q (z2k x.c i (z2s P.set P.h x.ck) k):=λh1 h2 k b=>by
        by_cases e:k=i
        · subst e;rw[z0S];exact h1
        · rw[z0w _ _ e];exact h2 k b
      have n0:=h.n0;have k0:=h.k0;have k1:=h.k1;have n1:=h.n1;have ph:=h.ph;have n:=h.gp.h0;refine⟨h.n0,h.n1,h.k0,h.k1,gp,key (Q:=GC) (j3W (by rw[es];exact h.gp.set) (by omega) (by omega) k0 (by omega)) h.gc,by rw[f];exact h.ph,by rw[g];exact h.pt,key (Q:=λc=>c.h<=N) n0 h.ch,key (Q:=λc=>c.t<=x.ck) (Int.le_refl _) h.ct,by rw[eq];exact h.ql,key (Q:=λc=>((c.pd.length+c.rp.length:Nat):Int)<=N) n0 h.cl,λk b=>?_,λk b=>?_,key (Q:=λc=>small c.out.S) z5X h.sc⟩
      · show(z2k x.c i (z2s P.set P.h x.ck) k).on=(P.L k).on/\(z2k x.c i (z2s P.set P.h x.ck) k).gone=(P.L k).gone
        rw[d]
        by_cases e:k=i
        · subst e;rw[z0S,z2u];exact⟨rfl,rfl⟩
        · rw[z0w _ _ e,z2d _ _ e];exact h.on k b
      · show small (P.L k).out.S
        rw[d]
        by_cases e:k=i
        · subst e;rw[z2u];exact z5X
        · rw[z2d _ _ e];exact h.sp k b
    · exact h
  · exact h
theorem j3w{N:Int}{x:Wo}(h:z2P N x)(f:N<600){i:Nat}(d:i<2):z2P (N+1) (z3T x i).1:=by
  unfold z3T
  split
  · rename_i h0
    have hc:=h.ch i d;have n1:=h.n1;have gc:=y0M (h.gc i d) (by omega) x.ck
    have e:(z7A (x.c i) x.ck).1=z2K { x.c i with h:=(x.c i).h+1,t:=x.ck}:=by
      unfold z7A at h0⊢
      split at h0
      · split at h0
        · rw[if_pos (by assumption),if_pos (by assumption)]
        · simp at h0
      · contradiction
    rw[e]at gc⊢;have ds:=j0r { x.c i with h:=(x.c i).h+1,t:=x.ck}
    have sm:=q6w (c:={ x.c i with h:=(x.c i).h+1,t:=x.ck}) (h.sc i d)
    generalize g:z2K { x.c i with h:=(x.c i).h+1,t:=x.ck}=E at *
    obtain⟨a,b,l⟩:=ds;have j:E.rp.length<=(x.c i).rp.length+(x.c i).pd.length:=l;have k:=h.cl i d;refine((h.up f).cons d gc (by rw[a.h];show(x.c i).h+1<=_;omega) (by rw[a.t];exact Int.le_refl _) ?_ ⟨a.on,a.gone⟩ sm).heads _ _
    rw[b,List.length_nil];omega
  · exact h.up f
theorem j3h{N:Int}{x:Wo}(h:z2P N x){i:Nat}(a:i<2)(b:Bool):z2P N (z3H x i b):=by
  unfold z3H
  split
  · have g:=h.gp.lk i a
    refine h.q1J (q8l h.gp ⟨g.done,g.og,g.b0,g.b1,g.told,g.out⟩ rfl) h.ph h.pt h.ql (λk c=>?_) (λk c=>?_)
    · show(z0P x.p.L i _ k).on=_/\(z0P x.p.L i _ k).gone=_
      by_cases e:k=i
      · subst e;rw[z2u];exact⟨rfl,rfl⟩
      · rw[z2d _ _ e];exact⟨rfl,rfl⟩
    · show small (z0P x.p.L i _ k).out.S
      by_cases e:k=i
      · subst e;rw[z2u];exact h.sp k c
      · rw[z2d _ _ e];exact h.sp k c
  · have g:=h.gc i a
    exact h.cons a ⟨g.og,g.h0,g.h1,g.t0,g.t1,g.i0,g.i1,g.set,g.pd,g.rp,g.out⟩ (h.ch i a) (h.ct i a) (h.cl i a) ⟨rfl,rfl⟩ (h.sc i a)
theorem q9X(c:Cs)(v now:Int):z4y c (z3o c v now).1/\(z3o c v now).1.pd=c.pd/\(z3o c v now).1.rp=c.rp/\(small c.out.S->small (z3o c v now).1.out.S):=by
  unfold z3o
  repeat' split
  all_goals first
    | exact⟨z4y.refl c,rfl,rfl,id⟩
    | (refine⟨?_,?_,?_,λh=>z6N h⟩
       · have:=z7M c 3 c.id v (z4A v c.set) now
         exact⟨this.on,this.gone,this.h,this.t,this.hd,this.got,this.cl⟩
       · show(z2o c 3 c.id v (z4A v c.set) now).1.pd=_;rw[z5Y]
       · show(z2o c 3 c.id v (z4A v c.set) now).1.rp=_;rw[z5Y])
theorem q2V(c:Cs)(v id now:Int):z4y c (z1c c v id now).1/\(z1c c v id now).1.pd=c.pd/\(z1c c v id now).1.rp=c.rp/\(small c.out.S->small (z1c c v id now).1.out.S):=by
  unfold z1c
  repeat' split
  all_goals first
    | exact⟨z4y.refl c,rfl,rfl,λh=>h⟩
    | exact⟨z7M _ _ _ _ _ _,by rw[z5Y],by rw[z5Y],λh=>z6N h⟩
theorem j5x{N:Int}{x:Wo}(h:z2P N x){i:Nat}(e:i<2)(d:Dd):z2P N (z9d x i d).1:=by
  unfold z9d
  split
  · obtain⟨a,b,c,s⟩:=q9X (x.c i) d.v x.ck
    exact h.cons e (j6X (h.gc i e) _ _) (by rw[a.h];exact h.ch i e) (by rw[a.t];exact h.ct i e) (by rw[b,c];exact h.cl i e) ⟨a.on,a.gone⟩ (s (h.sc i e))
  · obtain⟨a,b,c,s⟩:=q2V (x.c i) d.v d.n x.ck
    exact h.cons e (q8i (h.gc i e) _ _ _) (by rw[a.h];exact h.ch i e) (by rw[a.t];exact h.ct i e) (by rw[b,c];exact h.cl i e) ⟨a.on,a.gone⟩ (s (h.sc i e))
theorem z5i(p:Pr)(c:Int)(l:List Int):(z2z p c l).1={ p with q:=(z2z p c l).1.q}/\(z2z p c l).1.q.length<=p.q.length+1:=by
  unfold z2z
  repeat' split
  all_goals exact⟨rfl,by simp⟩
theorem q6j(c:Cs)(l:List Int):(z3c c l).1={ c with pd:=(z3c c l).1.pd}/\(z3c c l).1.pd.length<=c.pd.length+1:=by
  unfold z3c
  repeat' split
  all_goals exact⟨rfl,by simp⟩
theorem q4l{N:Int}{x:Wo}(h:z2P N x)(d:N<600){i:Nat}(a:i<2)(b:Bool)(s:ByteArray):z2P (N+1) (z1B x i b s).1:=by
  unfold z1B
  split
  · obtain⟨e,l⟩:=z5i x.p i (Cd.bs s)
    have g:=j8z h.gp i (Cd.bs s);have m:=h.ql;generalize (z2z x.p i (Cd.bs s)).1=P at *;refine(h.up d).q1J g (by rw[e];exact(h.up d).ph) (by rw[e];exact h.pt) (by omega) (λk f=>?_) (λk f=>?_)
    · rw[e];exact⟨rfl,rfl⟩
    · rw[e];exact h.sp k f
  · obtain⟨e,l⟩:=q6j (x.c i) (Cd.bs s)
    have g:=j8j (h.gc i a) (Cd.bs s);have n:=h.cl i a;generalize (z3c (x.c i) (Cd.bs s)).1=C at *;have j:C.rp=(x.c i).rp:=by rw[e]
    exact(h.up d).cons a g (by rw[e];exact(h.up d).ch i a) (by rw[e];exact h.ct i a) (by rw[j];omega) (by rw[e];exact⟨rfl,rfl⟩) (by rw[e];exact h.sc i a)
theorem q8F{N:Int}{x:Wo}(h:z2P N x){i:Nat}(a:i<2)(b:Bool){l:Ln.Line}(gl:Ln.z1a l=true)(sl:small l.S):z2P N (z1j x i b l):=by
  unfold z1j
  split
  · exact h.cons a (j5b (h.gc i a) gl) (h.ch i a) (h.ct i a) (h.cl i a) ⟨rfl,rfl⟩ sl
  · have g:=h.gp.lk i a
    refine h.q1J (q8l h.gp ⟨g.done,g.og,g.b0,g.b1,g.told,gl⟩ rfl) h.ph h.pt h.ql (λk c=>?_) (λk c=>?_)
    · show(z0P x.p.L i _ k).on=_/\(z0P x.p.L i _ k).gone=_
      by_cases e:k=i
      · subst e;rw[z2u];exact⟨rfl,rfl⟩
      · rw[z2d _ _ e];exact⟨rfl,rfl⟩
    · show small (z0P x.p.L i _ k).out.S
      by_cases e:k=i
      · subst e;rw[z2u];exact sl
      · rw[z2d _ _ e];exact h.sp k c
theorem z6F{N:Int}{x:Wo}(h:z2P N x){i:Nat}(a:i<2)(b:Bool):small (z0Y x i b).S:=by
  unfold z0Y
  split
  · exact h.sc i a
  · exact h.sp i a
theorem j0e{N:Int}{x:Wo}(h:z2P N x){i:Nat}(a:i<2)(b:Bool):Ln.z1a (z0Y x i b)=true:=by
  unfold z0Y
  split
  · exact(h.gc i a).out
  · exact(h.gp.lk i a).out
theorem j5H{N:Int}{x:Wo}(h:z2P N x)(c:N<600){i:Nat}(a:i<2)(b f:Bool):z2P (N+1) (z7s x i b f).1:=by
  unfold z7s
  split
  · rename_i h0
    split
    · refine q8F (q4l h c a b _) a b (j4a h0) ?_
      rw[q0h h0];exact z6F h a b
    · exact q4l h c a b _
  · exact h.up c
theorem q9K{p:Pr}(h:GP p){i:Nat}(c:i<2)(b:(p.L i).on=true):z0j p i={ p with s:={ p.s with W:=z4X i 1099511627776 p.s.W},L:=z0P p.L i (z4w (p.L i)),q:=p.q.filter λa=>decide (a.1≠i)}:=by
  unfold z0j;rw[if_pos ⟨(z6o p).2 h,by unfold z8G isC;simp[b];omega⟩,Int.toNat_natCast]
theorem j7M{N:Int}{x:Wo}(h:z2P N x){i:Nat}(b:i<2)(g:(x.c i).on=true):z2P N (q1X x i):=by
  have f:(x.p.L i).on=true:=(h.on i b).1.symm.trans g;have gp:=j0h h.gp (i:Int);unfold q1X;rw[q9K h.gp b f]at gp⊢;have j:z1d (x.c i)={ x.c i with on:=false,gone:=true,out:={ (x.c i).out with cl:=true}}:=by unfold z1d;rw[if_pos g]
  have gc:=q8K (h.gc i b);rw[j]at gc⊢
  have key:∀{Q:Cs->Prop},Q { x.c i with on:=false,gone:=true,out:={ (x.c i).out with cl:=true}}->(∀k,k<2->Q (x.c k))->∀k,k<2->Q (z2k x.c i { x.c i with on:=false,gone:=true,out:={ (x.c i).out with cl:=true}} k):=λh1 h2 k d=>by
    by_cases e:k=i
    · subst e;rw[z0S];exact h1
    · rw[z0w _ _ e];exact h2 k d
  refine⟨h.n0,h.n1,h.k0,h.k1,gp,key (Q:=GC) gc h.gc,h.ph,h.pt,key (Q:=λc=>c.h<=N) (h.ch i b) h.ch,key (Q:=λc=>c.t<=x.ck) (h.ct i b) h.ct,?_,key (Q:=λc=>((c.pd.length+c.rp.length:Nat):Int)<=N) (h.cl i b) h.cl,λk d=>?_,λk d=>?_,key (Q:=λc=>small c.out.S) (h.sc i b) h.sc⟩
  · have:=List.length_filter_le (λa:Int×Pkt=>decide (a.1≠(i:Int))) x.p.q
    have:=h.ql
    show((x.p.q.filter λa=>decide (a.1≠(i:Int))).length:Int)<=N
    omega
  · show(z2k x.c i _ k).on=(z0P x.p.L i _ k).on/\(z2k x.c i _ k).gone=(z0P x.p.L i _ k).gone
    by_cases e:k=i
    · subst e;rw[z0S,z2u];exact⟨rfl,rfl⟩
    · rw[z0w _ _ e,z2d _ _ e];exact h.on k d
  · show small (z0P x.p.L i _ k).out.S
    by_cases e:k=i
    · subst e;rw[z2u];exact h.sp k d
    · rw[z2d _ _ e];exact h.sp k d
theorem j9K(x:Wo)(i:Nat)(b:Bool)(l:Ln.Line):((z1j x i b l).c i).on=(x.c i).on:=by
  unfold z1j
  split
  · show(z2k x.c i _ i).on=_;rw[z0S]
  · rfl
theorem j8e{N:Int}{x:Wo}(h:z2P N x){i:Nat}(a:i<2)(d:(x.c i).on=true)(b:Bool)(k:Int):z2P N (z6I x i b k).1:=by
  unfold z6I
  split
  · rename_i h0
    refine j7M (q8F h a b (j3K h0) ?_) a (by rw[j9K];exact d)
    rw[j0Q h0];exact z6F h a b
  · exact h
theorem j2h{N:Int}{x:Wo}(h:z2P N x)(a:N<600){i:Nat}(b:i<2)(e:(x.c i).on=true)(d:Dd):z2P (N+1) (z2c x i d).1:=by
  unfold z2c
  repeat' split
  · exact j3w h a b
  · exact(j3h h b _).up a
  · exact j5H h a b _ _
  · exact(j8e h b e _ _).up a
  · exact(j5x h b _).up a
theorem j5I{c:Int}(h:isC c=true):∃i:Nat,c=(i:Int)/\i<2:=by
  unfold isC at h;simp only[Bool.and_eq_true,decide_eq_true_eq]at h;exact⟨c.toNat,by omega,by omega⟩
theorem j4l{N:Int}{x:Wo}(h:z2P N x)(a:N<600)(d:Dd):z2P (N+1) (z2J x d).1:=by
  unfold z2J
  split
  · exact(j5z h d).up a
  · split
    · exact(q7E h _).up a
    · split
      · exact j3r h a
      · split
        · exact(j1z h _).up a
        · split
          · split
            · rename_i hc
              obtain⟨i,e,b⟩:=j5I hc.1;rw[e,Int.toNat_natCast]at hc⊢;exact j2h h a b hc.2 d
            · exact h.up a
          · exact h.up a
def Inv(x:Wo):Prop:=z2P x.dn x
theorem j9V(x:Wo)(d:Dd):(atP x d).1.dn=x.dn:=by
  unfold atP
  repeat' split
  all_goals rfl
theorem j5r(x:Wo)(i:Nat)(b:Bool)(l:Ln.Line):(z1j x i b l).dn=x.dn:=by unfold z1j;split <;> rfl
theorem q8b(x:Wo)(i:Nat)(b:Bool)(s:ByteArray):(z1B x i b s).1.dn=x.dn:=by unfold z1B;split <;> rfl
theorem j5V(x:Wo)(i:Nat)(d:Dd):(z2c x i d).1.dn=x.dn:=by
  unfold z2c
  split
  · unfold z3T;split <;> rfl
  split
  · unfold z3H;split <;> rfl
  split
  · unfold z7s
    split
    · split
      · show(z1j _ _ _ _).dn=_;rw[j5r,q8b]
      · exact q8b _ _ _ _
    · rfl
  split
  · unfold z6I
    split
    · show(z1j _ _ _ _).dn=_;rw[j5r]
    · rfl
  · unfold z9d;split <;> rfl
theorem q7Q(x:Wo)(d:Dd):(z2J x d).1.dn=x.dn:=by
  unfold z2J
  split
  · exact j9V x d
  split
  · unfold z4z;split <;> rfl
  split
  · unfold z3F;split <;> rfl
  split
  · unfold z1X
    split
    · split <;> rfl
    · rfl
  split
  · split
    · exact j5V _ _ _
    · rfl
  · rfl
theorem j5k{x:Wo}(h:Inv x)(d:Dd):Inv (doW x d).1:=by
  unfold doW
  split
  · exact h
  · rename_i h6
    have h1:z2P x.dn (z2n x):=h.dn _;have:=j4l h1 (by omega) d
    show z2P (z2J (z2n x) d).1.dn (z2J (z2n x) d).1
    rw[q7Q];exact this
theorem q7T:Inv z8y:=by
  have gp:GP newP:=by
    refine⟨by decide,by decide,by decide,by decide,by decide,rfl,λc _=>⟨rfl,λ⟨h,_⟩=>(by cases h),Int.le_refl _,Int.le_refl _,rfl,rfl⟩,λa d=>(by cases d)⟩
  have gc:GC csN:=⟨λ⟨h,_⟩=>(by cases h),by decide,by decide,by decide,by decide,by decide,by decide,rfl,λx b=>(by cases b),λx b=>(by cases b),rfl⟩
  exact⟨by decide,by decide,by decide,by decide,gp,λ_ _=>gc,by decide,by decide,λ_ _=>Int.le_refl _,λ_ _=>Int.le_refl _,by decide,λ_ _=>Int.le_refl _,λ_ _=>⟨rfl,rfl⟩,λ_ _=>z5X,λ_ _=>z5X⟩
end Wd
end Go.Proofs.YtddlhnoedldidaaGreat
