/- Parts of the proof. -/
import Derived.Test.YtjghbciepinofaaGreatPL
import Derived.Test.YtjghbciepinofaaGreatPK11
import Derived.Test.YtjghbciepinofaaGreatPK12
import Derived.Test.YtjghbciepinofaaGreatPK32
set_option maxRecDepth 100000
set_option maxHeartbeats 16000000
namespace Go.Proofs.YtjghbciepinofaaGreat
open Go.Proofs.Tryz
open Value renaming int->J,slice->J1,pointer->J2,bool->J3,agg->J4
open IntKind renaming i64->I
open Obj renaming cells->J5
namespace Pv
open Go.RowKit
def q0R(p:Pr):Prop:=z0j p.s=true/\∀ c,c<2->z1v (-1) (p.L c).done=true
def q8w(x:Pkt):Prop:=(x.k=2∨x.k=3∨x.k=4)/\((x.k=3∨x.k=4)->0<=x.v/\x.v<6)
theorem q0c{p:Pr}(h:∀ c,c<2->z1v (-1) (p.L c).done=true)(k:Nat)(v:Int):∀ c,c<2->z1v (-1) (z3d p.L k { p.L k with done:=z1F (p.L k).done v } c).done=true:=fun c a=>by
 unfold z3d
 by_cases e:c=k
 ·rw[if_pos e];exact q3I _ _
 ·rw[if_neg e];exact h c a
theorem z6Q{p:Pr}(h:q0R p)(c:Nat){x:Pkt}(j:q8w x):q0R (z0y p c x).1:=by
 obtain⟨a,b⟩:=h;obtain⟨n,l⟩:=j;unfold z0y
 by_cases h2:x.k=2
 ·rw[if_pos h2];exact⟨(q8z a c x.i).good,b⟩
 ·rw[if_neg h2];have m:=l (by omega)
  have d:x.v.toNat<6:=by omega
  by_cases e:x.k=4
  ·rw[if_pos e]
   by_cases hd:(p.s.V x.v.toNat).dead=true
   ·rw[if_pos hd];exact⟨a,b⟩
   ·rw[if_neg hd];exact⟨z8c (z6L a d _ (by decide)) d (fun _=>rfl),b⟩
  ·rw[if_neg e]
   by_cases f:(p.s.V x.v.toNat).jail=true
   ·rw[if_pos f];exact⟨a,q0c b c x.v⟩
   ·rw[if_neg f]
    by_cases g:p.ml<1
    ·rw[if_pos g];exact⟨a,b⟩
    ·rw[if_neg g];exact⟨z8c a d (fun _=>rfl),q0c b c x.v⟩
theorem q4g(g:Nat)(p:Pr)(v:PrV)(P:Nat->Prop)(w:World)(c:Nat)(b:c<2)(x:Pkt)(y1 y2:Value)(e:CAt 47 w g (prC p v))(f:PIn P w p v)(j:¬ P g)(d:q0R p)(a:q8w x) :
  Calls prog 67 #[J2 (some ⟨g,0,none⟩),J4 #[J I (c:Int),J I x.k,J I x.i,J I x.v,J I x.n,y1,y2]] w (z3l w g P (z0y p c x)):=by
 rcases a.1 with h | h | h
 ·exact z7l g p v P w c b x y1 y2 e f j d.1 h a.2
 ·exact q0H g p v P w c b x y1 y2 e f j d.1 h a.2 fun q wx r P' l m o=>q3r g p r P' wx c b x l m o q (d.2 c b) d.1 (a.2 (.inl h)).1 (a.2 (.inl h)).2
 ·exact z7U g p v P w c b x y1 y2 e f j d.1 h a.2
theorem q7f{k i v n:Int}{S:List (Int×Int)}{D:List Int}(h:Cd.z0o k i v n S D=0):1<=k/\k<=4/\(Cd.z3N k=true->Cd.isV v=true):=by
 unfold Cd.z0o at h
 by_cases h1:k<1∨4<k
 ·rw[if_pos h1]at h;omega
 rw[if_neg h1]at h
 by_cases h2:i<1∨1099511627776<i
 ·rw[if_pos h2]at h;omega
 rw[if_neg h2]at h
 by_cases h3:Cd.z3N k=true/\(Cd.isV v=false∨n<1∨1125899906842624<n)
 ·rw[if_pos h3]at h;omega
 refine⟨by omega,by omega,fun a=>?_⟩
 cases b:Cd.isV v
 ·exact absurd ⟨a,.inl b⟩ h3
 ·rfl
theorem q2u{L:Nat->Lk}{a:Int×Pkt}(h:z3i L a=true):(0<=a.1/\a.1<2)/\q8w a.2:=by
 unfold z3i at h;simp only[Bool.and_eq_true,decide_eq_true_eq]at h;obtain⟨⟨⟨⟨h0,h1⟩,-⟩,e⟩,c⟩:=h;refine⟨⟨h0,by omega⟩,?_⟩
 obtain⟨f,g,d⟩:=q7f c;refine⟨by omega,fun h=>?_⟩
 have b:=d (by rcases h with h | h <;> rw[h] <;> rfl)
 unfold Cd.isV at b
 simp at b
 omega
theorem q1x(g:Nat)(p:Pr)(v:PrV)(P:Nat->Prop)(w:World)(k:CAt 47 w g (prC p v))(l:PIn P w p v)(m:¬ P g)(h0:q0R p)(b:p.q.length * 88<=140737488355328)(hq:∀ a∈p.q,(0<=a.1/\a.1<2)/\q8w a.2) :
  Calls prog 30 #[J2 (some ⟨g,0,none⟩)] w (Turns w g P (z0H p)):=
 q4i q0R g p v P w k l m h0 b (fun a c=>(hq a c).1) (fun a c j n P' wx y1 y2 d f h i=>by
  obtain⟨⟨h0,h1⟩,o⟩:=hq a c;have e:a.1=(a.1.toNat:Int):=by omega
  rw[e];have:=q4g g j n P' wx a.1.toNat (by omega) a.2 y1 y2 f h i d o
  rw[Int.toNat_natCast]
  exact this) (fun a c j d=>z6Q d _ (hq a c).2)
theorem z7X:∀ (l:List (Int×Pkt)) (z:QS),(∀ a∈l,q8w a.2)->q0R z.p->q0R (l.foldl z1M z).p
 | [],z,_,h=>h
 | a :: l,z,ho,h=>by
  rw[List.foldl_cons];refine z7X l _ (fun b c=>ho b (List.mem_cons_of_mem _ c)) ?_;unfold z1M
  split
  ·exact h
  ·split
   ·exact z6Q h _ (ho a List.mem_cons_self)
   ·exact h
theorem z7u{p:Pr}(a:z1s p=true)(now:Int):q0R (z0Z p now):=by
 unfold z1s at a;simp only[Bool.and_eq_true,z1L]at a;obtain⟨⟨⟨⟨⟨⟨⟨h,-⟩,-⟩,-⟩,-⟩,-⟩,⟨⟨b,-⟩,⟨r1,-⟩⟩⟩,-⟩:=a;refine⟨h,fun c d=>?_⟩
 rcases (show c=0∨c=1 by omega) with rfl | rfl
 ·exact b
 ·exact r1
theorem q0l{p:Pr}(b:z1s p=true):∀ a∈p.q,(0<=a.1/\a.1<2)/\q8w a.2:=fun a c=>by
 unfold z1s at b;simp only[Bool.and_eq_true]at b;exact q2u (List.all_eq_true.1 b.2 a c)
theorem z5Q{p:Pr}(b:z1s p=true)(now:Int):q0R (goQ (z0Z p now)).p:=z7X p.q _ (fun a c=>(q0l b a c).2) (z7u b now)
theorem q3c:∀ (l:List (Int×Pkt)) (z:QS),(l.foldl z1M z).p.t=z.p.t/\(l.foldl z1M z).p.h=z.p.h
 | [],z=>⟨rfl,rfl⟩
 | a :: l,z=>by
  rw[List.foldl_cons];have h:=q3c l (z1M z a)
  have e:(z1M z a).p.t=z.p.t/\(z1M z a).p.h=z.p.h:=by
   unfold z1M
   split
   ·exact⟨rfl,rfl⟩
   ·split
    ·show (z0y z.p a.1.toNat a.2).1.t=z.p.t/\(z0y z.p a.1.toNat a.2).1.h=z.p.h
     unfold z0y
     repeat' split
     all_goals exact⟨rfl,rfl⟩
    ·exact⟨rfl,rfl⟩
  exact⟨h.1.trans e.1,h.2.trans e.2⟩
theorem q6H(p:Pr)(c:Nat):(z1B p c).t=p.t:=by
 unfold z1B
 repeat' split
 all_goals rfl
theorem q5Y(p:Pr)(v:PrV)(P:Nat->Prop)(w:World)(now:Int)(m:PIn P w p v)(f:p.q.length * 88<=140737488355328) :
  Calls prog 9 #[J4 (prC p v),J I now] w (q9F P w (endP p now)):=by
 have i:(z3X (z0H (z0Z p now)) now).t=now:=(q3c p.q ⟨z0Z p now,fun _=>false,[]⟩).1;refine q3o p v P w now m _ _ _ (fun h l n g j wx P' b d e=>?_) (fun h=>(z5Q h now).1) (fun h l n c r g j wx P' b d e=>?_) rfl rfl rfl
 ·exact q1x g (z0Z p now) j P' wx b d e (z7u h now) f (fun a o=>q0l h a o)
 ·have k:0<=now/\now<=1099511627776:=by
   unfold isT at l
   simpa using l
  rcases (show c=0∨c=1 by omega) with rfl | rfl
  ·exact z8w g _ j P' wx 0 (by omega) b d e (by rw[i];exact k.1) (by rw[i];exact k.2)
  ·exact z8w g _ j P' wx 1 (by omega) b d e (by rw[q6H,i];exact k.1) (by rw[q6H,i];exact k.2)
theorem z2i:∀ (l:List (Int×Int)) (a:Int),z2h a l=true->∀ x∈l,a<x.1/\x.1<=5/\1<=x.2/\x.2<=1125899906842624
 | [],_,_,x,b=>by cases b
 | y :: l,a,h,x,b=>by
  simp only[z2h,z8P,Bool.and_eq_true,decide_eq_true_eq]at h
  rcases List.mem_cons.1 b with rfl | b
  ·exact⟨h.1.1.1.1,h.1.1.1.2,h.1.1.2,h.1.2⟩
  ·have:=z2i l y.1 h.2 x b;exact⟨by omega,this.2⟩
theorem z6X:∀ (l m:List (Int×Int)) (a b:Int),z2h a l=true->z2h b m=true->(∀ x,x∈l↔x∈m)->l=m
 | [],[],_,_,_,_,_=>rfl
 | [],y :: m,_,_,_,_,h=>by have:=(h y).2 (List.mem_cons_self);cases this
 | x :: l,[],_,_,_,_,h=>by have:=(h x).1 (List.mem_cons_self);cases this
 | x :: l,y :: m,a,b,hl,hm,h=>by
  simp only[z2h,Bool.and_eq_true]at hl hm
  have e:x=y:=by
   rcases List.mem_cons.1 ((h x).1 List.mem_cons_self) with h1 | h1
   ·exact h1
   ·rcases List.mem_cons.1 ((h y).2 List.mem_cons_self) with h2 | h2
    ·exact h2.symm
    ·have:=(z2i m y.1 hm.2 x h1).1;have:=(z2i l x.1 hl.2 y h2).1;omega
  subst e;rw[z6X l m x.1 x.1 hl.2 hm.2 fun z=>⟨fun c=>?_,fun c=>?_⟩]
  ·rcases List.mem_cons.1 ((h z).1 (List.mem_cons_of_mem _ c)) with h1 | h1
   ·have:=(z2i l x.1 hl.2 z c).1;rw[h1]at this;omega
   ·exact h1
  ·rcases List.mem_cons.1 ((h z).2 (List.mem_cons_of_mem _ c)) with h1 | h1
   ·have:=(z2i m x.1 hm.2 z c).1;rw[h1]at this;omega
   ·exact h1
theorem z7A:∀ (l:List (Int×Int)) (a:Int),(∀ x∈l,a<x.1/\x.1<=5/\1<=x.2/\x.2<=1125899906842624)->l.Pairwise (fun x y=>x.1<y.1)->z2h a l=true
 | [],_,_,_=>rfl
 | y :: l,a,h,hp=>by
  have c:=h y List.mem_cons_self;have b:=List.pairwise_cons.1 hp;simp only[z2h,z8P,Bool.and_eq_true,decide_eq_true_eq];exact⟨⟨⟨⟨c.1,c.2.1⟩,c.2.2.1⟩,c.2.2.2⟩,z7A l y.1 (fun x d=>⟨b.1 x d,(h x (List.mem_cons_of_mem _ d)).2⟩) b.2⟩
theorem z4u(c:Nat->Bool)(f:Nat->Int)(x:Int×Int):∀ n,x∈Df.those c f n↔∃ i:Nat,i<n/\c i=true/\x=((i:Int),f i)
 | 0=>by simp[Df.those]
 | n+1=>by
  rw[Df.z1j];have b:=z4u c f x n
  by_cases h:c n=true
  ·rw[if_pos h,List.mem_append,b,List.mem_singleton]
   constructor
   ·rintro (⟨i,a,h1⟩ | rfl)
    ·exact⟨i,by omega,h1⟩
    ·exact⟨n,by omega,h,rfl⟩
   ·rintro⟨i,a,h1⟩
    rcases Nat.lt_or_ge i n with h2 | h2
    ·exact .inl ⟨i,h2,h1⟩
    ·obtain rfl:i=n:=by omega
     exact .inr h1.2
  ·rw[if_neg h,b]
   constructor
   ·rintro⟨i,a,h1⟩;exact⟨i,by omega,h1⟩
   ·rintro⟨i,a,h1⟩
    rcases Nat.lt_or_ge i n with h2 | h2
    ·exact⟨i,h2,h1⟩
    ·obtain rfl:i=n:=by omega
     exact absurd h1.1 h
theorem z3D(c:Nat->Bool)(f:Nat->Int):∀ n,(Df.those c f n).Pairwise (fun x y=>x.1<y.1)
 | 0=>by simp[Df.those]
 | n+1=>by
  rw[Df.z1j]
  split
  ·rw[List.pairwise_append];refine⟨z3D c f n,List.pairwise_singleton _ _,fun a e b d=>?_⟩;obtain⟨i,g,-,rfl⟩:=(z4u c f a n).1 e;rw[List.mem_singleton]at d;subst d
   show (i:Int)<(n:Int)
   omega
  ·exact z3D c f n
theorem z9P:∀ (l:List (Int×Int)) (a:Int) (P:Nat->Int),-1<=a->z2h a l=true->(∀ x∈l,Df.z2v P l x.1.toNat=x.2)/\∀ i:Nat,(∀ x∈l,x.1≠(i:Int))->Df.z2v P l i=P i
 | [],_,P,_,_=>⟨fun x c=>(by cases c),fun _ _=>rfl⟩
 | y :: l,a,P,ha,h=>by
  have f:=z2i (y :: l) a h;have g:=f y List.mem_cons_self;simp only[z2h,Bool.and_eq_true]at h;obtain⟨h1,h2⟩:=z9P l y.1 (Df.z7v P y) (by omega) h.2
  have hl:=z2i l y.1 h.2
  have b:∀ i,Df.z7v P y i=if i=y.1.toNat then y.2 else P i:=fun i=>by
   unfold Df.z7v;rw[if_pos (by omega)]
  refine⟨fun x c=>?_,fun i e=>?_⟩
  ·show Df.z2v (Df.z7v P y) l x.1.toNat=x.2
   rcases List.mem_cons.1 c with rfl | c
   ·rw[h2 _ (fun z d=>by have:=(hl z d).1;omega),b,if_pos rfl]
   ·exact h1 x c
  ·show Df.z2v (Df.z7v P y) l i=P i
   rw[h2 i (fun z d=>e z (List.mem_cons_of_mem _ d)),b,if_neg (by have:=e y List.mem_cons_self;omega)]
theorem q4b{l:List (Int×Int)}(h:z2h (-1) l=true):l=Df.setOf (Df.z2v Df.z2e l)/\∀ i,0<=Df.z2v Df.z2e l i:=by
 obtain⟨h1,h2⟩:=z9P l (-1) Df.z2e (by omega) h
 have b:=z2i l (-1) h
 have d:∀ i:Nat,(∃ x∈l,x.1=(i:Int)/\Df.z2v Df.z2e l i=x.2)∨((∀ x∈l,x.1≠(i:Int))/\Df.z2v Df.z2e l i=0):=fun i=>by
  by_cases e:∃ x∈l,x.1=(i:Int)
  ·obtain⟨x,a,ex⟩:=e;have:=h1 x a;rw[ex,Int.toNat_natCast]at this;exact .inl ⟨x,a,ex,this⟩
  ·have f:∀ x∈l,x.1≠(i:Int):=fun x a c=>e ⟨x,a,c⟩;exact .inr ⟨f,h2 i f⟩
 have j:∀ i,0<=Df.z2v Df.z2e l i:=fun i=>by
  rcases d i with⟨x,a,-,e⟩ | ⟨-,e⟩
  ·rw[e];have:=b x a;omega
  ·rw[e];omega
 refine⟨?_,j⟩
 have hmem:∀ x,x∈l↔x∈Df.setOf (Df.z2v Df.z2e l):=fun x=>by
  unfold Df.setOf;rw[z4u]
  constructor
  ·intro a;have k:=b x a;have e:=h1 x a;exact⟨x.1.toNat,by omega,by rw[e];simp;omega,by rw[e];ext <;> simp;omega⟩
  ·rintro⟨i,m,g,rfl⟩
   rcases d i with⟨x,a,ex,e⟩ | ⟨-,e⟩
   ·rw[e,<- ex];exact a
   ·rw[e]at g;simp at g
 refine z6X l _ (-1) (-1) h (z7A _ (-1) (fun x a=>?_) (z3D _ _ 6)) hmem;exact b x ((hmem x).2 a)
theorem q2g{l m:List (Int×Int)}(hl:z2h (-1) l=true)(a:z2h (-1) m=true):Df.z8b l (Df.z2x l m)=m:=by
 obtain⟨b,c⟩:=q4b hl;obtain⟨d,e⟩:=q4b a;rw[b,d];exact Df.q1O c e
theorem q0b{V:Nat->Vd}(l:∀ k,k<6->(V k).tok<=1125899906842624):z2h (-1) (z4Y V)=true:=by
 refine z7A _ _ (fun x m=>?_) ?_
 ·obtain⟨i,e,rfl,q,-⟩:=q8W V x m;have:=l i e;unfold pwr at *;refine⟨by show (-1:Int)<(i:Int);omega,by show (i:Int)<=5;omega,by show 1<=(V i).tok / 100;omega,by show (V i).tok / 100<=_;omega⟩
 ·have n:=z8e j1d ((z1D ltP (z2G V 6)).take 4)
  have c:(z4Y V).Pairwise (fun a b=>a.1≠b.1):=by
   have h1:(z1D ltP (z2G V 6)).Pairwise (fun a b=>a.1≠b.1):=(z1g ltP (z2G V 6)).symm.pairwise (z3p V 6) (fun h=>h.symm);exact (z1g ltV _).symm.pairwise (h1.sublist (List.take_sublist _ _)) (fun h=>h.symm)
  rw[List.pairwise_iff_getElem]at c ⊢;intro i j e f d;have g:(z4Y V).length=((z1D ltP (z2G V 6)).take 4).length:=(z1g ltV _).length_eq;have h1:=n i j d (by omega)
  rw[q4h]at h1;have h2:=c i j e f d;have o:(z1D ltV ((z1D ltP (z2G V 6)).take 4)).getD i pz=(z4Y V)[i]:=by show (z4Y V).getD i pz=_;simp[List.getD,e]
  have p:(z1D ltV ((z1D ltP (z2G V 6)).take 4)).getD j pz=(z4Y V)[j]:=by show (z4Y V).getD j pz=_;simp[List.getD,f]
  rw[o,p]at h1;omega
structure z4C(y x:Lk):Prop where
 on:x.on=y.on
 gone:x.gone=y.gone
 base:x.base=y.base
 told:x.told=y.told
 fresh:x.fresh=y.fresh
 out:x.out=y.out
 hd:x.h0=y.h0/\x.h1=y.h1/\x.h2=y.h2/\x.h3=y.h3
theorem z4C.refl(y:Lk):z4C y y:=⟨rfl,rfl,rfl,rfl,rfl,rfl,rfl,rfl,rfl,rfl⟩
theorem z4C.trans{a b c:Lk}(h:z4C a b)(k:z4C b c):z4C a c:=⟨k.on.trans h.on,k.gone.trans h.gone,k.base.trans h.base,k.told.trans h.told,k.fresh.trans h.fresh,k.out.trans h.out,k.hd.1.trans h.hd.1,k.hd.2.1.trans h.hd.2.1,k.hd.2.2.1.trans h.hd.2.2.1,k.hd.2.2.2.trans h.hd.2.2.2⟩
theorem z4C.done(L:Nat->Lk)(c:Nat)(l:List Int)(k:Nat):z4C (L k) (z3d L c { L c with done:=l } k):=by
 unfold z3d
 by_cases e:k=c
 ·subst e;rw[if_pos rfl];exact⟨rfl,rfl,rfl,rfl,rfl,rfl,rfl,rfl,rfl,rfl⟩
 ·rw[if_neg e];exact z4C.refl _
structure z4h(p r:Pr):Prop where
 h:r.h=p.h
 t:r.t=p.t
 set:r.set=p.set
 mn:r.mn=p.mn
 lk:∀ k,z4C (p.L k) (r.L k)
theorem z4h.refl(p:Pr):z4h p p:=⟨rfl,rfl,rfl,rfl,fun _=>z4C.refl _⟩
theorem z4h.trans{a b c:Pr}(h:z4h a b)(k:z4h b c):z4h a c:=⟨k.h.trans h.h,k.t.trans h.t,k.set.trans h.set,k.mn.trans h.mn,fun i=>(h.lk i).trans (k.lk i)⟩
theorem q3U(p:Pr)(c:Nat)(x:Pkt):z4h p (z0y p c x).1:=by
 unfold z0y
 repeat' split
 all_goals first | exact z4h.refl p | exact⟨rfl,rfl,rfl,rfl,fun _=>z4C.refl _⟩ | exact⟨rfl,rfl,rfl,rfl,fun k=>z4C.done _ _ _ k⟩
theorem z6J:∀ (l:List (Int×Pkt)) (z:QS),z4h z.p (l.foldl z1M z).p
 | [],z=>z4h.refl _
 | a :: l,z=>by
  rw[List.foldl_cons];refine z4h.trans ?_ (z6J l (z1M z a));unfold z1M
  split
  ·exact z4h.refl _
  ·split
   ·exact q3U _ _ _
   ·exact z4h.refl _
theorem z6p(p:Pr):z4h p (z0H p):=by
 have h:=z6J p.q ⟨p,fun _=>false,[]⟩;exact⟨h.h,h.t,h.set,h.mn,h.lk⟩
theorem q3e(p:Pr)(c k:Nat)(h:k≠c):(z1B p c).L k=p.L k:=by
 unfold z1B
 repeat' split
 all_goals first | rfl | (show z3d p.L c _ k=p.L k;unfold z3d;rw[if_neg h])
theorem q3x(p:Pr)(c:Nat):(z1B p c).h=p.h/\(z1B p c).t=p.t/\(z1B p c).s=p.s/\(z1B p c).set=p.set/\(z1B p c).ml=p.ml/\(z1B p c).mn=p.mn/\(z1B p c).q=p.q:=by
 unfold z1B
 repeat' split
 all_goals exact⟨rfl,rfl,rfl,rfl,rfl,rfl,rfl⟩
theorem q2E(a d:List (Int×Int)):(Df.z2x a d).length<=6:=Df.z1W _ _ 6
end Pv
namespace Pv
open Go.RowKit
theorem z8X{w:World}{g:Nat}{p:Pr}{v:PrV}(h:CAt 47 w g (prC p v)){y:Nat}(a:y<6):w.cell? ⟨g,9+y * 5,none⟩=some (J I (p.s.V y).tok)/\w.cell? ⟨g,9+y * 5+1,none⟩=some (J I (p.s.V y).sh)/\w.cell? ⟨g,9+y * 5+2,none⟩=some (J I (p.s.V y).lost)/\w.cell? ⟨g,9+y * 5+3,none⟩=some (J3 (p.s.V y).jail)/\w.cell? ⟨g,9+y * 5+4,none⟩=some (J3 (p.s.V y).dead):=by
 rcases (show y=0∨y=1∨y=2∨y=3∨y=4∨y=5 by omega) with rfl | rfl | rfl | rfl | rfl | rfl <;> exact⟨h.cell _,h.cell _,h.cell _,h.cell _,h.cell _⟩
attribute [local go_sem ↓] z0O z1c z0J z0L
end Pv
end Go.Proofs.YtjghbciepinofaaGreat
