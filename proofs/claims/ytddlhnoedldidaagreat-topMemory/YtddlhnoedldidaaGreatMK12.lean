/- Parts of the proof. -/
import Derived.Test.YtddlhnoedldidaaGreatML
import Derived.Test.YtddlhnoedldidaaGreatMK8
import Derived.Test.YtddlhnoedldidaaGreatMK9
import Derived.Test.YtddlhnoedldidaaGreatMK27
set_option maxRecDepth 100000
set_option maxHeartbeats 16000000
namespace Go.Proofs.YtddlhnoedldidaaGreat
open Go.Proofs.Tryz
open Value renaming int->J,slice->J1,pointer->J2,bool->J3,agg->J4
open IntKind renaming i64->I
open Obj renaming cells->J5
namespace Pv
open Go.RowKit
def j0l(p:Pr):Prop:=z0m p.s=true/\∀ c,c<2->z2j (-1) (p.L c).done=true
def j5w(x:Pkt):Prop:=(x.k=2∨x.k=3∨x.k=4)/\((x.k=3∨x.k=4)->0<=x.v/\x.v<6)
theorem q2U{p:Pr}(h:∀ c,c<2->z2j (-1) (p.L c).done=true)(k:Nat)(v:Int):∀ c,c<2->z2j (-1) (z1a p.L k { p.L k with done:=z2P (p.L k).done v } c).done=true:=fun c hc=>by
 unfold z1a
 by_cases e:c=k
 ·rw[if_pos e];exact q7L _ _
 ·rw[if_neg e];exact h c hc
theorem q2D{p:Pr}(h:j0l p)(c:Nat){x:Pkt}(j:j5w x):j0l (z1L p c x).1:=by
 obtain⟨a,b⟩:=h;obtain⟨n,l⟩:=j;unfold z1L
 by_cases h2:x.k=2
 ·rw[if_pos h2];exact⟨(j2m a c x.i).good,b⟩
 ·rw[if_neg h2];have m:=l (by omega)
  have d:x.v.toNat<6:=by omega
  by_cases e:x.k=4
  ·rw[if_pos e]
   by_cases hd:(p.s.V x.v.toNat).dead=true
   ·rw[if_pos hd];exact⟨a,b⟩
   ·rw[if_neg hd];exact⟨z5m (z5T a d _ (by decide)) d (fun _=>rfl),b⟩
  ·rw[if_neg e]
   by_cases f:(p.s.V x.v.toNat).jail=true
   ·rw[if_pos f];exact⟨a,q2U b c x.v⟩
   ·rw[if_neg f]
    by_cases g:p.ml<1
    ·rw[if_pos g];exact⟨a,b⟩
    ·rw[if_neg g];exact⟨z5m a d (fun _=>rfl),q2U b c x.v⟩
theorem q8S(g:Nat)(p:Pr)(v:PrV)(P:Nat->Prop)(w:World)(c:Nat)(hc:c<2)(x:Pkt)(d e:Value)(f:CAt 58 w g (prC p v))(hp:PIn P w p v)(j:¬ P g)(b:j0l p)(a:j5w x) :
  Calls prog 109 #[J2 (some ⟨g,0,none⟩),J4 #[J I (c:Int),J I x.k,J I x.i,J I x.v,J I x.n,d,e]] w (z4d w g P (z1L p c x)):=by
 rcases a.1 with h | h | h
 ·exact z9j g p v P w c hc x d e f hp j b.1 h a.2
 ·exact q4g g p v P w c hc x d e f hp j b.1 h a.2 fun o q v' P' l hp' m=>q8A g p v' P' q c hc x l hp' m o (b.2 c hc) b.1 (a.2 (.inl h)).1 (a.2 (.inl h)).2
 ·exact q0m g p v P w c hc x d e f hp j b.1 h a.2
theorem j3h{k i v n:Int}{S:List (Int×Int)}{D:List Int}(h:Cd.z0s k i v n S D=0):1<=k/\k<=4/\(Cd.z6E k=true->Cd.isV v=true):=by
 unfold Cd.z0s at h
 by_cases h1:k<1∨4<k
 ·rw[if_pos h1]at h;omega
 rw[if_neg h1]at h
 by_cases h2:i<1∨1099511627776<i
 ·rw[if_pos h2]at h;omega
 rw[if_neg h2]at h
 by_cases h3:Cd.z6E k=true/\(Cd.isV v=false∨n<1∨1125899906842624<n)
 ·rw[if_pos h3]at h;omega
 refine⟨by omega,by omega,fun a=>?_⟩
 cases b:Cd.isV v
 ·exact absurd ⟨a,.inl b⟩ h3
 ·rfl
theorem j4o{L:Nat->Lk}{a:Int×Pkt}(h:z5o L a=true):(0<=a.1/\a.1<2)/\j5w a.2:=by
 unfold z5o at h;simp only[Bool.and_eq_true,decide_eq_true_eq]at h;obtain⟨⟨⟨⟨h0,h1⟩,-⟩,e⟩,c⟩:=h;refine⟨⟨h0,by omega⟩,?_⟩
 obtain⟨k1,f,d⟩:=j3h c;refine⟨by omega,fun h=>?_⟩
 have b:=d (by rcases h with h | h <;> rw[h] <;> rfl)
 unfold Cd.isV at b
 simp at b
 omega
theorem q5l(g:Nat)(p:Pr)(v:PrV)(P:Nat->Prop)(w:World)(k:CAt 58 w g (prC p v))(hp:PIn P w p v)(l:¬ P g)(h0:j0l p)(b:p.q.length * 88<=140737488355328)(d:∀ a∈p.q,(0<=a.1/\a.1<2)/\j5w a.2) :
  Calls prog 77 #[J2 (some ⟨g,0,none⟩)] w (Turns w g P (z0L p)):=
 q6g j0l g p v P w k hp l h0 b (fun a c=>(d a c).1) (fun a c j v' P' m n o f h hp' i=>by
  obtain⟨⟨h0,h1⟩,r⟩:=d a c;have e:a.1=(a.1.toNat:Int):=by omega
  rw[e];have:=q8S g j v' P' m a.1.toNat (by omega) a.2 n o h hp' i f r
  rw[Int.toNat_natCast]
  exact this) (fun a c j f=>q2D f _ (d a c).2)
theorem q0L:∀ (l:List (Int×Pkt)) (z:QS),(∀ a∈l,j5w a.2)->j0l z.p->j0l (l.foldl z2r z).p
 | [],z,_,h=>h
 | a :: l,z,ho,h=>by
  rw[List.foldl_cons];refine q0L l _ (fun b hb=>ho b (List.mem_cons_of_mem _ hb)) ?_;unfold z2r
  split
  ·exact h
  ·split
   ·exact q2D h _ (ho a List.mem_cons_self)
   ·exact h
theorem q3N{p:Pr}(a:z0J p=true)(now:Int):j0l (z1k p now):=by
 unfold z0J at a;simp only[Bool.and_eq_true,z2h]at a;obtain⟨⟨⟨⟨⟨⟨⟨h,-⟩,-⟩,-⟩,-⟩,-⟩,⟨⟨b,-⟩,⟨r1,-⟩⟩⟩,-⟩:=a;refine⟨h,fun c hc=>?_⟩
 rcases (show c=0∨c=1 by omega) with rfl | rfl
 ·exact b
 ·exact r1
theorem q2Q{p:Pr}(b:z0J p=true):∀ a∈p.q,(0<=a.1/\a.1<2)/\j5w a.2:=fun a c=>by
 unfold z0J at b;simp only[Bool.and_eq_true]at b;exact j4o (List.all_eq_true.1 b.2 a c)
theorem q0U{p:Pr}(b:z0J p=true)(now:Int):j0l (goQ (z1k p now)).p:=q0L p.q _ (fun a c=>(q2Q b a c).2) (q3N b now)
theorem q8j:∀ (l:List (Int×Pkt)) (z:QS),(l.foldl z2r z).p.t=z.p.t/\(l.foldl z2r z).p.h=z.p.h
 | [],z=>⟨rfl,rfl⟩
 | a :: l,z=>by
  rw[List.foldl_cons];have h:=q8j l (z2r z a)
  have e:(z2r z a).p.t=z.p.t/\(z2r z a).p.h=z.p.h:=by
   unfold z2r
   split
   ·exact⟨rfl,rfl⟩
   ·split
    ·show (z1L z.p a.1.toNat a.2).1.t=z.p.t/\(z1L z.p a.1.toNat a.2).1.h=z.p.h
     unfold z1L
     repeat' split
     all_goals exact⟨rfl,rfl⟩
    ·exact⟨rfl,rfl⟩
  exact⟨h.1.trans e.1,h.2.trans e.2⟩
theorem j2F(p:Pr)(c:Nat):(z1H p c).t=p.t:=by
 unfold z1H
 repeat' split
 all_goals rfl
theorem j1E(p:Pr)(v:PrV)(P:Nat->Prop)(w:World)(now:Int)(hp:PIn P w p v)(e:p.q.length * 88<=140737488355328) :
  Calls prog 58 #[J4 (prC p v),J I now] w (j8f P w (endP p now)):=by
 have h:(z4n (z0L (z1k p now)) now).t=now:=(q8j p.q ⟨z1k p now,fun _=>false,[]⟩).1;refine j3v p v P w now hp _ _ _ (fun f j k g v' i P' b hp' d=>?_) (fun f=>(q0U f now).1) (fun f j k c hc g v' i P' b hp' d=>?_) rfl rfl rfl
 ·exact q5l g (z1k p now) v' P' i b hp' d (q3N f now) e (fun a l=>q2Q f a l)
 ·have hb:0<=now/\now<=1099511627776:=by
   unfold isT at j
   simpa using j
  rcases (show c=0∨c=1 by omega) with rfl | rfl
  ·exact q0s g _ v' P' i 0 (by omega) b hp' d (by rw[h];exact hb.1) (by rw[h];exact hb.2)
  ·exact q0s g _ v' P' i 1 (by omega) b hp' d (by rw[j2F,h];exact hb.1) (by rw[j2F,h];exact hb.2)
theorem j5m{k i v n:Int}{S:List (Int×Int)}{D:List Int}(h:Cd.z0s k i v n S D=0):Cd.bs (Cd.encS k i v n S D)=Cd.enc k i v n S D:=by
 rw[Cd.encS,if_pos h]
 show ((Cd.enc k i v n S D).map (fun n=>UInt8.ofNat n.toNat)).map (fun u=>(u.toNat:Int))=_
 rw[List.map_map]
 conv=>rhs;rw[<- List.map_id (Cd.enc k i v n S D)]
 refine List.map_congr_left fun c hc=>?_;have:=Cd.j0M _ _ _ _ _ _ c hc;simp only[Function.comp,id,UInt8.toNat_ofNat'];omega
theorem q7G{k i v n:Int}{S:List (Int×Int)}{D:List Int}(h:Cd.z0s k i v n S D=0):(Cd.encS k i v n S D).size=17+8 * S.length+D.length:=by
 rw[<- Cd.z2o,j5m h,Cd.q4M]
theorem q3h:∀ (l:List (Int×Int)) (a:Int),z3l a l=true->∀ x∈l,a<x.1/\x.1<=5/\1<=x.2/\x.2<=1125899906842624
 | [],_,_,x,b=>by cases b
 | y :: l,a,h,x,b=>by
  simp only[z3l,z7Y,Bool.and_eq_true,decide_eq_true_eq]at h
  rcases List.mem_cons.1 b with rfl | b
  ·exact⟨h.1.1.1.1,h.1.1.1.2,h.1.1.2,h.1.2⟩
  ·have:=q3h l y.1 h.2 x b;exact⟨by omega,this.2⟩
theorem q1P:∀ (l:List (Int×Int)) (a:Int),(∀ x∈l,a<x.1/\x.1<=5/\1<=x.2/\x.2<=1125899906842624)->l.Pairwise (fun x y=>x.1<y.1)->z3l a l=true
 | [],_,_,_=>rfl
 | y :: l,a,h,hp=>by
  have b:=h y List.mem_cons_self;have hp':=List.pairwise_cons.1 hp;simp only[z3l,z7Y,Bool.and_eq_true,decide_eq_true_eq];exact⟨⟨⟨⟨b.1,b.2.1⟩,b.2.2.1⟩,b.2.2.2⟩,q1P l y.1 (fun x c=>⟨hp'.1 x c,(h x (List.mem_cons_of_mem _ c)).2⟩) hp'.2⟩
theorem z7p(c:Nat->Bool)(f:Nat->Int)(x:Int×Int):∀ n,x∈Df.those c f n↔∃ i:Nat,i<n/\c i=true/\x=((i:Int),f i)
 | 0=>by simp[Df.those]
 | n+1=>by
  rw[Df.z3G];have b:=z7p c f x n
  by_cases h:c n=true
  ·rw[if_pos h,List.mem_append,b,List.mem_singleton]
   constructor
   ·rintro (⟨i,a,h1⟩ | rfl)
    ·exact⟨i,by omega,h1⟩
    ·exact⟨n,by omega,h,rfl⟩
   ·rintro⟨i,a,h1⟩
    rcases Nat.lt_or_ge i n with h2 | h2
    ·exact .inl ⟨i,h2,h1⟩
    ·obtain rfl:i=n:=by omega
     exact .inr h1.2
  ·rw[if_neg h,b]
   constructor
   ·rintro⟨i,a,h1⟩;exact⟨i,by omega,h1⟩
   ·rintro⟨i,a,h1⟩
    rcases Nat.lt_or_ge i n with h2 | h2
    ·exact⟨i,h2,h1⟩
    ·obtain rfl:i=n:=by omega
     exact absurd h1.1 h
theorem z5X(c:Nat->Bool)(f:Nat->Int):∀ n,(Df.those c f n).Pairwise (fun x y=>x.1<y.1)
 | 0=>by simp[Df.those]
 | n+1=>by
  rw[Df.z3G]
  split
  ·rw[List.pairwise_append];refine⟨z5X c f n,List.pairwise_singleton _ _,fun a d b hb=>?_⟩;obtain⟨i,e,-,rfl⟩:=(z7p c f a n).1 d;rw[List.mem_singleton]at hb;subst hb
   show (i:Int)<(n:Int)
   omega
  ·exact z5X c f n
theorem j1W{V:Nat->Vd}(l:∀ k,k<6->(V k).tok<=1125899906842624):z3l (-1) (z7M V)=true:=by
 refine q1P _ _ (fun x m=>?_) ?_
 ·obtain⟨i,e,rfl,hp,-⟩:=j5Q V x m;have:=l i e;unfold pwr at *;refine⟨by show (-1:Int)<(i:Int);omega,by show (i:Int)<=5;omega,by show 1<=(V i).tok / 100;omega,by show (V i).tok / 100<=_;omega⟩
 ·have n:=q8E j8F ((z2s ltP (z4L V 6)).take 4)
  have c:(z7M V).Pairwise (fun a b=>a.1≠b.1):=by
   have h1:(z2s ltP (z4L V 6)).Pairwise (fun a b=>a.1≠b.1):=(z3I ltP (z4L V 6)).symm.pairwise (z5U V 6) (fun h=>h.symm);exact (z3I ltV _).symm.pairwise (h1.sublist (List.take_sublist _ _)) (fun h=>h.symm)
  rw[List.pairwise_iff_getElem]at c ⊢;intro i j e f d;have g:(z7M V).length=((z2s ltP (z4L V 6)).take 4).length:=(z3I ltV _).length_eq;have h1:=n i j d (by omega)
  rw[q8K]at h1;have h2:=c i j e f d;have o:(z2s ltV ((z2s ltP (z4L V 6)).take 4)).getD i pz=(z7M V)[i]:=by show (z7M V).getD i pz=_;simp[List.getD,e]
  have p:(z2s ltV ((z2s ltP (z4L V 6)).take 4)).getD j pz=(z7M V)[j]:=by show (z7M V).getD j pz=_;simp[List.getD,f]
  rw[o,p]at h1;omega
structure z5p(y x:Lk):Prop where
 on:x.on=y.on
 gone:x.gone=y.gone
 base:x.base=y.base
 told:x.told=y.told
 fresh:x.fresh=y.fresh
 out:x.out=y.out
 hd:x.h0=y.h0/\x.h1=y.h1/\x.h2=y.h2/\x.h3=y.h3
theorem z5p.refl(y:Lk):z5p y y:=⟨rfl,rfl,rfl,rfl,rfl,rfl,rfl,rfl,rfl,rfl⟩
theorem z5p.trans{a b c:Lk}(h:z5p a b)(k:z5p b c):z5p a c:=⟨k.on.trans h.on,k.gone.trans h.gone,k.base.trans h.base,k.told.trans h.told,k.fresh.trans h.fresh,k.out.trans h.out,k.hd.1.trans h.hd.1,k.hd.2.1.trans h.hd.2.1,k.hd.2.2.1.trans h.hd.2.2.1,k.hd.2.2.2.trans h.hd.2.2.2⟩
theorem z5p.done(L:Nat->Lk)(c:Nat)(l:List Int)(k:Nat):z5p (L k) (z1a L c { L c with done:=l } k):=by
 unfold z1a
 by_cases e:k=c
 ·subst e;rw[if_pos rfl];exact⟨rfl,rfl,rfl,rfl,rfl,rfl,rfl,rfl,rfl,rfl⟩
 ·rw[if_neg e];exact z5p.refl _
structure z5z(p r:Pr):Prop where
 h:r.h=p.h
 t:r.t=p.t
 set:r.set=p.set
 mn:r.mn=p.mn
 lk:∀ k,z5p (p.L k) (r.L k)
theorem z5z.refl(p:Pr):z5z p p:=⟨rfl,rfl,rfl,rfl,fun _=>z5p.refl _⟩
theorem z5z.trans{a b c:Pr}(h:z5z a b)(k:z5z b c):z5z a c:=⟨k.h.trans h.h,k.t.trans h.t,k.set.trans h.set,k.mn.trans h.mn,fun i=>(h.lk i).trans (k.lk i)⟩
theorem q9q(p:Pr)(c:Nat)(x:Pkt):z5z p (z1L p c x).1:=by
 unfold z1L
 repeat' split
 all_goals first | exact z5z.refl p | exact⟨rfl,rfl,rfl,rfl,fun _=>z5p.refl _⟩ | exact⟨rfl,rfl,rfl,rfl,fun k=>z5p.done _ _ _ k⟩
theorem z8Q:∀ (l:List (Int×Pkt)) (z:QS),z5z z.p (l.foldl z2r z).p
 | [],z=>z5z.refl _
 | a :: l,z=>by
  rw[List.foldl_cons];refine z5z.trans ?_ (z8Q l (z2r z a));unfold z2r
  split
  ·exact z5z.refl _
  ·split
   ·exact q9q _ _ _
   ·exact z5z.refl _
theorem q4k(p:Pr):z5z p (z0L p):=by
 have h:=z8Q p.q ⟨p,fun _=>false,[]⟩;exact⟨h.h,h.t,h.set,h.mn,h.lk⟩
theorem q0e(p:Pr)(c k:Nat)(h:k≠c):(z1H p c).L k=p.L k:=by
 unfold z1H
 repeat' split
 all_goals first | rfl | (show z1a p.L c _ k=p.L k;unfold z1a;rw[if_neg h])
theorem q0P(p:Pr)(c:Nat):(z1H p c).h=p.h/\(z1H p c).t=p.t/\(z1H p c).s=p.s/\(z1H p c).set=p.set/\(z1H p c).ml=p.ml/\(z1H p c).mn=p.mn/\(z1H p c).q=p.q:=by
 unfold z1H
 repeat' split
 all_goals exact⟨rfl,rfl,rfl,rfl,rfl,rfl,rfl⟩
structure Told(h t:Int)(set:List (Int×Int))(y x:Lk):Prop where
 on:y.on=true
 good:Cd.z0s 1 h 0 0 (Df.z6B y.told set) y.done=0
 say:Ln.z6v y.out (t+40)=0
 eq:x={ y with out:=Ln.z5K y.out (Cd.encS 1 h 0 0 (Df.z6B y.told set) y.done) (t+40),told:=set,fresh:=false,done:=[] }
theorem q6B(p:Pr)(c:Nat):(z1H p c).L c=p.L c∨Told p.h p.t p.set (p.L c) ((z1H p c).L c):=by
 unfold z1H
 by_cases a:z7D p (p.L c)=true
 ·rw[if_pos a];exact .inl rfl
 rw[if_neg a]
 by_cases h1:Cd.z0s 1 p.h 0 0 (Df.z6B (p.L c).told p.set) (p.L c).done=0
 ·rw[if_pos h1]
  by_cases h2:Ln.z6v (p.L c).out (p.t+40)=0
  ·rw[if_pos h2];refine .inr ⟨?_,h1,h2,?_⟩
   ·cases b:(p.L c).on
    ·exact absurd (by unfold z7D;rw[b];rfl) a
    ·rfl
   ·show z1a p.L c _ c=_
    unfold z1a;rw[if_pos rfl]
  ·rw[if_neg h2];exact .inl rfl
 ·rw[if_neg h1];exact .inl rfl
structure j3L(h t:Int)(set:List (Int×Int))(y x:Lk):Prop where
 ex:∃ z,z5p y z/\z2j (-1) z.done=true/\(x=z∨Told h t set z x)
structure j8C(p a:Pr)(now:Int):Prop where
 h:a.h=p.h+1
 t:a.t=now
 s:a.s=z5J (z0L (z1k p now)).s now
 good:z0m a.s=true
 set:a.set=z7M a.s.V
 z3l:z3l (-1) a.set=true
 q:a.q=(goQ (z1k p now)).left
 ql:a.q.length<=p.q.length
 lk:∀ c,c<2->j3L a.h a.t a.set (p.L c) (a.L c)
theorem q7M{p:Pr}{now:Int}(d:z0J p=true/\isT now=true/\p.t<=now):j8C p (endP p now).1 now:=by
 have w:(endP p now).1=z1H (z1H (z4n (z0L (z1k p now)) now) 0) 1:=by unfold endP;rw[if_pos d]
 rw[w];have i:=q0U d.1 now;have a:=q4k (z1k p now);obtain⟨x,y,A,B,D,E,j⟩:=q0P (z1H (z4n (z0L (z1k p now)) now) 0) 1;obtain⟨b1,b2,b3,l,F,G,m⟩:=q0P (z4n (z0L (z1k p now)) now) 0;have n:z0m (z5J (z0L (z1k p now)).s now)=true:=q2M i.1 now;have o:(z1H (z1H (z4n (z0L (z1k p now)) now) 0) 1).h=p.h+1:=by rw[x,b1];exact a.h
 have r:(z1H (z1H (z4n (z0L (z1k p now)) now) 0) 1).t=now:=by rw[y,b2];exact a.t
 have es:(z1H (z1H (z4n (z0L (z1k p now)) now) 0) 1).s=z5J (z0L (z1k p now)).s now:=by rw[A,b3];rfl
 have b:(z1H (z1H (z4n (z0L (z1k p now)) now) 0) 1).set=z7M (z5J (z0L (z1k p now)).s now).V:=by rw[B,l];rfl
 have e:z3l (-1) (z7M (z5J (z0L (z1k p now)).s now).V)=true:=j1W fun k C=>(j7U n C).2;refine⟨o,r,es,by rw[es];exact n,by rw[b,es],by rw[b];exact e,by rw[j,m];rfl,?_,fun c hc=>?_⟩
 ·rw[j,m];have:=(z9F p.q ⟨z1k p now,fun _=>false,[]⟩).2
  show (p.q.foldl z2r ⟨z1k p now,fun _=>false,[]⟩).left.length<=p.q.length
  simpa using this
 ·rw[o,r,b];have z:=a.lk c;have u:=i.2 c hc
  rcases (show c=0∨c=1 by omega) with rfl | rfl
  ·refine⟨(z0L (z1k p now)).L 0,z,u,?_⟩;rw[q0e _ 1 0 (by omega)]
   rcases q6B (z4n (z0L (z1k p now)) now) 0 with h | h
   ·exact .inl h
   ·refine .inr ?_;have f:(z4n (z0L (z1k p now)) now).h=p.h+1:=a.h;have g:(z4n (z0L (z1k p now)) now).t=now:=a.t;rw[f,g]at h;exact h
  ·refine⟨(z0L (z1k p now)).L 1,z,u,?_⟩;have v:(z1H (z4n (z0L (z1k p now)) now) 0).L 1=(z0L (z1k p now)).L 1:=q0e _ 0 1 (by omega)
   rcases q6B (z1H (z4n (z0L (z1k p now)) now) 0) 1 with h | h
   ·exact .inl (h.trans v)
   ·refine .inr ?_;rw[b1,b2,l,v]at h;have f:(z4n (z0L (z1k p now)) now).h=p.h+1:=a.h;have g:(z4n (z0L (z1k p now)) now).t=now:=a.t;rw[f,g]at h;exact h
theorem q8k(a d:List (Int×Int)):(Df.z6B a d).length<=6:=Df.z3D _ _ 6
end Pv
end Go.Proofs.YtddlhnoedldidaaGreat
