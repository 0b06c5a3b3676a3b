/- Parts of the proof. -/
import Derived.Test.YtmopekkhmhhcaaaGreatFL
import Derived.Test.YtmopekkhmhhcaaaGreatFK9
import Derived.Test.YtmopekkhmhhcaaaGreatFK38
set_option maxRecDepth 100000
set_option maxHeartbeats 16000000
namespace Go.Proofs.YtmopekkhmhhcaaaGreat
open Go.Proofs.Tryz
namespace Pv
open Go.RowKit
def j0a(p:Pr):Prop:=z0i p.s=true/\∀ c,c<2->z2g (-1) (p.L c).done=true
def j3G(x:Pkt):Prop:=(x.k=2∨x.k=3∨x.k=4)/\((x.k=3∨x.k=4)->0<=x.v/\x.v<6)
theorem q3H{p:Pr}(h:∀ c,c<2->z2g (-1) (p.L c).done=true)(k:Nat)(v:Int):∀ c,c<2->z2g (-1) (z0Q p.L k { p.L k with done:=z3h (p.L k).done v } c).done=true:=fun c hc=>by
 unfold z0Q
 by_cases e:c=k
 ·rw[if_pos e];exact q7V _ _
 ·rw[if_neg e];exact h c hc
theorem q0B{p:Pr}(h:j0a p)(c:Nat){x:Pkt}(hx:j3G x):j0a (z1F p c x).1:=by
 obtain⟨hg,hr⟩:=h;obtain⟨hk,hv⟩:=hx;unfold z1F
 by_cases h2:x.k=2
 ·rw[if_pos h2];exact⟨(j4c hg c x.i).good,hr⟩
 ·rw[if_neg h2];have hv':=hv (by omega)
  have h6:x.v.toNat<6:=by omega
  by_cases h4:x.k=4
  ·rw[if_pos h4]
   by_cases hd:(p.s.V x.v.toNat).dead=true
   ·rw[if_pos hd];exact⟨hg,hr⟩
   ·rw[if_neg hd];exact⟨z5M (z6Q hg h6 _ (by decide)) h6 (fun _=>rfl),hr⟩
  ·rw[if_neg h4]
   by_cases hj:(p.s.V x.v.toNat).jail=true
   ·rw[if_pos hj];exact⟨hg,q3H hr c x.v⟩
   ·rw[if_neg hj]
    by_cases hm:p.ml<1
    ·rw[if_pos hm];exact⟨hg,hr⟩
    ·rw[if_neg hm];exact⟨z5M hg h6 (fun _=>rfl),q3H hr c x.v⟩
theorem j0x(g:Nat)(p:Pr)(v:PrV)(P:Nat->Prop)(w:World)(c:Nat)(hc:c<2)(x:Pkt)(y1 y2:Value)(hC:CAt 57 w g (prC p v))(hp:PIn P w p v)(hg:¬ P g)(hi:j0a p)(hx:j3G x) :
  Calls prog 114 #[.pointer (some ⟨g,0,none⟩),.agg #[.int .i64 (c:Int),.int .i64 x.k,.int .i64 x.i,.int .i64 x.v,.int .i64 x.n,y1,y2]] w (z4E w g P (z1F p c x)):=by
 rcases hx.1 with h | h | h
 ·exact q0s g p v P w c hc x y1 y2 hC hp hg hi.1 h hx.2
 ·exact q5Y g p v P w c hc x y1 y2 hC hp hg hi.1 h hx.2 fun hk wx v' P' hC' hp' hg'=>j0O g p v' P' wx c hc x hC' hp' hg' hk (hi.2 c hc) hi.1 (hx.2 (.inl h)).1 (hx.2 (.inl h)).2
 ·exact q1K g p v P w c hc x y1 y2 hC hp hg hi.1 h hx.2
theorem j7c{k i v n:Int}{S:List (Int×Int)}{D:List Int}(h:Cd.z0m k i v n S D=0):1<=k/\k<=4/\(Cd.z6U k=true->Cd.isV v=true):=by
 unfold Cd.z0m at h
 by_cases h1:k<1∨4<k
 ·rw[if_pos h1]at h;omega
 rw[if_neg h1]at h
 by_cases h2:i<1∨1099511627776<i
 ·rw[if_pos h2]at h;omega
 rw[if_neg h2]at h
 by_cases h3:Cd.z6U k=true/\(Cd.isV v=false∨n<1∨1125899906842624<n)
 ·rw[if_pos h3]at h;omega
 refine⟨by omega,by omega,fun ha=>?_⟩
 cases hv:Cd.isV v
 ·exact absurd ⟨ha,.inl hv⟩ h3
 ·rfl
theorem j4U{L:Nat->Lk}{a:Int×Pkt}(h:z5T L a=true):(0<=a.1/\a.1<2)/\j3G a.2:=by
 unfold z5T at h;simp only[Bool.and_eq_true,decide_eq_true_eq]at h;obtain⟨⟨⟨⟨h0,h1⟩,-⟩,hk⟩,hn⟩:=h;refine⟨⟨h0,by omega⟩,?_⟩
 obtain⟨k1,k4,hv⟩:=j7c hn;refine⟨by omega,fun h=>?_⟩
 have hv':=hv (by rcases h with h | h <;> rw[h] <;> rfl)
 unfold Cd.isV at hv'
 simp at hv'
 omega
theorem q6a(g:Nat)(p:Pr)(v:PrV)(P:Nat->Prop)(w:World)(hC:CAt 57 w g (prC p v))(hp:PIn P w p v)(hg:¬ P g)(h0:j0a p)(hq88:p.q.length * 88<=140737488355328)(hq:∀ a∈p.q,(0<=a.1/\a.1<2)/\j3G a.2) :
  Calls prog 83 #[.pointer (some ⟨g,0,none⟩)] w (Turns w g P (z0n p)):=
 q9Q j0a g p v P w hC hp hg h0 hq88 (fun a ha=>(hq a ha).1) (fun a ha p' v' P' wx y1 y2 hi hC' hp' hg'=>by
  obtain⟨⟨h0,h1⟩,hx⟩:=hq a ha;have e:a.1=(a.1.toNat:Int):=by omega
  rw[e];have:=j0x g p' v' P' wx a.1.toNat (by omega) a.2 y1 y2 hC' hp' hg' hi hx
  rw[Int.toNat_natCast]
  exact this) (fun a ha p' hi=>q0B hi _ (hq a ha).2)
theorem q0G:∀ (l:List (Int×Pkt)) (z:QS),(∀ a∈l,j3G a.2)->j0a z.p->j0a (l.foldl z2e z).p
 | [],z,_,h=>h
 | a :: l,z,ho,h=>by
  rw[List.foldl_cons];refine q0G l _ (fun b hb=>ho b (List.mem_cons_of_mem _ hb)) ?_;unfold z2e
  split
  ·exact h
  ·split
   ·exact q0B h _ (ho a List.mem_cons_self)
   ·exact h
theorem z9O{p:Pr}(hg:z0x p=true)(now:Int):j0a (z0j p now):=by
 unfold z0x at hg;simp only[Bool.and_eq_true,z2w]at hg;obtain⟨⟨⟨⟨⟨⟨⟨h,-⟩,-⟩,-⟩,-⟩,-⟩,⟨⟨r0,-⟩,⟨r1,-⟩⟩⟩,-⟩:=hg;refine⟨h,fun c hc=>?_⟩
 rcases (show c=0∨c=1 by omega) with rfl | rfl
 ·exact r0
 ·exact r1
theorem z9Y{p:Pr}(hg:z0x p=true):∀ a∈p.q,(0<=a.1/\a.1<2)/\j3G a.2:=fun a ha=>by
 unfold z0x at hg;simp only[Bool.and_eq_true]at hg;exact j4U (List.all_eq_true.1 hg.2 a ha)
theorem z7Z{p:Pr}(hg:z0x p=true)(now:Int):j0a (goQ (z0j p now)).p:=q0G p.q _ (fun a ha=>(z9Y hg a ha).2) (z9O hg now)
theorem q8R:∀ (l:List (Int×Pkt)) (z:QS),(l.foldl z2e z).p.t=z.p.t/\(l.foldl z2e z).p.h=z.p.h
 | [],z=>⟨rfl,rfl⟩
 | a :: l,z=>by
  rw[List.foldl_cons];have h:=q8R l (z2e z a)
  have e:(z2e z a).p.t=z.p.t/\(z2e z a).p.h=z.p.h:=by
   unfold z2e
   split
   ·exact⟨rfl,rfl⟩
   ·split
    ·show (z1F z.p a.1.toNat a.2).1.t=z.p.t/\(z1F z.p a.1.toNat a.2).1.h=z.p.h
     unfold z1F
     repeat' split
     all_goals exact⟨rfl,rfl⟩
    ·exact⟨rfl,rfl⟩
  exact⟨h.1.trans e.1,h.2.trans e.2⟩
theorem j3V(p:Pr)(c:Nat):(z1g p c).t=p.t:=by
 unfold z1g
 repeat' split
 all_goals rfl
theorem j1R(p:Pr)(v:PrV)(P:Nat->Prop)(w:World)(now:Int)(hp:PIn P w p v)(hq88:p.q.length * 88<=140737488355328) :
  Calls prog 66 #[.agg (prC p v),.int .i64 now] w (y0q P w (endP p now)):=by
 have ht:(z2J (z0n (z0j p now)) now).t=now:=(q8R p.q ⟨z0j p now,fun _=>false,[]⟩).1;refine j6C p v P w now hp _ _ _ (fun hg hi hn g v' wx P' hC' hp' hg'=>?_) (fun hg=>(z7Z hg now).1) (fun hg hi hn c hc g v' wx P' hC' hp' hg'=>?_) rfl rfl rfl
 ·exact q6a g (z0j p now) v' P' wx hC' hp' hg' (z9O hg now) hq88 (fun a ha=>z9Y hg a ha)
 ·have hb:0<=now/\now<=1099511627776:=by
   unfold isT at hi
   simpa using hi
  rcases (show c=0∨c=1 by omega) with rfl | rfl
  ·exact q1F g _ v' P' wx 0 (by omega) hC' hp' hg' (by rw[ht];exact hb.1) (by rw[ht];exact hb.2)
  ·exact q1F g _ v' P' wx 1 (by omega) hC' hp' hg' (by rw[j3V,ht];exact hb.1) (by rw[j3V,ht];exact hb.2)
theorem q8g{k i v n:Int}{S:List (Int×Int)}{D:List Int}(h:Cd.z0m k i v n S D=0):Cd.bs (Cd.encS k i v n S D)=Cd.enc k i v n S D:=by
 rw[Cd.encS,if_pos h]
 show ((Cd.enc k i v n S D).map (fun n=>UInt8.ofNat n.toNat)).map (fun u=>(u.toNat:Int))=_
 rw[List.map_map]
 conv=>rhs;rw[← List.map_id (Cd.enc k i v n S D)]
 refine List.map_congr_left fun c hc=>?_;have:=Cd.j3A _ _ _ _ _ _ c hc;simp only[Function.comp,id,UInt8.toNat_ofNat'];omega
theorem q9w{k i v n:Int}{S:List (Int×Int)}{D:List Int}(h:Cd.z0m k i v n S D=0):(Cd.encS k i v n S D).size=17+8 * S.length+D.length:=by
 rw[← Cd.z2F,q8g h,Cd.q6y]
theorem z2V:∀ (l:List (Int×Int)) (a:Int),z2N a l=true->∀ x∈l,a<x.1/\x.1<=5/\1<=x.2/\x.2<=1125899906842624
 | [],_,_,x,hx=>by cases hx
 | y :: l,a,h,x,hx=>by
  simp only[z2N,z8E,Bool.and_eq_true,decide_eq_true_eq]at h
  rcases List.mem_cons.1 hx with rfl | hx
  ·exact⟨h.1.1.1.1,h.1.1.1.2,h.1.1.2,h.1.2⟩
  ·have:=z2V l y.1 h.2 x hx;exact⟨by omega,this.2⟩
theorem q0d:∀ (l:List (Int×Int)) (a:Int),(∀ x∈l,a<x.1/\x.1<=5/\1<=x.2/\x.2<=1125899906842624)->l.Pairwise (fun x y=>x.1<y.1)->z2N a l=true
 | [],_,_,_=>rfl
 | y :: l,a,h,hp=>by
  have hy:=h y List.mem_cons_self;have hp':=List.pairwise_cons.1 hp;simp only[z2N,z8E,Bool.and_eq_true,decide_eq_true_eq];exact⟨⟨⟨⟨hy.1,hy.2.1⟩,hy.2.2.1⟩,hy.2.2.2⟩,q0d l y.1 (fun x hx=>⟨hp'.1 x hx,(h x (List.mem_cons_of_mem _ hx)).2⟩) hp'.2⟩
theorem z5Z(c:Nat->Bool)(f:Nat->Int)(x:Int×Int):∀ n,x∈Df.those c f n↔∃ i:Nat,i<n/\c i=true/\x=((i:Int),f i)
 | 0=>by simp[Df.those]
 | n+1=>by
  rw[Df.z1W];have ih:=z5Z c f x n
  by_cases h:c n=true
  ·rw[if_pos h,List.mem_append,ih,List.mem_singleton]
   constructor
   ·rintro (⟨i,hi,h1⟩ | rfl)
    ·exact⟨i,by omega,h1⟩
    ·exact⟨n,by omega,h,rfl⟩
   ·rintro⟨i,hi,h1⟩
    rcases Nat.lt_or_ge i n with h2 | h2
    ·exact .inl ⟨i,h2,h1⟩
    ·obtain rfl:i=n:=by omega
     exact .inr h1.2
  ·rw[if_neg h,ih]
   constructor
   ·rintro⟨i,hi,h1⟩;exact⟨i,by omega,h1⟩
   ·rintro⟨i,hi,h1⟩
    rcases Nat.lt_or_ge i n with h2 | h2
    ·exact⟨i,h2,h1⟩
    ·obtain rfl:i=n:=by omega
     exact absurd h1.1 h
theorem z4O(c:Nat->Bool)(f:Nat->Int):∀ n,(Df.those c f n).Pairwise (fun x y=>x.1<y.1)
 | 0=>by simp[Df.those]
 | n+1=>by
  rw[Df.z1W]
  split
  ·rw[List.pairwise_append];refine⟨z4O c f n,List.pairwise_singleton _ _,fun a ha b hb=>?_⟩;obtain⟨i,hi,-,rfl⟩:=(z5Z c f a n).1 ha;rw[List.mem_singleton]at hb;subst hb
   show (i:Int)<(n:Int)
   omega
  ·exact z4O c f n
theorem j2I{V:Nat->Vd}(hV:∀ k,k<6->(V k).tok<=1125899906842624):z2N (-1) (z8v V)=true:=by
 refine q0d _ _ (fun x hx=>?_) ?_
 ·obtain⟨i,hi,rfl,hp,-⟩:=j9t V x hx;have:=hV i hi;unfold pwr at *;refine⟨by show (-1:Int)<(i:Int);omega,by show (i:Int)<=5;omega,by show 1<=(V i).tok / 100;omega,by show (V i).tok / 100<=_;omega⟩
 ·have hs:=j0g y1l ((z2G ltP (z5f V 6)).take 4)
  have hnd:(z8v V).Pairwise (fun a b=>a.1≠b.1):=by
   have h1:(z2G ltP (z5f V 6)).Pairwise (fun a b=>a.1≠b.1):=(z3N ltP (z5f V 6)).symm.pairwise (z6N V 6) (fun h=>h.symm);exact (z3N ltV _).symm.pairwise (h1.sublist (List.take_sublist _ _)) (fun h=>h.symm)
  rw[List.pairwise_iff_getElem]at hnd ⊢;intro i j hi hj hij;have hlen:(z8v V).length=((z2G ltP (z5f V 6)).take 4).length:=(z3N ltV _).length_eq;have h1:=hs i j hij (by omega)
  rw[j0y]at h1;have h2:=hnd i j hi hj hij;have e1:(z2G ltV ((z2G ltP (z5f V 6)).take 4)).getD i pz=(z8v V)[i]:=by show (z8v V).getD i pz=_;simp[List.getD,hi]
  have e2:(z2G ltV ((z2G ltP (z5f V 6)).take 4)).getD j pz=(z8v V)[j]:=by show (z8v V).getD j pz=_;simp[List.getD,hj]
  rw[e1,e2]at h1;omega
structure z5c(y x:Lk):Prop where
 on:x.on=y.on
 gone:x.gone=y.gone
 base:x.base=y.base
 told:x.told=y.told
 fresh:x.fresh=y.fresh
 out:x.out=y.out
 hd:x.h0=y.h0/\x.h1=y.h1/\x.h2=y.h2/\x.h3=y.h3
theorem z5c.refl(y:Lk):z5c y y:=⟨rfl,rfl,rfl,rfl,rfl,rfl,rfl,rfl,rfl,rfl⟩
theorem z5c.trans{a b c:Lk}(h:z5c a b)(k:z5c b c):z5c a c:=⟨k.on.trans h.on,k.gone.trans h.gone,k.base.trans h.base,k.told.trans h.told,k.fresh.trans h.fresh,k.out.trans h.out,k.hd.1.trans h.hd.1,k.hd.2.1.trans h.hd.2.1,k.hd.2.2.1.trans h.hd.2.2.1,k.hd.2.2.2.trans h.hd.2.2.2⟩
theorem z5c.done(L:Nat->Lk)(c:Nat)(l:List Int)(k:Nat):z5c (L k) (z0Q L c { L c with done:=l } k):=by
 unfold z0Q
 by_cases e:k=c
 ·subst e;rw[if_pos rfl];exact⟨rfl,rfl,rfl,rfl,rfl,rfl,rfl,rfl,rfl,rfl⟩
 ·rw[if_neg e];exact z5c.refl _
structure z6e(p r:Pr):Prop where
 h:r.h=p.h
 t:r.t=p.t
 set:r.set=p.set
 mn:r.mn=p.mn
 lk:∀ k,z5c (p.L k) (r.L k)
theorem z6e.refl(p:Pr):z6e p p:=⟨rfl,rfl,rfl,rfl,fun _=>z5c.refl _⟩
theorem z6e.trans{a b c:Pr}(h:z6e a b)(k:z6e b c):z6e a c:=⟨k.h.trans h.h,k.t.trans h.t,k.set.trans h.set,k.mn.trans h.mn,fun i=>(h.lk i).trans (k.lk i)⟩
theorem q9N(p:Pr)(c:Nat)(x:Pkt):z6e p (z1F p c x).1:=by
 unfold z1F
 repeat' split
 all_goals first | exact z6e.refl p | exact⟨rfl,rfl,rfl,rfl,fun _=>z5c.refl _⟩ | exact⟨rfl,rfl,rfl,rfl,fun k=>z5c.done _ _ _ k⟩
theorem z9h:∀ (l:List (Int×Pkt)) (z:QS),z6e z.p (l.foldl z2e z).p
 | [],z=>z6e.refl _
 | a :: l,z=>by
  rw[List.foldl_cons];refine z6e.trans ?_ (z9h l (z2e z a));unfold z2e
  split
  ·exact z6e.refl _
  ·split
   ·exact q9N _ _ _
   ·exact z6e.refl _
theorem z6w(p:Pr):z6e p (z0n p):=by
 have h:=z9h p.q ⟨p,fun _=>false,[]⟩;exact⟨h.h,h.t,h.set,h.mn,h.lk⟩
theorem z5U(p:Pr)(c k:Nat)(h:k≠c):(z1g p c).L k=p.L k:=by
 unfold z1g
 repeat' split
 all_goals first | rfl | (show z0Q p.L c _ k=p.L k;unfold z0Q;rw[if_neg h])
theorem z3X(p:Pr)(c:Nat):(z1g p c).h=p.h/\(z1g p c).t=p.t/\(z1g p c).s=p.s/\(z1g p c).set=p.set/\(z1g p c).ml=p.ml/\(z1g p c).mn=p.mn/\(z1g p c).q=p.q:=by
 unfold z1g
 repeat' split
 all_goals exact⟨rfl,rfl,rfl,rfl,rfl,rfl,rfl⟩
structure Told(h t:Int)(set:List (Int×Int))(y x:Lk):Prop where
 on:y.on=true
 good:Cd.z0m 1 h 0 0 (Df.z3x y.told set) y.done=0
 say:Ln.z5C y.out (t+40)=0
 eq:x={ y with out:=Ln.z5i y.out (Cd.encS 1 h 0 0 (Df.z3x y.told set) y.done) (t+40),told:=set,fresh:=false,done:=[] }
theorem q2U(p:Pr)(c:Nat):(z1g p c).L c=p.L c∨Told p.h p.t p.set (p.L c) ((z1g p c).L c):=by
 unfold z1g
 by_cases hq:z5k p (p.L c)=true
 ·rw[if_pos hq];exact .inl rfl
 rw[if_neg hq]
 by_cases h1:Cd.z0m 1 p.h 0 0 (Df.z3x (p.L c).told p.set) (p.L c).done=0
 ·rw[if_pos h1]
  by_cases h2:Ln.z5C (p.L c).out (p.t+40)=0
  ·rw[if_pos h2];refine .inr ⟨?_,h1,h2,?_⟩
   ·cases ho:(p.L c).on
    ·exact absurd (by unfold z5k;rw[ho];rfl) hq
    ·rfl
   ·show z0Q p.L c _ c=_
    unfold z0Q;rw[if_pos rfl]
  ·rw[if_neg h2];exact .inl rfl
 ·rw[if_neg h1];exact .inl rfl
structure j1S(h t:Int)(set:List (Int×Int))(y x:Lk):Prop where
 ex:∃ z,z5c y z/\z2g (-1) z.done=true/\(x=z∨Told h t set z x)
structure y0X(p a:Pr)(now:Int):Prop where
 h:a.h=p.h+1
 t:a.t=now
 s:a.s=z6k (z0n (z0j p now)).s now
 good:z0i a.s=true
 set:a.set=z8v a.s.V
 z2N:z2N (-1) a.set=true
 q:a.q=(goQ (z0j p now)).left
 ql:a.q.length<=p.q.length
 lk:∀ c,c<2->j1S a.h a.t a.set (p.L c) (a.L c)
theorem z5B{p:Pr}{now:Int}(hok:z0x p=true/\isT now=true/\p.t<=now):y0X p (endP p now).1 now:=by
 have hE:(endP p now).1=z1g (z1g (z2J (z0n (z0j p now)) now) 0) 1:=by unfold endP;rw[if_pos hok]
 rw[hE];have hi:=z7Z hok.1 now;have hs:=z6w (z0j p now);obtain⟨a1,a2,a3,a4,a5,a6,a7⟩:=z3X (z1g (z2J (z0n (z0j p now)) now) 0) 1;obtain⟨b1,b2,b3,b4,b5,b6,b7⟩:=z3X (z2J (z0n (z0j p now)) now) 0;have hg:z0i (z6k (z0n (z0j p now)).s now)=true:=q4E hi.1 now;have eh:(z1g (z1g (z2J (z0n (z0j p now)) now) 0) 1).h=p.h+1:=by rw[a1,b1];exact hs.h
 have et:(z1g (z1g (z2J (z0n (z0j p now)) now) 0) 1).t=now:=by rw[a2,b2];exact hs.t
 have es:(z1g (z1g (z2J (z0n (z0j p now)) now) 0) 1).s=z6k (z0n (z0j p now)).s now:=by rw[a3,b3];rfl
 have ess:(z1g (z1g (z2J (z0n (z0j p now)) now) 0) 1).set=z8v (z6k (z0n (z0j p now)).s now).V:=by rw[a4,b4];rfl
 have hsb:z2N (-1) (z8v (z6k (z0n (z0j p now)).s now).V)=true:=j2I fun k hk=>(j9V hg hk).2;refine⟨eh,et,es,by rw[es];exact hg,by rw[ess,es],by rw[ess];exact hsb,by rw[a7,b7];rfl,?_,fun c hc=>?_⟩
 ·rw[a7,b7];have:=(q0j p.q ⟨z0j p now,fun _=>false,[]⟩).2
  show (p.q.foldl z2e ⟨z0j p now,fun _=>false,[]⟩).left.length<=p.q.length
  simpa using this
 ·rw[eh,et,ess];have z:=hs.lk c;have hr:=hi.2 c hc
  rcases (show c=0∨c=1 by omega) with rfl | rfl
  ·refine⟨(z0n (z0j p now)).L 0,z,hr,?_⟩;rw[z5U _ 1 0 (by omega)]
   rcases q2U (z2J (z0n (z0j p now)) now) 0 with h | h
   ·exact .inl h
   ·refine .inr ?_;have e1:(z2J (z0n (z0j p now)) now).h=p.h+1:=hs.h;have e2:(z2J (z0n (z0j p now)) now).t=now:=hs.t;rw[e1,e2]at h;exact h
  ·refine⟨(z0n (z0j p now)).L 1,z,hr,?_⟩;have e3:(z1g (z2J (z0n (z0j p now)) now) 0).L 1=(z0n (z0j p now)).L 1:=z5U _ 0 1 (by omega)
   rcases q2U (z1g (z2J (z0n (z0j p now)) now) 0) 1 with h | h
   ·exact .inl (h.trans e3)
   ·refine .inr ?_;rw[b1,b2,b4,e3]at h;have e1:(z2J (z0n (z0j p now)) now).h=p.h+1:=hs.h;have e2:(z2J (z0n (z0j p now)) now).t=now:=hs.t;rw[e1,e2]at h;exact h
theorem q8U(a d:List (Int×Int)):(Df.z3x a d).length<=6:=Df.z3Z _ _ 6
end Pv
namespace Pv
open Go.RowKit
theorem q9X{h:Int}{x:Lk}(hx:z2w h x=true):z2w h (z4s x)=true:=by
 unfold z2w z4s at *;simp only[Bool.and_eq_true,Ln.z0T]at hx ⊢
 simp_all [z2g]
theorem q3c{p:Pr}{c:Int}(hg:z0x p=true)(ho:z9A p c=true):z0x (z0u p c)=true:=by
 have hcc:isC c=true:=by unfold z9A at ho;simp at ho;exact ho.1
 obtain⟨k,rfl,hk⟩:=z9B hcc
 have hD:z0u p k={ p with s:={ p.s with W:=z5D k 1099511627776 p.s.W },L:=z0Q p.L k (z4s (p.L k)),q:=p.q.filter fun a=>decide (a.1≠(k:Int)) }:=by
  unfold z0u;rw[if_pos ⟨hg,ho⟩,Int.toNat_natCast]
 rw[hD];have h1:=hg;unfold z0x at h1 ⊢;simp only[Bool.and_eq_true,List.all_eq_true,decide_eq_true_eq]at h1 ⊢;obtain⟨⟨⟨⟨⟨⟨⟨a1,a2⟩,a3⟩,a4⟩,a5⟩,a6⟩,b0,b1⟩,cq⟩:=h1
 have hl:∀ i,i<2->z2w p.h (z0Q p.L k (z4s (p.L k)) i)=true:=fun i hi=>by
  have hi2:z2w p.h (p.L i)=true:=by
   rcases (show i=0∨i=1 by omega) with rfl | rfl
   ·exact b0
   ·exact b1
  unfold z0Q
  by_cases e:i=k
  ·subst e;rw[if_pos rfl];exact q9X hi2
  ·rw[if_neg e];exact hi2
 refine⟨⟨⟨⟨⟨⟨⟨(j4c a1 k 1099511627776).good,a2⟩,a3⟩,a4⟩,a5⟩,a6⟩,hl 0 (by omega),hl 1 (by omega)⟩,fun x hx=>?_⟩
 obtain⟨hx1,hx2⟩:=List.mem_filter.1 hx;have:=cq x hx1;have hne:x.1≠(k:Int):=by simpa using hx2
 unfold z5T at this ⊢;simp only[Bool.and_eq_true,decide_eq_true_eq]at this ⊢;refine⟨⟨⟨this.1.1.1,?_⟩,this.1.2⟩,this.2⟩;unfold z0Q;rw[if_neg (by omega)]
 exact this.1.1.2
attribute [local go_sem ↓] z1K z0K z0q z1y
end Pv
namespace Wd
open Go.RowKit Pv Kc
theorem z0Y(x:Ln.Line):Ln.z0T x=true↔x.D.length=x.S.length/\x.S.length<=400/\Ln.nonneg x.D=true/\0<=x.g/\x.g<=x.S.length:=by
 unfold Ln.z0T;simp only[Bool.and_eq_true,decide_eq_true_eq];exact⟨fun⟨⟨⟨⟨a,b⟩,c⟩,d⟩,e⟩=>⟨a,b,c,d,e⟩,fun⟨a,b,c,d,e⟩=>⟨⟨⟨⟨a,b⟩,c⟩,d⟩,e⟩⟩
theorem z9o{x:Ln.Line}(h:Ln.z4f x=0):Ln.z0T x=true/\x.cl=false:=by
 unfold Ln.z4f at h;cases hg:Ln.z0T x
 ·rw[hg]at h;simp at h
 ·rw[hg]at h;cases hc:x.cl
  ·exact⟨rfl,rfl⟩
  ·rw[hc]at h;simp at h
theorem j8i{x:Ln.Line}{due:Int}(h:Ln.z5C x due=0):Ln.z0T x=true/\x.cl=false/\x.S.length<400/\0<=due:=by
 unfold Ln.z5C at h
 by_cases h1:due<0
 ·rw[if_pos h1]at h;omega
 rw[if_neg h1]at h
 by_cases h2:Ln.z4f x≠0
 ·rw[if_pos h2]at h;exact absurd h h2
 rw[if_neg h2]at h;have h2':Ln.z4f x=0:=by omega
 by_cases h3:400<=x.S.length
 ·rw[if_pos h3]at h;omega
 ·exact⟨(z9o h2').1,(z9o h2').2,by omega,by omega⟩
theorem j0R{x:Ln.Line}{s:ByteArray}{due:Int}(h:Ln.z5C x due=0):Ln.z5i x s due=⟨x.S ++ [s],x.D ++ [due],x.g,x.cl⟩:=by unfold Ln.z5i;rw[if_pos h]
theorem j7A{x:Ln.Line}{s:ByteArray}{due:Int}(h:Ln.z5C x due≠0):Ln.z5i x s due=x:=by unfold Ln.z5i;rw[if_neg h]
theorem q4k{x:Ln.Line}(s:ByteArray)(due:Int)(hx:Ln.z0T x=true):Ln.z0T (Ln.z5i x s due)=true:=by
 by_cases h:Ln.z5C x due=0
 ·rw[j0R h];obtain⟨h1,-,h3,h4⟩:=j8i h;obtain⟨a,b,c,d,e⟩:=(z0Y x).1 h1;refine (z0Y _).2 ⟨by simp[a],by simp;omega,?_,d,by simp;omega⟩
  unfold Ln.nonneg at c ⊢;rw[List.all_append,c]
  simp[h4]
 ·rw[j7A h];exact hx
theorem j9v{x:Ln.Line}{k:Int}{s:ByteArray}{said now:Int}(h:Ln.z4v x k s said now=0):Ln.z0T x=true/\x.cl=false/\k=x.g+1/\k<=said/\k<=x.S.length/\x.S.getD (k - 1).toNat ByteArray.empty=s/\now<x.D.getD (k - 1).toNat 0:=by
 unfold Ln.z4v at h
 by_cases h1:Ln.z4f x≠0
 ·rw[if_pos h1]at h;exact absurd h h1
 rw[if_neg h1]at h;have h1':Ln.z4f x=0:=by omega
 by_cases h2:k≠x.g+1
 ·rw[if_pos h2]at h;omega
 rw[if_neg h2]at h
 by_cases h3:said<k∨(x.S.length:Int)<k∨x.S.getD (k - 1).toNat ByteArray.empty≠s
 ·rw[if_pos h3]at h;omega
 rw[if_neg h3]at h
 by_cases h4:x.D.getD (k - 1).toNat 0<=now
 ·rw[if_pos h4]at h;omega
 have h3a:¬ said<k:=fun e=>h3 (.inl e);have h3b:¬ (x.S.length:Int)<k:=fun e=>h3 (.inr (.inl e));have h3c:x.S.getD (k - 1).toNat ByteArray.empty=s:=Classical.byContradiction fun e=>h3 (.inr (.inr e));exact⟨(z9o h1').1,(z9o h1').2,by omega,by omega,by omega,h3c,by omega⟩
theorem q0g{x:Ln.Line}{k:Int}{s:ByteArray}{said now:Int}(h:Ln.z4v x k s said now=0):Ln.z4Z x k s said now=⟨x.S,x.D,k,x.cl⟩:=by unfold Ln.z4Z;rw[if_pos h]
theorem j3k{x:Ln.Line}{k:Int}{s:ByteArray}{said now:Int}(h:Ln.z4v x k s said now=0):Ln.z0T (Ln.z4Z x k s said now)=true:=by
 rw[q0g h];obtain⟨h1,h2,h3,h4,h5,-,-⟩:=j9v h;obtain⟨a,b,c,d,e⟩:=(z0Y x).1 h1;exact (z0Y _).2 ⟨a,b,c,by show 0<=k;omega,h5⟩
theorem j8E{x:Ln.Line}{k time got:Int}(h:Ln.z6b x k time got=0):Ln.z0T x=true/\x.cl=false/\1<=k/\k<=x.S.length/\got<k/\x.D.getD (k - 1).toNat 0<=time:=by
 unfold Ln.z6b at h
 by_cases h1:Ln.z4f x≠0
 ·rw[if_pos h1]at h;exact absurd h h1
 rw[if_neg h1]at h;have h1':Ln.z4f x=0:=by omega
 by_cases h2:k<1∨(x.S.length:Int)<k
 ·rw[if_pos h2]at h;omega
 rw[if_neg h2]at h
 by_cases h3:k<=got
 ·rw[if_pos h3]at h;omega
 rw[if_neg h3]at h
 by_cases h4:time<x.D.getD (k - 1).toNat 0
 ·rw[if_pos h4]at h;omega
 exact⟨(z9o h1').1,(z9o h1').2,by omega,by omega,by omega,by omega⟩
theorem j0l{x:Ln.Line}{k time got:Int}(h:Ln.z6b x k time got=0):Ln.z7d x k time got=⟨x.S,x.D,x.g,true⟩:=by unfold Ln.z7d;rw[if_pos h]
theorem j1H{x:Ln.Line}{k time got:Int}(h:Ln.z6b x k time got=0):Ln.z0T (Ln.z7d x k time got)=true:=by
 rw[j0l h];exact (z0Y _).2 ((z0Y x).1 (j8E h).1)
structure GL(h:Int)(x:Lk):Prop where
 done:z2g (-1) x.done=true
 og:¬ (x.on=true/\x.gone=true)
 b0:0<=x.base
 b1:x.base<=h
 told:z2N (-1) x.told=true
 out:Ln.z0T x.out=true
theorem j8d(h:Int)(x:Lk):z2w h x=true↔GL h x:=by
 unfold z2w;simp only[Bool.and_eq_true,decide_eq_true_eq,Bool.not_eq_true',Bool.and_eq_false_iff]
 constructor
 ·rintro⟨a,⟨⟨⟨b,c⟩,d⟩,e⟩,f⟩;refine⟨a,fun⟨h1,h2⟩=>?_,c,d,e,f⟩
  rcases b with b | b
  ·rw[h1]at b;cases b
  ·rw[h2]at b;cases b
 ·rintro⟨a,b,c,d,e,f⟩;refine⟨a,⟨⟨⟨?_,c⟩,d⟩,e⟩,f⟩;cases h1:x.on
  ·exact .inl rfl
  ·cases h2:x.gone
   ·exact .inr rfl
   ·exact absurd ⟨h1,h2⟩ b
structure GQ(L:Nat->Lk)(a:Int×Pkt):Prop where
 c0:0<=a.1
 c1:a.1<=1
 on:(L a.1.toNat).on=true
 k:a.2.k≠1
 good:Cd.z0m a.2.k a.2.i a.2.v a.2.n a.2.S a.2.D=0
theorem j8A(L:Nat->Lk)(a:Int×Pkt):z5T L a=true↔GQ L a:=by
 unfold z5T;simp only[Bool.and_eq_true,decide_eq_true_eq];exact⟨fun⟨⟨⟨⟨a,b⟩,c⟩,d⟩,e⟩=>⟨a,b,c,d,e⟩,fun⟨a,b,c,d,e⟩=>⟨⟨⟨⟨a,b⟩,c⟩,d⟩,e⟩⟩
structure GP(p:Pr):Prop where
 s:z0i p.s=true
 h0:0<=p.h
 h1:p.h<=1099511627775
 t0:0<=p.t
 t1:p.t<=1099511627776
 set:z2N (-1) p.set=true
 lk:∀ c,c<2->GL p.h (p.L c)
 q:∀ a∈p.q,GQ p.L a
theorem z5H(p:Pr):z0x p=true↔GP p:=by
 unfold z0x;simp only[Bool.and_eq_true,decide_eq_true_eq,List.all_eq_true,j8d,j8A]
 constructor
 ·rintro⟨⟨⟨⟨⟨⟨⟨a,b⟩,c⟩,d⟩,e⟩,f⟩,g,h⟩,i⟩;refine⟨a,b,c,d,e,f,fun c hc=>?_,i⟩
  rcases (show c=0∨c=1 by omega) with rfl | rfl
  ·exact g
  ·exact h
 ·rintro⟨a,b,c,d,e,f,g,i⟩;exact⟨⟨⟨⟨⟨⟨⟨a,b⟩,c⟩,d⟩,e⟩,f⟩,g 0 (by omega),g 1 (by omega)⟩,i⟩
theorem q0a{p:Pr}(h:GP p){s:St}(hs:z0i s=true):GP { p with s:=s }:=⟨hs,h.h0,h.h1,h.t0,h.t1,h.set,h.lk,h.q⟩
theorem j1q{p:Pr}(h:GP p)(d v n:Int):GP (z2O p d v n).1:=by
 unfold z2O;rw[if_pos ((z5H p).2 h)];exact q0a h (j1J h.s d v n).good
theorem z6j{s:St}{d v n:Int}{y:Wt}(h:(z0V s d v n y).2=0):z0U s d v=0:=by
 unfold z0V at h
 by_cases h0:z0U s d v=0
 ·exact h0
 ·rw[if_neg h0]at h;exact absurd h h0
theorem q5c{s:St}{d v:Int}(h:z0U s d v=0):z0i s=true/\∃ i j:Nat,d=(i:Int)/\v=(j:Int)/\i<4/\j<6:=by
 unfold z0U at h
 by_cases h0:z6x s v=0
 ·rw[if_pos h0]at h;obtain⟨hg,h1⟩:=z4C h0
  by_cases h2:isD d=true
  ·have h3:=z5w.1 h2;exact⟨hg,d.toNat,v.toNat,by omega,by omega,by omega,by omega⟩
  ·rw[if_neg h2]at h;omega
 ·rw[if_neg h0]at h;exact absurd h h0
theorem q6h{s:St}(hg:z0i s=true)(d v n:Int)(y:Wt)(h:(z0V s d v n y).2=0):z0i (z0V s d v n y).1=true:=by
 obtain⟨-,i,j,rfl,rfl,hi,hj⟩:=q5c (z6j h);exact (j3h hg hi hj n y).good
theorem j2E(L:Nat->Lk)(c:Nat):(z1q L c).on=(L c).on:=by unfold z1q;split <;> rfl
theorem j1U{h:Int}{L:Nat->Lk}{c:Nat}(g:GL h (L c)):GL h (z1q L c):=by
 unfold z1q
 split
 ·exact⟨g.done,g.og,g.b0,g.b1,g.told,g.out⟩
 ·exact g
theorem j3q{p:Pr}(h:GP p)(d v n now:Int):GP (z1J p d v n now).1:=by
 unfold z1J
 split
 ·split
  ·rename_i h2;refine⟨q6h h.s _ _ _ _ h2,h.h0,h.h1,h.t0,h.t1,h.set,fun c hc=>j1U (h.lk c hc),fun a ha=>?_⟩;have:=h.q a ha;exact⟨this.c0,this.c1,by show (z1q p.L _).on=true;rw[j2E];exact this.on,this.k,this.good⟩
  ·exact h
 ·exact h
theorem q2F{s:St}(hg:z0i s=true)(v:Int):z0i (z1S s v).1=true:=by
 unfold z1S
 split
 ·rename_i h0;obtain⟨-,h1⟩:=z4C h0
  split
  ·exact hg
  ·split
   ·exact z5M hg (by omega) (fun h=>by cases h)
   ·exact hg
 ·exact hg
theorem j3a{s:St}(hg:z0i s=true){v:Nat}(hv:v<6)(h:Int):z0i (z7o s v h)=true:=z5M (z6Q hg hv _ (by decide)) hv (fun _=>rfl)
theorem j4Q{p:Pr}(h:GP p)(v n:Int):GP (z4u p v n).1:=by
 unfold z4u
 split
 ·split
  ·rename_i hv;have:=z3t.1 hv
   split
   ·split
    ·exact h
    ·exact q0a h (j3a h.s (by omega) _)
   ·exact h
  ·exact h
 ·exact h
theorem q3K:∀ (l:List (Int×Pkt)) (z:QS),∀ a∈(l.foldl z2e z).left,a∈z.left∨a∈l
 | [],z,a,h=>.inl h
 | b :: l,z,a,h=>by
  rw[List.foldl_cons]at h
  rcases q3K l _ a h with h1 | h1
  ·have:a∈z.left∨a=b:=by
    unfold z2e at h1
    split at h1
    ·simpa using h1
    ·split at h1
     ·exact .inl h1
     ·simpa using h1
   rcases this with h2 | rfl
   ·exact .inl h2
   ·exact .inr List.mem_cons_self
  ·exact .inr (List.mem_cons_of_mem _ h1)
theorem j1S.same{h t:Int}{set:List (Int×Int)}{y x:Lk}(H:j1S h t set y x):x.on=y.on/\x.gone=y.gone/\x.base=y.base/\x.out.g=y.out.g/\x.out.cl=y.out.cl:=by
 obtain⟨z,hz,-,hx⟩:=H.ex
 rcases hx with rfl | T
 ·exact⟨hz.on,hz.gone,hz.base,by rw[hz.out],by rw[hz.out]⟩
 ·have e:=T.eq;rw[j0R T.say]at e;exact⟨by rw[e];exact hz.on,by rw[e];exact hz.gone,by rw[e];exact hz.base,by rw[e];show z.out.g=_;rw[hz.out],by rw[e];show z.out.cl=_;rw[hz.out]⟩
theorem j9S{h t:Int}{set:List (Int×Int)}{y x:Lk}(H:j1S (h+1) t set y x)(hs:z2N (-1) set=true)(g:GL h y):GL (h+1) x:=by
 obtain⟨z,hz,hr,hx⟩:=H.ex;have hb1:=g.b1;have gz:GL (h+1) z:=⟨hr,by rw[hz.on,hz.gone];exact g.og,by rw[hz.base];exact g.b0,by rw[hz.base];omega,by rw[hz.told];exact g.told,by rw[hz.out];exact g.out⟩
 rcases hx with rfl | T
 ·exact gz
 ·rw[T.eq];exact⟨rfl,gz.og,gz.b0,gz.b1,hs,q4k _ _ gz.out⟩
theorem j8q{p:Pr}(h:GP p){now:Int}(hok:z0x p=true/\isT now=true/\p.t<=now)(hh:p.h<1099511627775):GP (endP p now).1:=by
 have E:=z5B hok;have ht:=hok.2.1;unfold isT at ht;simp only[Bool.and_eq_true,decide_eq_true_eq]at ht;have e1:=E.h;have e2:=E.t;have g0:=h.h0;refine⟨E.good,by omega,by omega,by omega,by omega,E.z2N,fun c hc=>?_,fun a ha=>?_⟩
 ·have:=E.lk c hc;rw[E.h]at this ⊢;exact j9S this E.z2N (h.lk c hc)
 ·rw[E.q]at ha
  have hq:a∈p.q:=by
   rcases q3K p.q ⟨z0j p now,fun _=>false,[]⟩ a ha with h1 | h1
   ·cases h1
   ·exact h1
  have g:=h.q a hq;have hc:a.1.toNat<2:=by have:=g.c0;have:=g.c1;omega
  exact⟨g.c0,g.c1,by rw[(j1S.same (E.lk _ hc)).1];exact g.on,g.k,g.good⟩
theorem q4L(c:Nat)(h:Int)(x:Wt):(z1A c h x).num=x.num/\(z1A c h x).d=x.d/\(z1A c h x).v=x.v/\(z1A c h x).amt=x.amt/\(z1A c h x).hei=x.hei/\(z1A c h x).due=x.due:=by
 unfold z1A
 split
 ·split <;> exact⟨rfl,rfl,rfl,rfl,rfl,rfl⟩
 ·exact⟨rfl,rfl,rfl,rfl,rfl,rfl⟩
theorem q9V{F:Wt->Wt}(hF:∀ x,(F x).num=x.num/\(F x).d=x.d/\(F x).v=x.v/\(F x).amt=x.amt/\(F x).hei=x.hei/\(F x).due=x.due)(next:Int):∀ (W:List Wt) (last:Int),wOk next last (W.map F)=wOk next last W
 | [],_=>rfl
 | x :: W,last=>by
  obtain⟨a,b,c,d,e,f⟩:=hF x
  show (q0W last next (F x) && wOk next (F x).num (W.map F))=_
  rw[q9V hF next W,wOk,q0W,q0W,a,b,c,d,e,f]
theorem q3t{F:Wt->Wt}(hF:∀ x,(F x).amt=x.amt):∀ W:List Wt,z2K (W.map F)=z2K W
 | []=>rfl
 | x :: W=>by show (F x).amt+z2K (W.map F)=_;rw[q3t hF W,hF x];rfl
theorem j2A{F:Wt->Wt}(hF:∀ x,(F x).num=x.num/\(F x).d=x.d/\(F x).v=x.v/\(F x).amt=x.amt/\(F x).hei=x.hei/\(F x).due=x.due){s:St}(hg:z0i s=true):z0i { s with W:=s.W.map F }=true:=by
 have e1:=q9V hF s.next s.W 0
 have e2:=q3t (fun x=>(hF x).2.2.2.1) s.W
 have e3:∀ k,pvs { s with W:=s.W.map F } k=pvs s k:=by
  intro k
  induction k with
  | zero=>rfl
  | succ k ih=>rw[pvs,ih];rfl
 unfold z0i bal at hg ⊢;rw[e3,List.length_map,e1,e2];exact hg
theorem j2G{p:Pr}(h:GP p)(c:Int):GP (z0X p c).1:=by
 unfold z0X;rw[if_pos ((z5H p).2 h)]
 split
 ·rename_i hc
  split
  ·exact h
  ·split
   ·exact h
   ·rename_i hon
    split
    ·exact h
    ·refine⟨j2A (q4L _ _) h.s,h.h0,h.h1,h.t0,h.t1,h.set,fun k hk=>?_,fun a ha=>?_⟩
     ·show GL p.h (z0Q p.L c.toNat (z7w p) k)
      unfold z0Q
      split
      ·exact⟨rfl,(fun⟨_,h2⟩=>by cases h2),h.h0,Int.le_refl _,h.set,rfl⟩
      ·exact h.lk k hk
     ·have g:=h.q a ha;refine⟨g.c0,g.c1,?_,g.k,g.good⟩
      show (z0Q p.L c.toNat (z7w p) a.1.toNat).on=true
      unfold z0Q
      split
      ·rfl
      ·exact g.on
 ·exact h
theorem q9B{p:Pr}(h:GP p)(c:Int):GP (z0u p c):=by
 by_cases ho:z9A p c=true
 ·exact (z5H _).1 (q3c ((z5H p).2 h) ho)
 ·unfold z0u;rw[if_neg fun e=>ho e.2];exact h
theorem q0n{l:List Int}(h:Cd.z6l l=0):Cd.z0m (z2i l).k (z2i l).i (z2i l).v (z2i l).n (z2i l).S (z2i l).D=0:=by
 have e:Cd.z2q l=(Cd.parse l).1:=by unfold Cd.z2q;rw[if_pos h]
 have hp:z2i l=⟨(Cd.parse l).1.1,(Cd.parse l).1.2.1,(Cd.parse l).1.2.2.1,(Cd.parse l).1.2.2.2.1,(Cd.parse l).1.2.2.2.2.1,(Cd.parse l).1.2.2.2.2.2⟩:=by unfold z2i;rw[e]
 rw[hp];unfold Cd.z6l at h;generalize Cd.parse l=q at *
 by_cases hq:q.2=([],false)
 ·rw[if_pos hq]at h;exact h
 ·rw[if_neg hq]at h;omega
theorem j6W{p:Pr}(h:GP p)(c:Int)(l:List Int):GP (z3L p c l).1:=by
 unfold z3L;rw[if_pos ((z5H p).2 h)]
 split
 ·rename_i hon
  split
  ·rename_i hd
   split
   ·exact h
   ·rename_i hk;refine⟨h.s,h.h0,h.h1,h.t0,h.t1,h.set,h.lk,fun a ha=>?_⟩
    rcases List.mem_append.1 ha with h1 | h1
    ·exact h.q a h1
    ·rw[List.mem_singleton]at h1;subst h1;unfold z9A isC at hon;simp only[Bool.and_eq_true,decide_eq_true_eq]at hon;exact⟨hon.1.1,by show c<=1;omega,hon.2,hk,q0n hd⟩
  ·exact h
 ·exact h
theorem q7X{p:Pr}(h:GP p){i:Nat}{y:Lk}(hy:GL p.h y)(ho:y.on=(p.L i).on):GP { p with L:=z0Q p.L i y }:=by
 refine⟨h.s,h.h0,h.h1,h.t0,h.t1,h.set,fun k hk=>?_,fun a ha=>?_⟩
 ·show GL p.h (z0Q p.L i y k)
  unfold z0Q
  split
  ·exact hy
  ·exact h.lk k hk
 ·have g:=h.q a ha;refine⟨g.c0,g.c1,?_,g.k,g.good⟩
  show (z0Q p.L i y a.1.toNat).on=true
  unfold z0Q
  split
  ·rename_i e;rw[ho,← e];exact g.on
  ·exact g.on
theorem z7I(n:Int):isT n=true↔0<=n/\n<=1099511627776:=by
 unfold isT;simp only[Bool.and_eq_true,decide_eq_true_eq]
theorem z4R{k i v n:Int}{S:List (Int×Int)}{D:List Int}(h:Cd.z0m k i v n S D=0):1<=i/\i<=1099511627776/\Cd.z0d (-1) S=true/\Cd.z0h (-1) D=true:=by
 unfold Cd.z0m at h
 by_cases h1:k<1∨4<k
 ·rw[if_pos h1]at h;omega
 rw[if_neg h1]at h
 by_cases h2:i<1∨1099511627776<i
 ·rw[if_pos h2]at h;omega
 rw[if_neg h2]at h
 by_cases h3:Cd.z6U k=true/\(Cd.isV v=false∨n<1∨1125899906842624<n)
 ·rw[if_pos h3]at h;omega
 rw[if_neg h3]at h
 by_cases h4:Cd.z8t k v n S.length D.length=true
 ·rw[if_pos h4]at h;omega
 rw[if_neg h4]at h
 by_cases h5:Cd.z0d (-1) S=false∨Cd.z0h (-1) D=false
 ·rw[if_pos h5]at h;omega
 refine⟨by omega,by omega,?_,?_⟩
 ·cases e:Cd.z0d (-1) S
  ·exact absurd (.inl e) h5
  ·rfl
 ·cases e:Cd.z0h (-1) D
  ·exact absurd (.inr e) h5
  ·rfl
theorem z9s:∀ (l:List (Int×Int)) (a:Int),Cd.z0d a l=true->∀ x∈l,a<x.1/\(0<=x.1/\x.1<6)/\0<=x.2/\x.2<=1125899906842624
 | [],_,_,x,hx=>by cases hx
 | y :: l,a,h,x,hx=>by
  simp only[Cd.z0d,Bool.and_eq_true,decide_eq_true_eq]at h
  rcases List.mem_cons.1 hx with rfl | hx
  ·have hv:=h.1.1.1.2;simp only[Cd.isV,decide_eq_true_eq]at hv;exact⟨h.1.1.1.1,by omega,h.1.1.2,h.1.2⟩
  ·have:=z9s l y.1 h.2 x hx;exact⟨by omega,this.2⟩
theorem q2D(M:Int):∀ (l:List (Int×Int)) (P:Nat->Int),(∀ i,P i<=M)->(∀ x∈l,x.2<=M)->∀ i,Df.z1G P l i<=M
 | [],P,h,_,i=>h i
 | y :: l,P,h,hl,i=>by
  refine q2D M l (Df.z8u P y) (fun j=>?_) (fun x hx=>hl x (List.mem_cons_of_mem _ hx)) i;have:=hl y List.mem_cons_self;unfold Df.z8u
  split
  ·show (if j=y.1.toNat then y.2 else P j)<=M
   split
   ·exact this
   ·exact h j
  ·exact h j
theorem q8q{a d:List (Int×Int)}(ha:z2N (-1) a=true)(hd:Cd.z0d (-1) d=true):z2N (-1) (Df.z1L a d)=true:=by
 refine q0d _ _ (fun x hx=>?_) (z4O _ _ _);obtain⟨i,hi,hc,rfl⟩:=(z5Z _ _ x 6).1 hx;have hc':0<Df.z1G (Df.z1G Df.z2t a) d i:=by simpa using hc
 have hM:=q2D 1125899906842624 d (Df.z1G Df.z2t a) (q2D _ a Df.z2t (fun _=>by show (0:Int)<=_;omega) (fun x hx=>(z2V a _ ha x hx).2.2.2)) (fun x hx=>(z9s d _ hd x hx).2.2.2) i
 exact⟨by show -1<(i:Int);omega,by show (i:Int)<=5;omega,hc',hM⟩
structure GC(c:Cs):Prop where
 og:¬ (c.on=true/\c.gone=true)
 h0:0<=c.h
 h1:c.h<1099511627776
 t0:0<=c.t
 t1:c.t<=1099511627776
 i0:0<=c.id
 i1:c.id<=1099511627776
 set:z2N (-1) c.set=true
 pd:∀ x∈c.pd,x.k=1/\Cd.z0m x.k x.i x.v x.n x.S x.D=0
 rp:∀ x∈c.rp,1<=x.1/\x.1<=1099511627776/\0<=x.2
 out:Ln.z0T c.out=true
theorem j4j{c:Cs}(h:GC c){l:Ln.Line}(hl:Ln.z0T l=true):GC { c with out:=l }:=⟨h.og,h.h0,h.h1,h.t0,h.t1,h.i0,h.i1,h.set,h.pd,h.rp,hl⟩
theorem j1B{set:List (Int×Int)}{id now:Int}(hs:z2N (-1) set=true)(h0:0<=id)(h1:id<=1099511627776)(t0:0<=now)(t1:now<=1099511627776):GC (z2M set id now):=
 ⟨(fun⟨_,h⟩=>by cases h),Int.le_refl _,(by show (0:Int)<_;omega),t0,t1,h0,h1,hs,(fun x hx=>by cases hx),(fun x hx=>by cases hx),rfl⟩
theorem j4T{c:Cs}(h:GC c)(l:List Int):GC (z3d c l).1:=by
 unfold z3d
 split
 ·split
  ·rename_i hd
   split
   ·rename_i hk;refine⟨h.og,h.h0,h.h1,h.t0,h.t1,h.i0,h.i1,h.set,fun x hx=>?_,h.rp,h.out⟩
    rcases List.mem_append.1 hx with h1 | h1
    ·exact h.pd x h1
    ·rw[List.mem_singleton]at h1;subst h1;exact⟨hk,q0n hd⟩
   ·exact h
  ·exact h
 ·exact h
theorem q8w{c:Cs}(h:GC c)(k i v n now:Int):GC (z2u c k i v n now).1:=by
 unfold z2u
 split
 ·exact j4j h (q4k _ _ h.out)
 ·exact h
theorem z5S(c:Cs)(k i v n now:Int):(z2u c k i v n now).1={ c with out:=(z2u c k i v n now).1.out }:=by
 unfold z2u
 split <;> rfl
theorem j3D{c:Cs}(h:GC c)(f:Nat->Bool):GC { c with fl:=f }:=⟨h.og,h.h0,h.h1,h.t0,h.t1,h.i0,h.i1,h.set,h.pd,h.rp,h.out⟩
theorem j5G{c:Cs}(h:GC c)(v now:Int):GC (z3z c v now).1:=by
 unfold z3z
 repeat' split
 all_goals first | exact h | exact j3D (q8w h _ _ _ _ _) _
theorem q7p{c:Cs}(h:GC c)(v id now:Int):GC (z1d c v id now).1:=by
 unfold z1d
 repeat' split
 all_goals first | exact h | exact q8w h _ _ _ _ _
theorem q9q{c:Cs}(h:GC c):GC (z1o c):=by
 unfold z1o
 split
 ·exact⟨(fun⟨h1,_⟩=>by cases h1),h.h0,h.h1,h.t0,h.t1,h.i0,h.i1,h.set,h.pd,h.rp,(z0Y _).2 ((z0Y c.out).1 h.out)⟩
 ·exact h
theorem j5E{c:Cs}(h:GC c){x:Pkt}(hx:x.k=1/\Cd.z0m x.k x.i x.v x.n x.S x.D=0):GC (takeC c x):=by
 obtain⟨a,b,p,-⟩:=z4R hx.2;refine⟨h.og,h.h0,h.h1,h.t0,h.t1,by show 0<=x.i;omega,b,q8q h.set p,h.pd,fun y hy=>?_,h.out⟩
 rcases List.mem_append.1 hy with h1 | h1
 ·exact h.rp y h1
 ·rw[List.mem_singleton]at h1;subst h1;have:=h.t0;exact⟨a,b,by show 0<=c.t+15;omega⟩
theorem q4A:∀ (l:List Pkt) {c:Cs},GC c->(∀ x∈l,x.k=1/\Cd.z0m x.k x.i x.v x.n x.S x.D=0)->GC (l.foldl takeC c)
 | [],_,h,_=>h
 | x :: l,_,h,hl=>q4A l (j5E h (hl x List.mem_cons_self)) fun y hy=>hl y (List.mem_cons_of_mem _ hy)
theorem j6Z{c:Cs}(h:GC c){l:List (Int×Int)}(hl:∀ x∈l,1<=x.1/\x.1<=1099511627776/\0<=x.2):GC { c with rp:=l }:=⟨h.og,h.h0,h.h1,h.t0,h.t1,h.i0,h.i1,h.set,h.pd,hl,h.out⟩
theorem q8Z:∀ (l:List (Int×Int)) {c:Cs},GC c->(∀ x∈l,1<=x.1/\x.1<=1099511627776/\0<=x.2)->GC (z2l c l)
 | [],_,h,_=>j6Z h fun x hx=>by cases hx
 | x :: l,c,h,hl=>by
  unfold z2l
  split
  ·split
   ·exact q8Z l (q8w h _ _ _ _ _) fun y hy=>hl y (List.mem_cons_of_mem _ hy)
   ·exact j6Z h hl
  ·exact j6Z h hl
theorem j4K{c:Cs}(h:GC c):GC (z4d c):=by
 have h1:GC (z2v c):=q4A c.pd h h.pd;unfold z4d;refine q8Z _ ?_ h1.rp;exact⟨h1.og,h1.h0,h1.h1,h1.t0,h1.t1,h1.i0,h1.i1,h1.set,fun x hx=>(by cases hx),h1.rp,h1.out⟩
theorem j8a{c:Cs}(h:GC c)(hh:c.h<1099511627775)(now:Int):GC (z9J c now).1:=by
 unfold z9J
 split
 ·split
  ·rename_i hn;obtain⟨a,b⟩:=(z7I now).1 hn.1;have:=h.h0;exact j4K ⟨h.og,by show 0<=c.h+1;omega,by show c.h+1<_;omega,a,b,h.i0,h.i1,h.set,h.pd,h.rp,h.out⟩
  ·exact h
 ·exact h
structure z4t(c d:Cs):Prop where
 on:d.on=c.on
 gone:d.gone=c.gone
 h:d.h=c.h
 t:d.t=c.t
 hd:d.h0=c.h0/\d.h1=c.h1/\d.h2=c.h2/\d.h3=c.h3
 got:d.out.g=c.out.g
 cl:d.out.cl=c.out.cl
theorem z4t.refl(c:Cs):z4t c c:=⟨rfl,rfl,rfl,rfl,⟨rfl,rfl,rfl,rfl⟩,rfl,rfl⟩
theorem z4t.trans{a b c:Cs}(h:z4t a b)(k:z4t b c):z4t a c:=⟨k.on.trans h.on,k.gone.trans h.gone,k.h.trans h.h,k.t.trans h.t,⟨k.hd.1.trans h.hd.1,k.hd.2.1.trans h.hd.2.1,k.hd.2.2.1.trans h.hd.2.2.1,k.hd.2.2.2.trans h.hd.2.2.2⟩,k.got.trans h.got,k.cl.trans h.cl⟩
theorem z6n:∀ (l:List Pkt) (c:Cs),z4t c (l.foldl takeC c)/\(l.foldl takeC c).out=c.out/\(l.foldl takeC c).pd=c.pd/\(l.foldl takeC c).rp.length=c.rp.length+l.length
 | [],c=>⟨z4t.refl c,rfl,rfl,rfl⟩
 | x :: l,c=>by
  rw[List.foldl_cons];obtain⟨a,b,d,e⟩:=z6n l (takeC c x);refine⟨z4t.trans (b:=takeC c x) ⟨rfl,rfl,rfl,rfl,⟨rfl,rfl,rfl,rfl⟩,rfl,rfl⟩ a,b,d,?_⟩;rw[e]
  show (c.rp ++ [_]).length+l.length=_
  simp
  omega
theorem q1R(l:Ln.Line)(s:ByteArray)(due:Int):(Ln.z5i l s due).g=l.g/\(Ln.z5i l s due).cl=l.cl:=by
 unfold Ln.z5i
 split <;> exact⟨rfl,rfl⟩
theorem z7P(c:Cs)(k i v n now:Int):z4t c (z2u c k i v n now).1:=by
 unfold z2u
 split
 ·exact⟨rfl,rfl,rfl,rfl,⟨rfl,rfl,rfl,rfl⟩,(q1R _ _ _).1,(q1R _ _ _).2⟩
 ·exact z4t.refl c
theorem q1M:∀ (l:List (Int×Int)) (c:Cs),z4t c (z2l c l)/\(z2l c l).pd=c.pd/\(z2l c l).rp.length<=l.length
 | [],c=>⟨⟨rfl,rfl,rfl,rfl,⟨rfl,rfl,rfl,rfl⟩,rfl,rfl⟩,rfl,Nat.le_refl _⟩
 | x :: l,c=>by
  unfold z2l
  split
  ·split
   ·obtain⟨a,b,d⟩:=q1M l (z2u c 2 x.1 0 0 c.t).1;refine⟨(z7P c 2 x.1 0 0 c.t).trans a,?_,by simp;omega⟩
    rw[b,z5S]
   ·exact⟨⟨rfl,rfl,rfl,rfl,⟨rfl,rfl,rfl,rfl⟩,rfl,rfl⟩,rfl,Nat.le_refl _⟩
  ·exact⟨⟨rfl,rfl,rfl,rfl,⟨rfl,rfl,rfl,rfl⟩,rfl,rfl⟩,rfl,Nat.le_refl _⟩
theorem j0r(c:Cs):z4t c (z4d c)/\(z4d c).pd=[]/\(z4d c).rp.length<=c.rp.length+c.pd.length:=by
 obtain⟨a,b,d,e⟩:=z6n c.pd c;obtain⟨f,g,h⟩:=q1M (z2v c).rp { z2v c with pd:=[] }
 refine⟨a.trans (z4t.trans (b:={ z2v c with pd:=[] }) ⟨rfl,rfl,rfl,rfl,⟨rfl,rfl,rfl,rfl⟩,rfl,rfl⟩ f),g,?_⟩
 show (z2l { z2v c with pd:=[] } (z2v c).rp).rp.length<=_
 have:(z2v c).rp.length=_:=e;omega
def small(l:List ByteArray):Prop:=∀ s∈l,s.size<=100
theorem z5K:small []:=fun s h=>by cases h
theorem z5X{k i v n:Int}{S:List (Int×Int)}{D:List Int}(hS:S.length<=6)(hD:D.length<=6):(Cd.encS k i v n S D).size<=100:=by
 by_cases h:Cd.z0m k i v n S D=0
 ·rw[q9w h];omega
 ·unfold Cd.encS;rw[if_neg h]
  decide
theorem q1E{l:Ln.Line}{s:ByteArray}{due:Int}(hl:small l.S)(hs:s.size<=100):small (Ln.z5i l s due).S:=by
 unfold Ln.z5i
 split
 ·intro x hx
  rcases List.mem_append.1 hx with h | h
  ·exact hl x h
  ·rw[List.mem_singleton]at h;rw[h];exact hs
 ·exact hl
theorem z6O{c:Cs}{k i v n now:Int}(hl:small c.out.S):small (z2u c k i v n now).1.out.S:=by
 unfold z2u
 split
 ·exact q1E hl (z5X (by simp) (by simp))
 ·exact hl
theorem z9G:∀ (l:List (Int×Int)) (c:Cs),small c.out.S->small (z2l c l).out.S
 | [],c,h=>h
 | x :: l,c,h=>by
  unfold z2l
  split
  ·split
   ·exact z9G l _ (z6O h)
   ·exact h
  ·exact h
theorem q5g{c:Cs}(h:small c.out.S):small (z4d c).out.S:=by
 refine z9G _ _ ?_
 show small (z2v c).out.S
 unfold z2v;rw[(z6n c.pd c).2.1];exact h
theorem z1I(f:Nat->Cs)(i:Nat)(y:Cs):z2L f i y i=y:=by unfold z2L;rw[if_pos rfl]
theorem z1H(f:Nat->Cs){i k:Nat}(y:Cs)(h:k≠i):z2L f i y k=f k:=by unfold z2L;rw[if_neg h]
theorem z2D(f:Nat->Lk)(i:Nat)(y:Lk):z0Q f i y i=y:=by unfold z0Q;rw[if_pos rfl]
theorem z1X(f:Nat->Lk){i k:Nat}(y:Lk)(h:k≠i):z0Q f i y k=f k:=by unfold z0Q;rw[if_neg h]
structure z2W(N:Int)(x:Wo):Prop where
  n0:0<=N
  n1:N<=600
  k0:0<=x.ck
  k1:x.ck<=1099511627736
  gp:GP x.p
  gc:∀ i,i<2->GC (x.c i)
  ph:x.p.h<=N
  pt:x.p.t<=x.ck
  ch:∀ i,i<2->(x.c i).h<=N
  ct:∀ i,i<2->(x.c i).t<=x.ck
  ql:(x.p.q.length:Int)<=N
  cl:∀ i,i<2->(((x.c i).pd.length+(x.c i).rp.length:Nat):Int)<=N
  on:∀ i,i<2->(x.c i).on=(x.p.L i).on/\(x.c i).gone=(x.p.L i).gone
  sp:∀ i,i<2->small (x.p.L i).out.S
  sc:∀ i,i<2->small (x.c i).out.S
theorem z2W.up{N:Int}{x:Wo}(h:z2W N x)(h6:N<600):z2W (N+1) x:=
  ⟨by have:=h.n0;omega,by omega,h.k0,h.k1,h.gp,h.gc,by have:=h.ph;omega,h.pt,fun i hi=>by have:=h.ch i hi;omega,h.ct,by have:=h.ql;omega,fun i hi=>by have:=h.cl i hi;omega,h.on,h.sp,h.sc⟩
theorem z2W.q5i{N:Int}{x:Wo}(h:z2W N x){p:Pr}(gp:GP p)(ph:p.h<=N)(pt:p.t<=x.ck)(ql:(p.q.length:Int)<=N)(on:∀ i,i<2->(p.L i).on=(x.p.L i).on/\(p.L i).gone=(x.p.L i).gone)(sp:∀ i,i<2->small (p.L i).out.S):z2W N { x with p:=p }:=
  ⟨h.n0,h.n1,h.k0,h.k1,gp,h.gc,ph,pt,h.ch,h.ct,ql,h.cl,fun i hi=>⟨(h.on i hi).1.trans (on i hi).1.symm,(h.on i hi).2.trans (on i hi).2.symm⟩,sp,h.sc⟩
theorem z2W.cons{N:Int}{x:Wo}(h:z2W N x){i:Nat}(hi:i<2){y:Cs}(gc:GC y)(ch:y.h<=N)(ct:y.t<=x.ck)(cl:((y.pd.length+y.rp.length:Nat):Int)<=N)(on:y.on=(x.c i).on/\y.gone=(x.c i).gone)(sc:small y.out.S):z2W N { x with c:=z2L x.c i y }:=by
  have key:∀ {Q:Cs->Prop},Q y->(∀ k,k<2->Q (x.c k))->∀ k,k<2->Q (z2L x.c i y k):=fun h1 h2 k hk=>by
    by_cases e:k=i
    · subst e;rw[z1I];exact h1
    · rw[z1H _ _ e];exact h2 k hk
  refine⟨h.n0,h.n1,h.k0,h.k1,h.gp,key (Q:=GC) gc h.gc,h.ph,h.pt,key (Q:=fun c=>c.h<=N) ch h.ch,key (Q:=fun c=>c.t<=x.ck) ct h.ct,h.ql,key (Q:=fun c=>((c.pd.length+c.rp.length:Nat):Int)<=N) cl h.cl,fun k hk=>?_,h.sp,key (Q:=fun c=>small c.out.S) sc h.sc⟩
  show (z2L x.c i y k).on=_/\(z2L x.c i y k).gone=_
  by_cases e:k=i
  · subst e;rw[z1I,on.1,on.2];exact h.on k hk
  · rw[z1H _ _ e];exact h.on k hk
theorem z2W.heads{N:Int}{x:Wo}(h:z2W N x)(a b:Nat->Hd):z2W N { x with hp:=a,hc:=b }:=⟨h.n0,h.n1,h.k0,h.k1,h.gp,h.gc,h.ph,h.pt,h.ch,h.ct,h.ql,h.cl,h.on,h.sp,h.sc⟩
theorem z2W.dn{N:Int}{x:Wo}(h:z2W N x)(n:Int):z2W N { x with dn:=n }:=⟨h.n0,h.n1,h.k0,h.k1,h.gp,h.gc,h.ph,h.pt,h.ch,h.ct,h.ql,h.cl,h.on,h.sp,h.sc⟩
theorem z6T(p:Pr)(d v n:Int):(z2O p d v n).1={ p with s:=(z2O p d v n).1.s }:=by unfold z2O;split <;> rfl
theorem z9u(p:Pr)(d v n now:Int):(z1J p d v n now).1.h=p.h/\(z1J p d v n now).1.t=p.t/\(z1J p d v n now).1.q=p.q/\(z1J p d v n now).1.set=p.set/\((z1J p d v n now).1.L=p.L∨(z1J p d v n now).1.L=z1q p.L):=by
  unfold z1J
  split
  · split
    · exact⟨rfl,rfl,rfl,rfl,.inr rfl⟩
    · exact⟨rfl,rfl,rfl,rfl,.inl rfl⟩
  · exact⟨rfl,rfl,rfl,rfl,.inl rfl⟩
theorem z3O(L:Nat->Lk)(c:Nat):(z1q L c).on=(L c).on/\(z1q L c).gone=(L c).gone/\(z1q L c).out=(L c).out/\(z1q L c).told=(L c).told:=by unfold z1q;split <;> exact⟨rfl,rfl,rfl,rfl⟩
theorem z8s(p:Pr)(v n:Int):(z4u p v n).1={ p with s:=(z4u p v n).1.s }:=by
  unfold z4u
  repeat' split
  all_goals rfl
theorem z2W.z1l{N:Int}{x:Wo}(h:z2W N x){s:St}(gp:GP { x.p with s:=s }):z2W N { x with p:={ x.p with s:=s } }:=h.q5i gp h.ph h.pt h.ql (fun _ _=>⟨rfl,rfl⟩) h.sp
theorem j7x{N:Int}{x:Wo}(h:z2W N x)(d:Dd):z2W N (atP x d).1:=by
  unfold atP
  split
  · have:=j1q h.gp d.d d.v d.n
    rw[z6T]at this ⊢;exact h.z1l this
  · split
    · obtain⟨e1,e2,e3,-,e4⟩:=z9u x.p d.d d.v d.n x.ck
      refine h.q5i (j3q h.gp _ _ _ _) (by rw[e1];exact h.ph) (by rw[e2];exact h.pt) (by rw[e3];exact h.ql) (fun i hi=>?_) (fun i hi=>?_)
      · rcases e4 with e | e
        · rw[e];exact⟨rfl,rfl⟩
        · rw[e];exact⟨(z3O _ i).1,(z3O _ i).2.1⟩
      · rcases e4 with e | e
        · rw[e];exact h.sp i hi
        · rw[e,(z3O _ i).2.2.1];exact h.sp i hi
    · split
      · exact h.z1l (q0a h.gp (q2F h.gp.s _))
      · have:=j4Q h.gp d.v d.n
        rw[z8s]at this ⊢;exact h.z1l this
theorem j0B{N:Int}{x:Wo}(h:z2W N x)(n:Int):z2W N (z6s x n).1:=by
  unfold z6s
  split
  · exact h
  · rename_i hn
    have a:=h.k0;have b:=h.pt;exact⟨h.n0,h.n1,by show 0<=x.ck+n;omega,by show x.ck+n<=_;omega,h.gp,h.gc,h.ph,by show x.p.t<=x.ck+n;omega,h.ch,fun i hi=>by have:=h.ct i hi;show (x.c i).t<=x.ck+n;omega,h.ql,h.cl,h.on,h.sp,h.sc⟩
theorem j8g{p:Pr}{now:Int}(h:(endP p now).2.2=0):z0x p=true/\isT now=true/\p.t<=now:=by
  unfold endP at h
  split at h
  · assumption
  · simp at h
theorem q6Q{h t:Int}{set:List (Int×Int)}{y x:Lk}(H:j1S h t set y x)(hy:small y.out.S):small x.out.S:=by
  obtain⟨z,hz,hr,hx⟩:=H.ex
  rcases hx with rfl | T
  · rw[hz.out];exact hy
  · rw[T.eq]
    exact q1E (by rw[hz.out];exact hy) (z5X (q8U _ _) (q4I hr))
theorem j3x{N:Int}{x:Wo}(h:z2W N x)(h6:N<600):z2W (N+1) (z4G x).1:=by
  unfold z4G
  split
  · rename_i h0
    have hok:=j8g h0;have E:=z5B hok;have hp:=h.ph;refine ((h.up h6).q5i (p:=(endP x.p x.ck).1) (j8q h.gp hok (by have:=h.n1;omega)) (by rw[E.h];omega) (by rw[E.t];exact Int.le_refl _) (by have:=E.ql;have:=h.ql;omega) (fun i hi=>?_) (fun i hi=>q6Q (E.lk i hi) (h.sp i hi))).heads _ _
    have:=j1S.same (E.lk i hi);exact⟨this.1,this.2.1⟩
  · exact h.up h6
theorem j1A{p:Pr}{c:Int}(h:(z0X p c).2=0):∃ i:Nat,c=(i:Int)/\i<2/\z0x p=true/\(p.L i).gone=false/\(p.L i).on=false/\p.h≠0/\p.set.length≠0/\(z0X p c).1={ p with s:={ p.s with W:=p.s.W.map (z1A i (p.h+1)) },L:=z0Q p.L i (z7w p) }:=by
  unfold z0X at h ⊢
  by_cases h1:z0x p=true
  case neg=>rw[if_neg h1]at h;simp at h
  rw[if_pos h1]at h ⊢
  by_cases h2:isC c=true
  case neg=>rw[if_neg h2]at h;simp at h
  rw[if_pos h2]at h ⊢
  by_cases h3:(p.L c.toNat).gone=true
  · rw[if_pos h3]at h;simp at h
  rw[if_neg h3]at h ⊢
  by_cases h4:(p.L c.toNat).on=true
  · rw[if_pos h4]at h;simp at h
  rw[if_neg h4]at h ⊢
  by_cases h5:p.h=0∨p.set.length=0
  · rw[if_pos h5]at h;simp at h
  rw[if_neg h5];unfold isC at h2;simp only[Bool.and_eq_true,decide_eq_true_eq]at h2;exact⟨c.toNat,by omega,by omega,h1,by simpa using h3,by simpa using h4,fun e=>h5 (.inl e),fun e=>h5 (.inr e),rfl⟩
theorem q7H{N:Int}{x:Wo}(h:z2W N x)(c:Int):z2W N (z3u x c).1:=by
  unfold z3u
  split
  · split
    · rename_i h0
      obtain⟨i,rfl,hi,-,hg,ho,-,-,e⟩:=j1A h0;have gp:=j2G h.gp (i:Int);rw[Int.toNat_natCast,e];rw[e]at gp;generalize hP:({ x.p with s:={ x.p.s with W:=x.p.s.W.map (z1A i (x.p.h+1)) },L:=z0Q x.p.L i (z7w x.p) }:Pr)=P at *
      have eh:P.h=x.p.h:=by rw[← hP]
      have et:P.t=x.p.t:=by rw[← hP]
      have es:P.set=x.p.set:=by rw[← hP]
      have eq:P.q=x.p.q:=by rw[← hP]
      have eL:P.L=z0Q x.p.L i (z7w x.p):=by rw[← hP]
      have key:∀ {Q:Cs->Prop},Q (z2M P.set P.h x.ck)->(∀ k,k<2->Q (x.c k))->∀ k,k<2->Q (z2L x.c i (z2M P.set P.h x.ck) k):=fun h1 h2 k hk=>by
        by_cases e:k=i
        · subst e;rw[z1I];exact h1
        · rw[z1H _ _ e];exact h2 k hk
      have n0:=h.n0;have k0:=h.k0;have k1:=h.k1;have n1:=h.n1;have ph:=h.ph;have gh:=h.gp.h0;refine⟨h.n0,h.n1,h.k0,h.k1,gp,key (Q:=GC) (j1B (by rw[es];exact h.gp.set) (by omega) (by omega) k0 (by omega)) h.gc,by rw[eh];exact h.ph,by rw[et];exact h.pt,key (Q:=fun c=>c.h<=N) n0 h.ch,key (Q:=fun c=>c.t<=x.ck) (Int.le_refl _) h.ct,by rw[eq];exact h.ql,key (Q:=fun c=>((c.pd.length+c.rp.length:Nat):Int)<=N) n0 h.cl,fun k hk=>?_,fun k hk=>?_,key (Q:=fun c=>small c.out.S) z5K h.sc⟩
      · show (z2L x.c i (z2M P.set P.h x.ck) k).on=(P.L k).on/\(z2L x.c i (z2M P.set P.h x.ck) k).gone=(P.L k).gone
        rw[eL]
        by_cases e:k=i
        · subst e;rw[z1I,z2D];exact⟨rfl,rfl⟩
        · rw[z1H _ _ e,z1X _ _ e];exact h.on k hk
      · show small (P.L k).out.S
        rw[eL]
        by_cases e:k=i
        · subst e;rw[z2D];exact z5K
        · rw[z1X _ _ e];exact h.sp k hk
    · exact h
  · exact h
theorem j1O{N:Int}{x:Wo}(h:z2W N x)(h6:N<600){i:Nat}(hi:i<2):z2W (N+1) (z5e x i).1:=by
  unfold z5e
  split
  · rename_i h0
    have hc:=h.ch i hi;have n1:=h.n1;have gc:=j8a (h.gc i hi) (by omega) x.ck
    have e:(z9J (x.c i) x.ck).1=z4d { x.c i with h:=(x.c i).h+1,t:=x.ck }:=by
      unfold z9J at h0 ⊢
      split at h0
      · split at h0
        · rw[if_pos (by assumption),if_pos (by assumption)]
        · simp at h0
      · contradiction
    rw[e]at gc ⊢;have ds:=j0r { x.c i with h:=(x.c i).h+1,t:=x.ck }
    have sm:=q5g (c:={ x.c i with h:=(x.c i).h+1,t:=x.ck }) (h.sc i hi)
    generalize hE:z4d { x.c i with h:=(x.c i).h+1,t:=x.ck }=E at *
    obtain⟨a,b,l⟩:=ds;have l':E.rp.length<=(x.c i).rp.length+(x.c i).pd.length:=l;have hl:=h.cl i hi;refine ((h.up h6).cons hi gc (by rw[a.h];show (x.c i).h+1<=_;omega) (by rw[a.t];exact Int.le_refl _) ?_ ⟨a.on,a.gone⟩ sm).heads _ _
    rw[b,List.length_nil];omega
  · exact h.up h6
theorem j3o{N:Int}{x:Wo}(h:z2W N x){i:Nat}(hi:i<2)(b:Bool):z2W N (z5d x i b):=by
  unfold z5d
  split
  · have g:=h.gp.lk i hi
    refine h.q5i (q7X h.gp ⟨g.done,g.og,g.b0,g.b1,g.told,g.out⟩ rfl) h.ph h.pt h.ql (fun k hk=>?_) (fun k hk=>?_)
    · show (z0Q x.p.L i _ k).on=_/\(z0Q x.p.L i _ k).gone=_
      by_cases e:k=i
      · subst e;rw[z2D];exact⟨rfl,rfl⟩
      · rw[z1X _ _ e];exact⟨rfl,rfl⟩
    · show small (z0Q x.p.L i _ k).out.S
      by_cases e:k=i
      · subst e;rw[z2D];exact h.sp k hk
      · rw[z1X _ _ e];exact h.sp k hk
  · have g:=h.gc i hi
    exact h.cons hi ⟨g.og,g.h0,g.h1,g.t0,g.t1,g.i0,g.i1,g.set,g.pd,g.rp,g.out⟩ (h.ch i hi) (h.ct i hi) (h.cl i hi) ⟨rfl,rfl⟩ (h.sc i hi)
theorem j0d(c:Cs)(v now:Int):z4t c (z3z c v now).1/\(z3z c v now).1.pd=c.pd/\(z3z c v now).1.rp=c.rp/\(small c.out.S->small (z3z c v now).1.out.S):=by
  unfold z3z
  repeat' split
  all_goals first
    | exact⟨z4t.refl c,rfl,rfl,id⟩
    | (refine⟨?_,?_,?_,fun h=>z6O h⟩
       · have:=z7P c 3 c.id v (z4w v c.set) now
         exact⟨this.on,this.gone,this.h,this.t,this.hd,this.got,this.cl⟩
       · show (z2u c 3 c.id v (z4w v c.set) now).1.pd=_;rw[z5S]
       · show (z2u c 3 c.id v (z4w v c.set) now).1.rp=_;rw[z5S])
theorem q2V(c:Cs)(v id now:Int):z4t c (z1d c v id now).1/\(z1d c v id now).1.pd=c.pd/\(z1d c v id now).1.rp=c.rp/\(small c.out.S->small (z1d c v id now).1.out.S):=by
  unfold z1d
  repeat' split
  all_goals first
    | exact⟨z4t.refl c,rfl,rfl,fun h=>h⟩
    | exact⟨z7P _ _ _ _ _ _,by rw[z5S],by rw[z5S],fun h=>z6O h⟩
theorem j6v{N:Int}{x:Wo}(h:z2W N x){i:Nat}(hi:i<2)(d:Dd):z2W N (q2N x i d).1:=by
  unfold q2N
  split
  · obtain⟨a,b,c,s⟩:=j0d (x.c i) d.v x.ck
    exact h.cons hi (j5G (h.gc i hi) _ _) (by rw[a.h];exact h.ch i hi) (by rw[a.t];exact h.ct i hi) (by rw[b,c];exact h.cl i hi) ⟨a.on,a.gone⟩ (s (h.sc i hi))
  · obtain⟨a,b,c,s⟩:=q2V (x.c i) d.v d.n x.ck
    exact h.cons hi (q7p (h.gc i hi) _ _ _) (by rw[a.h];exact h.ch i hi) (by rw[a.t];exact h.ct i hi) (by rw[b,c];exact h.cl i hi) ⟨a.on,a.gone⟩ (s (h.sc i hi))
theorem z6r(p:Pr)(c:Int)(l:List Int):(z3L p c l).1={ p with q:=(z3L p c l).1.q }/\(z3L p c l).1.q.length<=p.q.length+1:=by
  unfold z3L
  repeat' split
  all_goals exact⟨rfl,by simp⟩
theorem q5o(c:Cs)(l:List Int):(z3d c l).1={ c with pd:=(z3d c l).1.pd }/\(z3d c l).1.pd.length<=c.pd.length+1:=by
  unfold z3d
  repeat' split
  all_goals exact⟨rfl,by simp⟩
theorem q4J{N:Int}{x:Wo}(h:z2W N x)(h6:N<600){i:Nat}(hi:i<2)(b:Bool)(s:ByteArray):z2W (N+1) (z1N x i b s).1:=by
  unfold z1N
  split
  · obtain⟨e,l⟩:=z6r x.p i (Cd.bs s)
    have g:=j6W h.gp i (Cd.bs s);have hq:=h.ql;generalize (z3L x.p i (Cd.bs s)).1=P at *;refine (h.up h6).q5i g (by rw[e];exact (h.up h6).ph) (by rw[e];exact h.pt) (by omega) (fun k hk=>?_) (fun k hk=>?_)
    · rw[e];exact⟨rfl,rfl⟩
    · rw[e];exact h.sp k hk
  · obtain⟨e,l⟩:=q5o (x.c i) (Cd.bs s)
    have g:=j4T (h.gc i hi) (Cd.bs s);have hl:=h.cl i hi;generalize (z3d (x.c i) (Cd.bs s)).1=C at *;have e2:C.rp=(x.c i).rp:=by rw[e]
    exact (h.up h6).cons hi g (by rw[e];exact (h.up h6).ch i hi) (by rw[e];exact h.ct i hi) (by rw[e2];omega) (by rw[e];exact⟨rfl,rfl⟩) (by rw[e];exact h.sc i hi)
theorem q8k{N:Int}{x:Wo}(h:z2W N x){i:Nat}(hi:i<2)(b:Bool){l:Ln.Line}(gl:Ln.z0T l=true)(sl:small l.S):z2W N (z1M x i b l):=by
  unfold z1M
  split
  · exact h.cons hi (j4j (h.gc i hi) gl) (h.ch i hi) (h.ct i hi) (h.cl i hi) ⟨rfl,rfl⟩ sl
  · have g:=h.gp.lk i hi
    refine h.q5i (q7X h.gp ⟨g.done,g.og,g.b0,g.b1,g.told,gl⟩ rfl) h.ph h.pt h.ql (fun k hk=>?_) (fun k hk=>?_)
    · show (z0Q x.p.L i _ k).on=_/\(z0Q x.p.L i _ k).gone=_
      by_cases e:k=i
      · subst e;rw[z2D];exact⟨rfl,rfl⟩
      · rw[z1X _ _ e];exact⟨rfl,rfl⟩
    · show small (z0Q x.p.L i _ k).out.S
      by_cases e:k=i
      · subst e;rw[z2D];exact sl
      · rw[z1X _ _ e];exact h.sp k hk
theorem z6I{N:Int}{x:Wo}(h:z2W N x){i:Nat}(hi:i<2)(b:Bool):small (z1j x i b).S:=by
  unfold z1j
  split
  · exact h.sc i hi
  · exact h.sp i hi
theorem q9l{N:Int}{x:Wo}(h:z2W N x){i:Nat}(hi:i<2)(b:Bool):Ln.z0T (z1j x i b)=true:=by
  unfold z1j
  split
  · exact (h.gc i hi).out
  · exact (h.gp.lk i hi).out
theorem j5H{N:Int}{x:Wo}(h:z2W N x)(h6:N<600){i:Nat}(hi:i<2)(b f:Bool):z2W (N+1) (z9K x i b f).1:=by
  unfold z9K
  split
  · rename_i h0
    split
    · refine q8k (q4J h h6 hi b _) hi b (j3k h0) ?_
      rw[q0g h0];exact z6I h hi b
    · exact q4J h h6 hi b _
  · exact h.up h6
theorem q7m{p:Pr}(h:GP p){i:Nat}(hi:i<2)(ho:(p.L i).on=true):z0u p i={ p with s:={ p.s with W:=z5D i 1099511627776 p.s.W },L:=z0Q p.L i (z4s (p.L i)),q:=p.q.filter fun a=>decide (a.1≠i) }:=by
  unfold z0u;rw[if_pos ⟨(z5H p).2 h,by unfold z9A isC;simp[ho];omega⟩,Int.toNat_natCast]
theorem j6R{N:Int}{x:Wo}(h:z2W N x){i:Nat}(hi:i<2)(ho:(x.c i).on=true):z2W N (q3C x i):=by
  have hop:(x.p.L i).on=true:=(h.on i hi).1.symm.trans ho;have gp:=q9B h.gp (i:Int);unfold q3C;rw[q7m h.gp hi hop]at gp ⊢;have eC:z1o (x.c i)={ x.c i with on:=false,gone:=true,out:={ (x.c i).out with cl:=true } }:=by unfold z1o;rw[if_pos ho]
  have gc:=q9q (h.gc i hi);rw[eC]at gc ⊢
  have key:∀ {Q:Cs->Prop},Q { x.c i with on:=false,gone:=true,out:={ (x.c i).out with cl:=true } }->(∀ k,k<2->Q (x.c k))->∀ k,k<2->Q (z2L x.c i { x.c i with on:=false,gone:=true,out:={ (x.c i).out with cl:=true } } k):=fun h1 h2 k hk=>by
    by_cases e:k=i
    · subst e;rw[z1I];exact h1
    · rw[z1H _ _ e];exact h2 k hk
  refine⟨h.n0,h.n1,h.k0,h.k1,gp,key (Q:=GC) gc h.gc,h.ph,h.pt,key (Q:=fun c=>c.h<=N) (h.ch i hi) h.ch,key (Q:=fun c=>c.t<=x.ck) (h.ct i hi) h.ct,?_,key (Q:=fun c=>((c.pd.length+c.rp.length:Nat):Int)<=N) (h.cl i hi) h.cl,fun k hk=>?_,fun k hk=>?_,key (Q:=fun c=>small c.out.S) (h.sc i hi) h.sc⟩
  · have:=List.length_filter_le (fun a:Int×Pkt=>decide (a.1≠(i:Int))) x.p.q
    have:=h.ql
    show ((x.p.q.filter fun a=>decide (a.1≠(i:Int))).length:Int)<=N
    omega
  · show (z2L x.c i _ k).on=(z0Q x.p.L i _ k).on/\(z2L x.c i _ k).gone=(z0Q x.p.L i _ k).gone
    by_cases e:k=i
    · subst e;rw[z1I,z2D];exact⟨rfl,rfl⟩
    · rw[z1H _ _ e,z1X _ _ e];exact h.on k hk
  · show small (z0Q x.p.L i _ k).out.S
    by_cases e:k=i
    · subst e;rw[z2D];exact h.sp k hk
    · rw[z1X _ _ e];exact h.sp k hk
theorem j9J(x:Wo)(i:Nat)(b:Bool)(l:Ln.Line):((z1M x i b l).c i).on=(x.c i).on:=by
  unfold z1M
  split
  · show (z2L x.c i _ i).on=_;rw[z1I]
  · rfl
theorem j6H{N:Int}{x:Wo}(h:z2W N x){i:Nat}(hi:i<2)(ho:(x.c i).on=true)(b:Bool)(k:Int):z2W N (z9E x i b k).1:=by
  unfold z9E
  split
  · rename_i h0
    refine j6R (q8k h hi b (j1H h0) ?_) hi (by rw[j9J];exact ho)
    rw[j0l h0];exact z6I h hi b
  · exact h
theorem j1L{N:Int}{x:Wo}(h:z2W N x)(h6:N<600){i:Nat}(hi:i<2)(ho:(x.c i).on=true)(d:Dd):z2W (N+1) (z5b x i d).1:=by
  unfold z5b
  repeat' split
  · exact j1O h h6 hi
  · exact (j3o h hi _).up h6
  · exact j5H h h6 hi _ _
  · exact (j6H h hi ho _ _).up h6
  · exact (j6v h hi _).up h6
theorem j5S{c:Int}(h:isC c=true):∃ i:Nat,c=(i:Int)/\i<2:=by
  unfold isC at h;simp only[Bool.and_eq_true,decide_eq_true_eq]at h;exact⟨c.toNat,by omega,by omega⟩
theorem j3c{N:Int}{x:Wo}(h:z2W N x)(h6:N<600)(d:Dd):z2W (N+1) (z2Q x d).1:=by
  unfold z2Q
  split
  · exact (j7x h d).up h6
  · split
    · exact (j0B h _).up h6
    · split
      · exact j3x h h6
      · split
        · exact (q7H h _).up h6
        · split
          · split
            · rename_i hc
              obtain⟨i,e,hi⟩:=j5S hc.1;rw[e,Int.toNat_natCast]at hc ⊢;exact j1L h h6 hi hc.2 d
            · exact h.up h6
          · exact h.up h6
def Inv(x:Wo):Prop:=z2W x.dn x
theorem j8M(x:Wo)(d:Dd):(atP x d).1.dn=x.dn:=by
  unfold atP
  repeat' split
  all_goals rfl
theorem j4t(x:Wo)(i:Nat)(b:Bool)(l:Ln.Line):(z1M x i b l).dn=x.dn:=by unfold z1M;split <;> rfl
theorem q7t(x:Wo)(i:Nat)(b:Bool)(s:ByteArray):(z1N x i b s).1.dn=x.dn:=by unfold z1N;split <;> rfl
theorem j5W(x:Wo)(i:Nat)(d:Dd):(z5b x i d).1.dn=x.dn:=by
  unfold z5b
  split
  · unfold z5e;split <;> rfl
  split
  · unfold z5d;split <;> rfl
  split
  · unfold z9K
    split
    · split
      · show (z1M _ _ _ _).dn=_;rw[j4t,q7t]
      · exact q7t _ _ _ _
    · rfl
  split
  · unfold z9E
    split
    · show (z1M _ _ _ _).dn=_;rw[j4t]
    · rfl
  · unfold q2N;split <;> rfl
theorem q8E(x:Wo)(d:Dd):(z2Q x d).1.dn=x.dn:=by
  unfold z2Q
  split
  · exact j8M x d
  split
  · unfold z6s;split <;> rfl
  split
  · unfold z4G;split <;> rfl
  split
  · unfold z3u
    split
    · split <;> rfl
    · rfl
  split
  · split
    · exact j5W _ _ _
    · rfl
  · rfl
theorem j4J{x:Wo}(h:Inv x)(d:Dd):Inv (doW x d).1:=by
  unfold doW
  split
  · exact h
  · rename_i h6
    have h1:z2W x.dn (z1O x):=h.dn _;have:=j3c h1 (by omega) d
    show z2W (z2Q (z1O x) d).1.dn (z2Q (z1O x) d).1
    rw[q8E];exact this
theorem q7x:Inv z7h:=by
  have gp:GP newP:=by
    refine⟨by decide,by decide,by decide,by decide,by decide,rfl,fun c _=>⟨rfl,fun⟨h,_⟩=>(by cases h),Int.le_refl _,Int.le_refl _,rfl,rfl⟩,fun a ha=>(by cases ha)⟩
  have gc:GC csN:=⟨fun⟨h,_⟩=>(by cases h),by decide,by decide,by decide,by decide,by decide,by decide,rfl,fun x hx=>(by cases hx),fun x hx=>(by cases hx),rfl⟩
  exact⟨by decide,by decide,by decide,by decide,gp,fun _ _=>gc,by decide,by decide,fun _ _=>Int.le_refl _,fun _ _=>Int.le_refl _,by decide,fun _ _=>Int.le_refl _,fun _ _=>⟨rfl,rfl⟩,fun _ _=>z5K,fun _ _=>z5K⟩
end Wd
end Go.Proofs.YtmopekkhmhhcaaaGreat
