/- Parts of the proof. -/
import Derived.Test.YtddlhnoedldidaaGreatML
import Derived.Test.YtddlhnoedldidaaGreatMK12
set_option maxRecDepth 100000
set_option maxHeartbeats 16000000
namespace Go.Proofs.YtddlhnoedldidaaGreat
open Go.Proofs.Tryz
open Value renaming int->J,slice->J1,pointer->J2,bool->J3,agg->J4
open IntKind renaming i64->I
open Obj renaming cells->J5
namespace Pv
open Go.RowKit
theorem q7u{h:Int}{x:Lk}(a:z2h h x=true):z2h h (z4O x)=true:=by
 unfold z2h z4O at *;simp only[Bool.and_eq_true,Ln.z0Z]at a ⊢
 simp_all [z2j]
theorem q1w{p:Pr}{c:Int}(l:z0J p=true)(d:z9q p c=true):z0J (z0Q p c)=true:=by
 have f:isC c=true:=by unfold z9q at d;simp at d;exact d.1
 obtain⟨k,rfl,B⟩:=z9a f
 have n:z0Q p k={ p with s:={ p.s with W:=z5f k 1099511627776 p.s.W },L:=z1a p.L k (z4O (p.L k)),q:=p.q.filter fun a=>decide (a.1≠(k:Int)) }:=by
  unfold z0Q;rw[if_pos ⟨l,d⟩,Int.toNat_natCast]
 rw[n];have h1:=l;unfold z0J at h1 ⊢;simp only[Bool.and_eq_true,List.all_eq_true,decide_eq_true_eq]at h1 ⊢;obtain⟨⟨⟨⟨⟨⟨⟨o,r⟩,t⟩,u⟩,v⟩,w⟩,b0,b1⟩,y⟩:=h1
 have m:∀ i,i<2->z2h p.h (z1a p.L k (z4O (p.L k)) i)=true:=fun i C=>by
  have b:z2h p.h (p.L i)=true:=by
   rcases (show i=0∨i=1 by omega) with rfl | rfl
   ·exact b0
   ·exact b1
  unfold z1a
  by_cases e:i=k
  ·subst e;rw[if_pos rfl];exact q7u b
  ·rw[if_neg e];exact b
 refine⟨⟨⟨⟨⟨⟨⟨(j2m o k 1099511627776).good,r⟩,t⟩,u⟩,v⟩,w⟩,m 0 (by omega),m 1 (by omega)⟩,fun x z=>?_⟩
 obtain⟨g,j⟩:=List.mem_filter.1 z;have:=y x g;have A:x.1≠(k:Int):=by simpa using j
 unfold z5o at this ⊢;simp only[Bool.and_eq_true,decide_eq_true_eq]at this ⊢;refine⟨⟨⟨this.1.1.1,?_⟩,this.1.2⟩,this.2⟩;unfold z1a;rw[if_neg (by omega)]
 exact this.1.1.2
attribute [local go_sem ↓] z1B z0H z0w z1w
end Pv
namespace Wd
open Go.RowKit Pv Kc
theorem z1J(x:Ln.Line):Ln.z0Z x=true↔x.D.length=x.S.length/\x.S.length<=400/\Ln.nonneg x.D=true/\0<=x.g/\x.g<=x.S.length:=by
 unfold Ln.z0Z;simp only[Bool.and_eq_true,decide_eq_true_eq];exact⟨fun⟨⟨⟨⟨a,b⟩,c⟩,d⟩,e⟩=>⟨a,b,c,d,e⟩,fun⟨a,b,c,d,e⟩=>⟨⟨⟨⟨a,b⟩,c⟩,d⟩,e⟩⟩
theorem z8y{x:Ln.Line}(h:Ln.z4a x=0):Ln.z0Z x=true/\x.cl=false:=by
 unfold Ln.z4a at h;cases a:Ln.z0Z x
 ·rw[a]at h;simp at h
 ·rw[a]at h;cases hc:x.cl
  ·exact⟨rfl,rfl⟩
  ·rw[hc]at h;simp at h
theorem j6C{x:Ln.Line}{due:Int}(h:Ln.z6v x due=0):Ln.z0Z x=true/\x.cl=false/\x.S.length<400/\0<=due:=by
 unfold Ln.z6v at h
 by_cases h1:due<0
 ·rw[if_pos h1]at h;omega
 rw[if_neg h1]at h
 by_cases h2:Ln.z4a x≠0
 ·rw[if_pos h2]at h;exact absurd h h2
 rw[if_neg h2]at h;have a:Ln.z4a x=0:=by omega
 by_cases h3:400<=x.S.length
 ·rw[if_pos h3]at h;omega
 ·exact⟨(z8y a).1,(z8y a).2,by omega,by omega⟩
theorem q6U{x:Ln.Line}{s:ByteArray}{due:Int}(h:Ln.z6v x due=0):Ln.z5K x s due=⟨x.S ++ [s],x.D ++ [due],x.g,x.cl⟩:=by unfold Ln.z5K;rw[if_pos h]
theorem j3z{x:Ln.Line}{s:ByteArray}{due:Int}(h:Ln.z6v x due≠0):Ln.z5K x s due=x:=by unfold Ln.z5K;rw[if_neg h]
theorem q3e{x:Ln.Line}(s:ByteArray)(due:Int)(f:Ln.z0Z x=true):Ln.z0Z (Ln.z5K x s due)=true:=by
 by_cases h:Ln.z6v x due=0
 ·rw[q6U h];obtain⟨h1,-,h3,g⟩:=j6C h;obtain⟨a,b,c,d,e⟩:=(z1J x).1 h1;refine (z1J _).2 ⟨by simp[a],by simp;omega,?_,d,by simp;omega⟩
  unfold Ln.nonneg at c ⊢;rw[List.all_append,c]
  simp[g]
 ·rw[j3z h];exact f
theorem j5O{x:Ln.Line}{k:Int}{s:ByteArray}{said now:Int}(h:Ln.z4p x k s said now=0):Ln.z0Z x=true/\x.cl=false/\k=x.g+1/\k<=said/\k<=x.S.length/\x.S.getD (k - 1).toNat ByteArray.empty=s/\now<x.D.getD (k - 1).toNat 0:=by
 unfold Ln.z4p at h
 by_cases h1:Ln.z4a x≠0
 ·rw[if_pos h1]at h;exact absurd h h1
 rw[if_neg h1]at h;have a:Ln.z4a x=0:=by omega
 by_cases h2:k≠x.g+1
 ·rw[if_pos h2]at h;omega
 rw[if_neg h2]at h
 by_cases h3:said<k∨(x.S.length:Int)<k∨x.S.getD (k - 1).toNat ByteArray.empty≠s
 ·rw[if_pos h3]at h;omega
 rw[if_neg h3]at h
 by_cases c:x.D.getD (k - 1).toNat 0<=now
 ·rw[if_pos c]at h;omega
 have d:¬ said<k:=fun e=>h3 (.inl e);have f:¬ (x.S.length:Int)<k:=fun e=>h3 (.inr (.inl e));have b:x.S.getD (k - 1).toNat ByteArray.empty=s:=Classical.byContradiction fun e=>h3 (.inr (.inr e));exact⟨(z8y a).1,(z8y a).2,by omega,by omega,by omega,b,by omega⟩
theorem z9J{x:Ln.Line}{k:Int}{s:ByteArray}{said now:Int}(h:Ln.z4p x k s said now=0):Ln.z7b x k s said now=⟨x.S,x.D,k,x.cl⟩:=by unfold Ln.z7b;rw[if_pos h]
theorem j0A{x:Ln.Line}{k:Int}{s:ByteArray}{said now:Int}(h:Ln.z4p x k s said now=0):Ln.z0Z (Ln.z7b x k s said now)=true:=by
 rw[z9J h];obtain⟨h1,h2,h3,g,f,-,-⟩:=j5O h;obtain⟨a,b,c,d,e⟩:=(z1J x).1 h1;exact (z1J _).2 ⟨a,b,c,by show 0<=k;omega,f⟩
theorem j6X{x:Ln.Line}{k time got:Int}(h:Ln.z5k x k time got=0):Ln.z0Z x=true/\x.cl=false/\1<=k/\k<=x.S.length/\got<k/\x.D.getD (k - 1).toNat 0<=time:=by
 unfold Ln.z5k at h
 by_cases h1:Ln.z4a x≠0
 ·rw[if_pos h1]at h;exact absurd h h1
 rw[if_neg h1]at h;have a:Ln.z4a x=0:=by omega
 by_cases h2:k<1∨(x.S.length:Int)<k
 ·rw[if_pos h2]at h;omega
 rw[if_neg h2]at h
 by_cases h3:k<=got
 ·rw[if_pos h3]at h;omega
 rw[if_neg h3]at h
 by_cases b:time<x.D.getD (k - 1).toNat 0
 ·rw[if_pos b]at h;omega
 exact⟨(z8y a).1,(z8y a).2,by omega,by omega,by omega,by omega⟩
theorem q8N{x:Ln.Line}{k time got:Int}(h:Ln.z5k x k time got=0):Ln.z9O x k time got=⟨x.S,x.D,x.g,true⟩:=by unfold Ln.z9O;rw[if_pos h]
theorem j0E{x:Ln.Line}{k time got:Int}(h:Ln.z5k x k time got=0):Ln.z0Z (Ln.z9O x k time got)=true:=by
 rw[q8N h];exact (z1J _).2 ((z1J x).1 (j6X h).1)
structure GL(h:Int)(x:Lk):Prop where
 done:z2j (-1) x.done=true
 og:¬ (x.on=true/\x.gone=true)
 b0:0<=x.base
 b1:x.base<=h
 told:z3l (-1) x.told=true
 out:Ln.z0Z x.out=true
theorem j6D(h:Int)(x:Lk):z2h h x=true↔GL h x:=by
 unfold z2h;simp only[Bool.and_eq_true,decide_eq_true_eq,Bool.not_eq_true',Bool.and_eq_false_iff]
 constructor
 ·rintro⟨a,⟨⟨⟨b,c⟩,d⟩,e⟩,f⟩;refine⟨a,fun⟨h1,h2⟩=>?_,c,d,e,f⟩
  rcases b with b | b
  ·rw[h1]at b;cases b
  ·rw[h2]at b;cases b
 ·rintro⟨a,b,c,d,e,f⟩;refine⟨a,⟨⟨⟨?_,c⟩,d⟩,e⟩,f⟩;cases h1:x.on
  ·exact .inl rfl
  ·cases h2:x.gone
   ·exact .inr rfl
   ·exact absurd ⟨h1,h2⟩ b
structure GQ(L:Nat->Lk)(a:Int×Pkt):Prop where
 c0:0<=a.1
 c1:a.1<=1
 on:(L a.1.toNat).on=true
 k:a.2.k≠1
 good:Cd.z0s a.2.k a.2.i a.2.v a.2.n a.2.S a.2.D=0
theorem j6y(L:Nat->Lk)(a:Int×Pkt):z5o L a=true↔GQ L a:=by
 unfold z5o;simp only[Bool.and_eq_true,decide_eq_true_eq];exact⟨fun⟨⟨⟨⟨a,b⟩,c⟩,d⟩,e⟩=>⟨a,b,c,d,e⟩,fun⟨a,b,c,d,e⟩=>⟨⟨⟨⟨a,b⟩,c⟩,d⟩,e⟩⟩
structure GP(p:Pr):Prop where
 s:z0m p.s=true
 h0:0<=p.h
 h1:p.h<=1099511627775
 t0:0<=p.t
 t1:p.t<=1099511627776
 set:z3l (-1) p.set=true
 lk:∀ c,c<2->GL p.h (p.L c)
 q:∀ a∈p.q,GQ p.L a
theorem z8G(p:Pr):z0J p=true↔GP p:=by
 unfold z0J;simp only[Bool.and_eq_true,decide_eq_true_eq,List.all_eq_true,j6D,j6y]
 constructor
 ·rintro⟨⟨⟨⟨⟨⟨⟨a,b⟩,c⟩,d⟩,e⟩,f⟩,g,h⟩,i⟩;refine⟨a,b,c,d,e,f,fun c hc=>?_,i⟩
  rcases (show c=0∨c=1 by omega) with rfl | rfl
  ·exact g
  ·exact h
 ·rintro⟨a,b,c,d,e,f,g,i⟩;exact⟨⟨⟨⟨⟨⟨⟨a,b⟩,c⟩,d⟩,e⟩,f⟩,g 0 (by omega),g 1 (by omega)⟩,i⟩
theorem z9Q{p:Pr}(h:GP p){s:St}(a:z0m s=true):GP { p with s:=s }:=⟨a,h.h0,h.h1,h.t0,h.t1,h.set,h.lk,h.q⟩
theorem j1B{p:Pr}(h:GP p)(d v n:Int):GP (z3B p d v n).1:=by
 unfold z3B;rw[if_pos ((z8G p).2 h)];exact z9Q h (j0v h.s d v n).good
theorem z5B{s:St}{d v n:Int}{y:Wt}(h:(z0S s d v n y).2=0):z0T s d v=0:=by
 unfold z0S at h
 by_cases h0:z0T s d v=0
 ·exact h0
 ·rw[if_neg h0]at h;exact absurd h h0
theorem q4w{s:St}{d v:Int}(h:z0T s d v=0):z0m s=true/\∃ i j:Nat,d=(i:Int)/\v=(j:Int)/\i<4/\j<6:=by
 unfold z0T at h
 by_cases h0:z5P s v=0
 ·rw[if_pos h0]at h;obtain⟨a,h1⟩:=z4q h0
  by_cases h2:isD d=true
  ·have h3:=z4V.1 h2;exact⟨a,d.toNat,v.toNat,by omega,by omega,by omega,by omega⟩
  ·rw[if_neg h2]at h;omega
 ·rw[if_neg h0]at h;exact absurd h h0
theorem q4R{s:St}(a:z0m s=true)(d v n:Int)(y:Wt)(h:(z0S s d v n y).2=0):z0m (z0S s d v n y).1=true:=by
 obtain⟨-,i,j,rfl,rfl,b,c⟩:=q4w (z5B h);exact (j0I a b c n y).good
theorem j1g(L:Nat->Lk)(c:Nat):(z1x L c).on=(L c).on:=by unfold z1x;split <;> rfl
theorem j1G{h:Int}{L:Nat->Lk}{c:Nat}(g:GL h (L c)):GL h (z1x L c):=by
 unfold z1x
 split
 ·exact⟨g.done,g.og,g.b0,g.b1,g.told,g.out⟩
 ·exact g
theorem j1f{p:Pr}(h:GP p)(d v n now:Int):GP (z2C p d v n now).1:=by
 unfold z2C
 split
 ·split
  ·rename_i h2;refine⟨q4R h.s _ _ _ _ h2,h.h0,h.h1,h.t0,h.t1,h.set,fun c hc=>j1G (h.lk c hc),fun a b=>?_⟩;have:=h.q a b;exact⟨this.c0,this.c1,by show (z1x p.L _).on=true;rw[j1g];exact this.on,this.k,this.good⟩
  ·exact h
 ·exact h
theorem q2x{s:St}(a:z0m s=true)(v:Int):z0m (z1G s v).1=true:=by
 unfold z1G
 split
 ·rename_i h0;obtain⟨-,h1⟩:=z4q h0
  split
  ·exact a
  ·split
   ·exact z5m a (by omega) (fun h=>by cases h)
   ·exact a
 ·exact a
theorem j0x{s:St}(b:z0m s=true){v:Nat}(a:v<6)(h:Int):z0m (q1H s v h)=true:=z5m (z5T b a _ (by decide)) a (fun _=>rfl)
theorem j3Q{p:Pr}(h:GP p)(v n:Int):GP (z6n p v n).1:=by
 unfold z6n
 split
 ·split
  ·rename_i hv;have:=z2W.1 hv
   split
   ·split
    ·exact h
    ·exact z9Q h (j0x h.s (by omega) _)
   ·exact h
  ·exact h
 ·exact h
theorem q3M:∀ (l:List (Int×Pkt)) (z:QS),∀ a∈(l.foldl z2r z).left,a∈z.left∨a∈l
 | [],z,a,h=>.inl h
 | b :: l,z,a,h=>by
  rw[List.foldl_cons]at h
  rcases q3M l _ a h with h1 | h1
  ·have:a∈z.left∨a=b:=by
    unfold z2r at h1
    split at h1
    ·simpa using h1
    ·split at h1
     ·exact .inl h1
     ·simpa using h1
   rcases this with h2 | rfl
   ·exact .inl h2
   ·exact .inr List.mem_cons_self
  ·exact .inr (List.mem_cons_of_mem _ h1)
theorem j3L.same{h t:Int}{set:List (Int×Int)}{y x:Lk}(H:j3L h t set y x):x.on=y.on/\x.gone=y.gone/\x.base=y.base/\x.out.g=y.out.g/\x.out.cl=y.out.cl:=by
 obtain⟨z,a,-,b⟩:=H.ex
 rcases b with rfl | T
 ·exact⟨a.on,a.gone,a.base,by rw[a.out],by rw[a.out]⟩
 ·have e:=T.eq;rw[q6U T.say]at e;exact⟨by rw[e];exact a.on,by rw[e];exact a.gone,by rw[e];exact a.base,by rw[e];show z.out.g=_;rw[a.out],by rw[e];show z.out.cl=_;rw[a.out]⟩
theorem j6l{h t:Int}{set:List (Int×Int)}{y x:Lk}(H:j3L (h+1) t set y x)(c:z3l (-1) set=true)(g:GL h y):GL (h+1) x:=by
 obtain⟨z,a,d,e⟩:=H.ex;have f:=g.b1;have b:GL (h+1) z:=⟨d,by rw[a.on,a.gone];exact g.og,by rw[a.base];exact g.b0,by rw[a.base];omega,by rw[a.told];exact g.told,by rw[a.out];exact g.out⟩
 rcases e with rfl | T
 ·exact b
 ·rw[T.eq];exact⟨rfl,b.og,b.b0,b.b1,c,q3e _ _ b.out⟩
theorem j5Y{p:Pr}(h:GP p){now:Int}(b:z0J p=true/\isT now=true/\p.t<=now)(i:p.h<1099511627775):GP (endP p now).1:=by
 have E:=q7M b;have d:=b.2.1;unfold isT at d;simp only[Bool.and_eq_true,decide_eq_true_eq]at d;have j:=E.h;have l:=E.t;have m:=h.h0;refine⟨E.good,by omega,by omega,by omega,by omega,E.z3l,fun c hc=>?_,fun a e=>?_⟩
 ·have:=E.lk c hc;rw[E.h]at this ⊢;exact j6l this E.z3l (h.lk c hc)
 ·rw[E.q]at e
  have f:a∈p.q:=by
   rcases q3M p.q ⟨z1k p now,fun _=>false,[]⟩ a e with h1 | h1
   ·cases h1
   ·exact h1
  have g:=h.q a f;have hc:a.1.toNat<2:=by have:=g.c0;have:=g.c1;omega
  exact⟨g.c0,g.c1,by rw[(j3L.same (E.lk _ hc)).1];exact g.on,g.k,g.good⟩
theorem q5C(c:Nat)(h:Int)(x:Wt):(z1A c h x).num=x.num/\(z1A c h x).d=x.d/\(z1A c h x).v=x.v/\(z1A c h x).amt=x.amt/\(z1A c h x).hei=x.hei/\(z1A c h x).due=x.due:=by
 unfold z1A
 split
 ·split <;> exact⟨rfl,rfl,rfl,rfl,rfl,rfl⟩
 ·exact⟨rfl,rfl,rfl,rfl,rfl,rfl⟩
theorem q6v{F:Wt->Wt}(g:∀ x,(F x).num=x.num/\(F x).d=x.d/\(F x).v=x.v/\(F x).amt=x.amt/\(F x).hei=x.hei/\(F x).due=x.due)(next:Int):∀ (W:List Wt) (last:Int),wOk next last (W.map F)=wOk next last W
 | [],_=>rfl
 | x :: W,last=>by
  obtain⟨a,b,c,d,e,f⟩:=g x
  show (q1b last next (F x) && wOk next (F x).num (W.map F))=_
  rw[q6v g next W,wOk,q1b,q1b,a,b,c,d,e,f]
theorem q3g{F:Wt->Wt}(a:∀ x,(F x).amt=x.amt):∀ W:List Wt,z2t (W.map F)=z2t W
 | []=>rfl
 | x :: W=>by show (F x).amt+z2t (W.map F)=_;rw[q3g a W,a x];rfl
theorem j0C{F:Wt->Wt}(a:∀ x,(F x).num=x.num/\(F x).d=x.d/\(F x).v=x.v/\(F x).amt=x.amt/\(F x).hei=x.hei/\(F x).due=x.due){s:St}(b:z0m s=true):z0m { s with W:=s.W.map F }=true:=by
 have c:=q6v a s.next s.W 0
 have e:=q3g (fun x=>(a x).2.2.2.1) s.W
 have f:∀ k,pvs { s with W:=s.W.map F } k=pvs s k:=by
  intro k
  induction k with
  | zero=>rfl
  | succ k ih=>rw[pvs,ih];rfl
 unfold z0m bal at b ⊢;rw[f,List.length_map,c,e];exact b
theorem j0z{p:Pr}(h:GP p)(c:Int):GP (z1R p c).1:=by
 unfold z1R;rw[if_pos ((z8G p).2 h)]
 split
 ·rename_i hc
  split
  ·exact h
  ·split
   ·exact h
   ·rename_i hon
    split
    ·exact h
    ·refine⟨j0C (q5C _ _) h.s,h.h0,h.h1,h.t0,h.t1,h.set,fun k b=>?_,fun a d=>?_⟩
     ·show GL p.h (z1a p.L c.toNat (q2m p) k)
      unfold z1a
      split
      ·exact⟨rfl,(fun⟨_,h2⟩=>by cases h2),h.h0,Int.le_refl _,h.set,rfl⟩
      ·exact h.lk k b
     ·have g:=h.q a d;refine⟨g.c0,g.c1,?_,g.k,g.good⟩
      show (z1a p.L c.toNat (q2m p) a.1.toNat).on=true
      unfold z1a
      split
      ·rfl
      ·exact g.on
 ·exact h
theorem q8M{p:Pr}(h:GP p)(c:Int):GP (z0Q p c):=by
 by_cases a:z9q p c=true
 ·exact (z8G _).1 (q1w ((z8G p).2 h) a)
 ·unfold z0Q;rw[if_neg fun e=>a e.2];exact h
theorem q3B{l:List Int}(h:Cd.z7Q l=0):Cd.z0s (z3w l).k (z3w l).i (z3w l).v (z3w l).n (z3w l).S (z3w l).D=0:=by
 have e:Cd.z2l l=(Cd.parse l).1:=by unfold Cd.z2l;rw[if_pos h]
 have hp:z3w l=⟨(Cd.parse l).1.1,(Cd.parse l).1.2.1,(Cd.parse l).1.2.2.1,(Cd.parse l).1.2.2.2.1,(Cd.parse l).1.2.2.2.2.1,(Cd.parse l).1.2.2.2.2.2⟩:=by unfold z3w;rw[e]
 rw[hp];unfold Cd.z7Q at h;generalize Cd.parse l=q at *
 by_cases a:q.2=([],false)
 ·rw[if_pos a]at h;exact h
 ·rw[if_neg a]at h;omega
theorem j3i{p:Pr}(h:GP p)(c:Int)(l:List Int):GP (z4H p c l).1:=by
 unfold z4H;rw[if_pos ((z8G p).2 h)]
 split
 ·rename_i hon
  split
  ·rename_i hd
   split
   ·exact h
   ·rename_i hk;refine⟨h.s,h.h0,h.h1,h.t0,h.t1,h.set,h.lk,fun a b=>?_⟩
    rcases List.mem_append.1 b with h1 | h1
    ·exact h.q a h1
    ·rw[List.mem_singleton]at h1;subst h1;unfold z9q isC at hon;simp only[Bool.and_eq_true,decide_eq_true_eq]at hon;exact⟨hon.1.1,by show c<=1;omega,hon.2,hk,q3B hd⟩
  ·exact h
 ·exact h
theorem q9t{p:Pr}(h:GP p){i:Nat}{y:Lk}(b:GL p.h y)(c:y.on=(p.L i).on):GP { p with L:=z1a p.L i y }:=by
 refine⟨h.s,h.h0,h.h1,h.t0,h.t1,h.set,fun k d=>?_,fun a f=>?_⟩
 ·show GL p.h (z1a p.L i y k)
  unfold z1a
  split
  ·exact b
  ·exact h.lk k d
 ·have g:=h.q a f;refine⟨g.c0,g.c1,?_,g.k,g.good⟩
  show (z1a p.L i y a.1.toNat).on=true
  unfold z1a
  split
  ·rename_i e;rw[c,<- e];exact g.on
  ·exact g.on
theorem j5d(n:Int):isT n=true↔0<=n/\n<=1099511627776:=by
 unfold isT;simp only[Bool.and_eq_true,decide_eq_true_eq]
theorem z4z{k i v n:Int}{S:List (Int×Int)}{D:List Int}(h:Cd.z0s k i v n S D=0):1<=i/\i<=1099511627776/\Cd.z0e (-1) S=true/\Cd.z0l (-1) D=true:=by
 unfold Cd.z0s at h
 by_cases h1:k<1∨4<k
 ·rw[if_pos h1]at h;omega
 rw[if_neg h1]at h
 by_cases h2:i<1∨1099511627776<i
 ·rw[if_pos h2]at h;omega
 rw[if_neg h2]at h
 by_cases h3:Cd.z6E k=true/\(Cd.isV v=false∨n<1∨1125899906842624<n)
 ·rw[if_pos h3]at h;omega
 rw[if_neg h3]at h
 by_cases b:Cd.z9h k v n S.length D.length=true
 ·rw[if_pos b]at h;omega
 rw[if_neg b]at h
 by_cases a:Cd.z0e (-1) S=false∨Cd.z0l (-1) D=false
 ·rw[if_pos a]at h;omega
 refine⟨by omega,by omega,?_,?_⟩
 ·cases e:Cd.z0e (-1) S
  ·exact absurd (.inl e) a
  ·rfl
 ·cases e:Cd.z0l (-1) D
  ·exact absurd (.inr e) a
  ·rfl
theorem z8R:∀ (l:List (Int×Int)) (a:Int),Cd.z0e a l=true->∀ x∈l,a<x.1/\(0<=x.1/\x.1<6)/\0<=x.2/\x.2<=1125899906842624
 | [],_,_,x,b=>by cases b
 | y :: l,a,h,x,b=>by
  simp only[Cd.z0e,Bool.and_eq_true,decide_eq_true_eq]at h
  rcases List.mem_cons.1 b with rfl | b
  ·have c:=h.1.1.1.2;simp only[Cd.isV,decide_eq_true_eq]at c;exact⟨h.1.1.1.1,by omega,h.1.1.2,h.1.2⟩
  ·have:=z8R l y.1 h.2 x b;exact⟨by omega,this.2⟩
theorem q2a(M:Int):∀ (l:List (Int×Int)) (P:Nat->Int),(∀ i,P i<=M)->(∀ x∈l,x.2<=M)->∀ i,Df.z3u P l i<=M
 | [],P,h,_,i=>h i
 | y :: l,P,h,hl,i=>by
  refine q2a M l (Df.q5T P y) (fun j=>?_) (fun x a=>hl x (List.mem_cons_of_mem _ a)) i;have:=hl y List.mem_cons_self;unfold Df.q5T
  split
  ·show (if j=y.1.toNat then y.2 else P j)<=M
   split
   ·exact this
   ·exact h j
  ·exact h j
theorem q7P{a d:List (Int×Int)}(e:z3l (-1) a=true)(hd:Cd.z0e (-1) d=true):z3l (-1) (Df.z3W a d)=true:=by
 refine q1P _ _ (fun x b=>?_) (z5X _ _ _);obtain⟨i,g,hc,rfl⟩:=(z7p _ _ x 6).1 b;have c:0<Df.z3u (Df.z3u Df.z3C a) d i:=by simpa using hc
 have f:=q2a 1125899906842624 d (Df.z3u Df.z3C a) (q2a _ a Df.z3C (fun _=>by show (0:Int)<=_;omega) (fun x b=>(q3h a _ e x b).2.2.2)) (fun x b=>(z8R d _ hd x b).2.2.2) i
 exact⟨by show -1<(i:Int);omega,by show (i:Int)<=5;omega,c,f⟩
structure GC(c:Cs):Prop where
 og:¬ (c.on=true/\c.gone=true)
 h0:0<=c.h
 h1:c.h<1099511627776
 t0:0<=c.t
 t1:c.t<=1099511627776
 i0:0<=c.id
 i1:c.id<=1099511627776
 set:z3l (-1) c.set=true
 pd:∀ x∈c.pd,x.k=1/\Cd.z0s x.k x.i x.v x.n x.S x.D=0
 rp:∀ x∈c.rp,1<=x.1/\x.1<=1099511627776/\0<=x.2
 out:Ln.z0Z c.out=true
theorem j2g{c:Cs}(h:GC c){l:Ln.Line}(a:Ln.z0Z l=true):GC { c with out:=l }:=⟨h.og,h.h0,h.h1,h.t0,h.t1,h.i0,h.i1,h.set,h.pd,h.rp,a⟩
theorem j1e{set:List (Int×Int)}{id now:Int}(b:z3l (-1) set=true)(h0:0<=id)(h1:id<=1099511627776)(t0:0<=now)(t1:now<=1099511627776):GC (z2G set id now):=
 ⟨(fun⟨_,h⟩=>by cases h),Int.le_refl _,(by show (0:Int)<_;omega),t0,t1,h0,h1,b,(fun x a=>by cases a),(fun x a=>by cases a),rfl⟩
theorem j4O{c:Cs}(h:GC c)(l:List Int):GC (z4F c l).1:=by
 unfold z4F
 split
 ·split
  ·rename_i hd
   split
   ·rename_i hk;refine⟨h.og,h.h0,h.h1,h.t0,h.t1,h.i0,h.i1,h.set,fun x a=>?_,h.rp,h.out⟩
    rcases List.mem_append.1 a with h1 | h1
    ·exact h.pd x h1
    ·rw[List.mem_singleton]at h1;subst h1;exact⟨hk,q3B hd⟩
   ·exact h
  ·exact h
 ·exact h
theorem q6H{c:Cs}(h:GC c)(k i v n now:Int):GC (z2A c k i v n now).1:=by
 unfold z2A
 split
 ·exact j2g h (q3e _ _ h.out)
 ·exact h
theorem z5j(c:Cs)(k i v n now:Int):(z2A c k i v n now).1={ c with out:=(z2A c k i v n now).1.out }:=by
 unfold z2A
 split <;> rfl
theorem j0F{c:Cs}(h:GC c)(f:Nat->Bool):GC { c with fl:=f }:=⟨h.og,h.h0,h.h1,h.t0,h.t1,h.i0,h.i1,h.set,h.pd,h.rp,h.out⟩
theorem j4U{c:Cs}(h:GC c)(v now:Int):GC (z4T c v now).1:=by
 unfold z4T
 repeat' split
 all_goals first | exact h | exact j0F (q6H h _ _ _ _ _) _
theorem q6K{c:Cs}(h:GC c)(v id now:Int):GC (z2f c v id now).1:=by
 unfold z2f
 repeat' split
 all_goals first | exact h | exact q6H h _ _ _ _ _
theorem q6C{c:Cs}(h:GC c):GC (z1S c):=by
 unfold z1S
 split
 ·exact⟨(fun⟨h1,_⟩=>by cases h1),h.h0,h.h1,h.t0,h.t1,h.i0,h.i1,h.set,h.pd,h.rp,(z1J _).2 ((z1J c.out).1 h.out)⟩
 ·exact h
theorem j3b{c:Cs}(h:GC c){x:Pkt}(d:x.k=1/\Cd.z0s x.k x.i x.v x.n x.S x.D=0):GC (takeC c x):=by
 obtain⟨a,b,p,-⟩:=z4z d.2;refine⟨h.og,h.h0,h.h1,h.t0,h.t1,by show 0<=x.i;omega,b,q7P h.set p,h.pd,fun y e=>?_,h.out⟩
 rcases List.mem_append.1 e with h1 | h1
 ·exact h.rp y h1
 ·rw[List.mem_singleton]at h1;subst h1;have:=h.t0;exact⟨a,b,by show 0<=c.t+15;omega⟩
theorem q3d:∀ (l:List Pkt) {c:Cs},GC c->(∀ x∈l,x.k=1/\Cd.z0s x.k x.i x.v x.n x.S x.D=0)->GC (l.foldl takeC c)
 | [],_,h,_=>h
 | x :: l,_,h,hl=>q3d l (j3b h (hl x List.mem_cons_self)) fun y a=>hl y (List.mem_cons_of_mem _ a)
theorem j3V{c:Cs}(h:GC c){l:List (Int×Int)}(a:∀ x∈l,1<=x.1/\x.1<=1099511627776/\0<=x.2):GC { c with rp:=l }:=⟨h.og,h.h0,h.h1,h.t0,h.t1,h.i0,h.i1,h.set,h.pd,a,h.out⟩
theorem q8i:∀ (l:List (Int×Int)) {c:Cs},GC c->(∀ x∈l,1<=x.1/\x.1<=1099511627776/\0<=x.2)->GC (z2J c l)
 | [],_,h,_=>j3V h fun x a=>by cases a
 | x :: l,c,h,hl=>by
  unfold z2J
  split
  ·split
   ·exact q8i l (q6H h _ _ _ _ _) fun y b=>hl y (List.mem_cons_of_mem _ b)
   ·exact j3V h hl
  ·exact j3V h hl
theorem j2W{c:Cs}(h:GC c):GC (z6y c):=by
 have h1:GC (z2Z c):=q3d c.pd h h.pd;unfold z6y;refine q8i _ ?_ h1.rp;exact⟨h1.og,h1.h0,h1.h1,h1.t0,h1.t1,h1.i0,h1.i1,h1.set,fun x a=>(by cases a),h1.rp,h1.out⟩
theorem j5U{c:Cs}(h:GC c)(d:c.h<1099511627775)(now:Int):GC (q1r c now).1:=by
 unfold q1r
 split
 ·split
  ·rename_i hn;obtain⟨a,b⟩:=(j5d now).1 hn.1;have:=h.h0;exact j2W ⟨h.og,by show 0<=c.h+1;omega,by show c.h+1<_;omega,a,b,h.i0,h.i1,h.set,h.pd,h.rp,h.out⟩
  ·exact h
 ·exact h
structure z3Y(c d:Cs):Prop where
 on:d.on=c.on
 gone:d.gone=c.gone
 h:d.h=c.h
 t:d.t=c.t
 hd:d.h0=c.h0/\d.h1=c.h1/\d.h2=c.h2/\d.h3=c.h3
 got:d.out.g=c.out.g
 cl:d.out.cl=c.out.cl
theorem z3Y.refl(c:Cs):z3Y c c:=⟨rfl,rfl,rfl,rfl,⟨rfl,rfl,rfl,rfl⟩,rfl,rfl⟩
theorem z3Y.trans{a b c:Cs}(h:z3Y a b)(k:z3Y b c):z3Y a c:=⟨k.on.trans h.on,k.gone.trans h.gone,k.h.trans h.h,k.t.trans h.t,⟨k.hd.1.trans h.hd.1,k.hd.2.1.trans h.hd.2.1,k.hd.2.2.1.trans h.hd.2.2.1,k.hd.2.2.2.trans h.hd.2.2.2⟩,k.got.trans h.got,k.cl.trans h.cl⟩
theorem z6c:∀ (l:List Pkt) (c:Cs),z3Y c (l.foldl takeC c)/\(l.foldl takeC c).out=c.out/\(l.foldl takeC c).pd=c.pd/\(l.foldl takeC c).rp.length=c.rp.length+l.length
 | [],c=>⟨z3Y.refl c,rfl,rfl,rfl⟩
 | x :: l,c=>by
  rw[List.foldl_cons];obtain⟨a,b,d,e⟩:=z6c l (takeC c x);refine⟨z3Y.trans (b:=takeC c x) ⟨rfl,rfl,rfl,rfl,⟨rfl,rfl,rfl,rfl⟩,rfl,rfl⟩ a,b,d,?_⟩;rw[e]
  show (c.rp ++ [_]).length+l.length=_
  simp
  omega
theorem q0F(l:Ln.Line)(s:ByteArray)(due:Int):(Ln.z5K l s due).g=l.g/\(Ln.z5K l s due).cl=l.cl:=by
 unfold Ln.z5K
 split <;> exact⟨rfl,rfl⟩
theorem z6X(c:Cs)(k i v n now:Int):z3Y c (z2A c k i v n now).1:=by
 unfold z2A
 split
 ·exact⟨rfl,rfl,rfl,rfl,⟨rfl,rfl,rfl,rfl⟩,(q0F _ _ _).1,(q0F _ _ _).2⟩
 ·exact z3Y.refl c
theorem q0X:∀ (l:List (Int×Int)) (c:Cs),z3Y c (z2J c l)/\(z2J c l).pd=c.pd/\(z2J c l).rp.length<=l.length
 | [],c=>⟨⟨rfl,rfl,rfl,rfl,⟨rfl,rfl,rfl,rfl⟩,rfl,rfl⟩,rfl,Nat.le_refl _⟩
 | x :: l,c=>by
  unfold z2J
  split
  ·split
   ·obtain⟨a,b,d⟩:=q0X l (z2A c 2 x.1 0 0 c.t).1;refine⟨(z6X c 2 x.1 0 0 c.t).trans a,?_,by simp;omega⟩
    rw[b,z5j]
   ·exact⟨⟨rfl,rfl,rfl,rfl,⟨rfl,rfl,rfl,rfl⟩,rfl,rfl⟩,rfl,Nat.le_refl _⟩
  ·exact⟨⟨rfl,rfl,rfl,rfl,⟨rfl,rfl,rfl,rfl⟩,rfl,rfl⟩,rfl,Nat.le_refl _⟩
theorem q8x(c:Cs):z3Y c (z6y c)/\(z6y c).pd=[]/\(z6y c).rp.length<=c.rp.length+c.pd.length:=by
 obtain⟨a,b,d,e⟩:=z6c c.pd c;obtain⟨f,g,h⟩:=q0X (z2Z c).rp { z2Z c with pd:=[] }
 refine⟨a.trans (z3Y.trans (b:={ z2Z c with pd:=[] }) ⟨rfl,rfl,rfl,rfl,⟨rfl,rfl,rfl,rfl⟩,rfl,rfl⟩ f),g,?_⟩
 show (z2J { z2Z c with pd:=[] } (z2Z c).rp).rp.length<=_
 have:(z2Z c).rp.length=_:=e;omega
def small(l:List ByteArray):Prop:=∀ s∈l,s.size<=100
theorem z5x:small []:=fun s h=>by cases h
theorem z5l{k i v n:Int}{S:List (Int×Int)}{D:List Int}(a:S.length<=6)(b:D.length<=6):(Cd.encS k i v n S D).size<=100:=by
 by_cases h:Cd.z0s k i v n S D=0
 ·rw[q7G h];omega
 ·unfold Cd.encS;rw[if_neg h]
  decide
theorem q0v{l:Ln.Line}{s:ByteArray}{due:Int}(a:small l.S)(b:s.size<=100):small (Ln.z5K l s due).S:=by
 unfold Ln.z5K
 split
 ·intro x c
  rcases List.mem_append.1 c with h | h
  ·exact a x h
  ·rw[List.mem_singleton]at h;rw[h];exact b
 ·exact a
theorem z6g{c:Cs}{k i v n now:Int}(a:small c.out.S):small (z2A c k i v n now).1.out.S:=by
 unfold z2A
 split
 ·exact q0v a (z5l (by simp) (by simp))
 ·exact a
theorem z8m:∀ (l:List (Int×Int)) (c:Cs),small c.out.S->small (z2J c l).out.S
 | [],c,h=>h
 | x :: l,c,h=>by
  unfold z2J
  split
  ·split
   ·exact z8m l _ (z6g h)
   ·exact h
  ·exact h
theorem q4D{c:Cs}(h:small c.out.S):small (z6y c).out.S:=by
 refine z8m _ _ ?_
 show small (z2Z c).out.S
 unfold z2Z;rw[(z6c c.pd c).2.1];exact h
theorem z5d(f:Nat->Cs)(i:Nat)(y:Cs):z3y f i y i=y:=by unfold z3y;rw[if_pos rfl]
theorem z6k(f:Nat->Cs){i k:Nat}(y:Cs)(h:k≠i):z3y f i y k=f k:=by unfold z3y;rw[if_neg h]
theorem z3o(f:Nat->Lk)(i:Nat)(y:Lk):z1a f i y i=y:=by unfold z1a;rw[if_pos rfl]
theorem z3h(f:Nat->Lk){i k:Nat}(y:Lk)(h:k≠i):z1a f i y k=f k:=by unfold z1a;rw[if_neg h]
structure z2I(N:Int)(x:Wo):Prop where
  n0:0<=N
  n1:N<=600
  k0:0<=x.ck
  k1:x.ck<=1099511627736
  gp:GP x.p
  gc:∀ i,i<2->GC (x.c i)
  ph:x.p.h<=N
  pt:x.p.t<=x.ck
  ch:∀ i,i<2->(x.c i).h<=N
  ct:∀ i,i<2->(x.c i).t<=x.ck
  ql:(x.p.q.length:Int)<=N
  cl:∀ i,i<2->(((x.c i).pd.length+(x.c i).rp.length:Nat):Int)<=N
  on:∀ i,i<2->(x.c i).on=(x.p.L i).on/\(x.c i).gone=(x.p.L i).gone
  sp:∀ i,i<2->small (x.p.L i).out.S
  sc:∀ i,i<2->small (x.c i).out.S
theorem z2I.up{N:Int}{x:Wo}(h:z2I N x)(b:N<600):z2I (N+1) x:=
  ⟨by have:=h.n0;omega,by omega,h.k0,h.k1,h.gp,h.gc,by have:=h.ph;omega,h.pt,fun i a=>by have:=h.ch i a;omega,h.ct,by have:=h.ql;omega,fun i a=>by have:=h.cl i a;omega,h.on,h.sp,h.sc⟩
theorem z2I.q9X{N:Int}{x:Wo}(h:z2I N x){p:Pr}(gp:GP p)(ph:p.h<=N)(pt:p.t<=x.ck)(ql:(p.q.length:Int)<=N)(on:∀ i,i<2->(p.L i).on=(x.p.L i).on/\(p.L i).gone=(x.p.L i).gone)(sp:∀ i,i<2->small (p.L i).out.S):z2I N { x with p:=p }:=
  ⟨h.n0,h.n1,h.k0,h.k1,gp,h.gc,ph,pt,h.ch,h.ct,ql,h.cl,fun i a=>⟨(h.on i a).1.trans (on i a).1.symm,(h.on i a).2.trans (on i a).2.symm⟩,sp,h.sc⟩
theorem z2I.cons{N:Int}{x:Wo}(h:z2I N x){i:Nat}(b:i<2){y:Cs}(gc:GC y)(ch:y.h<=N)(ct:y.t<=x.ck)(cl:((y.pd.length+y.rp.length:Nat):Int)<=N)(on:y.on=(x.c i).on/\y.gone=(x.c i).gone)(sc:small y.out.S):z2I N { x with c:=z3y x.c i y }:=by
  have key:∀ {Q:Cs->Prop},Q y->(∀ k,k<2->Q (x.c k))->∀ k,k<2->Q (z3y x.c i y k):=fun h1 h2 k a=>by
    by_cases e:k=i
    · subst e;rw[z5d];exact h1
    · rw[z6k _ _ e];exact h2 k a
  refine⟨h.n0,h.n1,h.k0,h.k1,h.gp,key (Q:=GC) gc h.gc,h.ph,h.pt,key (Q:=fun c=>c.h<=N) ch h.ch,key (Q:=fun c=>c.t<=x.ck) ct h.ct,h.ql,key (Q:=fun c=>((c.pd.length+c.rp.length:Nat):Int)<=N) cl h.cl,fun k a=>?_,h.sp,key (Q:=fun c=>small c.out.S) sc h.sc⟩
  show (z3y x.c i y k).on=_/\(z3y x.c i y k).gone=_
  by_cases e:k=i
  · subst e;rw[z5d,on.1,on.2];exact h.on k a
  · rw[z6k _ _ e];exact h.on k a
theorem z2I.heads{N:Int}{x:Wo}(h:z2I N x)(a b:Nat->Hd):z2I N { x with hp:=a,hc:=b }:=⟨h.n0,h.n1,h.k0,h.k1,h.gp,h.gc,h.ph,h.pt,h.ch,h.ct,h.ql,h.cl,h.on,h.sp,h.sc⟩
theorem z2I.dn{N:Int}{x:Wo}(h:z2I N x)(n:Int):z2I N { x with dn:=n }:=⟨h.n0,h.n1,h.k0,h.k1,h.gp,h.gc,h.ph,h.pt,h.ch,h.ct,h.ql,h.cl,h.on,h.sp,h.sc⟩
theorem q4N(p:Pr)(d v n:Int):(z3B p d v n).1={ p with s:=(z3B p d v n).1.s }:=by unfold z3B;split <;> rfl
theorem q5G(p:Pr)(d v n now:Int):(z2C p d v n now).1.h=p.h/\(z2C p d v n now).1.t=p.t/\(z2C p d v n now).1.q=p.q/\(z2C p d v n now).1.set=p.set/\((z2C p d v n now).1.L=p.L∨(z2C p d v n now).1.L=z1x p.L):=by
  unfold z2C
  split
  · split
    · exact⟨rfl,rfl,rfl,rfl,.inr rfl⟩
    · exact⟨rfl,rfl,rfl,rfl,.inl rfl⟩
  · exact⟨rfl,rfl,rfl,rfl,.inl rfl⟩
theorem z5O(L:Nat->Lk)(c:Nat):(z1x L c).on=(L c).on/\(z1x L c).gone=(L c).gone/\(z1x L c).out=(L c).out/\(z1x L c).told=(L c).told:=by unfold z1x;split <;> exact⟨rfl,rfl,rfl,rfl⟩
theorem q6F(p:Pr)(v n:Int):(z6n p v n).1={ p with s:=(z6n p v n).1.s }:=by
  unfold z6n
  repeat' split
  all_goals rfl
theorem z2I.z1g{N:Int}{x:Wo}(h:z2I N x){s:St}(gp:GP { x.p with s:=s }):z2I N { x with p:={ x.p with s:=s } }:=h.q9X gp h.ph h.pt h.ql (fun _ _=>⟨rfl,rfl⟩) h.sp
theorem j5g{N:Int}{x:Wo}(h:z2I N x)(d:Dd):z2I N (atP x d).1:=by
  unfold atP
  split
  · have:=j1B h.gp d.d d.v d.n
    rw[q4N]at this ⊢;exact h.z1g this
  · split
    · obtain⟨c,f,g,-,b⟩:=q5G x.p d.d d.v d.n x.ck
      refine h.q9X (j1f h.gp _ _ _ _) (by rw[c];exact h.ph) (by rw[f];exact h.pt) (by rw[g];exact h.ql) (fun i a=>?_) (fun i a=>?_)
      · rcases b with e | e
        · rw[e];exact⟨rfl,rfl⟩
        · rw[e];exact⟨(z5O _ i).1,(z5O _ i).2.1⟩
      · rcases b with e | e
        · rw[e];exact h.sp i a
        · rw[e,(z5O _ i).2.2.1];exact h.sp i a
    · split
      · exact h.z1g (z9Q h.gp (q2x h.gp.s _))
      · have:=j3Q h.gp d.v d.n
        rw[q6F]at this ⊢;exact h.z1g this
theorem q6k{N:Int}{x:Wo}(h:z2I N x)(n:Int):z2I N (z7T x n).1:=by
  unfold z7T
  split
  · exact h
  · rename_i hn
    have a:=h.k0;have b:=h.pt;exact⟨h.n0,h.n1,by show 0<=x.ck+n;omega,by show x.ck+n<=_;omega,h.gp,h.gc,h.ph,by show x.p.t<=x.ck+n;omega,h.ch,fun i d=>by have:=h.ct i d;show (x.c i).t<=x.ck+n;omega,h.ql,h.cl,h.on,h.sp,h.sc⟩
theorem j6d{p:Pr}{now:Int}(h:(endP p now).2.2=0):z0J p=true/\isT now=true/\p.t<=now:=by
  unfold endP at h
  split at h
  · assumption
  · simp at h
theorem q5A{h t:Int}{set:List (Int×Int)}{y x:Lk}(H:j3L h t set y x)(a:small y.out.S):small x.out.S:=by
  obtain⟨z,b,c,d⟩:=H.ex
  rcases d with rfl | T
  · rw[b.out];exact a
  · rw[T.eq]
    exact q0v (by rw[b.out];exact a) (z5l (q8k _ _) (q3k c))
theorem q9N{N:Int}{x:Wo}(h:z2I N x)(c:N<600):z2I (N+1) (z7W x).1:=by
  unfold z7W
  split
  · rename_i h0
    have a:=j6d h0;have E:=q7M a;have hp:=h.ph;refine ((h.up c).q9X (p:=(endP x.p x.ck).1) (j5Y h.gp a (by have:=h.n1;omega)) (by rw[E.h];omega) (by rw[E.t];exact Int.le_refl _) (by have:=E.ql;have:=h.ql;omega) (fun i b=>?_) (fun i b=>q5A (E.lk i b) (h.sp i b))).heads _ _
    have:=j3L.same (E.lk i b);exact⟨this.1,this.2.1⟩
  · exact h.up c
theorem j0i{p:Pr}{c:Int}(h:(z1R p c).2=0):∃ i:Nat,c=(i:Int)/\i<2/\z0J p=true/\(p.L i).gone=false/\(p.L i).on=false/\p.h≠0/\p.set.length≠0/\(z1R p c).1={ p with s:={ p.s with W:=p.s.W.map (z1A i (p.h+1)) },L:=z1a p.L i (q2m p) }:=by
  unfold z1R at h ⊢
  by_cases h1:z0J p=true
  case neg=>rw[if_neg h1]at h;simp at h
  rw[if_pos h1]at h ⊢
  by_cases h2:isC c=true
  case neg=>rw[if_neg h2]at h;simp at h
  rw[if_pos h2]at h ⊢
  by_cases h3:(p.L c.toNat).gone=true
  · rw[if_pos h3]at h;simp at h
  rw[if_neg h3]at h ⊢
  by_cases b:(p.L c.toNat).on=true
  · rw[if_pos b]at h;simp at h
  rw[if_neg b]at h ⊢
  by_cases a:p.h=0∨p.set.length=0
  · rw[if_pos a]at h;simp at h
  rw[if_neg a];unfold isC at h2;simp only[Bool.and_eq_true,decide_eq_true_eq]at h2;exact⟨c.toNat,by omega,by omega,h1,by simpa using h3,by simpa using b,fun e=>a (.inl e),fun e=>a (.inr e),rfl⟩
theorem q9a{N:Int}{x:Wo}(h:z2I N x)(c:Int):z2I N (z4I x c).1:=by
  unfold z4I
  split
  · split
    · rename_i h0
      obtain⟨i,rfl,j,-,l,m,-,-,e⟩:=j0i h0;have gp:=j0z h.gp (i:Int);rw[Int.toNat_natCast,e];rw[e]at gp;generalize a:({ x.p with s:={ x.p.s with W:=x.p.s.W.map (z1A i (x.p.h+1)) },L:=z1a x.p.L i (q2m x.p) }:Pr)=P at *
      have f:P.h=x.p.h:=by rw[<- a]
      have g:P.t=x.p.t:=by rw[<- a]
      have es:P.set=x.p.set:=by rw[<- a]
      have eq:P.q=x.p.q:=by rw[<- a]
      have d:P.L=z1a x.p.L i (q2m x.p):=by rw[<- a]
      have key:∀ {Q:Cs->Prop},Q (z2G P.set P.h x.ck)->(∀ k,k<2->Q (x.c k))->∀ k,k<2->Q (z3y x.c i (z2G P.set P.h x.ck) k):=fun h1 h2 k b=>by
        by_cases e:k=i
        · subst e;rw[z5d];exact h1
        · rw[z6k _ _ e];exact h2 k b
      have n0:=h.n0;have k0:=h.k0;have k1:=h.k1;have n1:=h.n1;have ph:=h.ph;have n:=h.gp.h0;refine⟨h.n0,h.n1,h.k0,h.k1,gp,key (Q:=GC) (j1e (by rw[es];exact h.gp.set) (by omega) (by omega) k0 (by omega)) h.gc,by rw[f];exact h.ph,by rw[g];exact h.pt,key (Q:=fun c=>c.h<=N) n0 h.ch,key (Q:=fun c=>c.t<=x.ck) (Int.le_refl _) h.ct,by rw[eq];exact h.ql,key (Q:=fun c=>((c.pd.length+c.rp.length:Nat):Int)<=N) n0 h.cl,fun k b=>?_,fun k b=>?_,key (Q:=fun c=>small c.out.S) z5x h.sc⟩
      · show (z3y x.c i (z2G P.set P.h x.ck) k).on=(P.L k).on/\(z3y x.c i (z2G P.set P.h x.ck) k).gone=(P.L k).gone
        rw[d]
        by_cases e:k=i
        · subst e;rw[z5d,z3o];exact⟨rfl,rfl⟩
        · rw[z6k _ _ e,z3h _ _ e];exact h.on k b
      · show small (P.L k).out.S
        rw[d]
        by_cases e:k=i
        · subst e;rw[z3o];exact z5x
        · rw[z3h _ _ e];exact h.sp k b
    · exact h
  · exact h
theorem j0o{N:Int}{x:Wo}(h:z2I N x)(f:N<600){i:Nat}(d:i<2):z2I (N+1) (z6G x i).1:=by
  unfold z6G
  split
  · rename_i h0
    have hc:=h.ch i d;have n1:=h.n1;have gc:=j5U (h.gc i d) (by omega) x.ck
    have e:(q1r (x.c i) x.ck).1=z6y { x.c i with h:=(x.c i).h+1,t:=x.ck }:=by
      unfold q1r at h0 ⊢
      split at h0
      · split at h0
        · rw[if_pos (by assumption),if_pos (by assumption)]
        · simp at h0
      · contradiction
    rw[e]at gc ⊢;have ds:=q8x { x.c i with h:=(x.c i).h+1,t:=x.ck }
    have sm:=q4D (c:={ x.c i with h:=(x.c i).h+1,t:=x.ck }) (h.sc i d)
    generalize g:z6y { x.c i with h:=(x.c i).h+1,t:=x.ck }=E at *
    obtain⟨a,b,l⟩:=ds;have j:E.rp.length<=(x.c i).rp.length+(x.c i).pd.length:=l;have k:=h.cl i d;refine ((h.up f).cons d gc (by rw[a.h];show (x.c i).h+1<=_;omega) (by rw[a.t];exact Int.le_refl _) ?_ ⟨a.on,a.gone⟩ sm).heads _ _
    rw[b,List.length_nil];omega
  · exact h.up f
theorem j0d{N:Int}{x:Wo}(h:z2I N x){i:Nat}(a:i<2)(b:Bool):z2I N (z7g x i b):=by
  unfold z7g
  split
  · have g:=h.gp.lk i a
    refine h.q9X (q9t h.gp ⟨g.done,g.og,g.b0,g.b1,g.told,g.out⟩ rfl) h.ph h.pt h.ql (fun k c=>?_) (fun k c=>?_)
    · show (z1a x.p.L i _ k).on=_/\(z1a x.p.L i _ k).gone=_
      by_cases e:k=i
      · subst e;rw[z3o];exact⟨rfl,rfl⟩
      · rw[z3h _ _ e];exact⟨rfl,rfl⟩
    · show small (z1a x.p.L i _ k).out.S
      by_cases e:k=i
      · subst e;rw[z3o];exact h.sp k c
      · rw[z3h _ _ e];exact h.sp k c
  · have g:=h.gc i a
    exact h.cons a ⟨g.og,g.h0,g.h1,g.t0,g.t1,g.i0,g.i1,g.set,g.pd,g.rp,g.out⟩ (h.ch i a) (h.ct i a) (h.cl i a) ⟨rfl,rfl⟩ (h.sc i a)
theorem q9A(c:Cs)(v now:Int):z3Y c (z4T c v now).1/\(z4T c v now).1.pd=c.pd/\(z4T c v now).1.rp=c.rp/\(small c.out.S->small (z4T c v now).1.out.S):=by
  unfold z4T
  repeat' split
  all_goals first
    | exact⟨z3Y.refl c,rfl,rfl,id⟩
    | (refine⟨?_,?_,?_,fun h=>z6g h⟩
       · have:=z6X c 3 c.id v (z3Z v c.set) now
         exact⟨this.on,this.gone,this.h,this.t,this.hd,this.got,this.cl⟩
       · show (z2A c 3 c.id v (z3Z v c.set) now).1.pd=_;rw[z5j]
       · show (z2A c 3 c.id v (z3Z v c.set) now).1.rp=_;rw[z5j])
theorem q1G(c:Cs)(v id now:Int):z3Y c (z2f c v id now).1/\(z2f c v id now).1.pd=c.pd/\(z2f c v id now).1.rp=c.rp/\(small c.out.S->small (z2f c v id now).1.out.S):=by
  unfold z2f
  repeat' split
  all_goals first
    | exact⟨z3Y.refl c,rfl,rfl,fun h=>h⟩
    | exact⟨z6X _ _ _ _ _ _,by rw[z5j],by rw[z5j],fun h=>z6g h⟩
theorem j4C{N:Int}{x:Wo}(h:z2I N x){i:Nat}(e:i<2)(d:Dd):z2I N (q5W x i d).1:=by
  unfold q5W
  split
  · obtain⟨a,b,c,s⟩:=q9A (x.c i) d.v x.ck
    exact h.cons e (j4U (h.gc i e) _ _) (by rw[a.h];exact h.ch i e) (by rw[a.t];exact h.ct i e) (by rw[b,c];exact h.cl i e) ⟨a.on,a.gone⟩ (s (h.sc i e))
  · obtain⟨a,b,c,s⟩:=q1G (x.c i) d.v d.n x.ck
    exact h.cons e (q6K (h.gc i e) _ _ _) (by rw[a.h];exact h.ch i e) (by rw[a.t];exact h.ct i e) (by rw[b,c];exact h.cl i e) ⟨a.on,a.gone⟩ (s (h.sc i e))
theorem q4x(p:Pr)(c:Int)(l:List Int):(z4H p c l).1={ p with q:=(z4H p c l).1.q }/\(z4H p c l).1.q.length<=p.q.length+1:=by
  unfold z4H
  repeat' split
  all_goals exact⟨rfl,by simp⟩
theorem q3Z(c:Cs)(l:List Int):(z4F c l).1={ c with pd:=(z4F c l).1.pd }/\(z4F c l).1.pd.length<=c.pd.length+1:=by
  unfold z4F
  repeat' split
  all_goals exact⟨rfl,by simp⟩
theorem q3t{N:Int}{x:Wo}(h:z2I N x)(d:N<600){i:Nat}(a:i<2)(b:Bool)(s:ByteArray):z2I (N+1) (z2S x i b s).1:=by
  unfold z2S
  split
  · obtain⟨e,l⟩:=q4x x.p i (Cd.bs s)
    have g:=j3i h.gp i (Cd.bs s);have m:=h.ql;generalize (z4H x.p i (Cd.bs s)).1=P at *;refine (h.up d).q9X g (by rw[e];exact (h.up d).ph) (by rw[e];exact h.pt) (by omega) (fun k f=>?_) (fun k f=>?_)
    · rw[e];exact⟨rfl,rfl⟩
    · rw[e];exact h.sp k f
  · obtain⟨e,l⟩:=q3Z (x.c i) (Cd.bs s)
    have g:=j4O (h.gc i a) (Cd.bs s);have n:=h.cl i a;generalize (z4F (x.c i) (Cd.bs s)).1=C at *;have j:C.rp=(x.c i).rp:=by rw[e]
    exact (h.up d).cons a g (by rw[e];exact (h.up d).ch i a) (by rw[e];exact h.ct i a) (by rw[j];omega) (by rw[e];exact⟨rfl,rfl⟩) (by rw[e];exact h.sc i a)
theorem q6c{N:Int}{x:Wo}(h:z2I N x){i:Nat}(a:i<2)(b:Bool){l:Ln.Line}(gl:Ln.z0Z l=true)(sl:small l.S):z2I N (z3g x i b l):=by
  unfold z3g
  split
  · exact h.cons a (j2g (h.gc i a) gl) (h.ch i a) (h.ct i a) (h.cl i a) ⟨rfl,rfl⟩ sl
  · have g:=h.gp.lk i a
    refine h.q9X (q9t h.gp ⟨g.done,g.og,g.b0,g.b1,g.told,gl⟩ rfl) h.ph h.pt h.ql (fun k c=>?_) (fun k c=>?_)
    · show (z1a x.p.L i _ k).on=_/\(z1a x.p.L i _ k).gone=_
      by_cases e:k=i
      · subst e;rw[z3o];exact⟨rfl,rfl⟩
      · rw[z3h _ _ e];exact⟨rfl,rfl⟩
    · show small (z1a x.p.L i _ k).out.S
      by_cases e:k=i
      · subst e;rw[z3o];exact sl
      · rw[z3h _ _ e];exact h.sp k c
theorem z6i{N:Int}{x:Wo}(h:z2I N x){i:Nat}(a:i<2)(b:Bool):small (z2O x i b).S:=by
  unfold z2O
  split
  · exact h.sc i a
  · exact h.sp i a
theorem q6t{N:Int}{x:Wo}(h:z2I N x){i:Nat}(a:i<2)(b:Bool):Ln.z0Z (z2O x i b)=true:=by
  unfold z2O
  split
  · exact (h.gc i a).out
  · exact (h.gp.lk i a).out
theorem j4H{N:Int}{x:Wo}(h:z2I N x)(c:N<600){i:Nat}(a:i<2)(b f:Bool):z2I (N+1) (q4H x i b f).1:=by
  unfold q4H
  split
  · rename_i h0
    split
    · refine q6c (q3t h c a b _) a b (j0A h0) ?_
      rw[z9J h0];exact z6i h a b
    · exact q3t h c a b _
  · exact h.up c
theorem q7v{p:Pr}(h:GP p){i:Nat}(c:i<2)(b:(p.L i).on=true):z0Q p i={ p with s:={ p.s with W:=z5f i 1099511627776 p.s.W },L:=z1a p.L i (z4O (p.L i)),q:=p.q.filter fun a=>decide (a.1≠i) }:=by
  unfold z0Q;rw[if_pos ⟨(z8G p).2 h,by unfold z9q isC;simp[b];omega⟩,Int.toNat_natCast]
theorem j2T{N:Int}{x:Wo}(h:z2I N x){i:Nat}(b:i<2)(g:(x.c i).on=true):z2I N (j4V x i):=by
  have f:(x.p.L i).on=true:=(h.on i b).1.symm.trans g;have gp:=q8M h.gp (i:Int);unfold j4V;rw[q7v h.gp b f]at gp ⊢;have j:z1S (x.c i)={ x.c i with on:=false,gone:=true,out:={ (x.c i).out with cl:=true } }:=by unfold z1S;rw[if_pos g]
  have gc:=q6C (h.gc i b);rw[j]at gc ⊢
  have key:∀ {Q:Cs->Prop},Q { x.c i with on:=false,gone:=true,out:={ (x.c i).out with cl:=true } }->(∀ k,k<2->Q (x.c k))->∀ k,k<2->Q (z3y x.c i { x.c i with on:=false,gone:=true,out:={ (x.c i).out with cl:=true } } k):=fun h1 h2 k d=>by
    by_cases e:k=i
    · subst e;rw[z5d];exact h1
    · rw[z6k _ _ e];exact h2 k d
  refine⟨h.n0,h.n1,h.k0,h.k1,gp,key (Q:=GC) gc h.gc,h.ph,h.pt,key (Q:=fun c=>c.h<=N) (h.ch i b) h.ch,key (Q:=fun c=>c.t<=x.ck) (h.ct i b) h.ct,?_,key (Q:=fun c=>((c.pd.length+c.rp.length:Nat):Int)<=N) (h.cl i b) h.cl,fun k d=>?_,fun k d=>?_,key (Q:=fun c=>small c.out.S) (h.sc i b) h.sc⟩
  · have:=List.length_filter_le (fun a:Int×Pkt=>decide (a.1≠(i:Int))) x.p.q
    have:=h.ql
    show ((x.p.q.filter fun a=>decide (a.1≠(i:Int))).length:Int)<=N
    omega
  · show (z3y x.c i _ k).on=(z1a x.p.L i _ k).on/\(z3y x.c i _ k).gone=(z1a x.p.L i _ k).gone
    by_cases e:k=i
    · subst e;rw[z5d,z3o];exact⟨rfl,rfl⟩
    · rw[z6k _ _ e,z3h _ _ e];exact h.on k d
  · show small (z1a x.p.L i _ k).out.S
    by_cases e:k=i
    · subst e;rw[z3o];exact h.sp k d
    · rw[z3h _ _ e];exact h.sp k d
theorem j6t(x:Wo)(i:Nat)(b:Bool)(l:Ln.Line):((z3g x i b l).c i).on=(x.c i).on:=by
  unfold z3g
  split
  · show (z3y x.c i _ i).on=_;rw[z5d]
  · rfl
theorem j5e{N:Int}{x:Wo}(h:z2I N x){i:Nat}(a:i<2)(d:(x.c i).on=true)(b:Bool)(k:Int):z2I N (q1T x i b k).1:=by
  unfold q1T
  split
  · rename_i h0
    refine j2T (q6c h a b (j0E h0) ?_) a (by rw[j6t];exact d)
    rw[q8N h0];exact z6i h a b
  · exact h
theorem q9O{N:Int}{x:Wo}(h:z2I N x)(a:N<600){i:Nat}(b:i<2)(e:(x.c i).on=true)(d:Dd):z2I (N+1) (z9v x i d).1:=by
  unfold z9v
  repeat' split
  · exact j0o h a b
  · exact (j0d h b _).up a
  · exact j4H h a b _ _
  · exact (j5e h b e _ _).up a
  · exact (j4C h b _).up a
theorem j4Z{c:Int}(h:isC c=true):∃ i:Nat,c=(i:Int)/\i<2:=by
  unfold isC at h;simp only[Bool.and_eq_true,decide_eq_true_eq]at h;exact⟨c.toNat,by omega,by omega⟩
theorem j1T{N:Int}{x:Wo}(h:z2I N x)(a:N<600)(d:Dd):z2I (N+1) (z4l x d).1:=by
  unfold z4l
  split
  · exact (j5g h d).up a
  · split
    · exact (q6k h _).up a
    · split
      · exact q9N h a
      · split
        · exact (q9a h _).up a
        · split
          · split
            · rename_i hc
              obtain⟨i,e,b⟩:=j4Z hc.1;rw[e,Int.toNat_natCast]at hc ⊢;exact q9O h a b hc.2 d
            · exact h.up a
          · exact h.up a
def Inv(x:Wo):Prop:=z2I x.dn x
theorem j6p(x:Wo)(d:Dd):(atP x d).1.dn=x.dn:=by
  unfold atP
  repeat' split
  all_goals rfl
theorem j2i(x:Wo)(i:Nat)(b:Bool)(l:Ln.Line):(z3g x i b l).dn=x.dn:=by unfold z3g;split <;> rfl
theorem q7I(x:Wo)(i:Nat)(b:Bool)(s:ByteArray):(z2S x i b s).1.dn=x.dn:=by unfold z2S;split <;> rfl
theorem j2S(x:Wo)(i:Nat)(d:Dd):(z9v x i d).1.dn=x.dn:=by
  unfold z9v
  split
  · unfold z6G;split <;> rfl
  split
  · unfold z7g;split <;> rfl
  split
  · unfold q4H
    split
    · split
      · show (z3g _ _ _ _).dn=_;rw[j2i,q7I]
      · exact q7I _ _ _ _
    · rfl
  split
  · unfold q1T
    split
    · show (z3g _ _ _ _).dn=_;rw[j2i]
    · rfl
  · unfold q5W;split <;> rfl
theorem j5o(x:Wo)(d:Dd):(z4l x d).1.dn=x.dn:=by
  unfold z4l
  split
  · exact j6p x d
  split
  · unfold z7T;split <;> rfl
  split
  · unfold z7W;split <;> rfl
  split
  · unfold z4I
    split
    · split <;> rfl
    · rfl
  split
  · split
    · exact j2S _ _ _
    · rfl
  · rfl
theorem j2y{x:Wo}(h:Inv x)(d:Dd):Inv (doW x d).1:=by
  unfold doW
  split
  · exact h
  · rename_i h6
    have h1:z2I x.dn (z6e x):=h.dn _;have:=j1T h1 (by omega) d
    show z2I (z4l (z6e x) d).1.dn (z4l (z6e x) d).1
    rw[j5o];exact this
theorem j4A:Inv z8k:=by
  have gp:GP newP:=by
    refine⟨by decide,by decide,by decide,by decide,by decide,rfl,fun c _=>⟨rfl,fun⟨h,_⟩=>(by cases h),Int.le_refl _,Int.le_refl _,rfl,rfl⟩,fun a d=>(by cases d)⟩
  have gc:GC csN:=⟨fun⟨h,_⟩=>(by cases h),by decide,by decide,by decide,by decide,by decide,by decide,rfl,fun x b=>(by cases b),fun x b=>(by cases b),rfl⟩
  exact⟨by decide,by decide,by decide,by decide,gp,fun _ _=>gc,by decide,by decide,fun _ _=>Int.le_refl _,fun _ _=>Int.le_refl _,by decide,fun _ _=>Int.le_refl _,fun _ _=>⟨rfl,rfl⟩,fun _ _=>z5x,fun _ _=>z5x⟩
end Wd
end Go.Proofs.YtddlhnoedldidaaGreat
