/- Parts of the proof. -/
import Derived.Test.YtddlhnoedldidaaGreatRows
import Derived.Test.YtddlhnoedldidaaGreatGK16
import Derived.ChangeOld
set_option maxRecDepth 100000
set_option maxHeartbeats 16000000
namespace Go.Proofs.YtddlhnoedldidaaGreat
open Go.Proofs.Tryz
open Value renaming int->J,slice->J1,pointer->J2,bool->J3,agg->J4
open IntKind renaming i64->I
open Obj renaming cells->J5
theorem Z2{a b c:Prop}(h:c):a∨b∨c:=.inr (.inr h)
theorem Z3{a b c d:Prop}(h:d):a∨b∨c∨d:=.inr (.inr (.inr h))
theorem Z4{a b c d e:Prop}(h:e):a∨b∨c∨d∨e:=.inr (.inr (.inr (.inr h)))
theorem Z5{a b c d e f:Prop}(h:f):a∨b∨c∨d∨e∨f:=.inr (.inr (.inr (.inr (.inr h))))
namespace Cd
open Go.RowKit
theorem q3w(n a:Int)(b:0<a):n % (a*256)=n % a+a*(n / a % 256):=by
 have h1:=Int.emod_add_mul_ediv n a;have h2:=Int.emod_add_mul_ediv (n / a) 256;have h3:=Int.emod_nonneg n (show a≠0 by omega)
 have g:=Int.emod_lt_of_pos n b;have c:=Int.emod_nonneg (n / a) (show(256:Int)≠0 by decide)
 have h:=Int.emod_lt_of_pos (n / a) (show(0:Int)<256 by decide)
 generalize n / a / 256=q at *;generalize n / a % 256=r at *;generalize n % a=s at *;generalize n / a=t at *;subst h2;have e:n=(s+a*r)+(a*256)*q:=by rw[<-h1,Int.mul_add,<-Int.mul_assoc];omega
 have d:a*r<=a*255:=Int.mul_le_mul_of_nonneg_left (by omega) (by omega)
 have f:0<=a*r:=Int.mul_nonneg (by omega) c
 rw[e,Int.add_mul_emod_self_left,Int.emod_eq_of_lt (by omega) (by omega)]
theorem j8d(n:Int):∀(m:Nat) (acc:Int),z4D acc (be n m)=acc*2 ^ (8*m)+n % 2 ^ (8*m):=by
 intro m
 induction m with
 | zero=>intro acc;simp[be,z4D,Int.emod_one]
 | succ m ih =>
  intro acc;have h:z4D acc (be n (m+1))=z4D (acc*256+n / 2 ^ (8*m) % 256) (be n m):=rfl;rw[h,ih,z7H,q3w _ _ (q5b m),Int.add_mul,Int.mul_assoc,Int.mul_comm 256,Int.mul_comm (n / 2 ^ (8*m) % 256)];omega
theorem z5V{n:Int}{m:Nat}(h:0<=n)(h2:n<2 ^ (8*m)):z4D 0 (be n m)=n:=by
 rw[j8d,Int.zero_mul,Int.zero_add,Int.emod_eq_of_lt h h2]
theorem q3x{k i v n:Int}{S:List (Int×Int)}{D:List Int}(h:z0n k i v n S D=0) :
  1<=k/\k<=4/\1<=i/\i<=1099511627776/\0<=v/\v<6/\0<=n/\n<=1125899906842624:=by
 have d:∀{k v n:Int} {a b:Nat},z7j k=false->z8w k v n a b=false->v=0/\n=0:=by
  intro k v n a b h1 h2;simp only[z8w,h1,Bool.or_eq_false_iff,Bool.and_eq_false_iff]at h2
  simp at h2
  exact h2.1
 rcases z5v k i v n S D with h'|h'|⟨h1,h2,h'|h'|⟨h3,f,h'|h'|h'|⟨c|c,h'|h'|h'|h'⟩⟩⟩
 all_goals first|(exfalso;omega)|skip
 ·have e:isV v=true:=c.2.1;simp only[isV,decide_eq_true_eq]at e;omega
 ·obtain⟨g,j⟩:=d c h'.1;omega
theorem q6X(S:List (Int×Int)):∀last:Int,-1<=last->z0d last S=true->∀p∈S,0<=p.1/\p.1<6/\0<=p.2/\p.2<=1125899906842624:=by
 induction S with
 | nil=>simp
 | cons x t ih =>
  intro last b h p hp;simp only[z0d,Bool.and_eq_true,decide_eq_true_eq,isV]at h;obtain⟨⟨⟨⟨h1,h2⟩,h3⟩,c⟩,a⟩:=h
  rcases List.mem_cons.1 hp with rfl|hp
  ·omega
  ·exact ih x.1 (by omega) a p hp
theorem q2P(D:List Int):∀last:Int,-1<=last->z0i last D=true->∀p∈D,0<=p/\p<6:=by
 induction D with
 | nil=>simp
 | cons x t ih =>
  intro last a h p hp;simp only[z0i,Bool.and_eq_true,decide_eq_true_eq,isV]at h;obtain⟨⟨h1,h2⟩,h3⟩:=h
  rcases List.mem_cons.1 hp with rfl|hp
  ·omega
  ·exact ih x (by omega) h3 p hp
theorem z6v(a l:List Int)(m:Nat)(b:a.length=m):tk m (a++l,false)=(z4D 0 a,(l,false)):=by
 subst b;rw[tk,if_neg (by simp)]
 simp
theorem j6g(X:List Int):∀(S:List (Int×Int)),(∀p∈S,0<=p.1/\p.1<256/\0<=p.2/\p.2<72057594037927936)->tkP S.length (S.flatMap z5p++X,false)=(S,(X,false)):=by
 intro S
 induction S with
 | nil=>intro _;rfl
 | cons p t ih =>
  intro h;have hp:=h p (List.mem_cons_self ..)
  have a:tk 1 ((p :: t).flatMap z5p++X,false)=(p.1,(be p.2 7++(t.flatMap z5p++X),false)):=by
   rw[List.flatMap_cons,z5p,List.append_assoc,List.append_assoc,z6v _ _ 1 (z0J _ _),z5V hp.1 (by omega)]
  have b:tk 7 (be p.2 7++(t.flatMap z5p++X),false)=(p.2,(t.flatMap z5p++X,false)):=by
   rw[z6v _ _ 7 (z0J _ _),z5V hp.2.2.1 (by omega)]
  rw[List.length_cons,tkP,a];dsimp only;rw[b];dsimp only;rw[ih (λq c=>h q (List.mem_cons_of_mem _ c))]
theorem j7r(X:List Int):∀(D:List Int),(∀p∈D,0<=p/\p<256)->tkD D.length (D.flatMap (be · 1)++X,false)=(D,(X,false)):=by
 intro D
 induction D with
 | nil=>intro _;rfl
 | cons p t ih =>
  intro h;have hp:=h p (List.mem_cons_self ..)
  have a:tk 1 ((p :: t).flatMap (be · 1)++X,false)=(p,(t.flatMap (be · 1)++X,false)):=by
   rw[List.flatMap_cons,List.append_assoc,z6v _ _ 1 (z0J _ _),z5V hp.1 (by omega)]
  rw[List.length_cons,tkD,a];dsimp only;rw[ih (λq b=>h q (List.mem_cons_of_mem _ b))]
theorem q9g{k i v n:Int}{S:List (Int×Int)}{D:List Int}(h:z0n k i v n S D=0)(X:List Int):parse (enc k i v n S D++X)=((k,i,v,n,S,D),(X,false)):=by
 obtain⟨b1,b2,b3,t,u,w,x,y⟩:=q3x h;obtain⟨f,g,z,A⟩:=z9H h;have j:=q6X S (-1) (by omega) f
 have m:=q2P D (-1) (by omega) g
 have o:enc k i v n S D++X=be k 1++(be i 6++(be v 1++(be n 7++(be S.length 1++(S.flatMap z5p++(be D.length 1++(D.flatMap (be · 1)++X))))))):=by simp[enc,q4j]
 rw[o]
 have a:p1 (be k 1++(be i 6++(be v 1++(be n 7++(be S.length 1++(S.flatMap z5p++(be D.length 1++(D.flatMap (be · 1)++X))))))))=(k,(be i 6++(be v 1++(be n 7++(be S.length 1++(S.flatMap z5p++(be D.length 1++(D.flatMap (be · 1)++X)))))),false)):=by
  rw[p1,z6v _ _ 1 (z0J _ _),z5V (by omega) (by omega)]
 generalize be k 1++(be i 6++(be v 1++(be n 7++(be S.length 1++(S.flatMap z5p++(be D.length 1++(D.flatMap (be · 1)++X)))))))=l at *
 have b:p2 l=(i,(be v 1++(be n 7++(be S.length 1++(S.flatMap z5p++(be D.length 1++(D.flatMap (be · 1)++X))))),false)):=by
  rw[p2,a];dsimp only;rw[z6v _ _ 6 (z0J _ _),z5V (by omega) (by omega)]
 have c:p3 l=(v,(be n 7++(be S.length 1++(S.flatMap z5p++(be D.length 1++(D.flatMap (be · 1)++X)))),false)):=by
  rw[p3,b];dsimp only;rw[z6v _ _ 1 (z0J _ _),z5V (by omega) (by omega)]
 have d:p4 l=(n,(be S.length 1++(S.flatMap z5p++(be D.length 1++(D.flatMap (be · 1)++X))),false)):=by
  rw[p4,c];dsimp only;rw[z6v _ _ 7 (z0J _ _),z5V (by omega) (by omega)]
 have q:p5 l=((S.length:Int),(S.flatMap z5p++(be D.length 1++(D.flatMap (be · 1)++X)),false)):=by
  rw[p5,d];dsimp only;rw[z6v _ _ 1 (z0J _ _),z5V (by omega) (by omega)]
 have e:p6 l=(S,(be D.length 1++(D.flatMap (be · 1)++X),false)):=by
  rw[p6,q];dsimp only;rw[Int.toNat_natCast,j6g _ S (λp hp=>by have:=j p hp;omega)]
 have r:p7 l=((D.length:Int),(D.flatMap (be · 1)++X,false)):=by
  rw[p7,e];dsimp only;rw[z6v _ _ 1 (z0J _ _),z5V (by omega) (by omega)]
 have s:p8 l=(D,(X,false)):=by
  rw[p8,r];dsimp only;rw[Int.toNat_natCast,j7r _ D (λp hp=>by have:=m p hp;omega)]
 rw[parse,a,b,c,d,e,s]
theorem j5X{k i v n:Int}{S:List (Int×Int)}{D:List Int}(h:z0n k i v n S D=0):z4x (enc k i v n S D)=0/\z2w (enc k i v n S D)=(k,i,v,n,S,D):=by
 have a:=q9g h [];rw[List.append_nil]at a;have b:z4x (enc k i v n S D)=0:=by rw[z4x,a,if_pos rfl];exact h
 exact⟨b,by rw[z2w,if_pos b,a]⟩
end Cd
namespace Df
def setOf(P:Nat->Int):List Pw:=those (λv=>decide (0<P v)) P 6
theorem z6J(P:Nat->Int)(c:Nat->Bool)(f:Nat->Int):∀n,n<=6->∀i,z1N P (those c f n) i=if i<n/\c i=true then f i else P i
 | 0,_,i=>by simp[those,z1N]
 | n+1,hn,i=>by
  have b:=z6J P c f n (by omega)
  rw[z2h];cases hc:c n
  ·rw[if_neg (by simp),b i]
   by_cases a:i=n
   ·subst a;simp[hc]
   ·have:(i<n↔i<n+1):=by omega
    simp[this]
  ·rw[if_pos rfl];unfold z1N at b⊢;rw[List.foldl_append]
   show z8z _ _ i=_
   rw[z4c (by omega),b i]
   by_cases a:i=n
   ·subst a;simp[hc]
   ·have:(i<n↔i<n+1):=by omega
    simp[a,this]
theorem z7m(c:Nat->Bool)(f:Nat->Int):∀n,n<=6->∀(P:Nat->Int) i,(those c f n).foldr (λx P=>z8z P x) P i=if i<n/\c i=true then f i else P i
 | 0,_,P,i=>by simp[those]
 | n+1,hn,P,i=>by
  have b:=z7m c f n (by omega)
  rw[z2h];cases hc:c n
  ·rw[if_neg (by simp),b P i]
   by_cases a:i=n
   ·subst a;simp[hc]
   ·have:(i<n↔i<n+1):=by omega
    simp[this]
  ·rw[if_pos rfl,List.foldr_append,b];simp only[List.foldr_cons,List.foldr_nil];rw[z4c (by omega)]
   by_cases a:i=n
   ·subst a;simp[hc]
   ·have:(i<n↔i<n+1):=by omega
    simp[a,this]
theorem q1y{P:Nat->Int}(h0:∀i,0<=P i){i:Nat}(a:i<6):z1C (setOf P) i=P i:=by
 unfold z1C setOf;rw[z7m _ _ 6 (by omega)]
 by_cases h:0<P i
 ·simp[a,h]
 ·have:=h0 i
  simp[h,z2A]
  omega
theorem j3c{P:Nat->Int}(h0:∀i,0<=P i){i:Nat}(a:i<6):z1N z2A (setOf P) i=P i:=by
 unfold setOf;rw[z6J _ _ _ 6 (by omega)]
 by_cases h:0<P i
 ·simp[a,h]
 ·have:=h0 i
  simp[h,z2A]
  omega
theorem z7I{c a:Nat->Bool}{f f':Nat->Int}:∀n,(∀i,i<n->c i=a i/\(c i=true->f i=f' i))->those c f n=those a f' n
 | 0,_=>rfl
 | n+1,h=>by
  rw[z2h,z2h,z7I n (λi b=>h i (by omega))]
  obtain⟨h1,h2⟩:=h n (by omega)
  rw[<-h1]
  split
  ·rename_i hc;rw[h2 hc]
  ·rfl
theorem q5x{P R:Nat->Int}(b:∀i,0<=P i)(c:∀i,0<=R i):z2F (setOf P) (z3v (setOf P) (setOf R))=setOf R:=by
 have key:∀i,i<6->z1N (z1N z2A (setOf P)) (z3v (setOf P) (setOf R)) i=R i:=by
  intro i a;unfold z3v;rw[z6J _ _ _ 6 (by omega)]
  simp only[q1y b a,q1y c a,j3c b a]
  by_cases h:R i=P i
  ·simp[h]
  ·simp[h,a]
 unfold z2F;exact z7I 6 λi a=>⟨by rw[key i a],λ_=>key i a⟩
end Df
namespace Pv
open Go.RowKit
theorem q4q{k i v n:Int}{S:List (Int×Int)}{D:List Int}(h:Cd.z0n k i v n S D=0):Cd.z4x (Cd.bs (Cd.encS k i v n S D))=0/\Cd.z2w (Cd.bs (Cd.encS k i v n S D))=(k,i,v,n,S,D):=by
 rw[j0i h];exact Cd.j5X h
theorem z9b{k i v n:Int}{S:List (Int×Int)}{D:List Int}(h:Cd.z0n k i v n S D=0):z0X (Cd.bs (Cd.encS k i v n S D))=⟨k,i,v,n,S,D⟩:=by
 unfold z0X;rw[(q4q h).2]
theorem q4d:∀(l m:List (Int×Int)) (a b:Int),z2W a l=true->z2W b m=true->(∀x,x∈l↔x∈m)->l=m
 | [],[],_,_,_,_,_=>rfl
 | [],y :: m,_,_,_,_,h=>by have:=(h y).2 (List.mem_cons_self);cases this
 | x :: l,[],_,_,_,_,h=>by have:=(h x).1 (List.mem_cons_self);cases this
 | x :: l,y :: m,a,b,hl,hm,h=>by
  simp only[z2W,Bool.and_eq_true]at hl hm
  have e:x=y:=by
   rcases List.mem_cons.1 ((h x).1 List.mem_cons_self)with h1|h1
   ·exact h1
   ·rcases List.mem_cons.1 ((h y).2 List.mem_cons_self)with h2|h2
    ·exact h2.symm
    ·have:=(z2R m y.1 hm.2 x h1).1;have:=(z2R l x.1 hl.2 y h2).1;omega
  subst e;rw[q4d l m x.1 x.1 hl.2 hm.2 λz=>⟨λc=>?_,λc=>?_⟩]
  ·rcases List.mem_cons.1 ((h z).1 (List.mem_cons_of_mem _ c))with h1|h1
   ·have:=(z2R l x.1 hl.2 z c).1;rw[h1]at this;omega
   ·exact h1
  ·rcases List.mem_cons.1 ((h z).2 (List.mem_cons_of_mem _ c))with h1|h1
   ·have:=(z2R m x.1 hm.2 z c).1;rw[h1]at this;omega
   ·exact h1
theorem q3I:∀(l:List (Int×Int)) (a:Int) (P:Nat->Int),-1<=a->z2W a l=true->(∀x∈l,Df.z1N P l x.1.toNat=x.2)/\∀i:Nat,(∀x∈l,x.1≠(i:Int))->Df.z1N P l i=P i
 | [],_,P,_,_=>⟨λx c=>(by cases c),λ_ _=>rfl⟩
 | y :: l,a,P,ha,h=>by
  have f:=z2R (y :: l) a h;have j:=f y List.mem_cons_self;simp only[z2W,Bool.and_eq_true]at h;obtain⟨h1,h2⟩:=q3I l y.1 (Df.z8z P y) (by omega) h.2
  have g:=z2R l y.1 h.2
  have b:∀i,Df.z8z P y i=if i=y.1.toNat then y.2 else P i:=λi=>by
   unfold Df.z8z;rw[if_pos (by omega)]
  refine⟨λx c=>?_,λi e=>?_⟩
  ·show Df.z1N (Df.z8z P y) l x.1.toNat=x.2
   rcases List.mem_cons.1 c with rfl|c
   ·rw[h2 _ (λz d=>by have:=(g z d).1;omega),b,if_pos rfl]
   ·exact h1 x c
  ·show Df.z1N (Df.z8z P y) l i=P i
   rw[h2 i (λz d=>e z (List.mem_cons_of_mem _ d)),b,if_neg (by have:=e y List.mem_cons_self;omega)]
theorem j4Z{l:List (Int×Int)}(h:z2W (-1) l=true):l=Df.setOf (Df.z1N Df.z2A l)/\∀i,0<=Df.z1N Df.z2A l i:=by
 obtain⟨h1,h2⟩:=q3I l (-1) Df.z2A (by omega) h
 have b:=z2R l (-1) h
 have d:∀i:Nat,(∃x∈l,x.1=(i:Int)/\Df.z1N Df.z2A l i=x.2)∨((∀x∈l,x.1≠(i:Int))/\Df.z1N Df.z2A l i=0):=λi=>by
  by_cases e:∃x∈l,x.1=(i:Int)
  ·obtain⟨x,a,ex⟩:=e;have:=h1 x a;rw[ex,Int.toNat_natCast]at this;exact .inl ⟨x,a,ex,this⟩
  ·have e':∀x∈l,x.1≠(i:Int):=λx a c=>e ⟨x,a,c⟩;exact .inr ⟨e',h2 i e'⟩
 have f:∀i,0<=Df.z1N Df.z2A l i:=λi=>by
  rcases d i with⟨x,a,-,e⟩|⟨-,e⟩
  ·rw[e];have:=b x a;omega
  ·rw[e];omega
 refine⟨?_,f⟩
 have hmem:∀x,x∈l↔x∈Df.setOf (Df.z1N Df.z2A l):=λx=>by
  unfold Df.setOf;rw[z5U]
  constructor
  ·intro a;have hb:=b x a;have e:=h1 x a;exact⟨x.1.toNat,by omega,by rw[e];simp;omega,by rw[e];ext <;> simp;omega⟩
  ·rintro⟨i,g,hc,rfl⟩
   rcases d i with⟨x,a,ex,e⟩|⟨-,e⟩
   ·rw[e,<-ex];exact a
   ·rw[e]at hc;simp at hc
 refine q4d l _ (-1) (-1) h (q0g _ (-1) (λx a=>?_) (z5d _ _ 6)) hmem;exact b x ((hmem x).2 a)
theorem q7l{l m:List (Int×Int)}(a:z2W (-1) l=true)(b:z2W (-1) m=true):Df.z2F l (Df.z3v l m)=m:=by
 obtain⟨c,n1⟩:=j4Z a;obtain⟨d,e⟩:=j4Z b;rw[c,d];exact Df.q5x n1 e
end Pv
namespace Wd
open Go.RowKit Pv Kc
theorem gc_iff(c:Cs):z8P c=true↔GC c:=by
 unfold z8P;simp only[Bool.and_eq_true,decide_eq_true_eq,Bool.not_eq_true',List.all_eq_true,z9X,z5R,z7J]
 constructor
 ·rintro⟨⟨⟨⟨⟨a,b⟩,c1⟩,e,j⟩,k,l⟩,⟨⟨f,g⟩,h⟩,i⟩;refine⟨λ⟨h1,h2⟩=>?_,b,c1,e,j,k,l,f,g,λx d=>⟨(h x d).1.1,(h x d).1.2,(h x d).2⟩,i⟩;rw[h1,h2]at a;cases a
 ·rintro⟨a,b,c1,e,j,k,l,f,g,h,i⟩;refine⟨⟨⟨⟨⟨?_,b⟩,c1⟩,e,j⟩,k,l⟩,⟨⟨f,g⟩,λx d=>⟨⟨(h x d).1,(h x d).2.1⟩,(h x d).2.2⟩⟩,i⟩;cases h1:c.on
  ·rfl
  ·cases h2:c.gone
   ·rfl
   ·exact absurd ⟨h1,h2⟩ a
theorem y1K(x:Wo)(d:Dd)(h:x.dn<600):(doW x d).1.dn=x.dn+1:=by
 unfold doW;rw[if_neg (by omega)]
 show(z2J (z2n x) d).1.dn=_
 rw[q7Q];rfl
theorem y0i(l:List Dd):∀k,k<=l.length->k<=600->(stW l k).dn=k
 | 0,_,_=>rfl
 | k+1,h1,h2=>by
  have a:=y0i l k (by omega) (by omega)
  rw[z3f (List.getElem?_eq_getElem (by omega:k<l.length)),y1K _ _ (by omega),a]
  omega
structure SQ(x y:Wo)(i:Nat):Prop where
 h:y.p.h=x.p.h
 set:y.p.set=x.p.set
 on:(y.p.L i).on=(x.p.L i).on
 told:(y.p.L i).told=(x.p.L i).told
 out:(y.p.L i).out=(x.p.L i).out
 con:(y.c i).on=(x.c i).on
 cset:(y.c i).set=(x.c i).set
 id:(y.c i).id=(x.c i).id
 pd:(y.c i).pd=(x.c i).pd
inductive Tr (x y:Wo) (i:Nat):Prop
 | off:y.p.h=x.p.h->y.p.set=x.p.set->(y.c i).on=false->Tr x y i
 | same:SQ x y i->Tr x y i
 | q1J:y.c i=x.c i->y1A x.p y.p x.ck->y.p=(endP x.p x.ck).1->Tr x y i
 | beg:(x.c i).on=false->(x.c i).gone=false->1<=x.p.h->y.p.h=x.p.h->y.p.set=x.p.set->y.p.L i=z6M x.p->y.c i=z2s x.p.set x.p.h x.ck->Tr x y i
 | cons:y.p=x.p->y.c i=z2K { x.c i with h:=(x.c i).h+1,t:=x.ck}->Tr x y i
 | del (n:Nat) (s:ByteArray) (q:Pkt):z0X (Cd.bs s)=q->(x.p.L i).out.g=(n:Int)->(x.p.L i).out.S[n]?=some s->y.p.h=x.p.h->y.p.set=x.p.set->y.p.L i={ x.p.L i with out:={ (x.p.L i).out with g:=(x.p.L i).out.g+1}}->y.c i={ x.c i with pd:=(x.c i).pd++[q]}->Tr x y i
theorem SQ.of{x y:Wo}{i:Nat}(h:y.p.h=x.p.h)(s:y.p.set=x.p.set)(l:y.p.L i=x.p.L i∨y.p.L i=z1u x.p.L i)(on:(y.c i).on=(x.c i).on)(a:(y.c i).set=(x.c i).set)(b:(y.c i).id=(x.c i).id)(c:(y.c i).pd=(x.c i).pd):SQ x y i:=by
 rcases l with l|l
 ·exact⟨h,s,by rw[l],by rw[l],by rw[l],on,a,b,c⟩
 ·have:=z2Z x.p.L i;exact⟨h,s,by rw[l];exact this.1,by rw[l];exact this.2.2.2,by rw[l];exact this.2.2.1,on,a,b,c⟩
theorem SQ.refl(x:Wo)(i:Nat):SQ x x i:=⟨rfl,rfl,rfl,rfl,rfl,rfl,rfl,rfl,rfl⟩
theorem y1J(x:Wo)(d:Dd)(i:Nat):SQ x (atP x d).1 i:=by
 unfold atP
 split
 ·dsimp only;rw[z5c];exact SQ.of rfl rfl (.inl rfl) rfl rfl rfl rfl
 ·split
  ·dsimp only;have e:=z4W x.p d.d d.v d.n x.ck;exact SQ.of e.1 e.2.2.2.1 (by rcases e.2.2.2.2 with e|e <;> simp only[e,or_true,true_or]) rfl rfl rfl rfl
  ·split
   ·exact SQ.of rfl rfl (.inl rfl) rfl rfl rfl rfl
   ·dsimp only;rw[z5S];exact SQ.of rfl rfl (.inl rfl) rfl rfl rfl rfl
theorem z8o(c:Cs)(k i v n now:Int):(z2o c k i v n now).1.on=c.on/\(z2o c k i v n now).1.set=c.set/\(z2o c k i v n now).1.id=c.id/\(z2o c k i v n now).1.pd=c.pd:=by
 unfold z2o
 split <;> exact⟨rfl,rfl,rfl,rfl⟩
theorem q7r(c:Cs)(v now:Int):(z3o c v now).1.on=c.on/\(z3o c v now).1.set=c.set/\(z3o c v now).1.id=c.id/\(z3o c v now).1.pd=c.pd:=by
 unfold z3o
 repeat' split
 all_goals first|exact⟨rfl,rfl,rfl,rfl⟩|exact z8o _ _ _ _ _ _
theorem q1R(c:Cs)(v i now:Int):(z1c c v i now).1.on=c.on/\(z1c c v i now).1.set=c.set/\(z1c c v i now).1.id=c.id/\(z1c c v i now).1.pd=c.pd:=by
 unfold z1c
 repeat' split
 all_goals first|exact⟨rfl,rfl,rfl,rfl⟩|exact z8o _ _ _ _ _ _
theorem q0P{x:Wo}{j:Nat}{y:Cs}{hp hc:Nat->Hd}(i:Nat)(h:i=j->y.on=(x.c j).on/\y.set=(x.c j).set/\y.id=(x.c j).id/\y.pd=(x.c j).pd):SQ x { x with c:=z2k x.c j y,hp:=hp,hc:=hc} i:=by
 by_cases e:i=j
 ·subst e;have:=h rfl;refine SQ.of rfl rfl (.inl rfl) ?_ ?_ ?_ ?_
  all_goals
   show _=_
   dsimp only;rw[z0S]
  ·exact this.1
  ·exact this.2.1
  ·exact this.2.2.1
  ·exact this.2.2.2
 ·refine SQ.of rfl rfl (.inl rfl) ?_ ?_ ?_ ?_
  all_goals
   dsimp only;rw[z0w _ _ e]
theorem q0c{l:Ln.Line}{s:ByteArray}{a b:Int}(h:Ln.z4B l (l.g+1) s a b=0):∃n:Nat,l.g=(n:Int)/\l.S[n]?=some s/\Ln.z5L l (l.g+1) s a b={ l with g:=l.g+1}:=by
 have i:Ln.z5L l (l.g+1) s a b={ l with g:=l.g+1}:=by
  unfold Ln.z5L;rw[if_pos h]
 unfold Ln.z4B at h
 split at h
 ·exact absurd h ‹_›
 ·rename_i c;have c:Ln.z4i l=0:=by simpa using c
  have j:Ln.z1a l=true:=by
   unfold Ln.z4i at c
   split at c
   ·cases c
   ·rename_i q
    simpa using q
  have f:=((z1A l).1 j).2.2.2.1;rw[if_neg (by simp)]at h
  split at h
  ·cases h
  ·rename_i q;simp only[not_or]at q;have e:(l.g+1 - 1).toNat=l.g.toNat:=by rw[Int.add_sub_cancel]
   have q2:=q.2.2;rw[e]at q2;refine⟨l.g.toNat,(Int.toNat_of_nonneg f).symm,?_,i⟩;have d:l.g.toNat<l.S.length:=by omega
   rw[List.getD_eq_getElem?_getD,List.getElem?_eq_getElem d]at q2;rw[List.getElem?_eq_getElem d];simp only[Option.getD_some,ne_eq,Classical.not_not]at q2;rw[q2]
theorem q1p(c:Cs)(l:List Int):((z3c c l).2=0/\(z3c c l).1={ c with pd:=c.pd++[z0X l]})∨((z3c c l).2≠0/\(z3c c l).1=c):=by
 unfold z3c;generalize Cd.z4x l=E;generalize z0X l=q
 by_cases h1:z5t c=0
 ·rw[if_pos h1]
  by_cases h2:E=0
  ·rw[if_pos h2]
   by_cases h3:q.k=1
   ·rw[if_pos h3];exact .inl ⟨rfl,rfl⟩
   ·rw[if_neg h3];exact .inr ⟨by simp,rfl⟩
  ·rw[if_neg h2];exact .inr ⟨h2,rfl⟩
 ·rw[if_neg h1];exact .inr ⟨h1,rfl⟩
theorem q1w(f:Nat->Cs)(j:Nat):z2k f j (f j)=f:=by
 funext k
 unfold z2k
 split
 ·rename_i e;rw[e]
 ·rfl
theorem SQ.eq{x y:Wo}{i:Nat}(h:y.p.h=x.p.h)(s:y.p.set=x.p.set)(l:y.p.L i=x.p.L i)(c:y.c i=x.c i):SQ x y i:=SQ.of h s (.inl l) (by rw[c]) (by rw[c]) (by rw[c]) (by rw[c])
theorem q3J(x:Wo)(j:Nat)(s:ByteArray)(l:Ln.Line)(i:Nat):SQ x { x with p:=(z2z x.p j (Cd.bs s)).1,c:=z2k x.c j { x.c j with out:=l}} i:=by
 rw[(z5i _ _ _).1];have:=q0P (x:=x) (j:=j) (y:={ x.c j with out:=l}) (hp:=x.hp) (hc:=x.hc) i (λ_=>⟨rfl,rfl,rfl,rfl⟩)
 exact⟨rfl,rfl,rfl,rfl,rfl,this.con,this.cset,this.id,this.pd⟩
theorem y0N(x:Wo)(j:Nat)(b f:Bool)(i:Nat):Tr x (z7s x j b f).1 i:=by
 unfold z7s
 split
 ·rename_i hd;obtain⟨n,d,hs,g⟩:=q0c hd;cases b
  ·have a:z1B x j false (z0t x j false f)=({ x with c:=z2k x.c j (z3c (x.c j) (Cd.bs (z0t x j false f))).1},(z3c (x.c j) (Cd.bs (z0t x j false f))).2):=rfl
   rw[a,g];dsimp only;have k:z0Y x j false=(x.p.L j).out:=rfl;rw[k]at d hs⊢;generalize z0t x j false f=s at *;clear a g hd k
   rcases q1p (x.c j) (Cd.bs s)with⟨h1,h2⟩|⟨h1,h2⟩
   ·rw[if_pos h1,h2];clear h1 h2;generalize l:z0X (Cd.bs s)=q at *
    by_cases e:i=j
    ·subst e;exact .del n s q l d hs rfl rfl (z2u _ _ _) (z0S _ _ _)
    ·exact .same (SQ.eq rfl rfl (z2d _ _ e) (z0w _ _ e))
   ·rw[if_neg h1,h2,q1w];exact .same (SQ.eq rfl rfl rfl rfl)
  ·have a:z1B x j true (z0t x j true f)=({ x with p:=(z2z x.p j (Cd.bs (z0t x j true f))).1},(z2z x.p j (Cd.bs (z0t x j true f))).2):=rfl
   rw[a];dsimp only
   split
   ·exact .same (q3J x j _ _ i)
   ·refine .same ?_;have:=q3J x j (z0t x j true f) (x.c j).out i;exact⟨this.h,this.set,this.on,this.told,this.out,rfl,rfl,rfl,rfl⟩
 ·exact .same (SQ.refl _ _)
theorem z4J(p:Pr)(c:Int):(z0j p c).h=p.h/\(z0j p c).set=p.set/\∀i,i≠c.toNat->(z0j p c).L i=p.L i:=by
 unfold z0j
 split
 ·exact⟨rfl,rfl,λi a=>z2d _ _ a⟩
 ·exact⟨rfl,rfl,λ_ _=>rfl⟩
theorem z5H(c:Cs):(z1d c).on=false:=by
 unfold z1d
 split
 ·rfl
 ·rename_i h
  simpa using h
theorem j9n(x:Wo)(j:Nat)(b:Bool)(k:Int)(i:Nat):Tr x (z6I x j b k).1 i:=by
 unfold z6I
 split
 ·dsimp only;generalize Ln.z4N (z0Y x j b) k (z5A x j b) (q2x x j b)=l
  by_cases e:i=j
  ·subst e;have a:=z4J (z1j x i b l).p i;refine .off (a.1.trans (by cases b <;> rfl)) (a.2.1.trans (by cases b <;> rfl)) ?_
   show(z2k _ i _ i).on=false
   rw[z0S];exact z5H _
  ·refine .same ?_;unfold q1X;have a:=z4J (z1j x j b l).p j;refine SQ.eq (a.1.trans ?_) (a.2.1.trans ?_) ((a.2.2 i (by simpa using e)).trans ?_) ((z0w _ _ e).trans ?_)
   all_goals cases b
   all_goals first|rfl|exact z2d _ _ e|exact z0w _ _ e
 ·exact .same (SQ.refl _ _)
theorem j8A(x:Wo)(i:Nat):Tr x (z3F x).1 i:=by
 unfold z3F
 split
 ·rename_i h0
  have a:z0o x.p=true/\isT x.ck=true/\x.p.t<=x.ck:=by
   by_cases b:z0o x.p=true/\isT x.ck=true/\x.p.t<=x.ck
   ·exact b
   ·unfold endP at h0;rw[if_neg b]at h0;cases h0
  exact .q1J rfl (z3a a) rfl
 ·exact .same (SQ.refl _ _)
theorem j3H{N:Int}{x:Wo}(h:z2P N x)(c:Int)(i:Nat):Tr x (z1X x c).1 i:=by
 unfold z1X
 split
 ·rename_i hc
  split
  ·rename_i h0
   have hb:(z0x x.p c).1={ x.p with s:={ x.p.s with W:=x.p.s.W.map (z0V c.toNat (x.p.h+1))},L:=z0P x.p.L c.toNat (z6M x.p)}/\(x.p.L c.toNat).on=false/\(x.p.L c.toNat).gone=false/\x.p.h≠0:=by
    unfold z0x at h0⊢
    by_cases h1:z0o x.p=true
    ·rw[if_pos h1,if_pos hc]at h0;rw[if_pos h1,if_pos hc]
     by_cases h3:(x.p.L c.toNat).gone=true
     ·rw[if_pos h3]at h0;cases h0
     ·rw[if_neg h3]at h0⊢
      by_cases a:(x.p.L c.toNat).on=true
      ·rw[if_pos a]at h0;cases h0
      ·rw[if_neg a]at h0⊢
       by_cases b:x.p.h=0∨x.p.set.length=0
       ·rw[if_pos b]at h0;cases h0
       ·rw[if_neg b];exact⟨rfl,by simpa using a,by simpa using h3,λq=>b (.inl q)⟩
    ·rw[if_neg h1]at h0;cases h0
   obtain⟨e,h2,h3,a⟩:=hb;rw[e];dsimp only
   have d:c.toNat<2:=by
    unfold isC at hc;simp only[Bool.and_eq_true,decide_eq_true_eq]at hc;omega
   by_cases q:i=c.toNat
   ·subst q;have ho:=h.on _ d;exact .beg (ho.1.trans h2) (ho.2.trans h3) (by have:=h.gp.h0;omega) rfl rfl (z2u _ _ _) (z0S _ _ _)
   ·exact .same (SQ.eq rfl rfl (z2d _ _ q) (z0w _ _ q))
  ·exact .same (SQ.refl _ _)
 ·exact .same (SQ.refl _ _)
theorem j5O(x:Wo)(j i:Nat):Tr x (z3T x j).1 i:=by
 unfold z3T
 split
 ·rename_i h0
  have a:(z7A (x.c j) x.ck).1=z2K { x.c j with h:=(x.c j).h+1,t:=x.ck}:=by
   unfold z7A at h0⊢
   by_cases h1:z5t (x.c j)=0
   ·rw[if_pos h1]at h0⊢
    by_cases h2:isT x.ck=true/\(x.c j).t<=x.ck
    ·rw[if_pos h2]
    ·rw[if_neg h2]at h0;cases h0
   ·rw[if_neg h1]at h0;exact absurd h0 h1
  dsimp only;rw[a]
  by_cases e:i=j
  ·subst e;exact .cons rfl (z0S _ _ _)
  ·exact .same (SQ.eq rfl rfl rfl (z0w _ _ e))
 ·exact .same (SQ.refl _ _)
theorem j6s(x:Wo)(j:Nat)(b:Bool)(i:Nat):SQ x (z3H x j b) i:=by
 unfold z3H
 split
 ·by_cases e:i=j
  ·subst e;have h:z0P x.p.L i (j8G (x.p.L i) (x.hc i)) i=j8G (x.p.L i) (x.hc i):=z2u _ _ _;exact⟨rfl,rfl,by dsimp only;rw[h];rfl,by dsimp only;rw[h];rfl,by dsimp only;rw[h];rfl,rfl,rfl,rfl,rfl⟩
  ·exact SQ.eq rfl rfl (z2d _ _ e) rfl
 ·exact q0P (hp:=x.hp) (hc:=x.hc) i λ_=>⟨rfl,rfl,rfl,rfl⟩
theorem j1c(x:Wo)(j:Nat)(d:Dd)(i:Nat):Tr x (z2c x j d).1 i:=by
 unfold z2c
 split
 ·exact j5O _ _ _
 ·split
  ·exact .same (j6s _ _ _ _)
  ·split
   ·exact y0N _ _ _ _ _
   ·split
    ·exact j9n _ _ _ _ _
    ·dsimp only;unfold z9d
     split
     ·exact .same (q0P (hp:=x.hp) (hc:=x.hc) i λ_=>q7r _ _ _)
     ·exact .same (q0P (hp:=x.hp) (hc:=x.hc) i λ_=>q1R _ _ _ _)
theorem j8C{N:Int}{x:Wo}(h:z2P N x)(d:Dd)(i:Nat):Tr x (z2J x d).1 i:=by
 unfold z2J
 split
 ·exact .same (y1J _ _ _)
 ·split
  ·unfold z4z
   split <;> exact .same (SQ.eq rfl rfl rfl rfl)
  ·split
   ·exact j8A _ _
   ·split
    ·exact j3H h _ _
    ·split
     ·split
      ·exact j1c _ _ _ _
      ·exact .same (SQ.refl _ _)
     ·exact .same (SQ.refl _ _)
theorem j1U{x:Wo}(h:Inv x)(d:Dd)(i:Nat):Tr x (doW x d).1 i:=by
 unfold doW
 split
 ·exact .same (SQ.refl _ _)
 ·have:=j8C (x:=z2n x) (h.dn _) d i;cases this with
  | off a b c=>exact .off a b c
  | same a=>exact .same ⟨a.h,a.set,a.on,a.told,a.out,a.con,a.cset,a.id,a.pd⟩
  | q1J a b c=>exact .q1J a b c
  | beg a b c d e f g=>exact .beg a b c d e f g
  | cons a b=>exact .cons a b
  | del n s q a b c d e f g=>exact .del n s q a b c d e f g
def Ch(H:Int->Pws)(h:Int)(fin:Pws):Int->Pws->List Pkt->Prop
 | id,set,[]=>H id=set/\id<=h/\set=fin
 | id,set,q :: r=>H id=set/\id<q.i/\Ch H h fin q.i (Df.z2F set q.S) r
def j8t(set:Pws)(l:List Pkt):Pws:=l.foldl (λs q=>Df.z2F s q.S) set
def z8U(id:Int)(l:List Pkt):Int:=l.foldl (λ_ q=>q.i) id
theorem Ch.head{H:Int->Pws}{h:Int}{fin:Pws}:∀{l:List Pkt} {id:Int} {set:Pws},Ch H h fin id set l->H id=set/\id<=h
 | [],_,_,c=>⟨c.1,c.2.1⟩
 | _ :: _,_,_,c=>⟨c.1,by have:=(Ch.head c.2.2).2;have:=c.2.1;omega⟩
theorem Ch.take{H:Int->Pws}{h:Int}{fin:Pws}{b:List Pkt}:∀{a:List Pkt} {id:Int} {set:Pws},Ch H h fin id set (a++b)->Ch H h fin (z8U id a) (j8t set a) b/\id<=z8U id a
 | [],_,_,c=>⟨c,Int.le_refl _⟩
 | q :: a,id,set,c=>by
  have h1:=Ch.take (a:=a) c.2.2;have h2:=c.2.1;have h3:=h1.2;exact⟨h1.1,by show id<=z8U q.i a;omega⟩
theorem Ch.snoc{H b:Int->Pws}{h h':Int}{fin a:Pws}{q:Pkt}(hh:h<h')(d:q.i=h')(e:Df.z2F fin q.S=a)(f:b h'=a)(hs:∀i,i<=h->b i=H i):∀{l:List Pkt} {id:Int} {set:Pws},Ch H h fin id set l->Ch b h' a id set (l++[q])
 | [],id,set,c=>by
  refine⟨(hs id c.2.1).trans c.1,by rw[d];have:=c.2.1;omega,?_⟩
  rw[c.2.2,e,d];exact⟨f,Int.le_refl _,rfl⟩
 | _ :: _,id,set,c=>⟨(hs id (Ch.head c).2).trans c.1,c.2.1,Ch.snoc hh d e f hs c.2.2⟩
theorem Ch.keep{H a:Int->Pws}{h h':Int}{fin:Pws}(hh:h<=h')(hs:∀i,i<=h->a i=H i):∀{l:List Pkt} {id:Int} {set:Pws},Ch H h fin id set l->Ch a h' fin id set l
 | [],id,set,c=>⟨(hs id c.2.1).trans c.1,by have:=c.2.1;omega,c.2.2⟩
 | _ :: _,id,set,c=>⟨(hs id (Ch.head c).2).trans c.1,c.2.1,Ch.keep hh hs c.2.2⟩
def pkS(S:List ByteArray):List Pkt:=S.map λs=>z0X (Cd.bs s)
structure TI(H:Int->Pws)(x:Wo)(i:Nat):Prop where
 cl:(x.p.L i).out.cl=false
 len:((x.p.L i).out.S.length:Int)<=x.p.h
 told:(x.p.L i).told=x.p.set
 dec:∀(n:Nat) s,(x.p.L i).out.g<=(n:Int)->(x.p.L i).out.S[n]?=some s->Cd.z4x (Cd.bs s)=0/\(z0X (Cd.bs s)).k=1
 ch:Ch H x.p.h x.p.set (x.c i).id (x.c i).set ((x.c i).pd++pkS ((x.p.L i).out.S.drop (x.p.L i).out.g.toNat))
theorem j3u{l:Pws}(h:z2W (-1) l=true)(v:Nat):0<=Df.z1C l v/\Df.z1C l v<=1125899906842624:=by
 have key:∀m:Pws,(∀x∈m,1<=x.2/\x.2<=1125899906842624)->0<=Df.z1C m v/\Df.z1C m v<=1125899906842624:=by
  intro m
  induction m with
  | nil=>intro _;exact⟨Int.le_refl _,(by decide:(0:Int)<=1125899906842624)⟩
  | cons x m ih =>
   intro a;have h1:=ih λy b=>a y (List.mem_cons_of_mem _ b);have h2:=a x (List.mem_cons_self ..)
   show 0<=Df.z8z (Df.z1C m) x v/\Df.z8z (Df.z1C m) x v<=_
   unfold Df.z8z
   split
   ·dsimp only
    split
    ·omega
    ·exact h1
   ·exact h1
 exact key l λx c=>(z2R l _ h x c).2.2
theorem q9I(c:Nat->Bool)(f:Nat->Int)(h:∀i,i<6->0<=f i/\f i<=1125899906842624):Cd.z0d (-1) (Df.those c f 6)=true:=by
 have h0:=h 0 (by omega)
 have h1:=h 1 (by omega)
 have h2:=h 2 (by omega)
 have h3:=h 3 (by omega)
 have k:=h 4 (by omega)
 have l:=h 5 (by omega)
 unfold Df.those;rw[show List.range 6=[0,1,2,3,4,5] from rfl];cases a:c 0 <;> cases b:c 1 <;> cases d:c 2 <;> cases e:c 3 <;> cases g:c 4 <;> cases j:c 5 <;> simp[a,b,d,e,g,j,Cd.z0d,Cd.isV] <;> omega
theorem z9I:∀(l:List Int) (a:Int),-1<=a->z2m a l=true->Cd.z0i a l=true
 | [],_,_,_=>rfl
 | x :: l,a,ha,h=>by
  unfold z2m at h;simp only[Bool.and_eq_true,decide_eq_true_eq]at h;unfold Cd.z0i;rw[z9I l x (by omega) h.2]
  simp only[Bool.and_true,Bool.and_eq_true,decide_eq_true_eq];refine⟨h.1.1,?_⟩;unfold Cd.isV;simp only[decide_eq_true_eq];omega
theorem j0u{h:Int}{a b:Pws}{D:List Int}(h1:1<=h)(h2:h<=1099511627776)(hb:z2W (-1) b=true)(c:z2m (-1) D=true):Cd.z0n 1 h 0 0 (Df.z3v a b) D=0:=by
 have hp:Cd.z0d (-1) (Df.z3v a b)=true:=q9I _ _ λi _=>j3u hb i;have d:=z9I D (-1) (by omega) c
 unfold Cd.z0n;rw[if_neg (by omega),if_neg (by omega),if_neg (by rintro⟨h,-⟩;revert h;decide),if_neg (by show ¬(false=true);decide),if_neg (by rw[hp,d];decide)]
theorem q1F:∀(l:Pws) (c:Cs),(z1R c l).on=c.on/\(z1R c l).set=c.set/\(z1R c l).id=c.id/\(z1R c l).pd=c.pd
 | [],_=>⟨rfl,rfl,rfl,rfl⟩
 | x :: l,c=>by
  unfold z1R
  split
  ·split
   ·have h:=q1F l (z2o c 2 x.1 0 0 c.t).1;have h2:=z8o c 2 x.1 0 0 c.t;exact⟨h.1.trans h2.1,h.2.1.trans h2.2.1,h.2.2.1.trans h2.2.2.1,h.2.2.2.trans h2.2.2.2⟩
   ·exact⟨rfl,rfl,rfl,rfl⟩
  ·exact⟨rfl,rfl,rfl,rfl⟩
theorem z9E:∀(l:List Pkt) (c:Cs),(l.foldl takeC c).on=c.on/\(l.foldl takeC c).set=j8t c.set l/\(l.foldl takeC c).id=z8U c.id l
 | [],_=>⟨rfl,rfl,rfl⟩
 | q :: l,c=>by
  have h:=z9E l (takeC c q);exact⟨h.1,h.2.1,h.2.2⟩
theorem z4O(c:Cs):(z2K c).on=c.on/\(z2K c).set=j8t c.set c.pd/\(z2K c).id=z8U c.id c.pd/\(z2K c).pd=[]:=by
 unfold z2K;have h:=q1F (z1w c).rp { z1w c with pd:=[]}
 have h2:=z9E c.pd c;exact⟨h.1.trans h2.1,h.2.1.trans h2.2.1,h.2.2.1.trans h2.2.2,h.2.2.2⟩
theorem j0y{p:Pr}{c:Nat}(b:Cd.z0n 1 p.h 0 0 (Df.z3v (p.L c).told p.set) (p.L c).done=0)(hs:Ln.z5O (p.L c).out (p.t+40)=0):((z1t p c).L c=p.L c/\((p.L c).on=true->(p.L c).told=p.set))∨Pv.Told p.h p.t p.set (p.L c) ((z1t p c).L c):=by
 rcases q2I p c with h|h
 ·by_cases a:z5q p (p.L c)=true
  ·refine .inl ⟨h,λho=>?_⟩;unfold z5q at a;rw[ho]at a;simp only[Bool.not_true,Bool.false_or,Bool.and_eq_true,decide_eq_true_eq]at a;exact a.1.1
  ·refine .inr ?_;unfold z1t;rw[if_neg a,if_pos b,if_pos hs];refine⟨?_,b,hs,?_⟩
   ·cases ho:(p.L c).on
    ·exact absurd (by unfold z5q;rw[ho];rfl) a
    ·rfl
   ·show z0P p.L c _ c=_
    unfold z0P;rw[if_pos rfl]
 ·exact .inr h
theorem j2w{l:Ln.Line}{t:Int}(a:Ln.z1a l=true)(hc:l.cl=false)(b:l.S.length<400)(c:0<=t):Ln.z5O l t=0:=by
 unfold Ln.z5O Ln.z4i;rw[if_neg (by omega),a,hc]
 simp only[Bool.true_eq_false,if_false,Bool.false_eq_true,ne_eq,not_true_eq_false];rw[if_neg (by omega)]
theorem j2X{p:Pr}{now:Int}(a:z0o p=true/\isT now=true/\p.t<=now){c:Nat}(hc:c<2)(l:(p.L c).out.cl=false)(e:(p.L c).out.S.length<400)(m:(p.L c).on=true) :
  ∃z,z5l (p.L c) z/\(((endP p now).1.L c=z/\z.told=(endP p now).1.set)∨Pv.Told (p.h+1) now (endP p now).1.set z ((endP p now).1.L c)):=by
 have s:(endP p now).1=z1t (z1t (z3l (z0q (z0y p now)) now) 0) 1:=by unfold endP;rw[if_pos a]
 have o:=z3a a;rw[s]at o⊢;have hs:=z9j (z0y p now);have u:=z8e a.1 now;have d:=(z6o p).1 a.1;have w:=(z9X now).1 a.2.1;have i:(z3l (z0q (z0y p now)) now).h=p.h+1:=hs.h;have j:(z3l (z0q (z0y p now)) now).t=now:=hs.t;obtain⟨b1,b2,-,k,-,-,-⟩:=z6i (z3l (z0q (z0y p now)) now) 0;obtain⟨-,-,-,q,-,-,-⟩:=z6i (z1t (z3l (z0q (z0y p now)) now) 0) 1;have z:z5l (p.L c) ((z0q (z0y p now)).L c):=hs.lk c;have v:=u.2 c hc;have f:=o.z2W;rw[q,k]at f;have r:Cd.z0n 1 (p.h+1) 0 0 (Df.z3v ((z0q (z0y p now)).L c).told (z3l (z0q (z0y p now)) now).set) ((z0q (z0y p now)).L c).done=0:=j0u (by have:=d.h0;omega) (by have:=d.h1;omega) f v
 have g:Ln.z5O ((z0q (z0y p now)).L c).out (now+40)=0:=j2w (by rw[z.out];exact(d.lk c hc).out) (by rw[z.out];exact l) (by rw[z.out];exact e) (by omega)
 have b:((z0q (z0y p now)).L c).on=true:=z.on.trans m;refine⟨_,z,?_⟩;rw[q,k]
 rcases(show c=0∨c=1 by omega)with rfl|rfl
 ·rw[z6j _ 1 0 (by omega)]
  have h:=j0y (p:=z3l (z0q (z0y p now)) now) (c:=0) (by rw[i];exact r) (by rw[j];exact g)
  rw[i,j]at h
  rcases h with h|h
  ·exact .inl ⟨h.1,h.2 b⟩
  ·exact .inr h
 ·have n:(z1t (z3l (z0q (z0y p now)) now) 0).L 1=(z0q (z0y p now)).L 1:=z6j _ 0 1 (by omega)
  have h:=j0y (p:=z1t (z3l (z0q (z0y p now)) now) 0) (c:=1) (by rw[n,b1,k,i];exact r) (by rw[n,b2,j];exact g)
  rw[b1,b2,k,n,i,j]at h
  rcases h with h|h
  ·exact .inl ⟨h.1,h.2 b⟩
  ·exact .inr h
structure WH(H:Int->Pws)(x:Wo):Prop where
 now:H x.p.h=x.p.set
 ti:∀i,i<2->(x.c i).on=true->TI H x i
theorem q9O{α:Type}(l:List α)(n:Nat)(a:α)(h:n<=l.length):(l++[a]).drop n=l.drop n++[a]:=by
 rw[List.drop_append,show n - l.length=0 by omega]
 rfl
theorem j9O:WH (λ_=>[]) z8y:=⟨rfl,λi _ h=>by cases h⟩
theorem j0O(z:QS)(a:Int×Pkt):∀b∈(z1n z a).left,b∈z.left∨b=a:=by
 intro b;unfold z1n
 split
 ·intro hb;exact(List.mem_append.1 hb).imp id List.mem_singleton.1
 ·split
  ·exact .inl
  ·intro hb;exact(List.mem_append.1 hb).imp id List.mem_singleton.1
theorem z9D:∀(l:List (Int×Pkt)) (z:QS),∀b∈(l.foldl z1n z).left,b∈z.left∨b∈l
 | [],_,b,hb=>.inl hb
 | a :: l,z,b,hb=>by
  rcases z9D l (z1n z a) b hb with h|h
  ·rcases j0O z a b h with h|h
   ·exact .inl h
   ·exact .inr (h ▸ List.mem_cons_self)
  ·exact .inr (List.mem_cons_of_mem _ h)
theorem y2C{p:Pr}{now:Int}(b:z0o p=true/\isT now=true/\p.t<=now):∀a∈(endP p now).1.q,a∈p.q:=λa c=>by
 rw[(z3a b).q]at c
 rcases z9D _ _ a c with h|h
 ·cases h
 ·exact h
theorem j1n(p:Pr)(c:Int)(l:List Int):((z2z p c l).2=0/\Cd.z4x l=0/\(z2z p c l).1={ p with q:=p.q++[(c,z0X l)]})∨((z2z p c l).2≠0/\(z2z p c l).1=p):=by
 unfold z2z;generalize Cd.z4x l=E;generalize z0X l=q
 by_cases h1:z0o p=true
 ·rw[if_pos h1]
  by_cases h2:z8G p c=true
  ·rw[if_pos h2]
   by_cases h3:E=0
   ·rw[if_pos h3]
    by_cases a:q.k=1
    ·rw[if_pos a];exact .inr ⟨by simp,rfl⟩
    ·rw[if_neg a];exact .inl ⟨rfl,h3,rfl⟩
   ·rw[if_neg h3];exact .inr ⟨h3,rfl⟩
  ·rw[if_neg h2];exact .inr ⟨by simp,rfl⟩
 ·rw[if_neg h1];exact .inr ⟨by simp,rfl⟩
theorem z4q(v h f:Int)(u:Wt):(slX v h f u).hei=u.hei/\(slX v h f u).h0=u.h0/\(slX v h f u).h1=u.h1/\(slX v h f u).v=u.v/\(slX v h f u).due=u.due/\(slX v h f u).num=u.num:=by
 unfold slX
 split <;> exact⟨rfl,rfl,rfl,rfl,rfl,rfl⟩
theorem z3M(c:Nat)(r:Int)(u:Wt):(z4j c r u).hei=u.hei/\(z4j c r u).v=u.v/\(z4j c r u).amt=u.amt/\(z4j c r u).due=u.due/\(z4j c r u).num=u.num:=by
 unfold z4j
 repeat' split
 all_goals exact⟨rfl,rfl,rfl,rfl,rfl⟩
theorem j9y{p:Pr}{now:Int}(a:z0o p=true/\isT now=true/\p.t<=now):(endP p now).1.s.W=z1x now (goQ (z0y p now)).p.s.W:=by rw[(z3a a).s];rfl
theorem q4k(s:St)(d v n:Int):(z0Q s d v n).1.W=s.W:=by
 unfold z0Q
 repeat' split
 all_goals rfl
theorem q0E(s:St)(v:Int):(z1s s v).1.W=s.W:=by
 unfold z1s
 repeat' split
 all_goals rfl
theorem q0S{p:Pr}{c:Int}(hc:isC c=true)(h0:(z0x p c).2=0):(z0x p c).1.L=z0P p.L c.toNat (z6M p)/\(p.L c.toNat).on=false/\(p.L c.toNat).gone=false:=by
 unfold z0x at h0⊢
 by_cases h1:z0o p=true
 ·rw[if_pos h1,if_pos hc]at h0;rw[if_pos h1,if_pos hc]
  by_cases h3:(p.L c.toNat).gone=true
  ·rw[if_pos h3]at h0;cases h0
  ·rw[if_neg h3]at h0⊢
   by_cases a:(p.L c.toNat).on=true
   ·rw[if_pos a]at h0;cases h0
   ·rw[if_neg a]at h0⊢
    by_cases b:p.h=0∨p.set.length=0
    ·rw[if_pos b]at h0;cases h0
    ·rw[if_neg b];exact⟨rfl,by simpa using a,by simpa using h3⟩
 ·rw[if_neg h1]at h0;cases h0
structure Sm(x y:Wo)(i:Nat):Prop where
 on:(y.c i).on=(x.c i).on
 lo:(y.p.L i).out=(x.p.L i).out
 fr:(x.p.L i).fresh=true->(y.p.L i).fresh=true
 t:(y.c i).t=(x.c i).t
 pd:(y.c i).pd=(x.c i).pd
 rp:(y.c i).rp=(x.c i).rp
 out:(y.c i).out=(x.c i).out
 q:∀a∈x.p.q,a.1=(i:Int)->a∈y.p.q
theorem Sm.refl(x:Wo)(i:Nat):Sm x x i:=⟨rfl,rfl,id,rfl,rfl,rfl,rfl,λ_ h _=>h⟩
theorem Sm.eq{x y:Wo}{i:Nat}(l:y.p.L i=x.p.L i)(c:y.c i=x.c i)(q:∀a∈x.p.q,a.1=(i:Int)->a∈y.p.q):Sm x y i:=⟨by rw[c],by rw[l],λh=>by rw[l];exact h,by rw[c],by rw[c],by rw[c],by rw[c],q⟩
inductive Fl (kd:Int) (x y:Wo) (i:Nat):Prop
 | same:Sm x y i->Fl kd x y i
 | off:(y.c i).on=false->(y.p.L i).out.S=(x.p.L i).out.S->(y.p.L i).out.g=(x.p.L i).out.g->(y.c i).pd=(x.c i).pd->(y.c i).rp=(x.c i).rp->(y.c i).out.S=(x.c i).out.S->(y.c i).out.g=(x.c i).out.g->Fl kd x y i
 | q1J:kd=6->y.c i=x.c i->z0o x.p=true/\isT x.ck=true/\x.p.t<=x.ck->y.p=(endP x.p x.ck).1->Fl kd x y i
 | beg:kd=4->(x.c i).on=false->y.p.L i=z6M x.p->y.c i=z2s x.p.set x.p.h x.ck->Fl kd x y i
 | cons:y.p=x.p->y.c i=z2K { x.c i with h:=(x.c i).h+1,t:=x.ck}->Fl kd x y i
 | del (n:Nat) (s:ByteArray) (q:Pkt):z0X (Cd.bs s)=q->(x.p.L i).out.g=(n:Int)->(x.p.L i).out.S[n]?=some s->y.p={ x.p with L:=z0P x.p.L i { x.p.L i with out:={ (x.p.L i).out with g:=(x.p.L i).out.g+1}}}->y.c i={ x.c i with pd:=(x.c i).pd++[q]}->Fl kd x y i
 | bk (n:Nat) (s:ByteArray) (q:Pkt):z0X (Cd.bs s)=q->(x.c i).out.g=(n:Int)->(x.c i).out.S[n]?=some s->y.p={ x.p with q:=x.p.q++[((i:Int),q)]}->y.c i={ x.c i with out:={ (x.c i).out with g:=(x.c i).out.g+1}}->Fl kd x y i
 | acc (k j v m:Int):¬(7<=kd/\kd<=10∨kd=5)->y.p=x.p->Cd.z0n k j v m [] []=0->k≠1->(y.c i).on=(x.c i).on->(y.c i).t=(x.c i).t->(y.c i).pd=(x.c i).pd->(y.c i).rp=(x.c i).rp->(y.c i).out=Ln.z4C (x.c i).out (Cd.encS k j v m [] []) (x.ck+40)->Fl kd x y i
theorem fl_at(x:Wo)(d:Dd)(i:Nat):Sm x (atP x d).1 i:=by
 unfold atP
 split
 ·dsimp only;rw[z5c];exact Sm.eq rfl rfl λ_ h _=>h
 ·split
  ·dsimp only;have e:=z4W x.p d.d d.v d.n x.ck;have b:∀a∈x.p.q,a.1=(i:Int)->a∈(z1f x.p d.d d.v d.n x.ck).1.q:=λa h _=>by rw[e.2.2.1];exact h
   rcases e.2.2.2.2 with l|l
   ·exact Sm.eq (by dsimp only;rw[l]) rfl b
   ·refine⟨rfl,?_,λh=>?_,rfl,rfl,rfl,rfl,b⟩
    ·dsimp only;rw[l];exact(z2Z _ _).2.2.1
    ·dsimp only;rw[l];unfold z1u
     split
     ·rfl
     ·exact h
  ·split
   ·exact Sm.eq rfl rfl λ_ h _=>h
   ·dsimp only;rw[z5S];exact Sm.eq rfl rfl λ_ h _=>h
theorem fl_del(kd:Int)(x:Wo)(j:Nat)(b f:Bool)(i:Nat):Fl kd x (z7s x j b f).1 i:=by
 unfold z7s
 split
 ·rename_i hd;obtain⟨n,k,hs,l⟩:=q0c hd;cases b
  ·have d:z1B x j false (z0t x j false f)=({ x with c:=z2k x.c j (z3c (x.c j) (Cd.bs (z0t x j false f))).1},(z3c (x.c j) (Cd.bs (z0t x j false f))).2):=rfl
   rw[d,l];dsimp only;have g:z0Y x j false=(x.p.L j).out:=rfl;rw[g]at k hs⊢;generalize z0t x j false f=s at *;clear d l hd g
   rcases q1p (x.c j) (Cd.bs s)with⟨h1,h2⟩|⟨h1,h2⟩
   ·rw[if_pos h1,h2];clear h1 h2;generalize m:z0X (Cd.bs s)=q at *
    by_cases e:i=j
    ·subst e;exact .del n s q m k hs rfl (z0S _ _ _)
    ·exact .same (Sm.eq (z2d _ _ e) (z0w _ _ e) λ_ h _=>h)
   ·rw[if_neg h1,h2,q1w];exact .same (Sm.refl _ _)
  ·have d:z1B x j true (z0t x j true f)=({ x with p:=(z2z x.p j (Cd.bs (z0t x j true f))).1},(z2z x.p j (Cd.bs (z0t x j true f))).2):=rfl
   rw[d,l];dsimp only;have g:z0Y x j true=(x.c j).out:=rfl;rw[g]at k hs⊢;generalize z0t x j true f=s at *;clear d l hd g
   rcases j1n x.p j (Cd.bs s)with⟨h1,-,h2⟩|⟨h1,h2⟩
   ·rw[if_pos h1,h2];clear h1 h2;generalize m:z0X (Cd.bs s)=q at *
    by_cases e:i=j
    ·subst e;exact .bk n s q m k hs rfl (z0S _ _ _)
    ·exact .same (Sm.eq rfl (z0w _ _ e) λa h _=>List.mem_append.2 (.inl h))
   ·rw[if_neg h1,h2];exact .same (Sm.refl _ _)
 ·exact .same (Sm.refl _ _)
theorem removeP_q(p:Pr)(c:Int):∀a∈p.q,a.1≠c->a∈(z0j p c).q:=λa b hc=>by
 unfold z0j
 split
 ·exact List.mem_filter.2 ⟨b,by simpa using hc⟩
 ·exact b
theorem removeP_out(p:Pr)(c i:Nat):((z0j p c).L i).out.S=(p.L i).out.S/\((z0j p c).L i).out.g=(p.L i).out.g:=by
 unfold z0j
 split
 ·show(z0P p.L _ _ i).out.S=_/\(z0P p.L _ _ i).out.g=_
  unfold z0P
  split
  ·rename_i e;rw[e];exact⟨rfl,rfl⟩
  ·exact⟨rfl,rfl⟩
 ·exact⟨rfl,rfl⟩
theorem removeC_rest(c:Cs):(z1d c).pd=c.pd/\(z1d c).rp=c.rp/\(z1d c).out.S=c.out.S/\(z1d c).out.g=c.out.g:=by
 unfold z1d
 split <;> exact⟨rfl,rfl,rfl,rfl⟩
theorem expL_rest(l:Ln.Line)(k t g:Int):(Ln.z4N l k t g).S=l.S/\(Ln.z4N l k t g).g=l.g:=by
 unfold Ln.z4N
 split <;> exact⟨rfl,rfl⟩
theorem fl_exp(kd:Int)(x:Wo)(j:Nat)(b:Bool)(k:Int)(i:Nat):Fl kd x (z6I x j b k).1 i:=by
 unfold z6I
 split
 ·dsimp only;have d:=expL_rest (z0Y x j b) k (z5A x j b) (q2x x j b);generalize Ln.z4N (z0Y x j b) k (z5A x j b) (q2x x j b)=l at *
  by_cases e:i=j
  ·subst e;have f:=removeP_out (z1j x i b l).p i i;have hc:=removeC_rest ((z1j x i b l).c i)
   have ho:∀{P:Cs->Prop},P (z1d ((z1j x i b l).c i))->P ((q1X (z1j x i b l) i).c i):=λ{P} h=>by
    show P (z2k _ i _ i)
    rw[z0S];exact h
   refine .off (ho (P:=λc=>c.on=false) (z5H _)) (f.1.trans ?_) (f.2.trans ?_) (ho (P:=λc=>c.pd=_) (hc.1.trans ?_)) (ho (P:=λc=>c.rp=_) (hc.2.1.trans ?_)) (ho (P:=λc=>c.out.S=_) (hc.2.2.1.trans ?_)) (ho (P:=λc=>c.out.g=_) (hc.2.2.2.trans ?_))
   all_goals cases b
   all_goals first|rfl|(show(z0P _ i _ i).out.S=_;rw[z2u];exact d.1)|(show(z0P _ i _ i).out.g=_;rw[z2u];exact d.2)|(show(z2k _ i _ i).pd=_;rw[z0S])|(show(z2k _ i _ i).rp=_;rw[z0S])|(show(z2k _ i _ i).out.S=_;rw[z0S];exact d.1)|(show(z2k _ i _ i).out.g=_;rw[z0S];exact d.2)
  ·refine .same ?_;unfold q1X;have f:=z4J (z1j x j b l).p j;refine Sm.eq ((f.2.2 i (by simpa using e)).trans ?_) ((z0w _ _ e).trans ?_) λa m h=>?_
   ·cases b
    ·exact z2d _ _ e
    ·rfl
   ·cases b
    ·rfl
    ·exact z0w _ _ e
   ·refine removeP_q _ _ a ?_ (by rw[h];omega)
    cases b <;> exact m
 ·exact .same (Sm.refl _ _)
theorem end_okP{x:Wo}(h0:(endP x.p x.ck).2.2=0):z0o x.p=true/\isT x.ck=true/\x.p.t<=x.ck:=by
 by_cases a:z0o x.p=true/\isT x.ck=true/\x.p.t<=x.ck
 ·exact a
 ·unfold endP at h0;rw[if_neg a]at h0;cases h0
theorem fl_cons(kd:Int)(x:Wo)(j i:Nat):Fl kd x (z3T x j).1 i:=by
 unfold z3T
 split
 ·rename_i h0
  have a:(z7A (x.c j) x.ck).1=z2K { x.c j with h:=(x.c j).h+1,t:=x.ck}:=by
   unfold z7A at h0⊢
   by_cases h1:z5t (x.c j)=0
   ·rw[if_pos h1]at h0⊢
    by_cases h2:isT x.ck=true/\(x.c j).t<=x.ck
    ·rw[if_pos h2]
    ·rw[if_neg h2]at h0;cases h0
   ·rw[if_neg h1]at h0;exact absurd h0 h1
  dsimp only;rw[a]
  by_cases e:i=j
  ·subst e;exact .cons rfl (z0S _ _ _)
  ·exact .same (Sm.eq rfl (z0w _ _ e) λ_ h _=>h)
 ·exact .same (Sm.refl _ _)
theorem fl_begin{N:Int}{x:Wo}(h:z2P N x)(c:Int)(i:Nat):Fl 4 x (z1X x c).1 i:=by
 have t:=j3H h c i;unfold z1X at t⊢
 split
 ·rename_i hc;rw[if_pos hc]at t
  split
  ·rename_i h0;rw[if_pos h0]at t
   have k:(z0x x.p c).1.q=x.p.q:=by
    unfold z0x
    repeat' split
    all_goals rfl
   by_cases e:i=c.toNat
   ·subst e;cases t with
    | beg a b c' d e f g=>exact .beg rfl a f g
    | off a b c'=>exact absurd c' (by dsimp only;rw[z0S];simp[z2s])
    | same q =>
     have:=q.con;dsimp only at this;rw[z0S]at this;have h1:=(h.on c.toNat (by unfold isC at hc;simp only[Bool.and_eq_true,decide_eq_true_eq]at hc;omega)).1
     rw[<-this,(q0S hc h0).2.1]at h1;cases h1
    | q1J a b c' =>
     have:=b.h;dsimp only at this;unfold z0x at this
     repeat' split at this
     all_goals (dsimp only at this;omega)
    | cons a b =>
     have j:(z0x x.p c).1.L c.toNat=x.p.L c.toNat:=congrArg (λp:Pr=>p.L c.toNat) a;rw[(q0S hc h0).1,z2u]at j;have:=congrArg Lk.on j;rw[(q0S hc h0).2.1]at this;cases this
    | del n s q a b c' d e f g =>
     dsimp only at f;rw[(q0S hc h0).1,z2u]at f;have:true=(x.p.L c.toNat).on:=congrArg Lk.on f;rw[(q0S hc h0).2.1]at this;cases this
   ·refine .same (Sm.eq ?_ (z0w _ _ e) λa j _=>by dsimp only;rw[k];exact j)
    dsimp only;unfold z0x
    repeat' split
    all_goals first|rfl|exact z2d _ _ e
  ·exact .same (Sm.refl _ _)
 ·exact .same (Sm.refl _ _)
theorem say_acc{kd:Int}(d:¬(7<=kd/\kd<=10∨kd=5))(x:Wo)(j:Nat)(k a v m:Int)(f:k≠1)(y:Cs)(h:(z2o (x.c j) k a v m x.ck).2=0->y.on=(x.c j).on/\y.t=(x.c j).t/\y.pd=(x.c j).pd/\y.rp=(x.c j).rp/\y.out=(z2o (x.c j) k a v m x.ck).1.out)(h':(z2o (x.c j) k a v m x.ck).2≠0->y=x.c j)(i:Nat):Fl kd x { x with c:=z2k x.c j y} i:=by
 by_cases e:i=j
 ·subst e
  by_cases h0:(z2o (x.c i) k a v m x.ck).2=0
  ·have q:=h h0
   by_cases b:Cd.z0n k a v m [] []=0
   ·refine .acc k a v m d rfl b f ?_ ?_ ?_ ?_ ?_
    all_goals
     dsimp only;rw[z0S]
    ·exact q.1
    ·exact q.2.1
    ·exact q.2.2.1
    ·exact q.2.2.2.1
    ·rw[q.2.2.2.2];unfold z2o;rw[if_pos b]
   ·unfold z2o at h0;rw[if_neg b]at h0;exact absurd h0 b
  ·refine .same (Sm.eq rfl ?_ λ_ h _=>h);dsimp only;rw[z0S,h' h0]
 ·exact .same (Sm.eq rfl (z0w _ _ e) λ_ h _=>h)
theorem fl_with(x:Wo)(j:Nat)(d:Dd)(b:d.k≠5)(i:Nat):Fl d.k x (z2c x j d).1 i:=by
 unfold z2c
 split
 ·exact fl_cons _ _ _ _
 ·rename_i k7
  split
  ·refine .same ?_;unfold z3H
   split
   ·by_cases e:i=j
    ·subst e;have h:z0P x.p.L i (j8G (x.p.L i) (x.hc i)) i=j8G (x.p.L i) (x.hc i):=z2u _ _ _;exact⟨rfl,by dsimp only;rw[h];rfl,λq=>by dsimp only;rw[h];exact q,rfl,rfl,rfl,rfl,λ_ h _=>h⟩
    ·exact Sm.eq (z2d _ _ e) rfl λ_ h _=>h
   ·by_cases e:i=j
    ·subst e;have h:z2k x.c i (y1v (x.c i) (x.hp i)) i=y1v (x.c i) (x.hp i):=z0S _ _ _;exact⟨by dsimp only;rw[h];rfl,rfl,id,by dsimp only;rw[h];rfl,by dsimp only;rw[h];rfl,by dsimp only;rw[h];rfl,by dsimp only;rw[h];rfl,λ_ h _=>h⟩
    ·exact Sm.eq rfl (z0w _ _ e) λ_ h _=>h
  ·rename_i k8
   split
   ·exact fl_del _ _ _ _ _ _
   ·rename_i k9
    split
    ·exact fl_exp _ _ _ _ _ _
    ·rename_i k10;have a:¬(7<=d.k/\d.k<=10∨d.k=5):=by omega
     dsimp only;unfold z9d;have hid:Fl d.k x { x with c:=z2k x.c j (x.c j)} i:=.same (Sm.eq rfl (by dsimp only;rw[q1w]) λ_ h _=>h)
     split
     ·unfold z3o
      split
      ·split
       ·split
        ·exact hid
        ·split
         ·exact hid
         ·split
          ·rename_i h0;refine say_acc a x j 3 (x.c j).id d.v (z4A d.v (x.c j).set) (by decide) { (z2o (x.c j) 3 (x.c j).id d.v (z4A d.v (x.c j).set) x.ck).1 with fl:=j6y (x.c j).fl d.v.toNat true} (λ_=>⟨?_,?_,?_,?_,rfl⟩) (λh=>absurd h0 h) i
           all_goals
            dsimp only;unfold z2o
            split <;> rfl
          ·exact hid
       ·exact hid
      ·exact hid
     ·unfold z1c
      split
      ·split
       ·split
        ·split
         ·refine say_acc a x j 4 _ _ _ (by decide) _ (λ_=>⟨by unfold z2o;split <;> rfl,by unfold z2o;split <;> rfl,by unfold z2o;split <;> rfl,by unfold z2o;split <;> rfl,rfl⟩) (λh=>?_) i
          unfold z2o at h⊢
          split
          ·rename_i hg;rw[if_pos hg]at h;dsimp only at h⊢;unfold Ln.z4C;rw[if_neg h]
          ·rfl
         ·exact hid
        ·exact hid
       ·exact hid
      ·exact hid
theorem fl_perf{N:Int}{x:Wo}(h:z2P N x)(d:Dd)(i:Nat):Fl d.k x (z2J x d).1 i:=by
 unfold z2J
 split
 ·exact .same (fl_at _ _ _)
 ·split
  ·unfold z4z
   split <;> exact .same (Sm.eq rfl rfl λ_ h _=>h)
  ·rename_i k5
   split
   ·rename_i k6;unfold z3F
    split
    ·rename_i h0;exact .q1J k6 rfl (end_okP h0) rfl
    ·exact .same (Sm.refl _ _)
   ·split
    ·rename_i k4;rw[k4];exact fl_begin h _ _
    ·split
     ·split
      ·exact fl_with _ _ _ k5 _
      ·exact .same (Sm.refl _ _)
     ·exact .same (Sm.refl _ _)
theorem fl_do{x:Wo}(h:Inv x)(d:Dd)(i:Nat):Fl d.k x (doW x d).1 i:=by
 unfold doW
 split
 ·exact .same (Sm.refl _ _)
 ·have:=fl_perf (x:=z2n x) (h.dn _) d i;cases this with
  | same a=>exact .same ⟨a.on,a.lo,a.fr,a.t,a.pd,a.rp,a.out,a.q⟩
  | off a b c d e f g=>exact .off a b c d e f g
  | q1J a b c d=>exact .q1J a b c d
  | beg a b c d=>exact .beg a b c d
  | cons a b=>exact .cons a b
  | del n s q a b c d e=>exact .del n s q a b c d e
  | bk n s q a b c d e=>exact .bk n s q a b c d e
  | acc k j v m z a b c d e f g h=>exact .acc k j v m z a b c d e f g h
def nU(x:Wo)(i:Nat):Int:=((x.p.L i).out.S.length:Int) - (x.p.L i).out.g
def nT(x:Wo)(i:Nat):Int:=((x.c i).out.S.length:Int)+((x.c i).rp.length:Int)+((x.c i).pd.length:Int)+nU x i
def pt1(x:Wo)(i:Nat):Int:=2*nU x i+((x.c i).pd.length:Int)+((x.c i).rp.length:Int)+(((x.c i).out.S.length:Int) - (x.c i).out.g)+(if(x.c i).on=true then 2 else 0)
def pot(x:Wo):Int:=pt1 x 0+pt1 x 1
theorem say_len(c:Cs)(k i v n now:Int)(h:(z2o c k i v n now).2=0):(z2o c k i v n now).1.out.S=c.out.S++[Cd.encS k i v n [] []]/\(z2o c k i v n now).1.out.g=c.out.g/\(z2o c k i v n now).1.out.cl=c.out.cl/\Cd.z0n k i v n [] []=0:=by
 unfold z2o at h⊢
 split
 ·rename_i hg;rw[if_pos hg]at h;dsimp only at h⊢;unfold Ln.z4C;rw[if_pos h];exact⟨rfl,rfl,rfl,hg⟩
 ·rename_i hg;rw[if_neg hg]at h;exact absurd h hg
theorem ripe_len:∀(l:Pws) (c:Cs),(z1R c l).rp.length+(z1R c l).out.S.length=l.length+c.out.S.length/\(z1R c l).out.g=c.out.g
 | [],c=>⟨rfl,rfl⟩
 | x :: l,c=>by
  unfold z1R
  split
  ·split
   ·rename_i h0;have h:=ripe_len l (z2o c 2 x.1 0 0 c.t).1;have h2:=say_len _ _ _ _ _ _ h0;rw[h2.1]at h;simp only[List.length_append,List.length_cons,List.length_nil]at h⊢;exact⟨by omega,h.2.trans h2.2.1⟩
   ·exact⟨rfl,rfl⟩
  ·exact⟨rfl,rfl⟩
theorem takes_len:∀(l:List Pkt) (c:Cs),(l.foldl takeC c).rp.length=c.rp.length+l.length/\(l.foldl takeC c).out=c.out
 | [],_=>⟨rfl,rfl⟩
 | q :: l,c=>by
  have h:=takes_len l (takeC c q);refine⟨?_,h.2⟩;rw[List.foldl_cons,h.1]
  show(c.rp++[_]).length+l.length=_
  simp only[List.length_append,List.length_cons,List.length_nil];omega
theorem done_len(c:Cs):(z2K c).rp.length+(z2K c).out.S.length=c.rp.length+c.pd.length+c.out.S.length/\(z2K c).out.g=c.out.g:=by
 unfold z2K z1w;have h:=ripe_len (c.pd.foldl takeC c).rp { c.pd.foldl takeC c with pd:=[]}
 have h2:=takes_len c.pd c;refine⟨?_,h.2.trans (by show(c.pd.foldl takeC c).out.g=_;rw[h2.2])⟩
 rw[h.1]
 show(c.pd.foldl takeC c).rp.length+(c.pd.foldl takeC c).out.S.length=_
 rw[h2.1,h2.2]
theorem end_len{p:Pr}{now:Int}(a:z0o p=true/\isT now=true/\p.t<=now){i:Nat}(c:i<2):((endP p now).1.L i).out.g=(p.L i).out.g/\(((endP p now).1.L i).out.S.length:Int)<=((p.L i).out.S.length:Int)+1/\((p.L i).out.S.length:Int)<=(((endP p now).1.L i).out.S.length:Int):=by
 obtain⟨z,b,-,e|t⟩:=((z3a a).lk i c).ex
 ·rw[e,b.out];exact⟨rfl,by omega,by omega⟩
 ·rw[t.eq]
  show(Ln.z4C z.out _ _).g=_/\((Ln.z4C z.out _ _).S.length:Int)<=_/\_<=((Ln.z4C z.out _ _).S.length:Int)
  unfold Ln.z4C
  split
  ·rw[b.out];dsimp only;rw[List.length_append];exact⟨rfl,by show(((p.L i).out.S.length+1:Nat):Int)<=_;omega,by show _<=(((p.L i).out.S.length+1:Nat):Int);omega⟩
  ·rw[b.out];exact⟨rfl,by omega,by omega⟩
theorem inv_g{x:Wo}(h:Inv x){i:Nat}(d:i<2):(0<=nU x i/\0<=(x.p.L i).out.g)/\(0<=(x.c i).out.g/\(x.c i).out.g<=((x.c i).out.S.length:Int)):=by
 have a:=(z1A _).1 (h.gp.lk i d).out;have b:=(z1A _).1 (h.gc i d).out;unfold nU;omega
theorem pt1_pos{x:Wo}(h:Inv x){i:Nat}(a:i<2):0<=pt1 x i:=by
 have:=inv_g h a;unfold pt1
 split <;> omega
theorem pt_do{x:Wo}(h:Inv x)(d:Dd){i:Nat}(r:i<2):pt1 (doW x d).1 i<=pt1 x i+2/\nT (doW x d).1 i<=nT x i+1/\(7<=d.k/\d.k<=10∨d.k=5->pt1 (doW x d).1 i<=pt1 x i/\nT (doW x d).1 i<=nT x i):=by
 have g:=inv_g h r;have w:=pt1_pos h r;have f:=fl_do h d i;generalize (doW x d).1=y at f;cases f with
 | same q =>
  have e:pt1 y i=pt1 x i/\nT y i=nT x i:=by
   unfold pt1 nT nU;rw[q.lo,q.pd,q.rp,q.out,q.on];exact⟨rfl,rfl⟩
  omega
 | off a b c d e f g' =>
  have e:pt1 y i<=pt1 x i/\nT y i=nT x i:=by
   unfold pt1 nT nU;rw[a,b,c,d,e,f,g',if_neg (by simp)]
   refine⟨?_,rfl⟩
   split <;> omega
  omega
 | q1J k6 a b c =>
  have l:=end_len b r
  have e:pt1 y i<=pt1 x i+2/\nT y i<=nT x i+1:=by
   unfold pt1 nT nU;rw[c,a];omega
  omega
 | beg k4 a b c =>
  have e:pt1 y i=2/\nT y i=0:=by
   unfold pt1 nT nU;rw[b,c];exact⟨rfl,rfl⟩
  unfold nT at *;omega
 | cons a b =>
  have l:=done_len { x.c i with h:=(x.c i).h+1,t:=x.ck}
  have o:=z4O { x.c i with h:=(x.c i).h+1,t:=x.ck}
  rw[<-b]at l o;dsimp only at l o
  have e:pt1 y i=pt1 x i/\nT y i=nT x i:=by
   unfold pt1 nT nU;rw[a,o.1,o.2.2.2,l.2];simp only[List.length_nil];omega
  omega
 | del n s q a b c e f =>
  have A:=(List.getElem?_eq_some_iff.1 c).1;have u:y.p.L i={ x.p.L i with out:={ (x.p.L i).out with g:=(x.p.L i).out.g+1}}:=by rw[e];exact z2u _ _ _
  have e:pt1 y i<=pt1 x i/\nT y i=nT x i:=by
   unfold pt1 nT nU;rw[u,f];simp only[List.length_append,List.length_cons,List.length_nil];omega
  omega
 | bk n s q a b c e f =>
  have u:y.p.L i=x.p.L i:=by rw[e]
  have e:pt1 y i<=pt1 x i/\nT y i=nT x i:=by
   unfold pt1 nT nU;rw[u,f];dsimp only;omega
  omega
 | acc k j v m z a b c d' e f g' h' =>
  have l:(Ln.z4C (x.c i).out (Cd.encS k j v m [] []) (x.ck+40)).g=(x.c i).out.g/\((Ln.z4C (x.c i).out (Cd.encS k j v m [] []) (x.ck+40)).S.length:Int)<=((x.c i).out.S.length:Int)+1/\((x.c i).out.S.length:Int)<=((Ln.z4C (x.c i).out (Cd.encS k j v m [] []) (x.ck+40)).S.length:Int):=by
   unfold Ln.z4C
   split
   ·dsimp only;rw[List.length_append];exact⟨rfl,by show(((x.c i).out.S.length+1:Nat):Int)<=_;omega,by show _<=(((x.c i).out.S.length+1:Nat):Int);omega⟩
   ·exact⟨rfl,by omega,by omega⟩
  rw[<-h']at l
  have e:pt1 y i<=pt1 x i+1/\nT y i<=nT x i+1:=by
   unfold pt1 nT nU;rw[a,d',f,g',l.1];generalize (if(x.c i).on=true then 2 else 0:Int)=bb;omega
  exact⟨by omega,by omega,λq=>absurd q z⟩
structure RA(c:Cs)(l:Pws)(y:Cs):Prop where
 cl:y.out.cl=c.out.cl
 t:y.t=c.t
 sub:∀r∈y.rp,r∈l
 S:∃T,y.out.S=c.out.S++T/\(∀s∈T,Cd.z4x (Cd.bs s)=0/\(z0X (Cd.bs s)).k=2)/\∀r∈l,r∈y.rp∨∃s∈T,(z0X (Cd.bs s)).i=r.1
theorem ripe_ra:∀(l:Pws) (c:Cs),RA c l (z1R c l)
 | [],c=>⟨rfl,rfl,λ_ h=>h,[],by show c.out.S=_;simp,λ_ h=>(by cases h),λ_ h=>(by cases h)⟩
 | x :: l,c=>by
  have a:RA c (x :: l) { c with rp:=x :: l}:=⟨rfl,rfl,λ_ h=>h,[],by show c.out.S=_;simp,λ_ h=>(by cases h),λ_ h=>.inl h⟩
  unfold z1R
  split
  ·split
   ·rename_i h0;have h:=ripe_ra l (z2o c 2 x.1 0 0 c.t).1;have h2:=say_len _ _ _ _ _ _ h0;have g:(z2o c 2 x.1 0 0 c.t).1.t=c.t:=by unfold z2o;split <;> rfl
    obtain⟨T,e,i,d⟩:=h.S;have j:=(q4q h2.2.2.2).1;have f:=z9b h2.2.2.2;refine⟨h.cl.trans h2.2.2.1,h.t.trans g,λr d=>List.mem_cons_of_mem _ (h.sub r d),Cd.encS 2 x.1 0 0 [] [] :: T,by rw[e,h2.1,List.append_assoc];rfl,λs hs=>?_,λr b=>?_⟩
    ·rcases List.mem_cons.1 hs with rfl|hs
     ·exact⟨j,by rw[f]⟩
     ·exact i s hs
    ·rcases List.mem_cons.1 b with rfl|b
     ·exact .inr ⟨_,List.mem_cons_self,by rw[f]⟩
     ·rcases d r b with q|⟨s,hs,q⟩
      ·exact .inl q
      ·exact .inr ⟨s,List.mem_cons_of_mem _ hs,q⟩
   ·exact a
  ·exact a
theorem takes_all:∀(l:List Pkt) (c:Cs),(l.foldl takeC c).t=c.t/\(l.foldl takeC c).out=c.out/\(∀r∈c.rp,r∈(l.foldl takeC c).rp)/\(∀q∈l,(q.i,c.t+15)∈(l.foldl takeC c).rp)/\∀r∈(l.foldl takeC c).rp,r∈c.rp∨(r.2=c.t+15/\∃q∈l,r.1=q.i)
 | [],c=>⟨rfl,rfl,λ_ h=>h,λ_ h=>(by cases h),λ_ h=>.inl h⟩
 | q :: l,c=>by
  obtain⟨h1,h2,h3,d,f⟩:=takes_all l (takeC c q);refine⟨h1,h2,λr b=>h3 r (List.mem_append.2 (.inl b)),λp hp=>?_,λr b=>?_⟩
  ·rcases List.mem_cons.1 hp with rfl|hp
   ·exact h3 _ (List.mem_append.2 (.inr (List.mem_singleton.2 rfl)))
   ·exact d p hp
  ·rcases f r b with b|⟨a,p,hp,e⟩
   ·rcases List.mem_append.1 (show r∈c.rp++[(q.i,c.t+15)] from b)with b|b
    ·exact .inl b
    ·rw[List.mem_singleton.1 b];exact .inr ⟨rfl,q,List.mem_cons_self,rfl⟩
   ·exact .inr ⟨a,p,List.mem_cons_of_mem _ hp,e⟩
structure DA(c y:Cs):Prop where
 on:y.on=c.on
 cl:y.out.cl=c.out.cl
 t:y.t=c.t
 g:y.out.g=c.out.g
 pd:y.pd=[]
 sub:∀r∈y.rp,r∈c.rp∨(r.2=c.t+15/\∃q∈c.pd,r.1=q.i)
 S:∃T,y.out.S=c.out.S++T/\(∀s∈T,Cd.z4x (Cd.bs s)=0/\(z0X (Cd.bs s)).k=2)/\(∀r∈c.rp,r∈y.rp∨∃s∈T,(z0X (Cd.bs s)).i=r.1)/\∀q∈c.pd,(q.i,c.t+15)∈y.rp∨∃s∈T,(z0X (Cd.bs s)).i=q.i
theorem done_da(c:Cs):DA c (z2K c):=by
 have h:=ripe_ra (z1w c).rp { z1w c with pd:=[]}
 obtain⟨h1,h2,h3,f,g⟩:=takes_all c.pd c;have a:=z4O c;have i:=done_len c;obtain⟨T,e,j,d⟩:=h.S;refine⟨a.1,h.cl.trans (by show(z1w c).out.cl=_;unfold z1w;rw[h2]),h.t.trans h1,i.2,a.2.2.2,λr a=>g r (h.sub r a),T,e.trans (by show(z1w c).out.S++T=_;unfold z1w;rw[h2]),j,λr a=>d r (h3 r a),λq b=>d _ (f q b)⟩
def Acc(x:Wo)(i:Nat)(h:Int):Prop:=
 (∃q∈pkS ((x.p.L i).out.S.drop (x.p.L i).out.g.toNat),h<=q.i)∨(∃q∈(x.c i).pd,h<=q.i)∨(∃r∈(x.c i).rp,h<=r.1)∨(∃s∈(x.c i).out.S.drop (x.c i).out.g.toNat,(z0X (Cd.bs s)).k=2/\h<=(z0X (Cd.bs s)).i)∨∃a∈x.p.q,a.1=(i:Int)/\a.2.k=2/\h<=a.2.i
def AC(x:Wo)(i:Nat)(h:Int):Prop:=(x.p.L i).fresh=true∨Acc x i h
theorem mem_drop_app{α:Type}{l T:List α}{n:Nat}(b:n<=l.length){a:α}:a∈(l++T).drop n↔a∈l.drop n∨a∈T:=by
 rw[List.drop_append,show n - l.length=0 by omega,List.drop_zero]
 exact List.mem_append
theorem mem_drop_succ{α:Type}{l:List α}{n:Nat}{s:α}(h:l[n]?=some s){a:α}(b:a∈l.drop n):a=s∨a∈l.drop (n+1):=by
 have q:=List.getElem?_eq_some_iff.1 h;rw[List.drop_eq_getElem_cons q.1,q.2]at b;exact List.mem_cons.1 b
theorem ac_fl{kd:Int}{x y:Wo}{i:Nat}(F:Inv x)(G:i<2)(K:kd≠6)(f:Fl kd x y i)(l:(x.c i).on=true)(o:(y.c i).on=true){h:Int}(a:AC x i h):AC y i h:=by
 have g:=inv_g F G;have gl:=(z1A _).1 (F.gc i G).out;cases f with
 | same q =>
  rcases a with a|a|a|a|a|a
  ·exact .inl (q.fr a)
  ·exact .inr (.inl (by rw[q.lo];exact a))
  ·exact Z2 (.inl (by rw[q.pd];exact a))
  ·exact Z3 (.inl (by rw[q.rp];exact a))
  ·exact Z4 (.inl (by rw[q.out];exact a))
  ·obtain⟨b,hb,e,r⟩:=a;exact Z5 ⟨b,q.q b hb e,e,r⟩
 | off b _ _ _ _ _ _=>rw[b]at o;cases o
 | q1J b _ _ _=>exact absurd b K
 | beg _ b _ _=>rw[b]at l;cases l
 | cons e1 e2 =>
  have D:=done_da { x.c i with h:=(x.c i).h+1,t:=x.ck}
  rw[<-e2]at D;obtain⟨T,B,M,H,hp⟩:=D.S;dsimp only at H hp B;have d:(y.c i).out.g=(x.c i).out.g:=D.g
  have back:∀z:Int,h<=z->(∃s∈T,(z0X (Cd.bs s)).i=z)->AC y i h:=λz N ⟨s,hs,e⟩=>by
   refine Z4 (.inl ⟨s,?_,(M s hs).2,by rw[e];exact N⟩)
   rw[B,d];exact(mem_drop_app (by omega)).2 (.inr hs)
  rcases a with a|a|⟨q,w,a⟩|⟨r,C,a⟩|⟨s,hs,a⟩|a
  ·exact .inl (by rw[e1];exact a)
  ·exact .inr (.inl (by rw[e1];exact a))
  ·rcases hp q w with b|b
   ·exact Z3 (.inl ⟨_,b,a⟩)
   ·exact back _ a b
  ·rcases H r C with b|b
   ·exact Z3 (.inl ⟨_,b,a⟩)
   ·exact back _ a b
  ·refine Z4 (.inl ⟨s,?_,a⟩);rw[B,d];exact(mem_drop_app (by omega)).2 (.inl hs)
  ·exact Z5 (by rw[e1];exact a)
 | del n s q w d hs e1 e2 =>
  have A:y.p.L i={ x.p.L i with out:={ (x.p.L i).out with g:=(x.p.L i).out.g+1}}:=by rw[e1];exact z2u _ _ _
  have E:y.p.q=x.p.q:=by rw[e1]
  rcases a with a|⟨p,hp,a⟩|⟨p,hp,a⟩|a|a|a
  ·exact .inl (by rw[A];exact a)
  ·unfold pkS at hp;obtain⟨u,hu,rfl⟩:=List.mem_map.1 hp;rw[d]at hu
   rcases mem_drop_succ hs hu with rfl|hu
   ·exact Z2 (.inl ⟨q,by rw[e2];exact List.mem_append.2 (.inr (List.mem_singleton.2 rfl)),by rw[<-w];exact a⟩)
   ·refine .inr (.inl ⟨_,List.mem_map.2 ⟨u,?_,rfl⟩,a⟩);rw[A];dsimp only;rw[d,show((n:Int)+1).toNat=n+1 by omega]
    exact hu
  ·exact Z2 (.inl ⟨p,by rw[e2];exact List.mem_append.2 (.inl hp),a⟩)
  ·exact Z3 (.inl (by rw[e2];exact a))
  ·exact Z4 (.inl (by rw[e2];exact a))
  ·exact Z5 (by rw[E];exact a)
 | bk n s q w d hs e1 e2 =>
  have A:y.p.L i=x.p.L i:=by rw[e1]
  rcases a with a|a|a|a|⟨u,hu,a⟩|⟨b,hb,a⟩
  ·exact .inl (by rw[A];exact a)
  ·exact .inr (.inl (by rw[A];exact a))
  ·exact Z2 (.inl (by rw[e2];exact a))
  ·exact Z3 (.inl (by rw[e2];exact a))
  ·rw[d]at hu
   rcases mem_drop_succ hs hu with rfl|hu
   ·exact Z5 ⟨((i:Int),q),by rw[e1];exact List.mem_append.2 (.inr (List.mem_singleton.2 rfl)),rfl,by rw[<-w];exact a⟩
   ·refine Z4 (.inl ⟨u,?_,a⟩);rw[e2];dsimp only;rw[d,show((n:Int)+1).toNat=n+1 by omega]
    exact hu
  ·exact Z5 ⟨b,by rw[e1];exact List.mem_append.2 (.inl hb),a⟩
 | acc k j v m z e1 hgd hk _ _ e2 e3 e4 =>
  rcases a with a|a|a|a|⟨u,hu,a⟩|a
  ·exact .inl (by rw[e1];exact a)
  ·exact .inr (.inl (by rw[e1];exact a))
  ·exact Z2 (.inl (by rw[e2];exact a))
  ·exact Z3 (.inl (by rw[e3];exact a))
  ·refine Z4 (.inl ⟨u,?_,a⟩);rw[e4];unfold Ln.z4C
   split
   ·dsimp only;exact(mem_drop_app (by omega)).2 (.inl hu)
   ·exact hu
  ·exact Z5 (by rw[e1];exact a)
structure ZC(x:Wo)(i:Nat):Prop where
 cl:(x.c i).out.cl=false
 bk:∀s∈(x.c i).out.S,Cd.z4x (Cd.bs s)=0/\(z0X (Cd.bs s)).k≠1
 due:∀r∈(x.c i).rp,r.2<=(x.c i).t+15
theorem zc_fl{kd:Int}{x y:Wo}{i:Nat}(o:Inv x)(p:i<2)(f:Fl kd x y i)(h:(x.c i).on=true->ZC x i)(a:(y.c i).on=true):ZC y i:=by
 cases f with
 | same q =>
  have Z:=h (q.on.symm.trans a);exact⟨by rw[q.out];exact Z.cl,by rw[q.out];exact Z.bk,by rw[q.rp,q.t];exact Z.due⟩
 | off b _ _ _ _ _ _=>rw[b]at a;cases a
 | q1J _ e _ _=>rw[e]at a;exact⟨by rw[e];exact(h a).cl,by rw[e];exact(h a).bk,by rw[e];exact(h a).due⟩
 | beg _ b _ e=>exact⟨by rw[e];rfl,λs hs=>(by rw[e]at hs;cases hs),λr d=>(by rw[e]at d;cases d)⟩
 | cons e1 e2 =>
  have D:=done_da { x.c i with h:=(x.c i).h+1,t:=x.ck}
  rw[<-e2]at D;have Z:=h (D.on.symm.trans a);obtain⟨T,u,l,-,-⟩:=D.S;refine⟨D.cl.trans Z.cl,λs hs=>?_,λr d=>?_⟩
  ·rw[u]at hs
   rcases List.mem_append.1 hs with hs|hs
   ·exact Z.bk s hs
   ·exact⟨(l s hs).1,by rw[(l s hs).2];decide⟩
  ·have w:=o.ct i p;rw[D.t];dsimp only
   rcases D.sub r d with q|⟨q,-⟩
   ·have:=Z.due r q;omega
   ·dsimp only at q;omega
 | del n s q hq hg hs e1 e2 =>
  have Z:=h (by rw[e2]at a;exact a)
  exact⟨by rw[e2];exact Z.cl,by rw[e2];exact Z.bk,by rw[e2];exact Z.due⟩
 | bk n s q hq hg hs e1 e2 =>
  have Z:=h (by rw[e2]at a;exact a)
  exact⟨by rw[e2];exact Z.cl,by rw[e2];exact Z.bk,by rw[e2];exact Z.due⟩
 | acc k j v m z e1 hgd hk e0 et e2 e3 e4 =>
  have Z:=h (e0.symm.trans a)
  have g:(Ln.z4C (x.c i).out (Cd.encS k j v m [] []) (x.ck+40)).cl=false/\∀s∈(Ln.z4C (x.c i).out (Cd.encS k j v m [] []) (x.ck+40)).S,Cd.z4x (Cd.bs s)=0/\(z0X (Cd.bs s)).k≠1:=by
   unfold Ln.z4C
   split
   ·refine⟨Z.cl,λs hs=>?_⟩
    rcases List.mem_append.1 hs with hs|hs
    ·exact Z.bk s hs
    ·rw[List.mem_singleton.1 hs];exact⟨(q4q hgd).1,by rw[z9b hgd];exact hk⟩
   ·exact⟨Z.cl,Z.bk⟩
  rw[<-e4]at g;exact⟨g.1,g.2,by rw[e3,et];exact Z.due⟩
theorem quiet_on{p:Pr}{x:Lk}(h:z5q p x=true)(ho:x.on=true):x.fresh=false/\x.done=[]:=by
 unfold z5q at h;rw[ho]at h;simp only[Bool.not_true,Bool.false_or,Bool.and_eq_true,decide_eq_true_eq,Bool.not_eq_true',List.length_eq_zero_iff]at h;exact⟨h.1.2,h.2⟩
theorem tell_oq{p:Pr}{c:Nat}(b:Cd.z0n 1 p.h 0 0 (Df.z3v (p.L c).told p.set) (p.L c).done=0)(hs:Ln.z5O (p.L c).out (p.t+40)=0):((z1t p c).L c=p.L c/\z5q p (p.L c)=true)∨Pv.Told p.h p.t p.set (p.L c) ((z1t p c).L c):=by
 rcases q2I p c with h|h
 ·by_cases a:z5q p (p.L c)=true
  ·exact .inl ⟨h,a⟩
  ·refine .inr ?_;unfold z1t;rw[if_neg a,if_pos b,if_pos hs];refine⟨?_,b,hs,?_⟩
   ·cases ho:(p.L c).on
    ·exact absurd (by unfold z5q;rw[ho];rfl) a
    ·rfl
   ·show z0P p.L c _ c=_
    unfold z0P;rw[if_pos rfl]
 ·exact .inr h
theorem end_tolq{p:Pr}{now:Int}(a:z0o p=true/\isT now=true/\p.t<=now){c:Nat}(hc:c<2)(l:(p.L c).out.cl=false)(e:(p.L c).out.S.length<400)(m:(p.L c).on=true) :
  ∃z,z5l (p.L c) z/\(((endP p now).1.L c=z/\(z.fresh=false/\z.done=[]))∨Pv.Told (p.h+1) now (endP p now).1.set z ((endP p now).1.L c)):=by
 have s:(endP p now).1=z1t (z1t (z3l (z0q (z0y p now)) now) 0) 1:=by unfold endP;rw[if_pos a]
 have o:=z3a a;rw[s]at o⊢;have hs:=z9j (z0y p now);have u:=z8e a.1 now;have d:=(z6o p).1 a.1;have w:=(z9X now).1 a.2.1;have i:(z3l (z0q (z0y p now)) now).h=p.h+1:=hs.h;have j:(z3l (z0q (z0y p now)) now).t=now:=hs.t;obtain⟨b1,b2,-,k,-,-,-⟩:=z6i (z3l (z0q (z0y p now)) now) 0;obtain⟨-,-,-,q,-,-,-⟩:=z6i (z1t (z3l (z0q (z0y p now)) now) 0) 1;have z:z5l (p.L c) ((z0q (z0y p now)).L c):=hs.lk c;have v:=u.2 c hc;have f:=o.z2W;rw[q,k]at f;have r:Cd.z0n 1 (p.h+1) 0 0 (Df.z3v ((z0q (z0y p now)).L c).told (z3l (z0q (z0y p now)) now).set) ((z0q (z0y p now)).L c).done=0:=j0u (by have:=d.h0;omega) (by have:=d.h1;omega) f v
 have g:Ln.z5O ((z0q (z0y p now)).L c).out (now+40)=0:=j2w (by rw[z.out];exact(d.lk c hc).out) (by rw[z.out];exact l) (by rw[z.out];exact e) (by omega)
 have b:((z0q (z0y p now)).L c).on=true:=z.on.trans m;refine⟨_,z,?_⟩;rw[q,k]
 rcases(show c=0∨c=1 by omega)with rfl|rfl
 ·rw[z6j _ 1 0 (by omega)]
  have h:=tell_oq (p:=z3l (z0q (z0y p now)) now) (c:=0) (by rw[i];exact r) (by rw[j];exact g)
  rw[i,j]at h
  rcases h with h|h
  ·exact .inl ⟨h.1,quiet_on h.2 b⟩
  ·exact .inr h
 ·have n:(z1t (z3l (z0q (z0y p now)) now) 0).L 1=(z0q (z0y p now)).L 1:=z6j _ 0 1 (by omega)
  have h:=tell_oq (p:=z1t (z3l (z0q (z0y p now)) now) 0) (c:=1) (by rw[n,b1,k,i];exact r) (by rw[n,b2,j];exact g)
  rw[b1,b2,k,n,i,j]at h
  rcases h with h|h
  ·exact .inl ⟨h.1,quiet_on (p:=z1t (z3l (z0q (z0y p now)) now) 0) h.2 b⟩
  ·exact .inr h
theorem ti_stp{H:Int->Pws}{x y:Wo}{i:Nat}(w:Inv x)(hd:x.p.h<400)(M:i<2)(h:(x.c i).on=true->TI H x i)(U:H x.p.h=x.p.set)(l:(y.c i).on=true)(t:Tr x y i):TI (j4i H y.p.h y.p.set) y i:=by
 have o:y.p.h=x.p.h->y.p.set=x.p.set->j4i H y.p.h y.p.set=H:=λj r=>by
  funext k
  unfold j4i
  split
  ·rename_i e;rw[e,j,r,U]
  ·rfl
 cases t with
 | off _ _ a=>rw[a]at l;cases l
 | same q =>
  rw[o q.h q.set];have T:=h (q.con.symm.trans l);refine⟨by rw[q.out];exact T.cl,by rw[q.out,q.h];exact T.len,by rw[q.told,q.set];exact T.told,by rw[q.out];exact T.dec,?_⟩
  rw[q.out,q.h,q.set,q.cset,q.id,q.pd];exact T.ch
 | q1J ec E ep =>
  have T:=h (by rw[<-ec];exact l)
  have N:z0o x.p=true/\isT x.ck=true/\x.p.t<=x.ck:=⟨(z6o _).2 w.gp,(z9X _).2 ⟨w.k0,by have:=w.k1;omega⟩,w.pt⟩
  have X:=T.len;have V:=(z1A _).1 (w.gp.lk i M).out;obtain⟨z,A,hc⟩:=j2X N M T.cl (by omega) ((w.on i M).1.symm.trans (by rw[<-ec];exact l))
  rw[<-ep]at hc
  have F:∀k,k<=x.p.h->j4i H y.p.h y.p.set k=H k:=λk Y=>by
   unfold j4i;rw[if_neg (by rw[E.h];omega)]
  rcases hc with⟨j,r⟩|t
  ·have B:y.p.set=x.p.set:=by rw[<-r,A.told,T.told]
   refine⟨by rw[j,A.out];exact T.cl,by rw[j,A.out,E.h];omega,by rw[j];exact r,by rw[j,A.out];exact T.dec,?_⟩
   rw[j,A.out,ec];have:=T.ch.keep (h':=y.p.h) (by rw[E.h];omega) F
   rw[<-B]at this;exact this
  ·have j:=t.eq;obtain⟨W,-⟩:=q4q t.good;have P:=z9b t.good
   have K:(y.p.L i).out=⟨(x.p.L i).out.S++[Cd.encS 1 (x.p.h+1) 0 0 (Df.z3v z.told y.p.set) z.done],(x.p.L i).out.D++[x.ck+40],(x.p.L i).out.g,(x.p.L i).out.cl⟩:=by
    rw[j]
    show Ln.z4C z.out _ (x.ck+40)=_
    unfold Ln.z4C;rw[if_pos t.say,A.out]
   have Q:Df.z2F x.p.set (Df.z3v z.told y.p.set)=y.p.set:=by
    rw[A.told,T.told];exact q7l w.gp.set E.z2W
   have R:(y.p.L i).told=y.p.set:=by rw[j]
   clear j;generalize Cd.encS 1 (x.p.h+1) 0 0 (Df.z3v z.told y.p.set) z.done=s at *;refine⟨by rw[K];exact T.cl,by rw[K,E.h];simp only[List.length_append,List.length_cons,List.length_nil];omega,R,λm u C hu=>?_,?_⟩
   ·rw[K]at C hu;dsimp only at C hu
    by_cases v:m<(x.p.L i).out.S.length
    ·rw[List.getElem?_append_left v]at hu;exact T.dec m u C hu
    ·rw[List.getElem?_append_right (by omega)]at hu
     have:m - (x.p.L i).out.S.length=0:=by
      have:=(List.getElem?_eq_some_iff.1 hu).1
      simp at this
      omega
     rw[this]at hu;cases hu;exact⟨W,by rw[P]⟩
   ·rw[K,ec];dsimp only;rw[q9O _ _ _ (by omega)]
    unfold pkS;rw[List.map_append,<-List.append_assoc];refine Ch.snoc (h:=x.p.h) (h':=y.p.h) (fin:=x.p.set) (by rw[E.h];omega) ?_ ?_ ?_ F T.ch
    ·show(z0X (Cd.bs s)).i=_
     rw[P,E.h]
    ·show Df.z2F x.p.set (z0X (Cd.bs s)).S=_
     rw[P];exact Q
    ·unfold j4i;rw[if_pos rfl]
 | beg a b c d e f g =>
  rw[o d e];refine⟨by rw[f];rfl,by rw[f,d];show((0:Nat):Int)<=_;omega,by rw[f,e];rfl,λn s _ hs=>?_,?_⟩
  ·rw[f]at hs
   simp[z6M]at hs
  ·rw[f,g,d,e];exact⟨U,Int.le_refl _,rfl⟩
 | cons j r =>
  rw[o (by rw[j]) (by rw[j])]
  have G:=z4O { x.c i with h:=(x.c i).h+1,t:=x.ck}
  rw[<-r]at G;have T:=h (G.1.symm.trans l);refine⟨by rw[j];exact T.cl,by rw[j];exact T.len,by rw[j];exact T.told,by rw[j];exact T.dec,?_⟩
  rw[j,G.2.1,G.2.2.1,G.2.2.2];exact(Ch.take T.ch).1
 | del n s q hq hg hs j r B e4 =>
  rw[o j r];have T:=h (by rw[e4]at l;exact l)
  refine⟨by rw[B];exact T.cl,by rw[B,j];exact T.len,by rw[B,r];exact T.told,λm s C hs=>?_,?_⟩
  ·rw[B]at C hs;exact T.dec m s (by dsimp only at C;omega) hs
  ·rw[B,e4,j,r];have c:=T.ch;dsimp only;rw[hg]at c⊢;rw[show((n:Int)+1).toNat=n+1 by omega]
   rw[show(n:Int).toNat=n from rfl]at c;have v:=(List.getElem?_eq_some_iff.1 hs);rw[List.drop_eq_getElem_cons v.1,v.2]at c;unfold pkS at c⊢;rw[List.map_cons,hq]at c;rw[List.append_assoc];exact c
structure ZZ(x:Wo):Prop where
 mn:x.p.mn<=x.p.t+10
 zc:∀i,i<2->(x.c i).on=true->ZC x i
 ho:∀i,i<2->∀u∈x.p.s.W,z1M i u≠0->(x.p.L i).on=true/\AC x i (z1M i u)
 hb:∀i,i<2->∀u∈x.p.s.W,z1M i u<=x.p.h+1
 du:∀u∈x.p.s.W,u.due<=x.ck+20
def NewH(y:Wo)(i:Nat)(v:Wt):Prop:=(y.p.L i).on=true/\(y.p.L i).fresh=true/\z1M i v=y.p.h+1
structure VW(x y:Wo):Prop where
 h:y.p.h=x.p.h
 ck:x.ck<=y.ck
 mn:y.p.mn=x.p.mn
 t:y.p.t=x.p.t
 w:∀v∈y.p.s.W,(∃u∈x.p.s.W,v.due=u.due/\∀i,i<2->z1M i v=0∨(z1M i v=z1M i u/\(y.p.L i).on=(x.p.L i).on)∨NewH y i v)∨(v.due<=y.ck+20/\∀i,i<2->z1M i v=0∨NewH y i v)
theorem VW.map{x y:Wo}{F:Wt->Wt}(h:y.p.h=x.p.h)(ck:x.ck<=y.ck)(mn:y.p.mn=x.p.mn)(t:y.p.t=x.p.t)(on:∀i,i<2->(y.p.L i).on=(x.p.L i).on)(e:y.p.s.W=x.p.s.W.map F)(a:∀u,(F u).due=u.due/\∀i,i<2->z1M i (F u)=z1M i u):VW x y:=
 ⟨h,ck,mn,t,λv b=>by
  rw[e]at b;obtain⟨u,hu,rfl⟩:=List.mem_map.1 b
  exact .inl ⟨u,hu,(a u).1,λi c=>.inr (.inl ⟨(a u).2 i c,on i c⟩)⟩⟩
theorem VW.same{x y:Wo}(h:y.p.h=x.p.h)(ck:x.ck<=y.ck)(mn:y.p.mn=x.p.mn)(t:y.p.t=x.p.t)(on:∀i,i<2->(y.p.L i).on=(x.p.L i).on)(e:y.p.s.W=x.p.s.W):VW x y:=
 VW.map (F:=id) h ck mn t on (by simpa using e) λ_=>⟨rfl,λ_ _=>rfl⟩
theorem VW.refl(x:Wo):VW x x:=VW.same rfl (Int.le_refl _) rfl rfl (λ_ _=>rfl) rfl
theorem sl_hold(v a f:Int)(u:Wt):(slX v a f u).due=u.due/\∀i,i<2->z1M i (slX v a f u)=z1M i u:=by
 have h:=z4q v a f u;exact⟨h.2.2.2.2.1,λi _=>by unfold z1M;rw[h.2.1,h.2.2.1]⟩
theorem undel_mn(p:Pr)(d v n now:Int):(z1f p d v n now).1.mn=p.mn:=by
 unfold z1f
 repeat' split
 all_goals rfl
theorem vw_at(x:Wo)(d:Dd):VW x (atP x d).1:=by
 unfold atP
 split
 ·dsimp only;rw[z5c];refine VW.same rfl (Int.le_refl _) rfl rfl (λ_ _=>rfl) ?_;dsimp only;unfold z1T
  split
  ·exact q4k _ _ _ _
  ·rfl
 ·split
  ·dsimp only
   have key:(z1f x.p d.d d.v d.n x.ck).1.s.W=x.p.s.W∨((z1f x.p d.d d.v d.n x.ck).1.L=z1u x.p.L/\∃a w,(z1f x.p d.d d.v d.n x.ck).1.s.W=x.p.s.W++[{ z8O x.p x.ck with num:=a,d:=d.d,v:=d.v,amt:=w}]):=by
    unfold z1f
    split
    ·split
     ·dsimp only;unfold z0N
      repeat' split
      all_goals first|exact .inl rfl|exact .inr ⟨rfl,_,_,rfl⟩
     ·exact .inl rfl
    ·exact .inl rfl
   have e:=z4W x.p d.d d.v d.n x.ck
   have on:∀i,i<2->((z1f x.p d.d d.v d.n x.ck).1.L i).on=(x.p.L i).on:=λi _=>by
    rcases e.2.2.2.2 with l|l
    ·rw[l]
    ·rw[l];exact(z2Z _ _).1
   rcases key with k|⟨l,a,w,k⟩
   ·exact VW.same e.1 (Int.le_refl _) (undel_mn _ _ _ _ _) e.2.1 on k
   ·refine⟨e.1,Int.le_refl _,undel_mn _ _ _ _ _,e.2.1,λv b=>?_⟩;dsimp only at b;rw[k]at b
    rcases List.mem_append.1 b with b|b
    ·exact .inl ⟨v,b,rfl,λi c=>.inr (.inl ⟨rfl,on i c⟩)⟩
    ·rw[List.mem_singleton.1 b];refine .inr ⟨Int.le_refl _,λi c=>?_⟩
     have hh:z1M i { z8O x.p x.ck with num:=a,d:=d.d,v:=d.v,amt:=w}=z2i x.p i:=by
      rcases(show i=0∨i=1 by omega)with rfl|rfl <;> rfl
     unfold NewH;dsimp only;rw[hh,l,e.1];unfold z2i;cases ho:(x.p.L i).on
     ·exact .inl rfl
     ·refine .inr ⟨(z2Z _ _).1.trans ho,?_,rfl⟩;unfold z1u;rw[if_pos ho]
  ·split
   ·exact VW.same rfl (Int.le_refl _) rfl rfl (λ_ _=>rfl) (q0E _ _)
   ·dsimp only;unfold z3R
    repeat' split
    all_goals first|exact VW.refl _|exact VW.map (F:=slX _ _ _) rfl (Int.le_refl _) rfl rfl (λ_ _=>rfl) rfl λu=>sl_hold _ _ _ u
theorem vw_begin{x:Wo}(a:ZZ x)(c:Int):VW x (z1X x c).1:=by
 unfold z1X
 split
 ·rename_i hc
  split
  ·rename_i h0;have hb:=q0S hc h0
   have b:c.toNat<2:=by
    unfold isC at hc;simp only[Bool.and_eq_true,decide_eq_true_eq]at hc;omega
   have d:(z0x x.p c).1={ x.p with s:={ x.p.s with W:=x.p.s.W.map (z0V c.toNat (x.p.h+1))},L:=z0P x.p.L c.toNat (z6M x.p)}:=by
    unfold z0x at h0⊢
    repeat' split at h0
    all_goals first|cases h0|skip
    rename_i q1 q3 q4 q5;rw[if_pos q1,if_pos hc,if_neg q3,if_neg q4,if_neg q5]
   rw[d];refine⟨rfl,Int.le_refl _,rfl,rfl,λv f=>?_⟩;obtain⟨u,hu,rfl⟩:=List.mem_map.1 (show v∈x.p.s.W.map _ from f);refine .inl ⟨u,hu,?_,λi g=>?_⟩
   ·unfold z0V
    repeat' split
    all_goals rfl
   ·by_cases e:i=c.toNat
    ·subst e
     by_cases q:u.hei=x.p.h+1
     ·refine Z2 ⟨?_,?_,?_⟩
      ·show(z0P x.p.L _ _ _).on=true
       rw[z2u];rfl
      ·show(z0P x.p.L _ _ _).fresh=true
       rw[z2u]
       show x.p.s.W.any _=true
       exact List.any_eq_true.2 ⟨u,hu,by simpa using q⟩
      ·unfold z0V z1M;rw[if_pos q]
       by_cases h1:c.toNat=0
       ·rw[if_pos h1,if_pos h1]
       ·rw[if_neg h1,if_neg h1]
     ·refine .inl ?_;have:z0V c.toNat (x.p.h+1) u=u:=by unfold z0V;rw[if_neg q]
      rw[this];refine Classical.byContradiction λh=>?_;have:=(a.ho _ b u hu h).1;rw[hb.2.1]at this;cases this
    ·refine .inr (.inl ⟨?_,?_⟩)
     ·unfold z1M z0V
      by_cases q:u.hei=x.p.h+1
      ·rw[if_pos q]
       by_cases h1:c.toNat=0
       ·rw[if_pos h1,if_neg (by omega),if_neg (by omega)]
       ·rw[if_neg h1,if_pos (by omega),if_pos (by omega)]
      ·rw[if_neg q]
     ·show(z0P x.p.L _ _ _).on=_
      rw[z2d _ _ e]
  ·exact VW.refl _
 ·exact VW.refl _
theorem rel_hold(c:Nat)(r:Int)(u:Wt)(hc:c<2){i:Nat}(a:i<2):(i=c->z1M i u<=r->z1M i (z4j c r u)=0)/\(z1M i (z4j c r u)=0∨z1M i (z4j c r u)=z1M i u)/\(i≠c->z1M i (z4j c r u)=z1M i u):=by
 unfold z4j z1M
 rcases(show c=0∨c=1 by omega)with rfl|rfl <;> rcases(show i=0∨i=1 by omega)with rfl|rfl <;> simp <;> split <;> simp_all <;> (intro h;omega)
theorem vw_exp{N:Int}{x:Wo}(n:z2P N x)(o:ZZ x)(j:Nat)(q:j<2)(b:Bool)(k:Int):VW x (z6I x j b k).1:=by
 unfold z6I
 split
 ·dsimp only;generalize Ln.z4N (z0Y x j b) k (z5A x j b) (q2x x j b)=l
  have w:(z1j x j b l).p.h=x.p.h/\(z1j x j b l).p.mn=x.p.mn/\(z1j x j b l).p.t=x.p.t/\(z1j x j b l).p.s=x.p.s/\(z1j x j b l).ck=x.ck/\∀i,((z1j x j b l).p.L i).on=(x.p.L i).on:=by
   cases b
   ·refine⟨rfl,rfl,rfl,rfl,rfl,λi=>?_⟩
    show(z0P x.p.L j _ i).on=_
    unfold z0P
    split
    ·rename_i e;rw[e]
    ·rfl
   ·exact⟨rfl,rfl,rfl,rfl,rfl,λ_=>rfl⟩
  generalize z1j x j b l=z at *;obtain⟨a,c,d,f,A,g⟩:=w;unfold q1X z0j
  split
  ·refine⟨a,by show x.ck<=z.ck;omega,c,d,λv y=>?_⟩
   obtain⟨u,hu,rfl⟩:=List.mem_map.1 (show v∈z.p.s.W.map (z4j j 1099511627776)from y);rw[f]at hu;refine .inl ⟨u,hu,(z3M _ _ _).2.2.2.1,λi m=>?_⟩;have r:=rel_hold j 1099511627776 u q m
   by_cases e:i=j
   ·exact .inl (r.1 e (by have:=o.hb i m u hu;have:=n.gp.h1;omega))
   ·refine .inr (.inl ⟨r.2.2 e,?_⟩)
    show(z0P z.p.L _ _ i).on=_
    rw[z2d _ _ (by simpa using e)]
    exact g i
  ·exact VW.same a (by show x.ck<=z.ck;omega) c d (λi _=>g i) (by dsimp only;rw[f])
 ·exact VW.refl _
theorem vw_with{N:Int}{x:Wo}(n:z2P N x)(o:ZZ x)(j:Nat)(q:j<2)(d:Dd):VW x (z2c x j d).1:=by
 unfold z2c
 split
 ·unfold z3T
  split <;> exact VW.same rfl (Int.le_refl _) rfl rfl (λ_ _=>rfl) rfl
 ·split
  ·unfold z3H
   split
   ·refine VW.same rfl (Int.le_refl _) rfl rfl (λi _=>?_) rfl
    show(z0P x.p.L j _ i).on=_
    unfold z0P
    split
    ·rename_i e;rw[e];rfl
    ·rfl
   ·exact VW.same rfl (Int.le_refl _) rfl rfl (λ_ _=>rfl) rfl
  ·split
   ·unfold z7s
    split
    ·generalize Ln.z5L _ _ _ _ _=l;generalize z0t x j d.b d.f=s
     have hh:(z1B x j d.b s).1.p.h=x.p.h/\(z1B x j d.b s).1.p.mn=x.p.mn/\(z1B x j d.b s).1.p.t=x.p.t/\(z1B x j d.b s).1.p.s=x.p.s/\(z1B x j d.b s).1.ck=x.ck/\(z1B x j d.b s).1.p.L=x.p.L:=by
      unfold z1B
      split
      ·dsimp only;rw[(z5i _ _ _).1];exact⟨rfl,rfl,rfl,rfl,rfl,rfl⟩
      ·exact⟨rfl,rfl,rfl,rfl,rfl,rfl⟩
     split
     ·dsimp only;generalize (z1B x j d.b s).1=z at *;obtain⟨a,c,g,k,r,m⟩:=hh;unfold z1j
      split
      ·exact VW.same a (by show x.ck<=z.ck;omega) c g (λi _=>by dsimp only;rw[m]) (by dsimp only;rw[k])
      ·refine VW.same a (by show x.ck<=z.ck;omega) c g (λi _=>?_) (by dsimp only;rw[k])
       show(z0P z.p.L j _ i).on=_
       rw[m];unfold z0P
       split
       ·rename_i e;rw[e]
       ·rfl
     ·exact VW.same hh.1 (by show x.ck<=(z1B x j d.b s).1.ck;rw[hh.2.2.2.2.1];exact Int.le_refl _) hh.2.1 hh.2.2.1 (λi _=>by rw[hh.2.2.2.2.2]) (by rw[hh.2.2.2.1])
    ·exact VW.refl _
   ·split
    ·exact vw_exp n o j q _ _
    ·dsimp only;unfold z9d
     split <;> exact VW.same rfl (Int.le_refl _) rfl rfl (λ_ _=>rfl) rfl
theorem vw_do{x:Wo}(f:Inv x)(a:ZZ x)(d:Dd)(j:d.k≠6):VW x (doW x d).1:=by
 unfold doW
 split
 ·exact VW.refl _
 ·dsimp only;have cast:∀{y:Wo},VW (z2n x) y->VW x y:=λh=>⟨h.h,h.ck,h.mn,h.t,h.w⟩;have b:ZZ (z2n x):=⟨a.mn,λi e ho=>⟨(a.zc i e ho).cl,(a.zc i e ho).bk,(a.zc i e ho).due⟩,a.ho,a.hb,a.du⟩;unfold z2J
  split
  ·exact cast (vw_at _ _)
  ·split
   ·unfold z4z
    split
    ·exact cast (VW.refl _)
    ·rename_i q;exact VW.same rfl (by show x.ck<=x.ck+d.n;have:¬(d.n<1∨1099511627736 - x.ck<d.n):=q;omega) rfl rfl (λ_ _=>rfl) rfl
   ·split
    ·exact cast (vw_begin b _)
    ·split
     ·split
      ·rename_i hc
       have g:d.c.toNat<2:=by
        have:=hc.1;unfold isC at this;simp only[Bool.and_eq_true,decide_eq_true_eq]at this;omega
       exact cast (vw_with (f.dn _) b _ g d)
      ·exact cast (VW.refl _)
     ·exact cast (VW.refl _)
theorem left_sub(l:List (Int×Pkt)):∀z:QS,∀a∈z.left,a∈(l.foldl z1n z).left:=by
 induction l with
 | nil=>exact λ_ _ h=>h
 | cons b l ih =>
  intro z a c;refine ih _ a ?_;unfold z1n
  split
  ·exact List.mem_append.2 (.inl c)
  ·split
   ·exact c
   ·exact List.mem_append.2 (.inl c)
theorem q_hold:∀(l:List (Int×Pkt)) (z:QS),(∀a∈l,0<=a.1/\a.1<=1)->∀v∈(l.foldl z1n z).p.s.W,∃u∈z.p.s.W,v.due=u.due/\∀i,i<2->z1M i v=0∨(z1M i v=z1M i u/\∀a∈l,a.1=(i:Int)->a.2.k=2->z1M i u<=a.2.i->a∈(l.foldl z1n z).left)
 | [],z,_,v,hv=>⟨v,hv,rfl,λ_ _=>.inr ⟨rfl,λ_ h=>by cases h⟩⟩
 | b :: l,z,hl,v,hv=>by
  rw[List.foldl_cons]at hv⊢;obtain⟨u1,c,g,h1⟩:=q_hold l (z1n z b) (λa f=>hl a (List.mem_cons_of_mem _ f)) v hv;have hb:=hl b List.mem_cons_self
  have key:∃u∈z.p.s.W,u1.due=u.due/\∀i,i<2->z1M i u1=0∨(z1M i u1=z1M i u/\(b.1=(i:Int)->b.2.k=2->z1M i u<=b.2.i->b∈(z1n z b).left)):=by
   unfold z1n at c⊢
   split
   ·rename_i hw;rw[if_pos hw]at c;exact⟨u1,c,rfl,λi _=>.inr ⟨rfl,λ_ _ _=>List.mem_append.2 (.inr (List.mem_singleton.2 rfl))⟩⟩
   ·rename_i hw;rw[if_neg hw]at c
    split
    ·rename_i hd;rw[if_pos hd]at c;dsimp only at c;unfold z1y at c
     split at c
     ·obtain⟨u,hu,rfl⟩:=List.mem_map.1 (show u1∈z.p.s.W.map _ from c);refine⟨u,hu,(z3M _ _ _).2.2.2.1,λi d=>?_⟩;have r:=rel_hold b.1.toNat b.2.i u (by omega) d
      by_cases e:i=b.1.toNat/\z1M i u<=b.2.i
      ·exact .inl (r.1 e.1 e.2)
      ·rcases r.2.1 with q|q
       ·exact .inl q
       ·exact .inr ⟨q,λh _ h'=>absurd ⟨by omega,h'⟩ e⟩
     ·rename_i k2
      have fin:∀F:Wt->Wt,(∀u,(F u).due=u.due/\∀i,i<2->z1M i (F u)=z1M i u)->u1∈z.p.s.W.map F->∃u∈z.p.s.W,u1.due=u.due/\∀i,i<2->z1M i u1=0∨(z1M i u1=z1M i u/\(b.1=(i:Int)->b.2.k=2->z1M i u<=b.2.i->b∈({ z with p:=(z1y z.p b.1.toNat b.2).1}:QS).left)):=λF j t=>by
       obtain⟨u,hu,rfl⟩:=List.mem_map.1 t;exact⟨u,hu,(j u).1,λi d=>.inr ⟨(j u).2 i d,λ_ h=>absurd h k2⟩⟩
      have same:u1∈z.p.s.W->u1∈z.p.s.W.map id:=λh=>by simpa using h
      split at c
      ·split at c
       ·exact fin id (λ_=>⟨rfl,λ_ _=>rfl⟩) (same c)
       ·exact fin (slX _ _ _) (λu=>sl_hold _ _ _ u) c
      ·split at c
       ·exact fin id (λ_=>⟨rfl,λ_ _=>rfl⟩) (same c)
       ·split at c
        ·exact fin id (λ_=>⟨rfl,λ_ _=>rfl⟩) (same c)
        ·exact fin id (λ_=>⟨rfl,λ_ _=>rfl⟩) (same c)
    ·rename_i hd;rw[if_neg hd]at c;exact⟨u1,c,rfl,λi _=>.inr ⟨rfl,λ_ _ _=>List.mem_append.2 (.inr (List.mem_singleton.2 rfl))⟩⟩
  obtain⟨u,hu,hd,h2⟩:=key;refine⟨u,hu,g.trans hd,λi d=>?_⟩
  rcases h1 i d with q|⟨q,q'⟩
  ·exact .inl q
  ·rcases h2 i d with r|⟨r,w⟩
   ·exact .inl (q.trans r)
   ·refine .inr ⟨q.trans r,λa f m n o=>?_⟩
    rcases List.mem_cons.1 f with rfl|f
    ·exact left_sub l _ _ (w m n o)
    ·exact q' a f m n (by rw[r];exact o)
theorem zz_prov{x:Wo}{H:Int->Pws}(m:Inv x)(r:ZZ x)(U:WH H x)(h4:x.p.h<400){y:Wo}(f:z0o x.p=true/\isT x.ck=true/\x.p.t<=x.ck)(n:y.c=x.c)(w:y.p=(endP x.p x.ck).1)(V:y.ck=x.ck):ZZ y:=by
 have E:=z3a f;rw[<-w]at E;have Q:=j9y f;rw[<-w]at Q
 have F:y.p.mn<=y.p.t+10:=by
  rw[E.t,w];have X:(endP x.p x.ck).1=z1t (z1t (z3l (z0q (z0y x.p x.ck)) x.ck) 0) 1:=by unfold endP;rw[if_pos f]
  obtain⟨-,-,-,-,-,Y,-⟩:=z6i (z1t (z3l (z0q (z0y x.p x.ck)) x.ck) 0) 1;obtain⟨-,-,-,-,-,b6,-⟩:=z6i (z3l (z0q (z0y x.p x.ck)) x.ck) 0;rw[X,Y,b6]
  show(z0q (z0y x.p x.ck)).mn<=_
  rw[(z9j (z0y x.p x.ck)).mn]
  show(if x.ck<x.p.mn then x.p.mn else wrap64 (x.ck+10))<=_
  have h0:=m.k0;have h1:=m.k1;have h2:=r.mn;have h3:=f.2.2;rw[z0g (by omega) (by omega)]
  split <;> omega
 have G:∀v∈y.p.s.W,∃u∈x.p.s.W,v.due=u.due/\∀i,i<2->z1M i v=0∨(z1M i v=z1M i u/\∀a∈x.p.q,a.1=(i:Int)->a.2.k=2->z1M i u<=a.2.i->a∈y.p.q):=λv l=>by
  rw[Q]at l;have h:=q_hold x.p.q ⟨z0y x.p x.ck,λ_=>false,[]⟩ (λa A=>⟨(m.gp.q a A).c0,(m.gp.q a A).c1⟩) v (List.mem_filter.1 l).1;rw[E.q];exact h
 refine⟨F,λi d ho=>?_,λi d v l h0=>?_,λi d v l=>?_,λv l=>?_⟩
 ·have K:(x.c i).on=true:=by rw[<-n];exact ho
  have Z:=r.zc i d K;exact⟨by rw[n];exact Z.cl,by rw[n];exact Z.bk,by rw[n];exact Z.due⟩
 ·obtain⟨u,hu,-,h⟩:=G v l;obtain⟨e,hl⟩:=(h i d).resolve_left h0;obtain⟨o,A⟩:=r.ho i d u hu (by rw[<-e];exact h0)
  have T:=U.ti i d ((m.on i d).1.trans o);have tl:=T.len;obtain⟨z,j,hc⟩:=end_tolq f d T.cl (by omega) o
  rw[<-w]at hc;rw[e];have hg:=(z1A _).1 (m.gp.lk i d).out
  have M:(y.p.L i).on=true/\((x.p.L i).fresh=true->∃s,s∈(y.p.L i).out.S.drop (y.p.L i).out.g.toNat/\(z0X (Cd.bs s)).i=x.p.h+1)/\(y.p.L i).out.g=(x.p.L i).out.g/\∀s∈(x.p.L i).out.S.drop (x.p.L i).out.g.toNat,s∈(y.p.L i).out.S.drop (y.p.L i).out.g.toNat:=by
   rcases hc with⟨B,C⟩|t
   ·rw[B,j.out];refine⟨j.on.trans o,λhf=>?_,rfl,λ_ h=>h⟩;have:=j.fresh.trans hf;rw[C.1]at this;cases this
   ·have d2:=z9b t.good
    have N:(y.p.L i).out=⟨(x.p.L i).out.S++[Cd.encS 1 (x.p.h+1) 0 0 (Df.z3v z.told y.p.set) z.done],(x.p.L i).out.D++[x.ck+40],(x.p.L i).out.g,(x.p.L i).out.cl⟩:=by
     rw[t.eq]
     show Ln.z4C z.out _ (x.ck+40)=_
     unfold Ln.z4C;rw[if_pos t.say,j.out]
    refine⟨by rw[t.eq];exact t.on,λ_=>⟨_,?_,by rw[d2]⟩,by rw[N],λs hs=>?_⟩
    ·rw[N];exact(mem_drop_app (by dsimp only;omega)).2 (.inr (List.mem_singleton.2 rfl))
    ·rw[N];exact(mem_drop_app (by dsimp only;omega)).2 (.inl hs)
  refine⟨M.1,?_⟩
  rcases A with a|⟨q,P,a⟩|a|a|a|⟨b,hb,B,C,R⟩
  ·obtain⟨s,hs,e4⟩:=M.2.1 a;exact .inr (.inl ⟨_,List.mem_map.2 ⟨s,hs,rfl⟩,by rw[e4];exact r.hb i d u hu⟩)
  ·obtain⟨s,hs,rfl⟩:=List.mem_map.1 P;exact .inr (.inl ⟨_,List.mem_map.2 ⟨s,M.2.2.2 s hs,rfl⟩,a⟩)
  ·exact Z2 (.inl (by rw[n];exact a))
  ·exact Z3 (.inl (by rw[n];exact a))
  ·exact Z4 (.inl (by rw[n];exact a))
  ·exact Z5 ⟨b,hl b hb B C R,B,C,R⟩
 ·obtain⟨u,hu,-,h⟩:=G v l;have:=r.hb i d u hu;have hh:=m.gp.h0;rw[E.h]
  rcases h i d with q|⟨q,-⟩
  ·omega
  ·omega
 ·obtain⟨u,hu,e,-⟩:=G v l;rw[e,V];exact r.du u hu
theorem zz_vw{kd:Int}{x y:Wo}(c:Inv x)(g:Inv y)(b:ZZ x)(v:VW x y)(f:∀i,i<2->Fl kd x y i)(j:kd≠6):ZZ y:=by
 refine⟨by rw[v.mn,v.t];exact b.mn,λi a ho=>zc_fl c a (f i a) (b.zc i a) ho,λi a u hu h0=>?_,λi a u hu=>?_,λu hu=>?_⟩
 ·rcases v.w u hu with⟨w,hw,-,h⟩|⟨-,h⟩
  ·rcases h i a with q|⟨q,k⟩|q
   ·exact absurd q h0
   ·have ho:=b.ho i a w hw (by rw[<-q];exact h0)
    have d:=k.trans ho.1;rw[q];exact⟨d,ac_fl c a j (f i a) ((c.on i a).1.trans ho.1) ((g.on i a).1.trans d) ho.2⟩
   ·exact⟨q.1,.inl q.2.1⟩
  ·exact⟨((h i a).resolve_left h0).1,.inl ((h i a).resolve_left h0).2.1⟩
 ·have hh:=c.gp.h0;have e:=v.h
  rcases v.w u hu with⟨w,hw,-,h⟩|⟨-,h⟩
  ·have:=b.hb i a w hw
   rcases h i a with q|⟨q,-⟩|q
   ·omega
   ·omega
   ·have:=q.2.2;omega
  ·rcases h i a with q|q
   ·omega
   ·have:=q.2.2;omega
 ·rcases v.w u hu with⟨w,hw,e,-⟩|⟨e,-⟩
  ·have:=b.du w hw;have:=v.ck;omega
  ·exact e
structure GX(x:Wo):Prop where
 inv:Inv x
 zz:ZZ x
 wh:∃H,WH H x
theorem gx_do{x:Wo}(g:GX x)(f:x.p.h<400)(d:Dd):GX (doW x d).1:=by
 obtain⟨H,W⟩:=g.wh;refine⟨j5k g.inv d,?_,_,by show j4i H (doW x d).1.p.h (doW x d).1.p.set _=_;unfold j4i;rw[if_pos rfl],λi a b=>ti_stp g.inv f a (W.ti i a) W.now b (j1U g.inv d i)⟩
 by_cases c:d.k=6
 ·have j:=j5k g.inv d
  by_cases hd:600<=x.dn
  ·have:(doW x d).1=x:=by unfold doW;rw[if_pos hd]
   rw[this];exact g.zz
  ·have e:(doW x d).1=(z3F (z2n x)).1:=by
    unfold doW z2J;rw[if_neg hd,if_neg (by omega),if_neg (by omega),if_pos c]
   rw[e];unfold z3F
   split
   ·rename_i h0;exact zz_prov g.inv g.zz W f (end_okP (x:=x) h0) rfl rfl rfl
   ·exact⟨g.zz.mn,λi a ho=>⟨(g.zz.zc i a ho).cl,(g.zz.zc i a ho).bk,(g.zz.zc i a ho).due⟩,g.zz.ho,g.zz.hb,g.zz.du⟩
 ·exact zz_vw g.inv (j5k g.inv d) g.zz (vw_do g.inv g.zz d c) (λi _=>fl_do g.inv d i) c
theorem gx_new:GX z8y:=⟨q7T,⟨by decide,λi _ h=>(by cases h),λi _ u hu=>(by cases hu),λi _ u hu=>(by cases hu),λu hu=>(by cases hu)⟩,_,j9O⟩
def tickD:Dd:=⟨5,0,0,0,10,false,false⟩
def provD:Dd:=⟨6,0,0,0,0,false,false⟩
def consD(i:Nat):Dd:=⟨7,(i:Int),0,0,0,false,false⟩
def headD(i:Nat)(b:Bool):Dd:=⟨8,(i:Int),0,0,0,b,false⟩
def delD(i:Nat)(b:Bool):Dd:=⟨9,(i:Int),0,0,0,b,false⟩
def expD(i:Nat)(b:Bool)(n:Int):Dd:=⟨10,(i:Int),0,0,n,b,false⟩
def crW(i:Nat)(b:Bool):Nat->Wo->Wo
 | 0,x=>x
 | m+1,x=>if(doW x (delD i b)).2.1=0 then crW i b m (doW x (delD i b)).1 else if(doW x (delD i b)).2.1=12 then(doW (doW (doW x (delD i b)).1 (headD i (!b))).1 (expD i b ((z0Y (doW x (delD i b)).1 i b).g+1))).1 else(doW x (delD i b)).1
def carW(i:Nat)(b:Bool)(x:Wo):Wo:=crW i b 400 (doW x (headD i b)).1
def hlf(i:Nat)(b:Bool)(x:Wo):Wo:=if(x.c i).on=true then carW i b (doW x (consD i)).1 else x
def rnd2(x:Wo):Wo:=hlf 1 true (hlf 1 false (hlf 0 true (hlf 0 false x)))
def rnd(x:Wo):Wo:=rnd2 (doW (doW x tickD).1 provD).1
def Y(x:Wo)(i:Nat)(n:Int)(f:Lk)(e:Cs)(hh:Hd)(q:List (Int×Pkt)):Wo:=⟨x.ck,n,{ x.p with L:=z0P x.p.L i f,q:=q},z2k x.c i e,x.hp,q7g x.hc i hh⟩
section
variable {x:Wo} {i:Nat} {n:Int} {f:Lk} {e:Cs} {hh:Hd} {q:List (Int×Pkt)}
theorem Y_c:(Y x i n f e hh q).c i=e:=z0S _ _ _
theorem Y_L:(Y x i n f e hh q).p.L i=f:=z2u _ _ _
theorem updL_self(L:Nat->Lk)(j:Nat):z0P L j (L j)=L:=by
 funext k
 unfold z0P
 split
 ·rename_i e;rw[e]
 ·rfl
theorem updH_self(L:Nat->Hd)(j:Nat):q7g L j (L j)=L:=by
 funext k
 unfold q7g
 split
 ·rename_i e;rw[e]
 ·rfl
theorem updL_two(L:Nat->Lk)(j:Nat)(a b:Lk):z0P (z0P L j a) j b=z0P L j b:=by
 funext k
 unfold z0P
 split <;> rfl
theorem updC_two(L:Nat->Cs)(j:Nat)(a b:Cs):z2k (z2k L j a) j b=z2k L j b:=by
 funext k
 unfold z2k
 split <;> rfl
theorem updH_two(L:Nat->Hd)(j:Nat)(a b:Hd):q7g (q7g L j a) j b=q7g L j b:=by
 funext k
 unfold q7g
 split <;> rfl
theorem Y_self(x:Wo)(i:Nat):Y x i x.dn (x.p.L i) (x.c i) (x.hc i) x.p.q=x:=by
 unfold Y;rw[updL_self,q1w,updH_self]
theorem do_w(hd:x.dn<600)(a:i<2)(ho:(x.c i).on=true)(d:Dd)(hc:d.c=(i:Int)){k:Int}(b:d.k=k)(f:7<=k/\k<=10):(doW x d).1=(z2c (z2n x) i d).1/\(doW x d).2.1=(z2c (z2n x) i d).2.2:=by
 subst b
 have e:z2J (z2n x) d=z2c (z2n x) i d:=by
  unfold z2J;rw[if_neg (by omega),if_neg (by omega),if_neg (by omega),if_neg (by omega),if_pos (by omega),hc,Int.toNat_natCast,if_pos ⟨y2T a,ho⟩]
 unfold doW;rw[if_neg (by omega),e]
 exact⟨rfl,rfl⟩
theorem y_cons(g:GX (Y x i n f e hh q))(hd:n<600)(a:i<2)(ho:e.on=true):(doW (Y x i n f e hh q) (consD i)).1=Y x i (n+1) f (z2K { e with h:=e.h+1,t:=x.ck}) (z8R (z2K { e with h:=e.h+1,t:=x.ck}) f.out.g) q:=by
 rw[(do_w (x:=Y x i n f e hh q) hd a (by rw[Y_c];exact ho) (consD i) rfl (k:=7) rfl ⟨by decide,by decide⟩).1]
 have h1:z5t e=0:=by
  have:=g.inv.gc i a;rw[Y_c]at this;unfold z5t;rw[if_pos ((gc_iff _).2 this),if_pos ho]
 have m:=g.inv.k0;have hk1:=g.inv.k1;have j:=g.inv.ct i a;rw[Y_c]at j;have b:0<=x.ck:=m;have l:x.ck<=1099511627736:=hk1;have d:e.t<=x.ck:=j
 have o:z7A e x.ck=(z2K { e with h:=e.h+1,t:=x.ck},0):=by
  unfold z7A;rw[if_pos h1,if_pos ⟨(z9X _).2 ⟨b,by omega⟩,d⟩]
 have r:z2c (z2n (Y x i n f e hh q)) i (consD i)=((z3T (z2n (Y x i n f e hh q)) i).1,0,(z3T (z2n (Y x i n f e hh q)) i).2):=rfl;rw[r];unfold z3T;have s:(z2n (Y x i n f e hh q)).c i=e:=Y_c;have u:(z2n (Y x i n f e hh q)).ck=x.ck:=rfl;have v:(z2n (Y x i n f e hh q)).p.L i=f:=Y_L;rw[s,u,o,if_pos rfl,v];dsimp only
 show(⟨x.ck,n+1,_,z2k (z2k x.c i e) i _,x.hp,q7g (q7g x.hc i hh) i _⟩:Wo)=_
 rw[updC_two,updH_two];rfl
theorem y_headF(hd:n<600)(a:i<2)(ho:e.on=true):(doW (Y x i n f e hh q) (headD i false)).1=Y x i (n+1) f (y1v e (x.hp i)) hh q:=by
 rw[(do_w (x:=Y x i n f e hh q) hd a (by rw[Y_c];exact ho) (headD i false) rfl (k:=8) rfl ⟨by decide,by decide⟩).1]
 show z3H (z2n (Y x i n f e hh q)) i false=_
 unfold z3H;rw[if_neg (by decide)]
 have b:(z2n (Y x i n f e hh q)).c i=e:=Y_c;rw[b]
 show(⟨x.ck,n+1,_,z2k (z2k x.c i e) i _,x.hp,_⟩:Wo)=_
 rw[updC_two];rfl
theorem y_headT(hd:n<600)(a:i<2)(ho:e.on=true):(doW (Y x i n f e hh q) (headD i true)).1=Y x i (n+1) (j8G f hh) e hh q:=by
 rw[(do_w (x:=Y x i n f e hh q) hd a (by rw[Y_c];exact ho) (headD i true) rfl (k:=8) rfl ⟨by decide,by decide⟩).1]
 show z3H (z2n (Y x i n f e hh q)) i true=_
 unfold z3H;rw[if_pos rfl];have b:(z2n (Y x i n f e hh q)).p.L i=f:=Y_L;have c:(z2n (Y x i n f e hh q)).hc i=hh:=by show q7g _ _ _ _=_;unfold q7g;rw[if_pos rfl]
 rw[b,c]
 show(⟨x.ck,n+1,{ x.p with L:=z0P (z0P x.p.L i f) i _,q:=q},_,x.hp,_⟩:Wo)=_
 rw[updL_two];rfl
theorem del_line{l:Ln.Line}(b:Ln.z1a l=true)(hc:l.cl=false)(s:ByteArray)(now:Int):(l.g=(l.S.length:Int)->Ln.z4B l (l.g+1) s (l.S.length:Int) now=9)/\(∀m:Nat,l.g=(m:Int)->m<l.S.length->s=l.S.getD m ByteArray.empty->Ln.z4B l (l.g+1) s (l.S.length:Int) now=if l.D.getD m 0<=now then 12 else 0):=by
 have a:Ln.z4i l=0:=by unfold Ln.z4i;rw[b,hc];simp
 refine⟨λh=>?_,λm h h2 h3=>?_⟩
 ·unfold Ln.z4B;rw[if_neg (by rw[a];simp),if_neg (by simp),if_pos (.inl (by omega))]
 ·unfold Ln.z4B;have e:(l.g+1 - 1).toNat=m:=by omega
  rw[if_neg (by rw[a];simp),if_neg (by simp),e,if_neg (by rw[h3];simp;omega)]
theorem next_at{l:Ln.Line}{m:Nat}(h:l.g=(m:Int))(h2:m<l.S.length):z3Z l=l.S.getD m ByteArray.empty:=by
 unfold z3Z;rw[if_neg (by omega),h]
 rfl
theorem y_fail{c:Int}{b:Bool}(hd:n<600)(a:i<2)(ho:e.on=true)(h:Ln.z4B (z0Y (z2n (Y x i n f e hh q)) i b) ((z0Y (z2n (Y x i n f e hh q)) i b).g+1) (z0t (z2n (Y x i n f e hh q)) i b false) (j1d (z2n (Y x i n f e hh q)) i b) x.ck=c)(h0:c≠0):(doW (Y x i n f e hh q) (delD i b)).1=Y x i (n+1) f e hh q/\(doW (Y x i n f e hh q) (delD i b)).2.1=c:=by
 have w:=do_w (x:=Y x i n f e hh q) hd a (by rw[Y_c];exact ho) (delD i b) rfl (k:=9) rfl ⟨by decide,by decide⟩
 have d:z2c (z2n (Y x i n f e hh q)) i (delD i b)=z7s (z2n (Y x i n f e hh q)) i b false:=rfl;rw[w.1,w.2,d];unfold z7s;have j:(z2n (Y x i n f e hh q)).ck=x.ck:=rfl;rw[j,h,if_neg h0];exact⟨rfl,rfl⟩
theorem y_delF(g:GX (Y x i n f e hh q))(hd:n<600)(j:i<2)(ho:e.on=true)(hs:e.h2=(f.out.S.length:Int)) :
  (f.out.g=(f.out.S.length:Int)/\(doW (Y x i n f e hh q) (delD i false)).1=Y x i (n+1) f e hh q/\(doW (Y x i n f e hh q) (delD i false)).2.1=9)∨
  (∃m:Nat,f.out.g=(m:Int)/\m<f.out.S.length/\f.out.D.getD m 0<=x.ck/\(doW (Y x i n f e hh q) (delD i false)).1=Y x i (n+1) f e hh q/\(doW (Y x i n f e hh q) (delD i false)).2.1=12)∨
  (f.out.g<(f.out.S.length:Int)/\(∃p,(doW (Y x i n f e hh q) (delD i false)).1=Y x i (n+1) { f with out:={ f.out with g:=f.out.g+1}} { e with pd:=e.pd++[p]} hh q)/\(doW (Y x i n f e hh q) (delD i false)).2.1=0):=by
 obtain⟨H,W⟩:=g.wh;have T:=W.ti i j (by rw[Y_c];exact ho)
 have gl:=(g.inv.gp.lk i j).out;have v:=T.cl;have y:=T.dec;rw[Y_L]at gl v y;have l:z0Y (z2n (Y x i n f e hh q)) i false=f.out:=by show((Y x i n f e hh q).p.L i).out=_;rw[Y_L]
 have h:j1d (z2n (Y x i n f e hh q)) i false=(f.out.S.length:Int):=by show((Y x i n f e hh q).c i).h2=_;rw[Y_c];exact hs
 have r:z0t (z2n (Y x i n f e hh q)) i false false=z3Z f.out:=by show z3Z (z0Y (z2n (Y x i n f e hh q)) i false)=_;rw[l]
 have s:=(z1A _).1 gl;have D:=del_line gl v (z3Z f.out) x.ck
 by_cases h1:f.out.g=(f.out.S.length:Int)
 ·have:=y_fail (x:=x) (q:=q) (hh:=hh) (f:=f) (e:=e) (b:=false) (c:=9) hd j ho (by rw[l,h,r];exact D.1 h1) (by decide)
  exact .inl ⟨h1,this⟩
 ·obtain⟨m,o⟩:∃m:Nat,f.out.g=(m:Int):=⟨f.out.g.toNat,(Int.toNat_of_nonneg s.2.2.2.1).symm⟩;have a:m<f.out.S.length:=by omega
  have d:=D.2 m o a (next_at o a)
  by_cases h2:f.out.D.getD m 0<=x.ck
  ·rw[if_pos h2]at d;have:=y_fail (x:=x) (q:=q) (hh:=hh) (f:=f) (e:=e) (b:=false) (c:=12) hd j ho (by rw[l,h,r];exact d) (by decide)
   exact .inr (.inl ⟨m,o,a,h2,this⟩)
  ·rw[if_neg h2]at d;refine Z2 ⟨by omega,?_⟩
   have t:f.out.S[m]?=some (z3Z f.out):=by
    rw[next_at o a,List.getD_eq_getElem?_getD,List.getElem?_eq_getElem a];rfl
   have z:=y m _ (by omega) t
   have w:=do_w (x:=Y x i n f e hh q) hd j (by rw[Y_c];exact ho) (delD i false) rfl (k:=9) rfl ⟨by decide,by decide⟩
   have A:z2c (z2n (Y x i n f e hh q)) i (delD i false)=z7s (z2n (Y x i n f e hh q)) i false false:=rfl;have B:(z2n (Y x i n f e hh q)).ck=x.ck:=rfl
   have h1:z5t e=0:=by
    have:=g.inv.gc i j;rw[Y_c]at this;unfold z5t;rw[if_pos ((gc_iff _).2 this),if_pos ho]
   have C:(z2n (Y x i n f e hh q)).c i=e:=Y_c
   have u:z1B (z2n (Y x i n f e hh q)) i false (z3Z f.out)=(Y x i (n+1) f { e with pd:=e.pd++[z0X (Cd.bs (z3Z f.out))]} hh q,0):=by
    unfold z1B;rw[if_neg (by decide),C]
    have:z3c e (Cd.bs (z3Z f.out))=({ e with pd:=e.pd++[z0X (Cd.bs (z3Z f.out))]},0):=by
     unfold z3c;rw[if_pos h1,if_pos z.1,if_pos z.2]
    rw[this]
    show((⟨x.ck,n+1,_,z2k (z2k x.c i e) i _,x.hp,_⟩:Wo),_)=_
    rw[updC_two];rfl
   rw[w.1,w.2,A];unfold z7s;rw[l,h,r,B,d,if_pos rfl,u,if_pos rfl];refine⟨⟨z0X (Cd.bs (z3Z f.out)),?_⟩,rfl⟩;dsimp only
   have E:Ln.z5L f.out (f.out.g+1) (z3Z f.out) (f.out.S.length:Int) x.ck={ f.out with g:=f.out.g+1}:=by
    unfold Ln.z5L;rw[if_pos d]
   rw[E];unfold z1j;rw[if_neg (by decide),Y_L]
   show(⟨x.ck,n+1,{ x.p with L:=z0P (z0P x.p.L i f) i _,q:=q},_,x.hp,_⟩:Wo)=_
   rw[updL_two];rfl
theorem y_delT(g:GX (Y x i n f e hh q))(hd:n<600)(h:i<2)(ho:e.on=true)(hs:f.h2=(e.out.S.length:Int)) :
  (e.out.g=(e.out.S.length:Int)/\(doW (Y x i n f e hh q) (delD i true)).1=Y x i (n+1) f e hh q/\(doW (Y x i n f e hh q) (delD i true)).2.1=9)∨
  (∃m:Nat,e.out.g=(m:Int)/\m<e.out.S.length/\e.out.D.getD m 0<=x.ck/\(doW (Y x i n f e hh q) (delD i true)).1=Y x i (n+1) f e hh q/\(doW (Y x i n f e hh q) (delD i true)).2.1=12)∨
  (e.out.g<(e.out.S.length:Int)/\(∃p s,s∈e.out.S.drop e.out.g.toNat/\z0X (Cd.bs s)=p/\(doW (Y x i n f e hh q) (delD i true)).1=Y x i (n+1) f { e with out:={ e.out with g:=e.out.g+1}} hh (q++[((i:Int),p)]))/\(doW (Y x i n f e hh q) (delD i true)).2.1=0):=by
 have Z:=g.zz.zc i h (by rw[Y_c];exact ho)
 have gl:=(g.inv.gc i h).out;have z:=Z.cl;have A:=Z.bk;rw[Y_c]at gl z A;have r:z0Y (z2n (Y x i n f e hh q)) i true=e.out:=by show((Y x i n f e hh q).c i).out=_;rw[Y_c]
 have j:j1d (z2n (Y x i n f e hh q)) i true=(e.out.S.length:Int):=by show((Y x i n f e hh q).p.L i).h2=_;rw[Y_L];exact hs
 have t:z0t (z2n (Y x i n f e hh q)) i true false=z3Z e.out:=by show z3Z (z0Y (z2n (Y x i n f e hh q)) i true)=_;rw[r]
 have u:=(z1A _).1 gl;have D:=del_line gl z (z3Z e.out) x.ck
 by_cases h1:e.out.g=(e.out.S.length:Int)
 ·have:=y_fail (x:=x) (q:=q) (hh:=hh) (f:=f) (e:=e) (b:=true) (c:=9) hd h ho (by rw[r,j,t];exact D.1 h1) (by decide)
  exact .inl ⟨h1,this⟩
 ·obtain⟨m,l⟩:∃m:Nat,e.out.g=(m:Int):=⟨e.out.g.toNat,(Int.toNat_of_nonneg u.2.2.2.1).symm⟩;have a:m<e.out.S.length:=by omega
  have d:=D.2 m l a (next_at l a)
  by_cases h2:e.out.D.getD m 0<=x.ck
  ·rw[if_pos h2]at d;have:=y_fail (x:=x) (q:=q) (hh:=hh) (f:=f) (e:=e) (b:=true) (c:=12) hd h ho (by rw[r,j,t];exact d) (by decide)
   exact .inr (.inl ⟨m,l,a,h2,this⟩)
  ·rw[if_neg h2]at d;refine Z2 ⟨by omega,?_⟩
   have o:e.out.S[m]?=some (z3Z e.out):=by
    rw[next_at l a,List.getD_eq_getElem?_getD,List.getElem?_eq_getElem a];rfl
   have B:=A _ (List.mem_of_getElem? o);have w:=do_w (x:=Y x i n f e hh q) hd h (by rw[Y_c];exact ho) (delD i true) rfl (k:=9) rfl ⟨by decide,by decide⟩
   have C:z2c (z2n (Y x i n f e hh q)) i (delD i true)=z7s (z2n (Y x i n f e hh q)) i true false:=rfl;have E:(z2n (Y x i n f e hh q)).ck=x.ck:=rfl
   have v:f.on=true:=by
    have:=(g.inv.on i h).1;rw[Y_c,Y_L]at this;exact this.symm.trans ho
   have y:z1B (z2n (Y x i n f e hh q)) i true (z3Z e.out)=(Y x i (n+1) f e hh (q++[((i:Int),z0X (Cd.bs (z3Z e.out)))]),0):=by
    unfold z1B;rw[if_pos rfl]
    have:z2z (z2n (Y x i n f e hh q)).p i (Cd.bs (z3Z e.out))=({ (Y x i n f e hh q).p with q:=q++[((i:Int),z0X (Cd.bs (z3Z e.out)))]},0):=by
     unfold z2z;rw[if_pos (show z0o (z2n (Y x i n f e hh q)).p=true from(z6o _).2 g.inv.gp),if_pos (show z8G (z2n (Y x i n f e hh q)).p i=true from by unfold z8G;rw[y2T h];show((Y x i n f e hh q).p.L i).on=true;rw[Y_L];exact v),if_pos B.1,if_neg B.2]
     rfl
    rw[this];rfl
   rw[w.1,w.2,C];unfold z7s;rw[r,j,t,E,d,if_pos rfl,y,if_pos rfl];refine⟨⟨z0X (Cd.bs (z3Z e.out)),z3Z e.out,?_,rfl,?_⟩,rfl⟩
   ·rw[l,Int.toNat_natCast,List.drop_eq_getElem_cons a,<-(List.getElem?_eq_some_iff.1 o).2];exact List.mem_cons_self
   ·dsimp only
    have F:Ln.z5L e.out (e.out.g+1) (z3Z e.out) (e.out.S.length:Int) x.ck={ e.out with g:=e.out.g+1}:=by
     unfold Ln.z5L;rw[if_pos d]
    rw[F];unfold z1j;rw[if_pos rfl,Y_c]
    show(⟨x.ck,n+1,_,z2k (z2k x.c i e) i _,x.hp,_⟩:Wo)=_
    rw[updC_two];rfl
end
structure ER(z w:Wo)(j:Nat):Prop where
 ck:w.ck=z.ck
 hp:w.hp=z.hp
 hc:w.hc=z.hc
 h:w.p.h=z.p.h
 t:w.p.t=z.p.t
 set:w.p.set=z.p.set
 mn:w.p.mn=z.p.mn
 V:w.p.s.V=z.p.s.V
 W:∀v∈w.p.s.W,∃u∈z.p.s.W,v.due=u.due
 q:∀a∈w.p.q,a∈z.p.q
 oth:∀i,i≠j->w.p.L i=z.p.L i/\w.c i=z.c i
theorem er_exp(z:Wo)(j:Nat)(b:Bool)(k:Int):ER z (z6I z j b k).1 j:=by
 unfold z6I
 split
 ·dsimp only;generalize Ln.z4N (z0Y z j b) k (z5A z j b) (q2x z j b)=l
  have n:(z1j z j b l).p.h=z.p.h/\(z1j z j b l).p.t=z.p.t/\(z1j z j b l).p.set=z.p.set/\(z1j z j b l).p.mn=z.p.mn/\(z1j z j b l).p.s=z.p.s/\(z1j z j b l).p.q=z.p.q/\(z1j z j b l).ck=z.ck/\(z1j z j b l).hp=z.hp/\(z1j z j b l).hc=z.hc/\∀i,i≠j->(z1j z j b l).p.L i=z.p.L i/\(z1j z j b l).c i=z.c i:=by
   cases b
   ·exact⟨rfl,rfl,rfl,rfl,rfl,rfl,rfl,rfl,rfl,λi d=>⟨z2d _ _ d,rfl⟩⟩
   ·exact⟨rfl,rfl,rfl,rfl,rfl,rfl,rfl,rfl,rfl,λi d=>⟨rfl,z0w _ _ d⟩⟩
  generalize z1j z j b l=y at *;obtain⟨o,r,w,x,m,A,B,C,D,f⟩:=n;unfold q1X
  have E:(z0j y.p j).h=y.p.h/\(z0j y.p j).t=y.p.t/\(z0j y.p j).set=y.p.set/\(z0j y.p j).mn=y.p.mn/\(z0j y.p j).s.V=y.p.s.V/\(∀v∈(z0j y.p j).s.W,∃u∈y.p.s.W,v.due=u.due)/\(∀a∈(z0j y.p j).q,a∈y.p.q)/\∀i,i≠j->(z0j y.p j).L i=y.p.L i:=by
   unfold z0j
   split
   ·exact⟨rfl,rfl,rfl,rfl,rfl,λv e=>by obtain⟨u,hu,rfl⟩:=List.mem_map.1 (show v∈y.p.s.W.map _ from e);exact⟨u,hu,(z3M _ _ _).2.2.2.1⟩,λa g=>(List.mem_filter.1 g).1,λi d=>z2d _ _ (by simpa using d)⟩
   ·exact⟨rfl,rfl,rfl,rfl,rfl,λv e=>⟨v,e,rfl⟩,λ_ h=>h,λ_ _=>rfl⟩
  obtain⟨b1,b2,b3,F,G,H,K,M⟩:=E;exact⟨B,C,D,b1.trans o,b2.trans r,b3.trans w,F.trans x,G.trans (by rw[m]),λv e=>by rw[<-m];exact H v e,λa g=>by rw[<-A];exact K a g,λi d=>⟨(M i d).trans (f i d).1,(z0w _ _ d).trans (f i d).2⟩⟩
 ·exact⟨rfl,rfl,rfl,rfl,rfl,rfl,rfl,rfl,λv e=>⟨v,e,rfl⟩,λ_ h=>h,λ_ _=>⟨rfl,rfl⟩⟩
theorem exp_line{l:Ln.Line}(a:Ln.z1a l=true)(hc:l.cl=false){m:Nat}(d:l.g=(m:Int))(f:m<l.S.length){t g:Int}(h:l.D.getD m 0<=t)(b:g<=l.g):Ln.z6h l (l.g+1) t g=0:=by
 have c:Ln.z4i l=0:=by unfold Ln.z4i;rw[a,hc];simp
 unfold Ln.z6h;have e:(l.g+1 - 1).toNat=m:=by omega
 rw[if_neg (by rw[c];simp),if_neg (by omega),if_neg (by omega),e,if_neg (by omega)]
def ptE(f:Lk)(e:Cs):Int:=2*((f.out.S.length:Int) - f.out.g)+(e.pd.length:Int)+(e.rp.length:Int)+((e.out.S.length:Int) - e.out.g)+(if e.on=true then 2 else 0)
structure OF(y w:Wo)(i:Nat):Prop where
 er:ER y w i
 off:(w.c i).on=false
 gx:GX w
section
variable {x:Wo} {i:Nat} {n:Int} {f:Lk} {e:Cs} {hh:Hd} {q:List (Int×Pkt)}
theorem Y_pt:pt1 (Y x i n f e hh q) i=ptE f e:=by
 unfold pt1 ptE nU;rw[Y_c,Y_L]
theorem Y_oth{j:Nat}(a:j≠i):(Y x i n f e hh q).p.L j=x.p.L j/\(Y x i n f e hh q).c j=x.c j/\(Y x i n f e hh q).hc j=x.hc j:=⟨z2d _ _ a,z0w _ _ a,by show q7g _ _ _ _=_;unfold q7g;rw[if_neg a]⟩
theorem gx_y(g:GX (Y x i n f e hh q))(a:i<2):0<=ptE f e/\(0<=f.out.g/\f.out.g<=(f.out.S.length:Int))/\(0<=e.out.g/\e.out.g<=(e.out.S.length:Int))/\f.out.S.length<=400/\e.out.S.length<=400:=by
 have h1:=pt1_pos g.inv a;have h2:=inv_g g.inv a;have h3:=(z1A _).1 (g.inv.gp.lk i a).out;have b:=(z1A _).1 (g.inv.gc i a).out;rw[Y_pt]at h1;rw[Y_L]at h3;rw[Y_c]at b;exact⟨h1,⟨h3.2.2.2.1,h3.2.2.2.2⟩,⟨b.2.2.2.1,b.2.2.2.2⟩,h3.2.1,b.2.1⟩
theorem y_cut(g:GX (Y x i n f e hh q))(c:x.p.h<400)(hd:n+1<=600)(d:i<2)(ho:e.on=true)(b:Bool)(k:Int)(h:Ln.z6h (z0Y (z2n (Y x i n f e hh q)) i b) k (z5A (z2n (Y x i n f e hh q)) i b) (q2x (z2n (Y x i n f e hh q)) i b)=0):OF (Y x i n f e hh q) (doW (Y x i n f e hh q) (expD i b k)).1 i/\(doW (Y x i n f e hh q) (expD i b k)).1.dn=n+1:=by
 have w:=do_w (x:=Y x i n f e hh q) (by show n<600;omega) d (by rw[Y_c];exact ho) (expD i b k) rfl (k:=10) rfl ⟨by decide,by decide⟩
 have a:z2c (z2n (Y x i n f e hh q)) i (expD i b k)=((z6I (z2n (Y x i n f e hh q)) i b k).1,0,(z6I (z2n (Y x i n f e hh q)) i b k).2):=rfl;have gx:=gx_do g c (expD i b k);have dn:=y1K (Y x i n f e hh q) (expD i b k) (by show n<600;omega)
 refine⟨⟨?_,?_,gx⟩,dn⟩
 ·rw[w.1,a];have:=er_exp (z2n (Y x i n f e hh q)) i b k;exact⟨this.ck,this.hp,this.hc,this.h,this.t,this.set,this.mn,this.V,this.W,this.q,this.oth⟩
 ·rw[w.1,a];unfold z6I;rw[if_pos h]
  show(z2k _ i _ i).on=false
  rw[z0S];exact z5H _
theorem OF.pt{y w:Wo}(o:OF y w i)(d:i<2)(a:(y.c i).on=true)(h:pt1 w i<=pt1 y i - 2):pot w<=pot y - 2:=by
 have key:∀j,j≠i->pt1 w j=pt1 y j:=λj b=>by
  have:=o.er.oth j b;unfold pt1 nU;rw[this.1,this.2]
 unfold pot
 rcases(show i=0∨i=1 by omega)with rfl|rfl
 ·have:=key 1 (by omega);omega
 ·have:=key 0 (by omega);omega
theorem exp_pt(z:Wo)(b:Bool)(k:Int)(g:(z.c i).on=true)(ho:((z6I z i b k).1.c i).on=false):pt1 (z6I z i b k).1 i<=pt1 z i - 2:=by
 have f:=fl_exp 10 z i b k i;have l:(if(z.c i).on=true then 2 else 0:Int)=2:=if_pos g;have o:(if((z6I z i b k).1.c i).on=true then 2 else 0:Int)=0:=if_neg (by rw[ho];simp)
 cases f with
 | same q=>rw[q.on,g]at ho;cases ho
 | off a b c d e f g' =>
  unfold pt1 nU;rw[b,c,d,e,f,g',l,o];omega
 | q1J a _ _ _=>exact absurd a (by decide)
 | beg a _ _ _=>exact absurd a (by decide)
 | cons a b =>
  have D:=done_da { z.c i with h:=(z.c i).h+1,t:=z.ck}
  rw[<-b]at D;have:=D.on;rw[ho]at this;dsimp only at this;rw[g]at this;cases this
 | del n s q _ _ _ _ e=>rw[e,g]at ho;cases ho
 | bk n s q _ _ _ _ e=>rw[e,g]at ho;cases ho
 | acc k j v m z' _ _ _ e _ _ _ _=>rw[e,g]at ho;cases ho
theorem y_cut2(g:GX (Y x i n f e hh q))(j:x.p.h<400)(hd:n+1<=600)(d:i<2)(ho:e.on=true)(b:Bool)(k:Int)(h:Ln.z6h (z0Y (z2n (Y x i n f e hh q)) i b) k (z5A (z2n (Y x i n f e hh q)) i b) (q2x (z2n (Y x i n f e hh q)) i b)=0):OF (Y x i n f e hh q) (doW (Y x i n f e hh q) (expD i b k)).1 i/\(doW (Y x i n f e hh q) (expD i b k)).1.dn+pot (doW (Y x i n f e hh q) (expD i b k)).1<=n - 1+pot (Y x i n f e hh q):=by
 obtain⟨o,l⟩:=y_cut g j hd d ho b k h;refine⟨o,?_⟩;have w:=do_w (x:=Y x i n f e hh q) (by show n<600;omega) d (by rw[Y_c];exact ho) (expD i b k) rfl (k:=10) rfl ⟨by decide,by decide⟩
 have m:z2c (z2n (Y x i n f e hh q)) i (expD i b k)=((z6I (z2n (Y x i n f e hh q)) i b k).1,0,(z6I (z2n (Y x i n f e hh q)) i b k).2):=rfl
 have hp:pt1 (doW (Y x i n f e hh q) (expD i b k)).1 i<=pt1 (Y x i n f e hh q) i - 2:=by
  have a:=o.off;rw[w.1,m]at a⊢;exact exp_pt (z2n (Y x i n f e hh q)) b k (by show((Y x i n f e hh q).c i).on=true;rw[Y_c];exact ho) a
 have:=o.pt d (by rw[Y_c];exact ho) hp
 omega
inductive CF (x:Wo) (i:Nat) (n:Int) (f:Lk) (e:Cs) (hh:Hd) (q:List (Int×Pkt)) (w:Wo):Prop
 | kept (n':Int) (P:List Pkt):w=Y x i n' { f with out:={ f.out with g:=(f.out.S.length:Int)}} { e with pd:=e.pd++P} hh q->(f.out.g=(f.out.S.length:Int)->P=[])->n'+pot w<=n+pot (Y x i n f e hh q)+1->GX w->CF x i n f e hh q w
 | off (n':Int) (f':Lk) (e':Cs):OF (Y x i n' f' e' hh q) w i->w.dn+pot w<=n+pot (Y x i n f e hh q)+1->CF x i n f e hh q w
theorem Y_pot{n':Int}{f':Lk}{e':Cs}{hh':Hd}{q':List (Int×Pkt)}(d:i<2):pot (Y x i n' f' e' hh' q')+ptE f e=pot (Y x i n f e hh q)+ptE f' e':=by
 have key:∀j,j≠i->pt1 (Y x i n' f' e' hh' q') j=pt1 (Y x i n f e hh q) j:=λj c=>by
  have a:=Y_oth (x:=x) (n:=n) (f:=f) (e:=e) (hh:=hh) (q:=q) c;have b:=Y_oth (x:=x) (n:=n') (f:=f') (e:=e') (hh:=hh') (q:=q') c;unfold pt1 nU;rw[a.1,a.2.1,b.1,b.2.1]
 unfold pot
 rcases(show i=0∨i=1 by omega)with rfl|rfl
 ·have:=key 1 (by omega)
  rw[Y_pt,Y_pt,this];omega
 ·have:=key 0 (by omega)
  rw[Y_pt,Y_pt,this];omega
end
theorem cr_F{x:Wo}{i:Nat}(k:i<2)(s:x.p.h<400)(hh:Hd)(q:List (Int×Pkt))(u:hh.t=x.ck):∀(m:Nat) (n:Int) (f:Lk) (e:Cs),GX (Y x i n f e hh q)->e.on=true->e.h2=(f.out.S.length:Int)->hh.g<=f.out.g->(f.out.S.length:Int) - f.out.g<=(m:Int)->n+ptE f e<=590->CF x i n f e hh q (crW i false m (Y x i n f e hh q))
 | 0,n,f,e,g,ho,hs,hg,hm,hB=>by
  have b:=gx_y g k;have l:f.out.g=(f.out.S.length:Int):=by omega
  refine .kept n [] ?_ (λ_=>rfl) (by show n+pot (Y x i n f e hh q)<=_;omega) g
  show Y x i n f e hh q=_
  rw[<-l,List.append_nil]
 | m+1,n,f,e,g,ho,hs,hg,hm,hB=>by
  have b:=gx_y g k;have j:=gx_do g s (delD i false);unfold crW
  rcases y_delF g (by omega) k ho hs with⟨l,e2,e3⟩|⟨m',l,e2,e3,e4,e5⟩|⟨l,⟨p,e2⟩,e3⟩
  ·rw[e3,if_neg (by decide),if_neg (by decide),e2]
   rw[e2]at j;refine .kept (n+1) [] ?_ (λ_=>rfl) ?_ j
   ·rw[<-l,List.append_nil]
   ·have:=Y_pot (x:=x) (i:=i) (n:=n) (f:=f) (e:=e) (hh:=hh) (q:=q) (n':=n+1) (f':=f) (e':=e) (hh':=hh) (q':=q) k;omega
  ·rw[e5,if_neg (by decide),if_pos rfl,e4]
   rw[e4]at j;have w:z0Y (Y x i (n+1) f e hh q) i false=f.out:=by show((Y x i (n+1) f e hh q).p.L i).out=_;rw[Y_L]
   have r:=gx_do j s (headD i true);have v:=y_headT (x:=x) (f:=f) (hh:=hh) (q:=q) (n:=n+1) (by omega) k ho
   rw[v]at r;rw[w,show(!false)=true from rfl,v];obtain⟨H,W⟩:=g.wh;have T:=(W.ti i k (by rw[Y_c];exact ho)).cl
   have gl:=(g.inv.gp.lk i k).out;rw[Y_L]at T gl
   have ex:Ln.z6h (z0Y (z2n (Y x i (n+1+1) (j8G f hh) e hh q)) i false) (f.out.g+1) (z5A (z2n (Y x i (n+1+1) (j8G f hh) e hh q)) i false) (q2x (z2n (Y x i (n+1+1) (j8G f hh) e hh q)) i false)=0:=by
    have y:z0Y (z2n (Y x i (n+1+1) (j8G f hh) e hh q)) i false=f.out:=by show((Y x i (n+1+1) (j8G f hh) e hh q).p.L i).out=_;rw[Y_L];rfl
    have z:z5A (z2n (Y x i (n+1+1) (j8G f hh) e hh q)) i false=hh.t:=by show((Y x i (n+1+1) (j8G f hh) e hh q).p.L i).h1=_;rw[Y_L];rfl
    have A:q2x (z2n (Y x i (n+1+1) (j8G f hh) e hh q)) i false=hh.g:=by show((Y x i (n+1+1) (j8G f hh) e hh q).p.L i).h3=_;rw[Y_L];rfl
    rw[y,z,A];exact exp_line gl T l e2 (by rw[u];exact e3) hg
   obtain⟨o,hp⟩:=y_cut2 r s (by omega) k ho false _ ex
   refine .off (n+1+1) (j8G f hh) e o ?_;have:=Y_pot (x:=x) (i:=i) (n:=n) (f:=f) (e:=e) (hh:=hh) (q:=q) (n':=n+1+1) (f':=j8G f hh) (e':=e) (hh':=hh) (q':=q) k;have D:ptE (j8G f hh) e=ptE f e:=rfl;omega
  ·rw[e3,if_pos rfl,e2];rw[e2]at j
   have E:ptE { f with out:={ f.out with g:=f.out.g+1}} { e with pd:=e.pd++[p]}=ptE f e - 1:=by
    unfold ptE;dsimp only;rw[List.length_append]
    show _+(((e.pd.length+1:Nat)):Int)+_+_+_=_
    omega
   have B:=cr_F k s hh q u m (n+1) { f with out:={ f.out with g:=f.out.g+1}} { e with pd:=e.pd++[p]} j ho hs (by show hh.g<=f.out.g+1;omega) (by show(f.out.S.length:Int) - (f.out.g+1)<=_;omega) (by omega)
   have C:=Y_pot (x:=x) (i:=i) (n:=n) (f:=f) (e:=e) (hh:=hh) (q:=q) (n':=n+1) (f':={ f with out:={ f.out with g:=f.out.g+1}}) (e':={ e with pd:=e.pd++[p]}) (hh':=hh) (q':=q) k
   cases B with
   | kept n' P a b c d =>
    refine .kept n' (p :: P) (a.trans ?_) (λh=>by omega) (by omega) d
    dsimp only;rw[List.append_assoc];rfl
   | off n' f' e' a b=>exact .off n' f' e' a (by omega)
inductive CT (x:Wo) (i:Nat) (n:Int) (f:Lk) (e:Cs) (hh:Hd) (q:List (Int×Pkt)) (w:Wo):Prop
 | kept (n':Int) (A:List (Int×Pkt)):w=Y x i n' f { e with out:={ e.out with g:=(e.out.S.length:Int)}} hh (q++A)->(∀a∈A,a.1=(i:Int)/\∃s∈e.out.S.drop e.out.g.toNat,z0X (Cd.bs s)=a.2)->n'+pot w<=n+pot (Y x i n f e hh q)+1->GX w->CT x i n f e hh q w
 | off (n':Int) (f':Lk) (e':Cs) (A:List (Int×Pkt)):OF (Y x i n' f' e' hh (q++A)) w i->(∀a∈A,a.1=(i:Int)/\∃s∈e.out.S.drop e.out.g.toNat,z0X (Cd.bs s)=a.2)->w.dn+pot w<=n+pot (Y x i n f e hh q)+1->CT x i n f e hh q w
theorem cr_T{x:Wo}{i:Nat}(k:i<2)(v:x.p.h<400)(hh:Hd)(f:Lk)(y:(x.hp i).t=x.ck):∀(m:Nat) (n:Int) (e:Cs) (q:List (Int×Pkt)),GX (Y x i n f e hh q)->e.on=true->f.h2=(e.out.S.length:Int)->(x.hp i).g<=e.out.g->(e.out.S.length:Int) - e.out.g<=(m:Int)->n+ptE f e<=590->CT x i n f e hh q (crW i true m (Y x i n f e hh q))
 | 0,n,e,q,g,ho,hs,hg,hm,hB=>by
  have b:=gx_y g k;have l:e.out.g=(e.out.S.length:Int):=by omega
  refine .kept n [] ?_ (λ_ h=>(by cases h)) (by show n+pot (Y x i n f e hh q)<=_;omega) g
  show Y x i n f e hh q=_
  rw[<-l,List.append_nil]
 | m+1,n,e,q,g,ho,hs,hg,hm,hB=>by
  have b:=gx_y g k;have j:=gx_do g v (delD i true);unfold crW
  rcases y_delT g (by omega) k ho hs with⟨l,e2,e3⟩|⟨m',l,e2,e3,e4,e5⟩|⟨l,⟨p,s,hsm,hps,e2⟩,e3⟩
  ·rw[e3,if_neg (by decide),if_neg (by decide),e2]
   rw[e2]at j;refine .kept (n+1) [] ?_ (λ_ h=>(by cases h)) ?_ j
   ·rw[<-l,List.append_nil]
   ·have:=Y_pot (x:=x) (i:=i) (n:=n) (f:=f) (e:=e) (hh:=hh) (q:=q) (n':=n+1) (f':=f) (e':=e) (hh':=hh) (q':=q) k;omega
  ·rw[e5,if_neg (by decide),if_pos rfl,e4]
   rw[e4]at j;have C:z0Y (Y x i (n+1) f e hh q) i true=e.out:=by show((Y x i (n+1) f e hh q).c i).out=_;rw[Y_c]
   have r:=gx_do j v (headD i false);have z:=y_headF (x:=x) (f:=f) (hh:=hh) (q:=q) (n:=n+1) (by omega) k ho
   rw[z]at r;rw[C,show(!true)=false from rfl,z];have T:=(g.zz.zc i k (by rw[Y_c];exact ho)).cl
   have gl:=(g.inv.gc i k).out;rw[Y_c]at T gl
   have ex:Ln.z6h (z0Y (z2n (Y x i (n+1+1) f (y1v e (x.hp i)) hh q)) i true) (e.out.g+1) (z5A (z2n (Y x i (n+1+1) f (y1v e (x.hp i)) hh q)) i true) (q2x (z2n (Y x i (n+1+1) f (y1v e (x.hp i)) hh q)) i true)=0:=by
    have D:z0Y (z2n (Y x i (n+1+1) f (y1v e (x.hp i)) hh q)) i true=e.out:=by show((Y x i (n+1+1) f (y1v e (x.hp i)) hh q).c i).out=_;rw[Y_c];rfl
    have E:z5A (z2n (Y x i (n+1+1) f (y1v e (x.hp i)) hh q)) i true=(x.hp i).t:=by show((Y x i (n+1+1) f (y1v e (x.hp i)) hh q).c i).h1=_;rw[Y_c];rfl
    have F:q2x (z2n (Y x i (n+1+1) f (y1v e (x.hp i)) hh q)) i true=(x.hp i).g:=by show((Y x i (n+1+1) f (y1v e (x.hp i)) hh q).c i).h3=_;rw[Y_c];rfl
    rw[D,E,F];exact exp_line gl T l e2 (by rw[y];exact e3) hg
   obtain⟨o,hp⟩:=y_cut2 r v (by omega) k ho true _ ex
   refine .off (n+1+1) f (y1v e (x.hp i)) [] (by rw[List.append_nil];exact o) (λ_ h=>(by cases h)) ?_
   have:=Y_pot (x:=x) (i:=i) (n:=n) (f:=f) (e:=e) (hh:=hh) (q:=q) (n':=n+1+1) (f':=f) (e':=y1v e (x.hp i)) (hh':=hh) (q':=q) k;have K:ptE f (y1v e (x.hp i))=ptE f e:=rfl;omega
  ·rw[e3,if_pos rfl,e2];rw[e2]at j
   have L:ptE f { e with out:={ e.out with g:=e.out.g+1}}=ptE f e - 1:=by
    unfold ptE;dsimp only;omega
   have G:=cr_T k v hh f y m (n+1) { e with out:={ e.out with g:=e.out.g+1}} (q++[((i:Int),p)]) j ho hs (by show(x.hp i).g<=e.out.g+1;omega) (by show(e.out.S.length:Int) - (e.out.g+1)<=_;omega) (by omega)
   have H:=Y_pot (x:=x) (i:=i) (n:=n) (f:=f) (e:=e) (hh:=hh) (q:=q) (n':=n+1) (f':=f) (e':={ e with out:={ e.out with g:=e.out.g+1}}) (hh':=hh) (q':=q++[((i:Int),p)]) k
   have B:∀A:List (Int×Pkt),(∀a∈A,a.1=(i:Int)/\∃s∈e.out.S.drop (e.out.g+1).toNat,z0X (Cd.bs s)=a.2)->∀a∈((i:Int),p) :: A,a.1=(i:Int)/\∃s∈e.out.S.drop e.out.g.toNat,z0X (Cd.bs s)=a.2:=λA h a w=>by
    rcases List.mem_cons.1 w with rfl|w
    ·exact⟨rfl,s,hsm,hps⟩
    ·obtain⟨h1,u,hu,h2⟩:=h a w;refine⟨h1,u,?_,h2⟩;have:(e.out.g+1).toNat=e.out.g.toNat+1:=by omega
     rw[this,<-List.drop_drop]at hu;exact List.mem_of_mem_drop hu
   cases G with
   | kept n' A a b c d =>
    refine .kept n' (((i:Int),p) :: A) (a.trans ?_) (B A b) (by omega) d
    rw[List.append_assoc];rfl
   | off n' f' e' A a b c =>
    refine .off n' f' e' (((i:Int),p) :: A) ?_ (B A b) (by omega)
    rw[List.append_assoc]at a;exact a
theorem nt_do{x:Wo}(h:Inv x){d:Dd}{k:Int}(a:d.k=k)(b:7<=k/\k<=10∨k=5){j:Nat}(c:j<2):nT (doW x d).1 j<=nT x j:=((pt_do h d c).2.2 (by rw[a];exact b)).2
theorem cr_nt{i:Nat}{b:Bool}{j:Nat}(a:j<2):∀(m:Nat) (x:Wo),Inv x->nT (crW i b m x) j<=nT x j
 | 0,_,_=>Int.le_refl _
 | m+1,x,h=>by
  have h1:=nt_do h (d:=delD i b) (k:=9) rfl (by decide) a
  have i1:=j5k h (delD i b);unfold crW
  split
  ·have:=cr_nt (i:=i) (b:=b) a m _ i1;omega
  ·split
   ·have h2:=nt_do i1 (d:=headD i (!b)) (k:=8) rfl (by decide) a
    have c:=j5k i1 (headD i (!b));have h3:=nt_do c (d:=expD i b ((z0Y (doW x (delD i b)).1 i b).g+1)) (k:=10) rfl (by decide) a
    omega
   ·exact h1
theorem hlf_nt{i:Nat}{b:Bool}{j:Nat}(a:j<2){x:Wo}(h:Inv x):nT (hlf i b x) j<=nT x j:=by
 unfold hlf
 split
 ·have h1:=nt_do h (d:=consD i) (k:=7) rfl (by decide) a
  have i1:=j5k h (consD i);have h2:=nt_do i1 (d:=headD i b) (k:=8) rfl (by decide) a
  have h3:=cr_nt (i:=i) (b:=b) a 400 _ (j5k i1 (headD i b));unfold carW;omega
 ·exact Int.le_refl _
structure Gn(x w:Wo)(i:Nat):Prop where
 ck:w.ck=x.ck
 hp:w.hp=x.hp
 h:w.p.h=x.p.h
 t:w.p.t=x.p.t
 set:w.p.set=x.p.set
 mn:w.p.mn=x.p.mn
 V:w.p.s.V=x.p.s.V
 W:∀v∈w.p.s.W,∃u∈x.p.s.W,v.due=u.due
 oth:∀j,j≠i->w.p.L j=x.p.L j/\w.c j=x.c j
 gx:GX w
theorem Gn.refl{x:Wo}(g:GX x)(i:Nat):Gn x x i:=⟨rfl,rfl,rfl,rfl,rfl,rfl,rfl,λv a=>⟨v,a,rfl⟩,λ_ _=>⟨rfl,rfl⟩,g⟩
theorem Gn.trans{x y w:Wo}{i:Nat}(a:Gn x y i)(b:Gn y w i):Gn x w i:=⟨b.ck.trans a.ck,b.hp.trans a.hp,b.h.trans a.h,b.t.trans a.t,b.set.trans a.set,b.mn.trans a.mn,b.V.trans a.V,λv f=>by obtain⟨u,hu,e⟩:=b.W v f;obtain⟨g,d,e'⟩:=a.W u hu;exact⟨g,d,e.trans e'⟩,λj c=>⟨(b.oth j c).1.trans (a.oth j c).1,(b.oth j c).2.trans (a.oth j c).2⟩,b.gx⟩
theorem gn_Y{x:Wo}{i:Nat}{n:Int}{f:Lk}{e:Cs}{hh:Hd}{q:List (Int×Pkt)}(g:GX (Y x i n f e hh q)):Gn x (Y x i n f e hh q) i:=⟨rfl,rfl,rfl,rfl,rfl,rfl,rfl,λv b=>⟨v,b,rfl⟩,λ_ a=>⟨(Y_oth a).1,(Y_oth a).2.1⟩,g⟩
theorem gn_of{x w:Wo}{i:Nat}{n:Int}{f:Lk}{e:Cs}{hh:Hd}{q:List (Int×Pkt)}(o:OF (Y x i n f e hh q) w i):Gn x w i:=⟨o.er.ck,o.er.hp,o.er.h,o.er.t,o.er.set,o.er.mn,o.er.V,o.er.W,λj a=>⟨(o.er.oth j a).1.trans (Y_oth a).1,(o.er.oth j a).2.trans (Y_oth a).2.1⟩,o.gx⟩
def nowC(x:Wo)(i:Nat):Cs:=z2K { x.c i with h:=(x.c i).h+1,t:=x.ck}
theorem now_da(x:Wo)(i:Nat):DA { x.c i with h:=(x.c i).h+1,t:=x.ck} (nowC x i):=done_da _
theorem now_pt(x:Wo)(i:Nat):ptE (x.p.L i) (nowC x i)=pt1 x i:=by
 have a:=done_len { x.c i with h:=(x.c i).h+1,t:=x.ck}
 have D:=now_da x i;have h1:=D.on;have h2:=D.pd;unfold ptE pt1 nU nowC at *;dsimp only at a h1 h2;rw[h1,h2,a.2];simp only[List.length_nil];omega
structure KF(x w:Wo)(i:Nat):Prop where
 fr:(w.p.L i).fresh=(x.p.L i).fresh
 dn:(w.p.L i).done=(x.p.L i).done
 u:nU w i=0
 out:(w.c i).out=(nowC x i).out
 rp:(w.c i).rp=(nowC x i).rp
 pd:nU x i=0->(w.c i).pd=[]
structure HF(x w:Wo)(i:Nat):Prop where
 gn:Gn x w i
 pt:w.dn+pot w<=x.dn+pot x+3
 q:∀a∈w.p.q,a∈x.p.q
 kept:(w.c i).on=true->KF x w i
theorem pot_1(x:Wo){i:Nat}(a:Inv x)(b:i<2):pt1 x i<=pot x:=by
 have h0:=pt1_pos a (show 0<2 by omega)
 have h1:=pt1_pos a (show 1<2 by omega)
 unfold pot
 rcases(show i=0∨i=1 by omega)with rfl|rfl <;> omega
theorem half_F{x:Wo}{i:Nat}(j:i<2)(g:GX x)(m:x.p.h<400)(A:x.dn+pot x<=580)(ho:(x.c i).on=true)(hs:(x.hp i).s=((x.p.L i).out.S.length:Int)):HF x (hlf i false x) i:=by
 have p1:=pot_1 x g.inv j;have p2:=pt1_pos g.inv j;have D:=now_da x i;have k:(nowC x i).on=true:=D.on.trans ho;have r:=Y_self x i
 have c1:(doW x (consD i)).1=Y x i (x.dn+1) (x.p.L i) (nowC x i) (z8R (nowC x i) (x.p.L i).out.g) x.p.q:=by
  have:=y_cons (x:=x) (i:=i) (n:=x.dn) (f:=x.p.L i) (e:=x.c i) (hh:=x.hc i) (q:=x.p.q) (by rw[r];exact g) (by omega) j ho
  rw[r]at this;exact this
 have w:=gx_do g m (consD i);rw[c1]at w;have c2:=y_headF (x:=x) (i:=i) (f:=x.p.L i) (e:=nowC x i) (hh:=z8R (nowC x i) (x.p.L i).out.g) (q:=x.p.q) (n:=x.dn+1) (by omega) j k
 have u:=gx_do w m (headD i false);rw[c2]at u;have b2:=gx_y u j
 have y:hlf i false x=crW i false 400 (Y x i (x.dn+1+1) (x.p.L i) (y1v (nowC x i) (x.hp i)) (z8R (nowC x i) (x.p.L i).out.g) x.p.q):=by
  unfold hlf;rw[if_pos ho];unfold carW;rw[c1,c2]
 have B:ptE (x.p.L i) (y1v (nowC x i) (x.hp i))=pt1 x i:=now_pt x i;have C:=cr_F j m (z8R (nowC x i) (x.p.L i).out.g) x.p.q D.t 400 (x.dn+1+1) (x.p.L i) (y1v (nowC x i) (x.hp i)) u k hs (Int.le_refl _) (by have:=b2.2.1;have:=b2.2.2.2.1;omega) (by omega)
 rw[<-y]at C;have v:=Y_pot (x:=x) (i:=i) (n:=x.dn) (f:=x.p.L i) (e:=x.c i) (hh:=x.hc i) (q:=x.p.q) (n':=x.dn+1+1) (f':=x.p.L i) (e':=y1v (nowC x i) (x.hp i)) (hh':=z8R (nowC x i) (x.p.L i).out.g) (q':=x.p.q) j;rw[r]at v;have E:ptE (x.p.L i) (x.c i)=pt1 x i:=rfl;cases C with
 | kept n' P a b c d =>
  have dn:(hlf i false x).dn=n':=by rw[a];rfl
  refine⟨by rw[a]at d⊢;exact gn_Y d,by omega,λz l=>by rw[a]at l;exact l,λ_=>⟨by rw[a,Y_L],by rw[a,Y_L],?_,by rw[a,Y_c];rfl,by rw[a,Y_c];rfl,λhu=>?_⟩⟩
  ·unfold nU;rw[a,Y_L];dsimp only;omega
  ·rw[a,Y_c]
   show(nowC x i).pd++P=[]
   rw[D.pd,b (by unfold nU at hu;omega)]
   rfl
 | off n' f' e' o c =>
  exact⟨gn_of o,by omega,λz l=>o.er.q z l,λh=>by rw[o.off]at h;cases h⟩
structure KT(x w:Wo)(i:Nat):Prop where
 fr:(w.p.L i).fresh=(x.p.L i).fresh
 dn:(w.p.L i).done=(x.p.L i).done
 lo:(w.p.L i).out=(x.p.L i).out
 rp:(w.c i).rp=(nowC x i).rp
 pd:(w.c i).pd=[]
 g:(w.c i).out.g=((w.c i).out.S.length:Int)
structure HT(x w:Wo)(i:Nat):Prop where
 gn:Gn x w i
 pt:w.dn+pot w<=x.dn+pot x+3
 q:∀a∈w.p.q,a∈x.p.q∨(a.1=(i:Int)/\∃s∈(nowC x i).out.S.drop (x.c i).out.g.toNat,z0X (Cd.bs s)=a.2)
 kept:(w.c i).on=true->KT x w i
theorem half_T{x:Wo}{i:Nat}(k:i<2)(g:GX x)(m:x.p.h<400)(F:x.dn+pot x<=580)(ho:(x.c i).on=true)(y:(x.hp i).t=x.ck)(B:(x.hp i).g<=(x.c i).out.g):HT x (hlf i true x) i:=by
 have p1:=pot_1 x g.inv k;have p2:=pt1_pos g.inv k;have D:=now_da x i;have l:(nowC x i).on=true:=D.on.trans ho;have r:=Y_self x i
 have c1:(doW x (consD i)).1=Y x i (x.dn+1) (x.p.L i) (nowC x i) (z8R (nowC x i) (x.p.L i).out.g) x.p.q:=by
  have:=y_cons (x:=x) (i:=i) (n:=x.dn) (f:=x.p.L i) (e:=x.c i) (hh:=x.hc i) (q:=x.p.q) (by rw[r];exact g) (by omega) k ho
  rw[r]at this;exact this
 have v:=gx_do g m (consD i);rw[c1]at v;have c2:=y_headT (x:=x) (i:=i) (f:=x.p.L i) (e:=nowC x i) (hh:=z8R (nowC x i) (x.p.L i).out.g) (q:=x.p.q) (n:=x.dn+1) (by omega) k l
 have s:=gx_do v m (headD i true);rw[c2]at s;have b2:=gx_y s k
 have E:hlf i true x=crW i true 400 (Y x i (x.dn+1+1) (j8G (x.p.L i) (z8R (nowC x i) (x.p.L i).out.g)) (nowC x i) (z8R (nowC x i) (x.p.L i).out.g) x.p.q):=by
  unfold hlf;rw[if_pos ho];unfold carW;rw[c1,c2]
 have G:ptE (j8G (x.p.L i) (z8R (nowC x i) (x.p.L i).out.g)) (nowC x i)=pt1 x i:=now_pt x i;have C:=cr_T k m (z8R (nowC x i) (x.p.L i).out.g) (j8G (x.p.L i) (z8R (nowC x i) (x.p.L i).out.g)) y 400 (x.dn+1+1) (nowC x i) x.p.q s l rfl (by rw[D.g];exact B) (by have:=b2.2.2.1;have:=b2.2.2.2.2;omega) (by omega)
 rw[<-E]at C;have u:=Y_pot (x:=x) (i:=i) (n:=x.dn) (f:=x.p.L i) (e:=x.c i) (hh:=x.hc i) (q:=x.p.q) (n':=x.dn+1+1) (f':=j8G (x.p.L i) (z8R (nowC x i) (x.p.L i).out.g)) (e':=nowC x i) (hh':=z8R (nowC x i) (x.p.L i).out.g) (q':=x.p.q) k;rw[r]at u;have H:ptE (x.p.L i) (x.c i)=pt1 x i:=rfl;have w:(nowC x i).out.g=(x.c i).out.g:=D.g;cases C with
 | kept n' A a b c d =>
  have dn:(hlf i true x).dn=n':=by rw[a];rfl
  refine⟨by rw[a]at d⊢;exact gn_Y d,by omega,λz j=>?_,λ_=>⟨by rw[a,Y_L];rfl,by rw[a,Y_L];rfl,by rw[a,Y_L];rfl,by rw[a,Y_c],by rw[a,Y_c];exact D.pd,by rw[a,Y_c]⟩⟩
  rw[a]at j
  rcases List.mem_append.1 (show z∈x.p.q++A from j)with j|j
  ·exact .inl j
  ·have:=b z j;rw[w]at this;exact .inr this
 | off n' f' e' A o b c =>
  refine⟨gn_of o,by omega,λz j=>?_,λh=>by rw[o.off]at h;cases h⟩
  rcases List.mem_append.1 (show z∈x.p.q++A from o.er.q z j)with j|j
  ·exact .inl j
  ·have:=b z j;rw[w]at this;exact .inr this
theorem good_mt{i:Int}(h1:1<=i)(h2:i<=1099511627776):Cd.z0n 2 i 0 0 [] []=0:=by
 unfold Cd.z0n;rw[if_neg (by omega),if_neg (by omega),if_neg (by rintro⟨h,-⟩;revert h;decide),if_neg (by decide),if_neg (by decide)]
theorem ripe_empty:∀(l:Pws) (c:Cs),Ln.z1a c.out=true->c.out.cl=false->0<=c.t->c.out.S.length+l.length<=399->(∀r∈l,r.2<=c.t/\1<=r.1/\r.1<=1099511627776)->(z1R c l).rp=[]
 | [],_,_,_,_,_,_=>rfl
 | x :: l,c,hg,hc,ht,hl,hr=>by
  have h:=hr x List.mem_cons_self;simp only[List.length_cons]at hl;have hs:Ln.z5O c.out (c.t+40)=0:=j2w hg hc (by omega) (by omega)
  have e:z2o c 2 x.1 0 0 c.t=({ c with out:=Ln.z4C c.out (Cd.encS 2 x.1 0 0 [] []) (c.t+40)},0):=by
   unfold z2o;rw[if_pos (good_mt h.2.1 h.2.2),hs]
  have b:(Ln.z4C c.out (Cd.encS 2 x.1 0 0 [] []) (c.t+40)).cl=false/\(Ln.z4C c.out (Cd.encS 2 x.1 0 0 [] []) (c.t+40)).S.length=c.out.S.length+1:=by
   unfold Ln.z4C;rw[if_pos hs];exact⟨hc,by simp⟩
  unfold z1R;rw[if_pos h.1,e,if_pos rfl];refine ripe_empty l _ (q4e _ _ hg) b.1 ht ?_ λr a=>hr r (List.mem_cons_of_mem _ a)
  show(Ln.z4C c.out (Cd.encS 2 x.1 0 0 [] []) (c.t+40)).S.length+l.length<=399
  omega
theorem now_empty{x:Wo}{i:Nat}(a:i<2)(g:GX x)(ho:(x.c i).on=true)(hp:(x.c i).pd=[])(hd:∀r∈(x.c i).rp,r.2<=x.ck)(b:nT x i<=399):(nowC x i).rp=[]:=by
 have gc:=g.inv.gc i a;have u:=(inv_g g.inv a).1.1
 have e:nowC x i=z1R { x.c i with h:=(x.c i).h+1,t:=x.ck,pd:=[]} (x.c i).rp:=by
  unfold nowC z2K z1w;dsimp only;rw[hp];rfl
 rw[e];refine ripe_empty _ _ gc.out (g.zz.zc i a ho).cl g.inv.k0 ?_ λr d=>⟨hd r d,(gc.rp r d).1,(gc.rp r d).2.1⟩
 show(x.c i).out.S.length+(x.c i).rp.length<=399
 unfold nT at b;rw[hp]at b;simp only[List.length_nil]at b;omega
structure KR(x w:Wo)(i:Nat):Prop where
 fr:(w.p.L i).fresh=(x.p.L i).fresh
 dn:(w.p.L i).done=(x.p.L i).done
 u:nU w i=0
 pd:(w.c i).pd=[]
 g:(w.c i).out.g=((w.c i).out.S.length:Int)
 rp:nU x i=0->(x.c i).pd=[]->∀r∈(w.c i).rp,r∈(x.c i).rp
 rp0:nU x i=0->(x.c i).pd=[]->(∀r∈(x.c i).rp,r.2<=x.ck)->nT x i<=399->(w.c i).rp=[]
structure RC(x w:Wo)(i:Nat):Prop where
 gn:Gn x w i
 pt:w.dn+pot w<=x.dn+pot x+6
 nt:∀j,j<2->nT w j<=nT x j
 q:∀a∈w.p.q,a∈x.p.q∨((x.c i).on=true/\(a.2.k=2∨∃s∈(x.c i).out.S.drop (x.c i).out.g.toNat,z0X (Cd.bs s)=a.2))
 q0:((x.c i).on=true->nU x i=0/\(x.c i).pd=[]/\(x.c i).rp=[]/\(x.c i).out.g=((x.c i).out.S.length:Int))->∀a∈w.p.q,a∈x.p.q
 kept:(w.c i).on=true->(x.c i).on=true/\KR x w i
theorem now_S{x:Wo}{i:Nat}(a:Inv x)(d:i<2){s:ByteArray}(h:s∈(nowC x i).out.S.drop (x.c i).out.g.toNat):s∈(x.c i).out.S.drop (x.c i).out.g.toNat∨(z0X (Cd.bs s)).k=2:=by
 obtain⟨T,e,f,-,-⟩:=(now_da x i).S;have b:=(inv_g a d).2;rw[e]at h
 rcases(mem_drop_app (l:=(x.c i).out.S) (by omega)).1 h with h|h
 ·exact .inl h
 ·exact .inr (f s h).2
theorem now_len(x:Wo)(i:Nat):(nowC x i).rp.length+(nowC x i).out.S.length=(x.c i).rp.length+(x.c i).pd.length+(x.c i).out.S.length:=(done_len _).1
theorem now_nil{x:Wo}{i:Nat}(hp:(x.c i).pd=[])(b:(x.c i).rp=[]):(nowC x i).out.S=(x.c i).out.S/\(nowC x i).rp=[]:=by
 obtain⟨T,e,-,-,-⟩:=(now_da x i).S;have a:=now_len x i;rw[hp,b,e,List.length_append]at a;dsimp only at a e;simp only[List.length_nil]at a;have h1:T=[]:=List.eq_nil_of_length_eq_zero (by omega)
 have h2:(nowC x i).rp=[]:=List.eq_nil_of_length_eq_zero (by omega)
 exact⟨by rw[e,h1,List.append_nil],h2⟩
theorem rc_one{x:Wo}{i:Nat}(l:i<2)(g:GX x)(o:x.p.h<400)(W:x.dn+pot x<=570)(hs:(x.hp i).s=((x.p.L i).out.S.length:Int))(B:(x.hp i).t=x.ck)(C:(x.hp i).g<=(x.c i).out.g):RC x (hlf i true (hlf i false x)) i:=by
 have off:∀{z:Wo} {b:Bool},¬(z.c i).on=true->hlf i b z=z:=λh=>by unfold hlf;rw[if_neg h]
 have nt:∀j,j<2->nT (hlf i true (hlf i false x)) j<=nT x j:=λj v=>by
  have h1:=hlf_nt (i:=i) (b:=false) v g.inv
  have E:Inv (hlf i false x):=by
   by_cases ho:(x.c i).on=true
   ·exact(half_F l g o (by omega) ho hs).gn.gx.inv
   ·rw[off ho];exact g.inv
  have h2:=hlf_nt (i:=i) (b:=true) v E;omega
 by_cases ho:(x.c i).on=true
 ·have F:=half_F l g o (by omega) ho hs
  have D:=now_da x i;generalize hlf i false x=y at *
  by_cases m:(y.c i).on=true
  ·have K:=F.kept m;have n:(y.c i).out.g=(x.c i).out.g:=by rw[K.out];exact D.g
   have T:=half_T l F.gn.gx (by rw[F.gn.h];exact o) (by have:=F.pt;omega) m (by rw[F.gn.hp,F.gn.ck];exact B) (by rw[F.gn.hp,n];exact C)
   have G:=now_da y i;have A:nU y i=0:=K.u;generalize hlf i true y=w at *;refine⟨F.gn.trans T.gn,by have:=F.pt;have:=T.pt;omega,nt,λa d=>?_,λhc a d=>?_,λH=>⟨ho,?_⟩⟩
   ·rcases T.q a d with h|⟨h,s,hs,e⟩
    ·exact .inl (F.q a h)
    ·refine .inr ⟨ho,?_⟩;rw[n]at hs;have b1:=now_S F.gn.gx.inv l (by rw[n];exact hs)
     rcases b1 with b1|b1
     ·rw[n,K.out]at b1
      rcases now_S g.inv l b1 with b2|b2
      ·exact .inr ⟨s,b2,e⟩
      ·exact .inl (by rw[<-e];exact b2)
     ·exact .inl (by rw[<-e];exact b1)
   ·rcases T.q a d with h|⟨h,s,hs,e⟩
    ·exact F.q a h
    ·obtain⟨hu,hp,f,M⟩:=hc ho;have n1:=now_nil hp f;have N:=now_nil (x:=y) (i:=i) (K.pd hu) (by rw[K.rp];exact n1.2)
     rw[N.1,K.out,n1.1,show(nowC x i).out.g=(x.c i).out.g from D.g,M,Int.toNat_natCast,List.drop_length]at hs;cases hs
   ·have Q:=T.kept H
    have k:∀r∈(nowC y i).rp,nU x i=0->r∈(nowC x i).rp:=λr f hu=>by
     rcases G.sub r f with q|⟨-,p,hp,-⟩
     ·rw[<-K.rp];exact q
     ·have:=K.pd hu;dsimp only at hp;rw[this]at hp;cases hp
    refine⟨Q.fr.trans K.fr,Q.dn.trans K.dn,by unfold nU at A⊢;rw[Q.lo];exact A,Q.pd,Q.g,λhu hp r f=>?_,λhu hp hd P=>?_⟩
    ·rw[Q.rp]at f
     rcases D.sub r (k r f hu)with q|⟨-,p,hp',-⟩
     ·exact q
     ·dsimp only at hp';rw[hp]at hp';cases hp'
    ·rw[Q.rp];have R:=now_empty l g ho hp hd P;refine List.eq_nil_iff_forall_not_mem.2 λr f=>?_;have:=k r f hu;rw[R]at this;cases this
  ·rw[off m]at nt⊢;exact⟨F.gn,by have:=F.pt;omega,nt,λa d=>.inl (F.q a d),λ_ a d=>F.q a d,λh=>absurd h m⟩
 ·have U:=off (b:=false) ho;rw[U]at nt⊢;have V:=off (b:=true) ho;rw[V]at nt⊢;exact⟨Gn.refl g i,by omega,nt,λa d=>.inl d,λ_ _ d=>d,λh=>absurd h ho⟩
def jlN(V:Nat->Vd):Nat->Nat
 | 0=>0
 | k+1=>jlN V k+if(V k).jail=true then 1 else 0
theorem jl_le{V a:Nat->Vd}(h:∀v,(V v).jail=true->(a v).jail=true):∀k,jlN V k<=jlN a k
 | 0=>Nat.le_refl _
 | k+1=>by
  have b:=jl_le h k;unfold jlN
  by_cases e:(V k).jail=true
  ·rw[if_pos e,if_pos (h k e)];omega
  ·rw[if_neg e];omega
theorem jl_lt{V a:Nat->Vd}(h:∀v,(V v).jail=true->(a v).jail=true){v:Nat}(h1:(V v).jail=false)(h2:(a v).jail=true):∀k,v<k->jlN V k+1<=jlN a k
 | 0,hk=>by omega
 | k+1,hk=>by
  unfold jlN
  by_cases e:v=k
  ·subst e;have:=jl_le h v;rw[if_neg (by rw[h1];simp),if_pos h2]
   omega
  ·have b:=jl_lt h h1 h2 k (by omega)
   by_cases e:(V k).jail=true
   ·rw[if_pos e,if_pos (h k e)];omega
   ·rw[if_neg e];omega
theorem jl_6(V:Nat->Vd):jlN V 6<=6:=by
 have:∀k,jlN V k<=k:=λk=>by
  induction k with
  | zero=>exact Nat.le_refl _
  | succ k ih=>unfold jlN;split <;> omega
 exact this 6
theorem deal_jl(p:Pr)(c:Nat)(x:Pkt)(f:x.k=2∨x.k=4∨x.v.toNat<6):(∀v,(p.s.V v).jail=true->((z1y p c x).1.s.V v).jail=true)/\((z1y p c x).1.ml=p.ml∨jlN p.s.V 6+1<=jlN (z1y p c x).1.s.V 6)/\((z1y p c x).2=false->(z1y p c x).1=p/\p.ml<1):=by
 unfold z1y
 by_cases d:x.k=2
 ·rw[if_pos d];exact⟨λ_ h=>h,.inl rfl,λh=>by cases h⟩
 rw[if_neg d]
 by_cases e:x.k=4
 ·rw[if_pos e]
  split
  ·exact⟨λ_ h=>h,.inl rfl,λh=>by cases h⟩
  ·refine⟨λv h=>?_,.inl rfl,λh=>by cases h⟩
   show(z1Q (z1Q p.s.V _ _) _ _ v).jail=true
   unfold z1Q
   split
   ·rfl
   ·exact h
 rw[if_neg e]
 by_cases a:(p.s.V x.v.toNat).jail=true
 ·rw[if_pos a];exact⟨λ_ h=>h,.inl rfl,λh=>by cases h⟩
 rw[if_neg a]
 by_cases b:p.ml<1
 ·rw[if_pos b];exact⟨λ_ h=>h,.inl rfl,λ_=>⟨rfl,b⟩⟩
 rw[if_neg b]
 have mono:∀v,(p.s.V v).jail=true->((z5m p.s x.v.toNat true (p.s.V x.v.toNat).dead).V v).jail=true:=λv h=>by
  show(z1Q p.s.V _ _ v).jail=true
  unfold z1Q
  split
  ·rfl
  ·exact h
 refine⟨mono,.inr (jl_lt mono (v:=x.v.toNat) (by simpa using a) ?_ 6 (by omega)),λh=>by cases h⟩
 show(z1Q p.s.V _ _ x.v.toNat).jail=true
 unfold z1Q;rw[if_pos rfl]
structure QI(V0:Nat->Vd)(z:QS):Prop where
 mono:∀v,(V0 v).jail=true->(z.p.s.V v).jail=true
 ml:1<=z.p.ml∨jlN V0 6+1<=jlN z.p.s.V 6
 left:(z.left=[]/\∀i,z.wt i=false)∨jlN V0 6+1<=jlN z.p.s.V 6
theorem qi_fold(V0:Nat->Vd):∀(l:List (Int×Pkt)) (z:QS),(∀a∈l,a.2.k=2∨a.2.k=4∨a.2.v.toNat<6)->QI V0 z->QI V0 (l.foldl z1n z)
 | [],_,_,h=>h
 | a :: l,z,ha,h=>by
  rw[List.foldl_cons];refine qi_fold V0 l _ (λb hb=>ha b (List.mem_cons_of_mem _ hb)) ?_;have D:=deal_jl z.p a.1.toNat a.2 (ha a List.mem_cons_self);unfold z1n
  by_cases d:z.wt a.1.toNat=true
  ·rw[if_pos d];have c:jlN V0 6+1<=jlN z.p.s.V 6:=h.left.resolve_left λq=>by rw[q.2]at d;cases d
   exact⟨h.mono,.inr c,.inr c⟩
  ·rw[if_neg d]
   by_cases hd:(z1y z.p a.1.toNat a.2).2=true
   ·rw[if_pos hd];have e:=jl_le D.1 6;refine⟨λv f=>D.1 v (h.mono v f),?_,?_⟩
    ·dsimp only;have h0:=jl_le h.mono 6
     rcases D.2.1 with q|q
     ·rcases h.ml with m|m
      ·exact .inl (by rw[q];exact m)
      ·exact .inr (by omega)
     ·exact .inr (by omega)
    ·dsimp only
     rcases h.left with m|m
     ·exact .inl m
     ·exact .inr (by omega)
   ·rw[if_neg hd];have q:=D.2.2 (by simpa using hd)
    have c:jlN V0 6+1<=jlN z.p.s.V 6:=h.ml.resolve_left λm=>by have:=q.2;omega
    exact⟨h.mono,.inr c,.inr c⟩
theorem mat_fold:∀(l:List (Int×Pkt)) (z:QS),(∀a∈l,a.2.k=2)->(∀i,z.wt i=false)->(l.foldl z1n z).left=z.left/\(l.foldl z1n z).p.s.V=z.p.s.V/\(l.foldl z1n z).p.L=z.p.L
 | [],_,_,_=>⟨rfl,rfl,rfl⟩
 | a :: l,z,ha,hw=>by
  rw[List.foldl_cons];have c:=ha a List.mem_cons_self
  have e:z1n z a={ z with p:={ z.p with s:={ z.p.s with W:=z4X a.1.toNat a.2.i z.p.s.W}}}:=by
   have d:z1y z.p a.1.toNat a.2=({ z.p with s:={ z.p.s with W:=z4X a.1.toNat a.2.i z.p.s.W}},true):=by unfold z1y;rw[if_pos c]
   unfold z1n;rw[if_neg (by rw[hw];simp),d,if_pos rfl]
  rw[e];exact mat_fold l _ (λb hb=>ha b (List.mem_cons_of_mem _ hb)) hw
theorem pkt_v{L:Nat->Lk}{a:Int×Pkt}(h:GQ L a):a.2.k=2∨a.2.k=4∨a.2.v.toNat<6:=by
 have g:=h.good;have k:=h.k;unfold Cd.z0n at g
 by_cases h1:a.2.k<1∨4<a.2.k
 ·rw[if_pos h1]at g;cases g
 rw[if_neg h1]at g
 by_cases h2:a.2.i<1∨1099511627776<a.2.i
 ·rw[if_pos h2]at g;cases g
 rw[if_neg h2]at g
 by_cases h3:Cd.z7j a.2.k=true/\(Cd.isV a.2.v=false∨a.2.n<1∨1125899906842624<a.2.n)
 ·rw[if_pos h3]at g;cases g
 by_cases c:a.2.k=2
 ·exact .inl c
 by_cases d:a.2.k=4
 ·exact .inr (.inl d)
 have f:a.2.k=3:=by omega
 refine Z2 ?_;have j:Cd.z7j a.2.k=true:=by rw[f];decide
 have b:Cd.isV a.2.v=true:=by
  cases e:Cd.isV a.2.v
  ·exact absurd ⟨j,.inl e⟩ h3
  ·rfl
 unfold Cd.isV at b;simp only[decide_eq_true_eq]at b;omega
structure PB(x w:Wo):Prop where
 gx:GX w
 ck:w.ck=x.ck
 c:w.c=x.c
 h:w.p.h=x.p.h+1
 hp:∀i,(w.hp i).s=((w.p.L i).out.S.length:Int)/\(w.hp i).t=w.ck/\(w.hp i).g=(x.c i).out.g
 set:w.p.set=z7C w.p.s.V
 W:∀v∈w.p.s.W,∃u∈x.p.s.W,v.due=u.due
 pt:w.dn+pot w<=x.dn+pot x+5
 nt:∀i,i<2->nT w i<=nT x i+1
 fr:∀i,i<2->(x.c i).on=true->(w.p.L i).fresh=false/\(w.p.L i).done=[]
 q:∀a∈w.p.q,a∈x.p.q
 jl:w.p.q=[]/\jlN x.p.s.V 6<=jlN w.p.s.V 6∨jlN x.p.s.V 6+1<=jlN w.p.s.V 6
 mat:(∀a∈x.p.q,a.2.k=2)->w.p.q=[]/\w.p.s.V=x.p.s.V/\(x.p.set=z7C x.p.s.V->(∀i,i<2->(x.c i).on=true->(x.p.L i).fresh=false/\(x.p.L i).done=[])->∀i,i<2->(x.c i).on=true->w.p.L i=x.p.L i)
 pay:x.p.q=[]->(∀u∈x.p.s.W,u.due<=x.ck/\u.h0=0/\u.h1=0)->w.p.s.W=[]
theorem pb_do{x:Wo}(g:GX x)(B:x.p.h<400)(hd:x.dn<600)(P:x.p.mn<=x.ck):PB x (doW x provD).1:=by
 have gx:=gx_do g B provD;have dn:=y1K x provD hd;have b:z0o x.p=true/\isT x.ck=true/\x.p.t<=x.ck:=⟨(z6o _).2 g.inv.gp,(z9X _).2 ⟨g.inv.k0,by have:=g.inv.k1;omega⟩,g.inv.pt⟩
 have e:(doW x provD).1={ x with dn:=x.dn+1,p:=(endP x.p x.ck).1,hp:=z5u (endP x.p x.ck).1 x.c}:=by
  have h0:(endP x.p x.ck).2.2=0:=by unfold endP;rw[if_pos b]
  have:z2J (z2n x) provD=z3F (z2n x):=rfl;unfold doW;rw[if_neg (by omega),this]
  unfold z3F;rw[if_pos (show(endP (z2n x).p (z2n x).ck).2.2=0 from h0)];rfl
 have E:=z3a b;have r:=j9y b;have p0:=(pt_do g.inv provD (show 0<2 by omega))
 have p1:=(pt_do g.inv provD (show 1<2 by omega))
 have j:(doW x provD).1.dn+pot (doW x provD).1<=x.dn+pot x+5:=by unfold pot;omega
 have m:(z0y x.p x.ck).ml=Mt.alw (Df.q6d x.p.set):=by show(if x.ck<x.p.mn then _ else _)=_;rw[if_neg (by omega)]
 have C:(endP x.p x.ck).1=z1t (z1t (z3l (z0q (z0y x.p x.ck)) x.ck) 0) 1:=by unfold endP;rw[if_pos b]
 obtain⟨H,W⟩:=g.wh;have Q:=qi_fold x.p.s.V x.p.q ⟨z0y x.p x.ck,λ_=>false,[]⟩ (λa d=>pkt_v (g.inv.gp.q a d)) ⟨λ_ h=>h,.inl (by rw[m];exact Mt.y2y _),.inl ⟨rfl,λ_=>rfl⟩⟩
 have w:(endP x.p x.ck).1.s.V=(goQ (z0y x.p x.ck)).p.s.V:=by rw[E.s];rfl
 have y:=E.q;have D:=q_hold x.p.q ⟨z0y x.p x.ck,λ_=>false,[]⟩ (λa d=>⟨(g.inv.gp.q a d).c0,(g.inv.gp.q a d).c1⟩);refine⟨gx,by rw[e],by rw[e],by rw[e];exact E.h,λi=>?_,by rw[e];exact E.set,λv l=>?_,j,λi f=>(pt_do g.inv provD f).2.1,λi f ho=>?_,λa d=>?_,?_,λF=>?_,λn G=>?_⟩
 ·rw[e];exact⟨rfl,E.t,rfl⟩
 ·rw[e]at l;dsimp only at l;rw[r]at l;obtain⟨u,hu,h,-⟩:=D v (List.mem_filter.1 l).1;exact⟨u,hu,h⟩
 ·have T:=W.ti i f ho;have R:=T.len;obtain⟨z,S,hc⟩:=end_tolq b f T.cl (by omega) ((g.inv.on i f).1.symm.trans ho)
  rw[e]
  rcases hc with⟨e1,e2⟩|t
  ·dsimp only;rw[e1];exact e2
  ·dsimp only;rw[t.eq];exact⟨rfl,rfl⟩
 ·rw[e]at d;exact y2C b a d
 ·rw[e];dsimp only;rw[w,y]
  rcases Q.left with h|h
  ·exact .inl ⟨h.1,jl_le Q.mono 6⟩
  ·exact .inr h
 ·have M:=mat_fold x.p.q ⟨z0y x.p x.ck,λ_=>false,[]⟩ F λ_=>rfl;rw[e];dsimp only;rw[w,y];refine⟨M.1,M.2.1,λhs K i f ho=>?_⟩;rw[C];have A:(z0q (z0y x.p x.ck)).L=x.p.L:=M.2.2
  have N:(z3l (z0q (z0y x.p x.ck)) x.ck).set=x.p.set:=by
   show z7C (goQ (z0y x.p x.ck)).p.s.V=_
   rw[hs];exact congrArg z7C M.2.1
  have quiet:∀c,c<2->z1t (z3l (z0q (z0y x.p x.ck)) x.ck) c=z3l (z0q (z0y x.p x.ck)) x.ck:=λc hc=>by
   unfold z1t;rw[if_pos]
   show z5q _ ((z0q (z0y x.p x.ck)).L c)=true
   rw[A];unfold z5q;cases o:(x.p.L c).on
   ·rfl
   ·have k:=(g.inv.on c hc).1.trans o;have h1:=K c hc k;have h2:=(W.ti c hc k).told;rw[N,h1.1,h1.2,h2]
    simp
  rw[quiet 0 (by omega),quiet 1 (by omega)]
  exact congrFun A i
 ·rw[e];dsimp only;rw[r]
  have:(goQ (z0y x.p x.ck)).p.s.W=x.p.s.W:=by
   unfold goQ
   show(List.foldl z1n _ x.p.q).p.s.W=_
   rw[n];rfl
  rw[this];unfold z1x;rw[List.filter_eq_nil_iff];intro u hu;have:=G u hu;unfold z5N
  simp[this]
structure B0(x:Wo)(r:Nat)(t:Int):Prop where
 gx:GX x
 pt:x.dn+pot x<=300+18*(r:Int)
 nt:∀i,i<2->nT x i<=60+(r:Int)
 h:x.p.h<=60+(r:Int)
 ck:x.ck=t+10*(r:Int)
 du:∀u∈x.p.s.W,u.due<=t+20
structure S0(x:Wo):Prop where
 c:∀i,i<2->(x.c i).on=true->nU x i=0/\(x.c i).pd=[]/\(x.c i).out.g=((x.c i).out.S.length:Int)
 set:x.p.set=z7C x.p.s.V
 fr:∀i,i<2->(x.c i).on=true->(x.p.L i).fresh=false/\(x.p.L i).done=[]
def S1(x:Wo):Prop:=∀a∈x.p.q,a.2.k=2
def S2(x:Wo):Prop:=∀i,i<2->(x.c i).on=true->∀r∈(x.c i).rp,r.2<=x.ck+5
def S3(x:Wo):Prop:=∀i,i<2->(x.c i).on=true->(x.c i).rp=[]
structure RD(x w:Wo)(r:Nat)(t:Int):Prop where
 b:B0 w (r+1) t
 s0:S0 w
 jl:S0 x->S1 w∨jlN x.p.s.V 6+1<=jlN w.p.s.V 6
 s1:S0 x->S1 x->S1 w/\S2 w/\(S2 x->S3 w)/\(S3 x->S3 w/\w.p.q=[])/\(S3 x->x.p.q=[]->2<=r+1->w.p.s.W=[])
 s5:x.p.s.W=[]->w.p.s.W=[]
theorem do_tick{x:Wo}(hd:x.dn<600)(a:x.ck+10<=1099511627736):(doW x tickD).1={ x with dn:=x.dn+1,ck:=x.ck+10}/\(doW x tickD).2.1=0:=by
 have e:z2J (z2n x) tickD=({ z2n x with ck:=x.ck+10},x.ck+10,0):=by
  show z4z (z2n x) 10=_
  unfold z4z;rw[if_neg (by show ¬((10:Int)<1∨1099511627736 - x.ck<10);omega)]
  rfl
 unfold doW;rw[if_neg (by omega),e]
 exact⟨rfl,rfl⟩
theorem nil_hold{x:Wo}(g:GX x)(s:S0 x)(h3:S3 x)(l:x.p.q=[]){i:Nat}(e:i<2){u:Wt}(hu:u∈x.p.s.W):z1M i u=0:=by
 refine Classical.byContradiction λh=>?_;obtain⟨f,m⟩:=g.zz.ho i e u hu h;have ho:=(g.inv.on i e).1.trans f;obtain⟨n,hp,o⟩:=s.c i e ho
 rcases m with a|⟨q,d,-⟩|⟨q,d,-⟩|⟨r,j,-⟩|⟨z,k,-⟩|⟨b,hb,-⟩
 ·rw[(s.fr i e ho).1]at a;cases a
 ·unfold nU at n;unfold pkS at d;rw[show(x.p.L i).out.g.toNat=(x.p.L i).out.S.length by omega,List.drop_length]at d
  cases d
 ·rw[hp]at d;cases d
 ·rw[h3 i e ho]at j;cases j
 ·rw[o,Int.toNat_natCast,List.drop_length]at k;cases k
 ·rw[l]at hb;cases hb
theorem round_do{x:Wo}{r:Nat}{t:Int}(b:B0 x r t)(hr:r<14)(hk:x.ck+10<=1099511627736):RD x (rnd x) r t:=by
 have g:=b.gx;have q0:=pt1_pos g.inv (show 0<2 by omega)
 have q1:=pt1_pos g.inv (show 1<2 by omega)
 have bp:=b.pt;have bh:=b.h;have p0:0<=pot x:=by unfold pot;omega
 obtain⟨X,-⟩:=do_tick (x:=x) (by omega) hk
 have Y:=gx_do g (by omega) tickD
 rw[X]at Y;have a0:=g.inv.pt;have a5:=g.zz.mn;have P:=pb_do Y (by show x.p.h<400;omega) (by show x.dn+1<600;omega) (by show x.p.mn<=x.ck+10;omega)
 have pp:pot ({ x with dn:=x.dn+1,ck:=x.ck+10}:Wo)=pot x:=rfl
 have ew:rnd x=hlf 1 true (hlf 1 false (hlf 0 true (hlf 0 false (doW { x with dn:=x.dn+1,ck:=x.ck+10} provD).1))):=by
  unfold rnd rnd2;rw[X]
 rw[ew];have Z:=P.pt;have Ph:=P.h;rw[pp]at Z;dsimp only at Z Ph;generalize (doW { x with dn:=x.dn+1,ck:=x.ck+10} provD).1=x2 at *
 have R0:=rc_one (x:=x2) (i:=0) (by omega) P.gx (by omega) (by omega) (P.hp 0).1 (P.hp 0).2.1 (by rw[(P.hp 0).2.2,P.c];exact Int.le_refl _)
 have Rp:=R0.pt;generalize hlf 0 true (hlf 0 false x2)=y at *;have j:=R0.gn.oth 1 (by omega)
 have m:=rc_one (x:=y) (i:=1) (by omega) R0.gn.gx (by rw[R0.gn.h];omega) (by omega) (by rw[R0.gn.hp,j.1];exact(P.hp 1).1) (by rw[R0.gn.hp,R0.gn.ck];exact(P.hp 1).2.1) (by rw[R0.gn.hp,j.2,(P.hp 1).2.2,P.c];exact Int.le_refl _)
 have Rq:=m.pt;generalize hlf 1 true (hlf 1 false y)=w at *;have A:=m.gn.oth 0 (by omega)
 have D:x2.ck=x.ck+10:=P.ck;have N:w.ck=x2.ck:=m.gn.ck.trans R0.gn.ck;have Vw:w.p.s.V=x2.p.s.V:=m.gn.V.trans R0.gn.V;have c2:∀i,x2.c i=x.c i:=λi=>by rw[P.c]
 have U:∀v∈w.p.s.W,∃u∈x2.p.s.W,v.due=u.due:=λv E=>by
  obtain⟨u,hu,e⟩:=m.gn.W v E;obtain⟨T,l,e'⟩:=R0.gn.W u hu;exact⟨T,l,e.trans e'⟩
 have Q:∀i,i<2->nT x2 i<=nT x i+1:=P.nt
 have M:∀i,i<2->(w.c i).on=true->(x.c i).on=true/\KR x2 w i:=λi f ho=>by
  rcases(show i=0∨i=1 by omega)with rfl|rfl
  ·rw[A.2]at ho;obtain⟨a,K⟩:=R0.kept ho;rw[c2]at a;exact⟨a,by rw[A.1];exact K.fr,by rw[A.1];exact K.dn,by unfold nU;rw[A.1];exact K.u,by rw[A.2];exact K.pd,by rw[A.2];exact K.g,λu p=>by rw[A.2];exact K.rp u p,λu p d n=>by rw[A.2];exact K.rp0 u p d n⟩
  ·obtain⟨a,K⟩:=m.kept ho;rw[j.2,c2]at a;have eU:nU y 1=nU x2 1:=by unfold nU;rw[j.1]
   have eN:nT y 1=nT x2 1:=by unfold nT;rw[eU,j.2]
   have h1:=K.rp;have h2:=K.rp0;rw[eU,j.2]at h1 h2;rw[eN,R0.gn.ck]at h2;exact⟨a,by rw[K.fr,j.1],by rw[K.dn,j.1],K.u,K.pd,K.g,h1,h2⟩
 have qw:(∀i,i<2->(x.c i).on=true->(x.c i).out.g=((x.c i).out.S.length:Int))->∀a∈w.p.q,a∈x2.p.q∨a.2.k=2:=λhs a F=>by
  have R:∀{z:Wo} {i:Nat},i<2->z.c i=x.c i->(z.c i).on=true->∀s∈(z.c i).out.S.drop (z.c i).out.g.toNat,False:=λ{z i} f e ho s h=>by
   rw[e]at ho h;rw[hs i f ho,Int.toNat_natCast,List.drop_length]at h;cases h
  rcases m.q a F with h|⟨ho,h|⟨s,h,-⟩⟩
  ·rcases R0.q a h with h|⟨ho,h|⟨s,h,-⟩⟩
   ·exact .inl h
   ·exact .inr h
   ·exact(R (by omega) (c2 0) ho s h).elim
  ·exact .inr h
  ·exact(R (i:=1) (by omega) (j.2.trans (c2 1)) ho s h).elim
 have bd:=b.du;have bc:=b.ck
 have B:B0 w (r+1) t:=by
  refine⟨m.gn.gx,by omega,λi f=>?_,by rw[m.gn.h,R0.gn.h];omega,by rw[N,D];omega,λv E=>?_⟩
  ·have a1:=m.nt i f;have a2:=R0.nt i f;have a3:=Q i f;have a4:=b.nt i f;omega
  ·obtain⟨u,hu,e⟩:=U v E;obtain⟨T,l,e'⟩:=P.W u hu;rw[e,e'];exact bd T l
 have s0:S0 w:=by
  refine⟨λi f ho=>?_,by rw[m.gn.set,R0.gn.set,Vw];exact P.set,λi f ho=>?_⟩
  ·have K:=(M i f ho).2;exact⟨K.u,K.pd,K.g⟩
  ·have K:=M i f ho;have:=P.fr i f K.1;exact⟨K.2.fr.trans this.1,K.2.dn.trans this.2⟩
 refine⟨B,s0,λs=>?_,λs hq=>?_,λh=>?_⟩
 ·rcases P.jl with h|h
  ·refine .inl λa F=>?_
   rcases qw (λi f ho=>(s.c i f ho).2.2) a F with q|q
   ·rw[h.1]at q;cases q
   ·exact q
  ·exact .inr (by rw[Vw];exact h)
 ·obtain⟨m1,m2,m3⟩:=P.mat hq;have eL:∀i,i<2->(x.c i).on=true->x2.p.L i=x.p.L i:=m3 s.set s.fr;have o:∀i,i<2->(x.c i).on=true->nU x2 i=0/\(x2.c i).pd=[]:=λi f ho=>⟨by unfold nU;rw[eL i f ho];exact(s.c i f ho).1,by rw[c2];exact(s.c i f ho).2.1⟩
  have sub:∀i,i<2->(w.c i).on=true->∀z∈(w.c i).rp,z∈(x.c i).rp:=λi f ho z C=>by
   have K:=M i f ho;have n:=o i f K.1;have:=K.2.rp n.1 n.2 z C
   rwa [c2]at this
  have h1:S1 w:=λa F=>by
   rcases qw (λi f ho=>(s.c i f ho).2.2) a F with q|q
   ·rw[m1]at q;cases q
   ·exact q
  refine⟨h1,λi f ho z C=>?_,λh2 i f ho=>?_,λh3=>⟨λi f ho=>?_,?_⟩,λh3 G _=>?_⟩
  ·have K:=M i f ho;have hd:=(g.zz.zc i f K.1).due z (sub i f ho z C);have:=g.inv.ct i f;rw[N,D];omega
  ·have K:=M i f ho;have n:=o i f K.1;have a3:=Q i f;have a4:=b.nt i f;refine K.2.rp0 n.1 n.2 (λz C=>?_) (by omega)
   rw[c2]at C;have:=h2 i f K.1 z C;rw[D];omega
  ·have K:=M i f ho;refine List.eq_nil_iff_forall_not_mem.2 λz C=>?_;have:=sub i f ho z C;rw[h3 i f K.1]at this;cases this
  ·refine List.eq_nil_iff_forall_not_mem.2 λa F=>?_
   have c0:(x2.c 0).on=true->nU x2 0=0/\(x2.c 0).pd=[]/\(x2.c 0).rp=[]/\(x2.c 0).out.g=((x2.c 0).out.S.length:Int):=λho=>by
    have H:(x.c 0).on=true:=by rw[<-c2];exact ho
    have n:=o 0 (by omega) H
    exact⟨n.1,n.2,by rw[c2];exact h3 0 (by omega) H,by rw[c2];exact(s.c 0 (by omega) H).2.2⟩
   have c1:(y.c 1).on=true->nU y 1=0/\(y.c 1).pd=[]/\(y.c 1).rp=[]/\(y.c 1).out.g=((y.c 1).out.S.length:Int):=λho=>by
    have H:(x.c 1).on=true:=by rw[<-c2,<-j.2];exact ho
    have n:=o 1 (by omega) H
    exact⟨by unfold nU;rw[j.1];exact n.1,by rw[j.2];exact n.2,by rw[j.2,c2];exact h3 1 (by omega) H,by rw[j.2,c2];exact(s.c 1 (by omega) H).2.2⟩
   have:=R0.q0 c0 a (m.q0 c1 a F);rw[m1]at this;cases this
  ·have hp:x2.p.s.W=[]:=P.pay G λu hu=>⟨by show u.due<=x.ck+10;have:=bd u hu;omega,nil_hold (i:=0) g s h3 G (by omega) hu,nil_hold (i:=1) g s h3 G (by omega) hu⟩
   refine List.eq_nil_iff_forall_not_mem.2 λv E=>?_;obtain⟨u,hu,-⟩:=U v E;rw[hp]at hu;cases hu
 ·refine List.eq_nil_iff_forall_not_mem.2 λv E=>?_;obtain⟨u,hu,-⟩:=U v E;obtain⟨T,l,-⟩:=P.W u hu;rw[show({ x with dn:=x.dn+1,ck:=x.ck+10}:Wo).p.s.W=[] from h]at l
  cases l
theorem gx_st(l:List Dd):∀k,k<=l.length->k<=60->GX (stW l k)/\pot (stW l k)<=4*(k:Int)/\∀i,i<2->nT (stW l k) i<=(k:Int)
 | 0,_,_=>⟨gx_new,by show pot z8y<=0;decide,λi _=>by show nT z8y i<=0;exact Int.le_refl _⟩
 | k+1,h1,h2=>by
  obtain⟨g,p,n⟩:=gx_st l k (by omega) (by omega)
  have hd:=y0i l k (by omega) (by omega)
  have hh:=g.inv.ph;rw[z3f (List.getElem?_eq_getElem (by omega:k<l.length))]
  have b:=pt_do g.inv l[k] (show 0<2 by omega)
  have c:=pt_do g.inv l[k] (show 1<2 by omega)
  refine⟨gx_do g (by omega) _,by unfold pot at *;omega,λi a=>?_⟩
  have:=(pt_do g.inv l[k] a).2.1;have:=n i a;omega
theorem b0_st(l:List Dd){k:Nat}(h1:k<=l.length)(h2:k<=60):B0 (stW l k) 0 (stW l k).ck:=by
 obtain⟨g,p,n⟩:=gx_st l k h1 h2;have hd:=y0i l k h1 (by omega)
 have hh:=g.inv.ph;refine⟨g,by omega,λi a=>?_,by omega,by omega,g.zz.du⟩
 have:=n i a;omega
structure Lv(r:Nat)(t:Int)(x:Wo):Prop where
 b:B0 x r t
 s0:1<=r->S0 x
 s1:1<=r->S1 x∨r<=jlN x.p.s.V 6+1
 s2:9<=r->S2 x
 s3:10<=r->S3 x
 s4:11<=r->x.p.q=[]
 s5:12<=r->x.p.s.W=[]
theorem lv_0{x:Wo}{t:Int}(b:B0 x 0 t):Lv 0 t x:=⟨b,λh=>by omega,λh=>by omega,λh=>by omega,λh=>by omega,λh=>by omega,λh=>by omega⟩
theorem Lv.one{r:Nat}{t:Int}{x:Wo}(h:Lv r t x)(a:8<=r):S1 x:=by
 have:=jl_6 x.p.s.V
 rcases h.s1 (by omega)with q|q
 ·exact q
 ·omega
theorem j6F{r:Nat}{t:Int}{x:Wo}(h:Lv r t x)(a:r<14)(c:x.ck+10<=1099511627736):Lv (r+1) t (rnd x):=by
 have R:=round_do h.b a c;refine⟨R.b,λ_=>R.s0,λ_=>?_,λg=>?_,λd=>?_,λe=>?_,λf=>?_⟩
 ·by_cases h1:1<=r
  ·rcases h.s1 h1 with q|q
   ·exact .inl (R.s1 (h.s0 h1) q).1
   ·rcases R.jl (h.s0 h1)with p|p
    ·exact .inl p
    ·exact .inr (by omega)
  ·exact .inr (by omega)
 ·exact(R.s1 (h.s0 (by omega)) (h.one (by omega))).2.1
 ·have S:=R.s1 (h.s0 (by omega)) (h.one (by omega))
  by_cases q:10<=r
  ·exact(S.2.2.2.1 (h.s3 q)).1
  ·exact S.2.2.1 (h.s2 (by omega))
 ·exact((R.s1 (h.s0 (by omega)) (h.one (by omega))).2.2.2.1 (h.s3 (by omega))).2
 ·by_cases q:12<=r
  ·exact R.s5 (h.s5 q)
  ·exact(R.s1 (h.s0 (by omega)) (h.one (by omega))).2.2.2.2 (h.s3 (by omega)) (h.s4 (by omega)) (by omega)
theorem lv_fin{t:Int}{x:Wo}(h:Lv 14 t x):(∀i,i<2->(x.c i).on=true->(x.c i).set=x.p.set)/\x.p.s.W=[]/\x.p.q=[]/\x.p.s.b.wa=0:=by
 have g:=h.b.gx;have a:=h.s5 (by omega)
 refine⟨λi d ho=>?_,a,h.s4 (by omega),?_⟩
 ·obtain⟨H,W⟩:=g.wh;have T:=(W.ti i d ho).ch;obtain⟨e,hp,-⟩:=(h.s0 (by omega)).c i d ho
  unfold nU at e;rw[hp,show(x.p.L i).out.g.toNat=(x.p.L i).out.S.length by omega,List.drop_length]at T
  exact T.2.2
 ·have:=((z0h _).1 g.inv.gp.s);have hb:=this.2.2.2.2.2.2.2.1;rw[a]at hb;exact hb.symm
theorem q9x(w:World)(p:Pr)(v:PrV):CAt 58 (j8J w p v) w.heap.size (prC p v):=(CAt.new 58 w zeroCells58).z0L (by rw[z0e];rfl)
theorem z5f(w:World)(p:Pr)(v:PrV):Bl w (j8J w p v):=z0b (Nat.le_refl _) _ _ _ (znw w _)
noncomputable def y1r(w:World)(c:Cs)(v:CsV):World:=(w.alloc (J5 Z22 75)).setCells w.heap.size 0 (csC c v).toList
theorem j7p(w:World)(c:Cs)(v:CsV):CAt 75 (y1r w c v) w.heap.size (csC c v):=(CAt.new 75 w Z22).z0L (by rw[z0C];rfl)
theorem z8Y(w:World)(c:Cs)(v:CsV):Bl w (y1r w c v):=z0b (Nat.le_refl _) _ _ _ (znw w _)
theorem z9L{P:Nat->Prop}{w:World}{c:Cs}{v:CsV}(h:CIn P w c v):(q3L (J2 (some ⟨w.heap.size,0,none⟩)) (J4 (csC c v))).run prog (w.alloc (J5 Z22 75))=.ok () (y1r w c v):=z2v (CAt.new _ w _) z0C (z0r c v) (z2p h)
theorem vfL(p:Pr)(v:PrV)(w:World):(Instr.field 58 (J4 (prC p v)) 4).run prog w=.ok (J4 (lkL (p.L 0) (v.l 0)++lkL (p.L 1) (v.l 1)).toArray) w:=by kernel_rfl
theorem vixL0(x a:Lk)(u b:LkV)(w:World):(Instr.index 53 (J4 (lkL x u++lkL a b).toArray) (J I 0)).run prog w=.ok (J4 (lkL x u).toArray) w:=by kernel_rfl
theorem vixL1(x a:Lk)(u b:LkV)(w:World):(Instr.index 53 (J4 (lkL x u++lkL a b).toArray) (J I 1)).run prog w=.ok (J4 (lkL a b).toArray) w:=by kernel_rfl
theorem vixL(L:Nat->Lk)(l:Nat->LkV)(k:Nat)(a:k<2)(w:World):(Instr.index 53 (J4 (lkL (L 0) (l 0)++lkL (L 1) (l 1)).toArray) (J I (k:Int))).run prog w=.ok (J4 (lkL (L k) (l k)).toArray) w:=by
 rcases(show k=0∨k=1 by omega)with rfl|rfl
 ·exact vixL0 _ _ _ _ w
 ·exact vixL1 _ _ _ _ w
theorem vf6(x:Lk)(u:LkV)(w:World):(Instr.field 52 (J4 (lkL x u).toArray) 6).run prog w=.ok (J4 #[u.said,u.due,J I x.out.g,J3 x.out.cl]) w:=by kernel_rfl
theorem vcs9(c:Cs)(v:CsV)(w:World):(Instr.field 75 (J4 (csC c v)) 9).run prog w=.ok (J4 #[v.said,v.due,J I c.out.g,J3 c.out.cl]) w:=by kernel_rfl
theorem vln_laid{w:World}{u1 u2:Value}{g:Int}{cl:Bool}(h:(#[u1,u2,J I g,J3 cl]:Array Value).all (·.oneCell')=true):∃wa,(z3Q (J2 (some ⟨w.heap.size,0,none⟩)) (J4 #[u1,u2,J I g,J3 cl])).run prog (w.alloc (J5 Z4' 48))=.ok () wa/\CAt 48 wa w.heap.size #[u1,u2,J I g,J3 cl]/\Bl w wa:=by
 have R0:=CAt.new 48 w Z4';exact⟨_,run_storeAt_mid (P:=prog) _ _ 0 48 #[u1,u2,J I g,J3 cl] (R0.there 0 _ (Nat.le_refl _)) (by rw[z4L];rfl) h,R0.z0L rfl,z0b (Nat.le_refl _) _ _ _ (znw w _)⟩
theorem vln_put{w:World}{b:Nat}{cs:Array Value}(a:cs.size=4)(hc:CAt 48 w b cs){u1 u2:Value}{g:Int}{cl:Bool}(h:(#[u1,u2,J I g,J3 cl]:Array Value).all (·.oneCell')=true):∃wa,(z3Q (J2 (some ⟨b,0,none⟩)) (J4 #[u1,u2,J I g,J3 cl])).run prog w=.ok () wa/\CAt 48 wa b #[u1,u2,J I g,J3 cl]/\Alt b w wa:=
 ⟨_,run_storeAt_mid (P:=prog) _ _ 0 48 #[u1,u2,J I g,J3 cl] (hc.there 0 _ (by rw[a];exact Nat.le_refl _)) (by rw[z4L];rfl) h,hc.z0L (by rw[a];rfl),(Alt.refl b w).sets _ _⟩
theorem bel_e{n:Nat}{w w':World}(h:n=w.heap.size)(b:Below n w w'):Bl w w':=by
 subst h;exact b
theorem bel_alt{n:Nat}{w w1 w':World}(h:n=w.heap.size)(b:Below n w w1)(a:Alt n w1 w'):Below n w w':=⟨a.os.trans b.os,a.tape.trans b.tape,a.output.trans b.output,Nat.le_trans b.size a.size,λk c=>(a.block k (by have:=b.size;omega) (by omega)).trans (b.block k c)⟩
def AS(B g:Nat)(w0:World)(x:Wo)(w:World):Prop:=StW B g x w/\Alt g w0 w
attribute [local go_sem ↓] z2E
set_option maxRecDepth 1000000 in
theorem tcarry_any(B g:Nat)(x:Wo)(i:Nat)(V:i<2)(b:Bool)(w:World)(h:StW B g x w):Calls prog 19 #[J2 (some ⟨g,0,none⟩),.int .i64 (i:Int),J3 b] w λe w'=>e=.returned (.tuple #[])/\StW B g (carW i b x) w'/\Alt g w w':=by
 have u:=J6 (λ(y:Wo) (d:Dd) (E:World) (hs:StW B g y E)=>q0A B g y d E hs);have H0:=J6 (q0A B g x (headD i b) w h);unfold headD at H0;have H:Hid (crW i b 400 (doW x (headD i b)).1=carW i b x):=rfl;generalize carW i b x=xe at *;clear h
 go_enter func19,ntmps19
 go_upto_region 1 with(go_at_call 10;refine H0.out.mono ?_;rintro e w1⟨rfl,S1,W⟩;have o:Hid (AS B g w (doW x (headD i b)).1 w1):=⟨S1,W⟩;clear S1 W)
 clear H0
 go_upto_region 2 with fail
 generalize (doW x (headD i b)).1=x1 at *
 go_loopw [6] (λk wl=>∃(m:Nat) (y:Wo),m<=400/\k=.int .i64 (m:Int)/\Hid (AS B g w y wl/\crW i b (400 - m) y=xe)) (λk _=>400 - (intOf k).toNat)
 case atStart=>exact⟨0,x1,by omega,rfl,o.out,H.out⟩
 case round =>
  obtain⟨m,y,hm,rfl,HR⟩:=hrel;clear o H
  by_cases a2:m<400
  ·have hI:(m:Int)<400:=by omega
   have H4:=J6 (u.out y (delD i b) wr HR.out.1.1);unfold delD at H4;have HE:=HR.out.2;rw[show 400 - m=(400 - (m+1))+1 by omega]at HE
   unfold crW at HE;have j:=J6 HE;clear HE
   go_upto_region 5 with(go_at_call 10;refine H4.out.mono ?_;rintro e w1⟨rfl,S1,W⟩;have o:Hid (AS B g w (doW y (delD i b)).1 w1):=⟨S1,HR.out.1.2.trans W⟩;clear S1 W)
   clear H4 HR;obtain⟨z,hz⟩:∃z,(doW y (delD i b)).1=z:=⟨_,rfl⟩;obtain⟨rc,G⟩:∃c,(doW y (delD i b)).2.1=c:=⟨_,rfl⟩;obtain⟨N,P⟩:∃c,(doW y (delD i b)).2.2=c:=⟨_,rfl⟩;unfold delD at hz G P j o;rw[hz,G]at j;rw[hz]at o;rw[G,P];clear hz G P;have R2:CAt 31 (w1.alloc (J5 #[.int .i64 rc,.int .i64 N] 31)) w1.heap.size #[.int .i64 rc,.int .i64 N]:=CAt.new _ w1 _;have b2:Bl w1 (w1.alloc (J5 #[.int .i64 rc,.int .i64 N] 31)):=znw w1 _;have n:Hid (AS B g w z (w1.alloc (J5 #[.int .i64 rc,.int .i64 N] 31))/\CAt 31 (w1.alloc (J5 #[.int .i64 rc,.int .i64 N] 31)) w1.heap.size #[.int .i64 rc,.int .i64 N]):=⟨⟨o.out.1.over b2,o.out.2.trans (Alt.of b2)⟩,R2⟩;clear R2 b2 o;generalize w1.alloc (J5 #[.int .i64 rc,.int .i64 N] 31)=w2 at *;generalize a0:w1.heap.size=gr at *;clear a0;have r0:w2.cell? ⟨gr,0,none⟩=some (.int .i64 rc):=n.out.2.cell 0;have zr:=n.out.2.lt
   by_cases h0:rc=0
   ·rw[if_pos h0]at j;rw[h0]at r0;clear h0;go_wp2;exact⟨⟨m+1,z,by omega,by go_num,n.out.1,j.out⟩,by simp[intOf];omega⟩
   rw[if_neg h0]at j
   by_cases Q:rc=12
   ·rw[if_pos Q]at j;subst Q;have X:=J6 (z8g B g z w2 n.out.1.1);have a3:=(z1A _).1 (n.out.1.1.inv.gp.lk i V).out;have a4:=(z1A _).1 (n.out.1.1.inv.gc i V).out
    go_upto_region 8 with(go_at_call 11;refine X.out.mono ?_;rintro e K⟨vp,rfl,I3,b3⟩;have f4:=λE=>vfL z.p vp E;have f5:=λE=>vixL z.p.L vp.l i V E;have f6:=λE=>vf6 (z.p.L i) (vp.l i) E;obtain⟨F,s4,R4,b4⟩:=vln_laid (w:=K) (z3r (I3.lk i V).said (I3.lk i V).due (z.p.L i).out.g (z.p.L i).out.cl);unfold Z4' at s4;obtain⟨gl,s⟩:∃gl,gl=K.heap.size:=⟨_,rfl⟩;have f:Hid (AS B g w z K/\Below gl K F/\CAt 48 F gl #[(vp.l i).said,(vp.l i).due,.int .i64 (z.p.L i).out.g,J3 (z.p.L i).out.cl]/\g<gl):=⟨⟨n.out.1.1.over b3,n.out.1.2.trans (Alt.of b3)⟩,by rw[s];exact b4,by rw[s];exact R4,by have:=n.out.1.1.lt;have:=b3.size;omega⟩;have q:=J6 s;clear I3 b3 R4 b4 s)
    clear f4 f5 f6 s4 X n r0 zr;rw[<-q.out];obtain⟨n1,t⟩:∃n1,(z0Y z i b).g=n1:=⟨_,rfl⟩;rw[t]at j
    have a5:0<=n1/\n1<=400:=by
     rw[<-t];unfold z0Y
     split <;> omega
    cases b;have M:(z.p.L i).out.g=n1:=t;have a:Hid (AS B g w z K/\Below gl K F/\(∃u1 u2 c,CAt 48 F gl #[u1,u2,.int .i64 n1,J3 c])/\g<gl):=⟨f.out.1,f.out.2.1,⟨_,_,_,by rw[<-M];exact f.out.2.2.1⟩,f.out.2.2.2⟩
    clear f t M
    go_upto_region 10 with fail
    rotate_left
    have Y:Hid ((z.c i).out.g=n1):=t;clear t;have Z:=J6 (z6e B g z F i V (f.out.1.1.over (bel_e q.out f.out.2.1)))
    go_upto_region 10 with(go_at_call 13;refine Z.out.mono ?_;rintro e w5⟨vc,rfl,I5,b5⟩;have f9:=λE=>vcs9 (z.c i) vc E;obtain⟨w6,s6,R6,A6⟩:=vln_put rfl (f.out.2.2.1.over b5) (z3r I5.said I5.due (z.c i).out.g (z.c i).out.cl);have a:Hid (AS B g w z K/\Below gl K w6/\(∃u1 u2 c,CAt 48 w6 gl #[u1,u2,.int .i64 n1,J3 c])/\g<gl):=⟨f.out.1,bel_alt q.out (f.out.2.1.trans (b5.mono (by have:=f.out.2.1.size;have:=q.out;omega))) A6,⟨_,_,_,by rw[<-Y.out];exact R6⟩,f.out.2.2.2⟩;clear I5 b5 R6 A6)
    clear f9 s6 Z f Y;generalize w6=F at *
    ·obtain⟨u1,u2,cc,R9⟩:=a.out.2.2.1;have S9:=a.out.1.1.over (bel_e q.out a.out.2.1);have a1:=a.out.2.2.2;have R:gl≠g:=by omega
     have r:=J6 (u.out z (headD i false) F S9);have HY:=J6 (λ(v w8:World) (a7:Alt g F v) (a8:Alt g v w8)=>((a.out.1.2.trans (Alt.of (bel_e q.out a.out.2.1))).trans a7).trans a8);have A:=J6 R9;unfold headD at r;clear R9 S9 a
     go_upto_region 11 with(go_at_call 10;refine r.out.mono ?_;rintro e v⟨rfl,S7,S⟩;have T:=J6 S;have U:=S.cat R A.out;have c2:v.cell? ⟨gl,2,none⟩=some (.int .i64 n1):=U.cell 2;have zl:=U.lt;have C:=J6 (u.out _ (expD i true (n1+1)) v S7);clear S7 S U)
     unfold expD at C;have hw:IntKind.i64.wrap (n1+1)=n1+1:=z5z (by omega) (by omega)
     clear r A
     go_wp2_with (go_at_call 10;refine C.out.mono ?_;rintro e w8⟨rfl,S8,A8⟩;have D:=J6 (show _/\_ from⟨S8,A8⟩);clear S8 A8)
     ((try simp only[Exit.inBlock,Exit.then]);refine bodyPost_ret (results_none rfl _ _ _) rfl ?_)
     exact⟨rfl,j.out ▸ D.out.1,HY.out _ _ T.out D.out.2⟩
    ·obtain⟨u1,u2,cc,R9⟩:=a.out.2.2.1;have S9:=a.out.1.1.over (bel_e q.out a.out.2.1);have a1:=a.out.2.2.2;have R:gl≠g:=by omega
     have r:=J6 (u.out z (headD i true) F S9);have HY:=J6 (λ(v w8:World) (a7:Alt g F v) (a8:Alt g v w8)=>((a.out.1.2.trans (Alt.of (bel_e q.out a.out.2.1))).trans a7).trans a8);have A:=J6 R9;unfold headD at r;clear R9 S9 a
     go_upto_region 11 with(go_at_call 10;refine r.out.mono ?_;rintro e v⟨rfl,S7,S⟩;have T:=J6 S;have U:=S.cat R A.out;have c2:v.cell? ⟨gl,2,none⟩=some (.int .i64 n1):=U.cell 2;have zl:=U.lt;have C:=J6 (u.out _ (expD i false (n1+1)) v S7);clear S7 S U)
     unfold expD at C;have hw:IntKind.i64.wrap (n1+1)=n1+1:=z5z (by omega) (by omega)
     clear r A
     go_wp2_with (go_at_call 10;refine C.out.mono ?_;rintro e w8⟨rfl,S8,A8⟩;have D:=J6 (show _/\_ from⟨S8,A8⟩);clear S8 A8)
     ((try simp only[Exit.inBlock,Exit.then]);refine bodyPost_ret (results_none rfl _ _ _) rfl ?_)
     exact⟨rfl,j.out ▸ D.out.1,HY.out _ _ T.out D.out.2⟩
   ·rw[if_neg Q]at j;have e:=j.out;subst e;go_wp2
    ((try simp only[Exit.inBlock,Exit.then]);refine bodyPost_ret (results_none rfl _ _ _) rfl ?_)
    exact⟨rfl,n.out.1⟩
  ·obtain rfl:m=400:=by omega
   have e:y=xe:=HR.out.2;subst e;go_wp2;go_end0;exact⟨rfl,HR.out.1⟩
end Wd
namespace Wd
open Go.ChangeShapes Go.WideShapes Go.ChangeAt Go.RowKit Go.Deep Pv
theorem z7p.lt{w:World}{ao:Option Addr}{b off:Nat}{l:List Dd}(h:z7p w ao b off l)(h0:0<l.length):b<w.heap.size:=
 World.block_lt_of_cell? w ⟨b,off+0*7+0,none⟩ (h.cell 0 l[0] (List.getElem?_eq_getElem h0) 0 _ rfl)
theorem z7p.over{w w':World}{B:Nat}{ao:Option Addr}{b off:Nat}{l:List Dd}(h:z7p w ao b off l)(hb:Below B w w')(d:w.heap.size<=B):z7p w' ao b off l:=by
 refine⟨h.adr,h.len,λi x a j v c=>?_⟩;have h0:0<l.length:=by have:=(List.getElem?_eq_some_iff.1 a).1;omega
 have:=h.lt h0;rw[hb.cell (p:=⟨b,off+i*7+j,none⟩) (by show b<B;omega)]
 exact h.cell i x a j v c
theorem j8M:(prog.info? 28).map (·.size)=some 7:=by kernel_rfl
theorem z7p.load{w:World}{ao:Option Addr}{b off:Nat}{l:List Dd}(h:z7p w ao b off l){i:Nat}{x:Dd}(a:l[i]?=some x):(j5j (J2 (some ⟨b,off+i*7,none⟩))).run prog w=.ok (J4 (ddC x)) w:=
 run_loadAt_mid (P:=prog) w b (off+i*7) 28 (ddL x) _ (h.cell i x a) underlying28 rfl (by rw[j8M];rfl)
section
variable {H:Type} {enc:TypeId×Value->H} {W:World}
end
end Wd
namespace Wd
open Go.RowKit Pv Kc
theorem StW.down{B a g:Nat}{x:Wo}{w:World}(h:StW B g x w)(d:a<=B):StW a g x w:=by
 obtain⟨v,hc,c⟩:=h.at_;exact⟨⟨v,hc,c.mono λb _ hb=>⟨by omega,hb.2⟩⟩,h.inv,by have:=h.le;omega,h.lt⟩
theorem tquiet_any(g:Nat)(d:Dd)(rc a:Int)(w:World):Calls prog 18 #[J2 (some ⟨g,0,none⟩),J4 (ddC d),J4 #[J I rc,J I a]] w λe w'=>e=.returned (J3 true)/\Bl w w':=by
 go_enter func18,ntmps18
 go_wp2;go_ret;exact⟨rfl,(znw w _).alloc (by simp) _⟩
attribute [local go_sem ↓] z8i
theorem tplay_q(A:Option Addr)(C b off:Nat)(l:List Dd)(w:World)(E:z7p w A b off l) :
  Calls prog 8 #[J1 A l.length C,.func (.func 18) #[] #[]] w λe w'=>∃g,e=.returned (.tuple #[J2 (some ⟨g,0,none⟩),J3 true])/\StW w.heap.size g (stW l (min l.length 120)) w'/\Bl w w':=by
 have F:=J6 (z6Y w);have HD:=J6 (λ(P:World) (hb:Bl w P)=>E.over hb (Nat.le_refl _));clear E
 go_enter func8,ntmps8
 go_upto_region 3 with(go_at_call 22;refine F.out.mono ?_;rintro e w1⟨rfl,b1⟩;have n:=J6 b1;clear b1)
 have G:=J6 (z4S w1)
 go_upto_region 4 with(go_at_call 7;refine G.out.mono ?_;rintro e H⟨g,rfl,h2,b2⟩;have o:=J6 (show _/\_ from⟨h2,zbt n.out b2⟩);have p:=n.out.size;have Q:=h2.le;clear h2 b2)
 go_upto_region 5 with fail
 have q:Hid (StW w1.heap.size g (stW l 0) H/\Bl w H):=o.out;clear o G F
 go_loopw [7] (λi wl=>∃(k:Nat),k<=l.length/\k<=120/\i=.int .i64 (k:Int)/\Hid (StW w1.heap.size g (stW l k) wl/\Bl w wl)) (λi _=>120 - (intOf i).toNat)
 case atStart=>exact⟨0,Nat.zero_le _,by omega,rfl,q⟩
 case round =>
  obtain⟨k,X,R,rfl,a⟩:=hrel;clear q
  by_cases x:k<l.length/\k<120
  ·obtain⟨h1,h2⟩:=x;have r:(k:Int)<(l.length:Int):=by omega
   have y:(k:Int)<120:=by omega
   have s:l[k]?=some l[k]:=List.getElem?_eq_getElem h1;have j:=z3f s;generalize l[k]=d at s j;have z:=J6 j;have t:=J6 (q0A w1.heap.size g (stW l k) d wr a.out.1);have S:=(HD.out wr a.out.2).load s;have T:A=some ⟨b,off,none⟩:=(HD.out wr a.out.2).adr (by omega)
   have U:=J6 s;subst T;clear j s
   go_upto_region 8 with(go_at_call 10;refine t.out.mono ?_;rintro e h⟨rfl,h3,K⟩;have f:=J6 (show _/\_ from⟨h3,K⟩);clear h3 K)
   have B:=f.out.1.over (znw h (J5 #[.int .i64 (doW (stW l k) d).2.1,.int .i64 (doW (stW l k) d).2.2] 31));have L:CAt 31 (h.alloc (J5 #[.int .i64 (doW (stW l k) d).2.1,.int .i64 (doW (stW l k) d).2.2] 31)) h.heap.size #[.int .i64 (doW (stW l k) d).2.1,.int .i64 (doW (stW l k) d).2.2]:=CAt.new _ h _;have M:Bl w (h.alloc (J5 #[.int .i64 (doW (stW l k) d).2.1,.int .i64 (doW (stW l k) d).2.2] 31)):=(j1Y (by omega) a.out.2 f.out.2).alloc (j1Y (by omega) a.out.2 f.out.2).size _
   rw[<-z.out]at B;have c:=J6 (show _/\_/\_ from⟨B,M,L⟩);clear B M L f t a S;generalize (doW (stW l k) d).2.1=rc at *;generalize (doW (stW l k) d).2.2=rn at *;generalize h.alloc (J5 #[.int .i64 rc,.int .i64 rn] 31)=w4 at *;have m:Bl w4 w4.drew:=(Below.refl _ w4).drew;have HT:=J6 (tquiet_any g d rc rn w4.drew);have V:=(HD.out w4.drew (zbt c.out.2.1 m)).load U.out;have Y:w4.cell? ⟨h.heap.size,0,none⟩=some (.int .i64 rc):=c.out.2.2.cell 0;have r1:w4.cell? ⟨h.heap.size,1,none⟩=some (.int .i64 rn):=c.out.2.2.cell 1;have W:=c.out.2.2.lt;have D:=J6 m;clear m
   go_region_with (go_at_call 18;refine HT.out.mono ?_;rintro e w5⟨rfl,N⟩;have u:=J6 (zbt D.out N);clear N)
   all_goals (apply_assumption;go_wp2;exact⟨⟨k+1,by omega,by omega,by go_num,J6 ⟨c.out.1.over u.out,zbt c.out.2.1 u.out⟩⟩,by simp[intOf];omega⟩)
  ·by_cases h1:k<l.length
   ·obtain rfl:k=120:=by omega
    have r:((120:Nat):Int)<(l.length:Int):=by omega
    have y:(120:Int)<(l.length:Int):=by omega
    go_wp2;go_ret2;have v:=J6 (show StW w.heap.size g (stW l (min l.length 120)) wr from by rw[show min l.length 120=120 by omega];exact a.out.1.down p)
    first
     | exact⟨g,rfl,v.out,a.out.2⟩
     | exact⟨⟨g,rfl⟩,v.out,a.out.2⟩
   ·have r:¬(k:Int)<(l.length:Int):=by omega
    go_wp2;go_ret2;have v:=J6 (show StW w.heap.size g (stW l (min l.length 120)) wr from by rw[show min l.length 120=k by omega];exact a.out.1.down p)
    first
     | exact⟨g,rfl,v.out,a.out.2⟩
     | exact⟨⟨g,rfl⟩,v.out,a.out.2⟩
end Wd
namespace Wd
open Go.RowKit Pv
theorem q8h{P:Nat->Prop}{w a:World}{l:List (Int×Int)}{v:Value}(h:Rep P w v 2 16 (pwC l))(hb:Bl w a):∃A C,v=J1 A l.length C/\l.length<=140737488351232/\∀k,k<l.length->∃b o,A=some ⟨b,o,none⟩/\a.cell? ⟨b,o+k*2,none⟩=some (J I (l.getD k (0,0)).1)/\a.cell? ⟨b,o+k*2+1,none⟩=some (J I (l.getD k (0,0)).2):=by
 obtain⟨A,C,e,s,-,c,-⟩:=(h.over hb).open (z0c l) (by decide)
 refine⟨A,C,e,by omega,λk d=>?_⟩
 obtain⟨b,o,f,-,-,hc⟩:=c (by omega)
 obtain⟨g,i⟩:=z2j l k d;exact⟨b,o,f,hc _ _ g,by rw[Nat.add_assoc];exact hc _ _ i⟩
theorem y3j(w:World)(a b:Int):(binOp .neq 65 (J4 #[J I a,J I b]) (J4 #[J I a,J I b])).run prog w=.ok (J3 false) w:=by
 rw[run_neq_struct];go_simp
theorem q2w(l:List (Int×Int))(v v':Value)(P P':Nat->Prop)(w:World)(h:Rep P w v 2 16 (pwC l))(h':Rep P' w v' 2 16 (pwC l)) :
  Calls prog 20 #[v,v'] w λe w'=>e=.returned (J3 true)/\Bl w w':=by
 have f:=J6 (λ(d:World) (hb:Bl w d)=>q8h h hb);have g:=J6 (λ(d:World) (hb:Bl w d)=>q8h h' hb);obtain⟨A,C,rfl,n,-⟩:=q8h h (Below.refl _ w);obtain⟨A',C',rfl,-,-⟩:=q8h h' (Below.refl _ w);clear h h'
 go_enter func20,ntmps20
 go_upto_region 4 with fail
 go_loopw [5] (λi wl=>∃k:Nat,k<=l.length/\i=J I (k:Int)/\Hid (Bl w wl)) (λi _=>l.length - (intOf i).toNat)
 case atStart=>exact⟨0,by omega,rfl,Below.refl _ _⟩
 case round =>
  obtain⟨k,p,rfl,a⟩:=hrel
  by_cases c:k<l.length
  ·obtain⟨q,r,j,-,f1⟩:=f.out wr a.out;obtain⟨s,t,m,-,f2⟩:=g.out wr a.out;cases j;cases m;obtain⟨b,o,rfl,c0,c1⟩:=f1 k c;obtain⟨u,x,rfl,y,z⟩:=f2 k c;clear f1 f2;have B:=λw=>y3j w (l.getD k (0,0)).1 (l.getD k (0,0)).2;generalize (l.getD k (0,0)).1=y0 at *;generalize (l.getD k (0,0)).2=y1 at *;have hk0:(0:Int)<=(k:Int):=by omega
   have hk1:(k:Int)<(l.length:Int):=by omega
   go_upto_region 6 with fail
   go_quiet (fail);go_wp2;go_roundw
   case rel=>exact⟨k+1,by omega,by go_num,a.out.os,a.out.tape,a.out.output,a.out.size,a.out.block⟩
   case measure=>simp[intOf];omega
  ·go_wp2;go_ret;exact⟨rfl,a.out⟩
end Wd
namespace Wd
open Go.RowKit Pv Kc
def PLk(n:Nat)(w:World)(g:Nat)(p:Pr)(v:PrV):Prop:=CAt 58 w g (prC p v)/\PIn (λb=>n<=b) w p v/\n<=g
def CLk(n:Nat)(w:World)(g:Nat)(c:Cs)(v:CsV):Prop:=CAt 75 w g (csC c v)/\CIn (λb=>n<=b) w c v/\n<=g
theorem PLk.over{n:Nat}{w w':World}{g:Nat}{p:Pr}{v:PrV}(h:PLk n w g p v)(hb:Bl w w'):PLk n w' g p v:=⟨h.1.over hb,h.2.1.over hb,h.2.2⟩
theorem PLk.lt{n:Nat}{w:World}{g:Nat}{p:Pr}{v:PrV}(h:PLk n w g p v):g<w.heap.size:=h.1.lt
theorem CLk.lt{n:Nat}{w:World}{g:Nat}{c:Cs}{v:CsV}(h:CLk n w g c v):g<w.heap.size:=h.1.lt
theorem PLk.mk{n k:Nat}{w a:World}{g:Nat}{p:Pr}{v:PrV}(hc:CAt 58 a g (prC p v))(h:PIn (λb=>k<=b) w p v)(hb:Bl w a)(c:n<=k)(d:n<=g):PLk n a g p v:=⟨hc,(h.mono (P':=λb=>n<=b) λ_ _ hp=>Nat.le_trans c hp).over hb,d⟩
theorem CLk.mk{n k:Nat}{w a:World}{g:Nat}{c:Cs}{v:CsV}(hc:CAt 75 a g (csC c v))(h:CIn (λb=>k<=b) w c v)(hb:Bl w a)(d:n<=k)(e:n<=g):CLk n a g c v:=⟨hc,(h.mono (P':=λb=>n<=b) λ_ _ hp=>Nat.le_trans d hp).over hb,e⟩
theorem ds_take{w:World}{ao:Option Addr}{b off:Nat}{l:List Dd}(h:z7p w ao b off l)(m:Nat):z7p w ao b off (l.take m):=by
 refine⟨λh0=>h.adr (by rw[List.length_take]at h0;omega),by have:=h.len;rw[List.length_take];omega,λi x a=>h.cell i x ?_⟩
 rw[List.getElem?_take]at a
 split at a
 ·exact a
 ·cases a
theorem vcs0(c:Cs)(v:CsV)(w:World):(Instr.field 75 (J4 (csC c v)) 0).run prog w=.ok (J3 c.on) w:=by kernel_rfl
theorem vry0(a b:Int)(w:World):(Instr.field 31 (J4 #[J I a,J I b]) 0).run prog w=.ok (J I a) w:=by kernel_rfl
theorem tick_ok{x:Wo}(h:(doW x tickD).2.1=0):x.ck+10<=1099511627736:=by
 unfold doW at h
 split at h
 ·cases h
 ·have e:z2J (z2n x) tickD=z4z (z2n x) 10:=rfl;rw[e]at h;unfold z4z at h
  split at h
  ·cases h
  ·rename_i q;have:¬((10:Int)<1∨1099511627736 - x.ck<10):=q;omega
def rnC(z:Wo):Nat->Wo
 | 0=>z
 | j+1=>hlf j true (hlf j false (rnC z j))
def SB(g:Nat)(w:World)(x:Wo)(wl:World):Prop:=StW w.heap.size g x wl/\Bl w wl
theorem SB.over{g:Nat}{w:World}{x:Wo}{wl w':World}(s:SB g w x wl)(hb:Bl wl w'):SB g w x w':=⟨s.1.over hb,zbt s.2 hb⟩
theorem SB.go{g:Nat}{w:World}{x y:Wo}{wl w':World}(s:SB g w x wl)(h:StW w.heap.size g y w')(a:Alt g wl w'):SB g w y w':=⟨h,j1Y s.1.le s.2 a⟩
attribute [local go_sem ↓] z0T z0F z2f z1J
set_option maxRecDepth 1000000 in
theorem ltsettles_some(A:Option Addr)(C b off:Nat)(l:List Dd)(w:World)(hD:z7p w A b off l)(a1:l.length<=C):Calls prog 6 #[J1 A l.length C] w λe w'=>e=.returned (J3 true)/\Bl w w':=by
 have L:=J6 (λ(g:Nat) (y:Wo) (d:Dd) (K:World) (hs:StW w.heap.size g y K)=>q0A w.heap.size g y d K hs);have D:=J6 (tplay_q A C b off (l.take 60) w (ds_take hD 60));have hk0:(l.take 60).length<=60:=by rw[List.length_take];omega
 have M:=J6 (λ(m:Nat) (hm:m=min (l.take 60).length 120)=>lv_0 (b0_st (l.take 60) (k:=m) (by omega) (by omega)))
 have a2:60<l.length->A=some ⟨b,off,none⟩:=λh=>hD.adr (by omega)
 clear hD;obtain⟨m,hm⟩:∃m,m=min (l.take 60).length 120:=⟨_,rfl⟩;replace M:=J6 (M.out m hm);rw[<-hm]at D;clear hm hk0;generalize stW (l.take 60) m=x0 at *
 by_cases c4:60<l.length
 have hI:(60:Int)<(l.length:Int):=by omega
 have hA:=a2 c4;subst hA;have hC:(60:Int)<=(C:Int):=by omega
 have hn:(l.take 60).length=60:=by rw[List.length_take];omega
 rw[hn]at D
 go_enter func6,ntmps6
 go_upto_region 3 with fail
 rotate_left
 have hI:¬(60:Int)<(l.length:Int):=by omega
 have hn:l.take 60=l:=List.take_of_length_le (by omega)
 rw[hn]at D
 go_enter func6,ntmps6
 go_upto_region 3 with fail
 all_goals
  clear a2 hI a1
  go_upto_region 6 with(go_at_call 8;refine D.out.mono ?_;rintro e w1⟨g,rfl,S1,b1⟩;have a3:Hid (SB g w x0 w1):=⟨S1,b1⟩;clear S1 b1)
  clear D
  go_upto_region 7 with fail
  generalize x0.ck=t at *
  go_loopw [5] (λi wl=>∃(r:Nat) (x:Wo),r<=14/\i=.int .i64 (r:Int)/\Hid (Lv r t x/\SB g w x wl)) (λi _=>14 - (intOf i).toNat)
  case atStart=>exact⟨0,x0,by omega,rfl,M.out,a3.out⟩
  case round =>
   obtain⟨r,x,hr,rfl,HR⟩:=hrel;clear M a3
   by_cases c6:r<14
   ·have d2:(r:Int)<14:=by omega
    have H9:=J6 (L.out g x tickD wr HR.out.2.1);unfold tickD at H9;have fr:=vry0;obtain⟨rc,N⟩:∃c,(doW x tickD).2.1=c:=⟨_,rfl⟩;unfold tickD at N;rw[N]at H9;have a4:Hid ((doW x tickD).2.1=rc):=N;clear N
    by_cases h0:rc=0
    ·subst h0;have a5:=J6 (j6F HR.out.1 c6 (tick_ok a4.out))
     go_upto_region 11 with(go_at_call 10;refine H9.out.mono ?_;rintro e E⟨rfl,S2,A2⟩;have F:=J6 (HR.out.2.go S2 A2);clear S2 A2)
     have U:=J6 (L.out g _ provD E F.out.1);unfold provD at U
     go_upto_region 13 with(go_at_call 10;refine U.out.mono ?_;rintro e w3⟨rfl,S3,A3⟩;have V:=J6 (F.out.go S3 A3);clear S3 A3)
     obtain⟨P,Q⟩:∃P,(doW (doW x tickD).1 provD).1=P:=⟨_,rfl⟩;have a6:rnd x=rnC P 2:=by rw[<-Q];rfl
     rw[a6]at a5;unfold tickD provD at Q;rw[Q]at V;clear F H9 U HR a4 Q a6
     go_loopw [6] (λi wl=>∃(j:Nat),j<=2/\i=.int .i64 (j:Int)/\Hid (SB g w (rnC P j) wl)) (λi _=>2 - (intOf i).toNat)
     case atStart=>exact⟨0,by omega,rfl,V⟩
     case round =>
      obtain⟨j,hj,rfl,n⟩:=hrel;clear V
      by_cases u:j<2
      ·have c7:(j:Int)<2:=by omega
       have c8:(0:Int)<=(j:Int):=by omega
       have eN:Hid (rnC P (j+1)=hlf j true (hlf j false (rnC P j))):=rfl;generalize rnC P j=y at *;have HC:=J6 (z6e w.heap.size g y wr j u n.out.1)
       rcases Bool.eq_false_or_eq_true (y.c j).on with a|a
       focus
        have R:hlf j false y=carW j false (doW y (consD j)).1:=by unfold hlf;rw[if_pos a]
        go_upto_region 16 with(go_at_call 13;refine HC.out.mono ?_;rintro e G⟨v,rfl,H,o⟩;have f0:=λK=>vcs0 (y.c j) v K;rw[a]at f0;have W:=J6 (n.out.over o);clear H o)
        have B:=J6 (L.out g y (consD j) G W.out.1);unfold consD at B
        go_upto_region 17 with(go_at_call 10;refine B.out.mono ?_;rintro e w5⟨rfl,S5,A5⟩;have X:=J6 (W.out.go S5 A5);clear S5 A5)
        have S:=J6 (tcarry_any w.heap.size g _ j u false w5 X.out.1)
        go_upto_region 18 with(go_at_call 19;refine S.out.mono ?_;rintro e w6⟨rfl,S6,A6⟩;have T:Hid (SB g w (hlf j false y) w6):=(by rw[R];exact X.out.go S6 A6);clear S6 A6)
        clear f0 B S W X R;generalize hlf j false y=y1 at *
       rotate_left
       focus
        have R:hlf j false y=y:=by unfold hlf;rw[if_neg (by rw[a];simp)]
        rw[R]at eN
        go_upto_region 18 with(go_at_call 13;refine HC.out.mono ?_;rintro e w6⟨v,rfl,H,o⟩;have f0:=λK=>vcs0 (y.c j) v K;rw[a]at f0;have T:=J6 (n.out.over o);clear H o)
        clear f0 R;generalize y=y1 at *
       all_goals
        clear a HC n;have a7:=J6 (z6e w.heap.size g y1 w6 j u T.out.1)
        rcases Bool.eq_false_or_eq_true (y1.c j).on with a|a
        ·have R:hlf j true y1=carW j true (doW y1 (consD j)).1:=by unfold hlf;rw[if_pos a]
         go_upto_region 19 with(go_at_call 13;refine a7.out.mono ?_;rintro e w7⟨Y,rfl,H,o⟩;have f0:=λK=>vcs0 (y1.c j) Y K;rw[a]at f0;have a8:=J6 (T.out.over o);clear H o)
         have B:=J6 (L.out g y1 (consD j) w7 a8.out.1);unfold consD at B
         go_upto_region 20 with(go_at_call 10;refine B.out.mono ?_;rintro e w8⟨rfl,S5,A5⟩;have a9:=J6 (a8.out.go S5 A5);clear S5 A5)
         have S:=J6 (tcarry_any w.heap.size g _ j u true w8 a9.out.1)
         go_wp2_with (go_at_call 19;refine S.out.mono ?_;rintro e w9⟨rfl,S6,A6⟩;have Z:Hid (SB g w (rnC P (j+1)) w9):=(by rw[eN.out,R];exact a9.out.go S6 A6);clear S6 A6)
         exact⟨⟨j+1,by omega,by go_num,Z⟩,by simp[intOf];omega⟩
        ·have R:hlf j true y1=y1:=by unfold hlf;rw[if_neg (by rw[a];simp)]
         go_wp2_with (go_at_call 13;refine a7.out.mono ?_;rintro e w7⟨Y,rfl,H,o⟩;have f0:=λK=>vcs0 (y1.c j) Y K;rw[a]at f0;have Z:Hid (SB g w (rnC P (j+1)) w7):=(by rw[eN.out,R];exact T.out.over o);clear H o)
         exact⟨⟨j+1,by omega,by go_num,Z⟩,by simp[intOf];omega⟩
      ·obtain rfl:j=2:=by omega
       go_wp2;exact⟨⟨r+1,_,by omega,by go_num,a5.out,n.out⟩,by simp[intOf];omega⟩
    ·have d3:(rc != 0)=true:=by simpa using h0
     go_wp2_with (go_at_call 10;refine H9.out.mono ?_;rintro e E⟨rfl,S2,A2⟩;have F:=J6 (HR.out.2.go S2 A2);clear S2 A2)
     go_ret;exact⟨rfl,F.out.2⟩
   ·obtain rfl:r=14:=by omega
    obtain⟨f1,f2,f3,f4⟩:=lv_fin HR.out.1;have HF:=J6 (show _/\_/\_ from⟨f1,f2,f3⟩);have HS:=J6 HR.out.2;have b5:=J6 (z8g w.heap.size g x wr HS.out.1);clear f1 f2 f3 HR
    go_upto_region 23 with(go_at_call 11;refine b5.out.mono ?_;rintro e E⟨vp,rfl,I2,b2⟩;have s2:=z6G I2;have b7:=b2.trans ((z5f E x.p vp).mono b2.size);have b8:Hid (SB g w x (j8J E x.p vp)/\PLk w.heap.size (j8J E x.p vp) E.heap.size x.p vp):=⟨HS.out.over b7,PLk.mk (q9x E x.p vp) I2 (z5f E x.p vp) (by have:=HS.out.2.size;omega) (by have:=HS.out.2.size;have:=b2.size;omega)⟩;clear I2 b2 b7)
    clear s2 b5 HS;generalize j8J E x.p vp=w3 at *;generalize E.heap.size=gp at *
    go_loopw [8] (λi wl=>∃(j:Nat),j<=2/\i=.int .i64 (j:Int)/\Hid (SB g w x wl/\PLk w.heap.size wl gp x.p vp)) (λi _=>2 - (intOf i).toNat)
    case atStart=>exact⟨0,by omega,rfl,b8⟩
    case round =>
     obtain⟨j,hj,rfl,n⟩:=hrel;clear b8
     by_cases u:j<2
     ·have c7:(j:Int)<2:=by omega
      have c8:(0:Int)<=(j:Int):=by omega
      have HC:=J6 (z6e w.heap.size g x wr j u n.out.1.1)
      go_upto_region 26 with(go_at_call 13;refine HC.out.mono ?_;rintro e G⟨v,rfl,H,o⟩;have s4:=z9L H;unfold Z22 at s4;have a0:=o.trans ((z8Y G (x.c j) v).mono o.size);have f:Hid (SB g w x (y1r G (x.c j) v)/\PLk w.heap.size (y1r G (x.c j) v) gp x.p vp/\CLk w.heap.size (y1r G (x.c j) v) G.heap.size (x.c j) v):=⟨n.out.1.over a0,n.out.2.over a0,CLk.mk (j7p G (x.c j) v) H (z8Y G (x.c j) v) (by have:=n.out.1.2.size;omega) (by have:=n.out.1.2.size;have:=o.size;omega)⟩;clear H o a0)
      clear s4 HC n;generalize y1r G (x.c j) v=w5 at *;generalize G.heap.size=gx at *;have c0:w5.cell? ⟨gx,0,none⟩=some (J3 (x.c j).on):=f.out.2.2.1.cell 0;have zx:=f.out.2.2.lt
      rcases Bool.eq_false_or_eq_true (x.c j).on with a|a
      ·rw[a]at c0;have c5:w5.cell? ⟨gx,5,none⟩=some v.set:=f.out.2.2.1.cell 5;have d4:w5.cell? ⟨gp,65,none⟩=some vp.set:=f.out.2.1.1.cell 65;have zp:=f.out.2.1.lt;have r1:=f.out.2.2.2.1.set;rw[HF.out.1 j u a]at r1;have c9:=J6 (q2w x.p.set _ _ _ _ w5 r1 f.out.2.1.2.1.set);clear r1
       go_wp2_with (go_at_call 20;refine c9.out.mono ?_;rintro e w6⟨rfl,b6⟩;have HZ:Hid (SB g w x w6/\PLk w.heap.size w6 gp x.p vp):=⟨f.out.1.over b6,f.out.2.1.over b6⟩;clear b6)
       exact⟨⟨j+1,by omega,by go_num,HZ⟩,by simp[intOf];omega⟩
      ·rw[a]at c0;have HZ:Hid (SB g w x w5/\PLk w.heap.size w5 gp x.p vp):=⟨f.out.1,f.out.2.1⟩;go_wp2;exact⟨⟨j+1,by omega,by go_num,HZ⟩,by simp[intOf];omega⟩
     ·obtain rfl:j=2:=by omega
      obtain⟨Aw,Cw,bw,ow,b9,-,-,-⟩:=n.out.2.2.1.ws.q0q;obtain⟨z,hz,hr,-⟩:=n.out.2.2.1.q;obtain⟨Aq,Cq,eq,-,-,-,-⟩:=hr.open (z2I _ _ hz) (by decide)
      have d0:wr.cell? ⟨gp,63,none⟩=some vp.ws:=n.out.2.1.cell 63;have d1:wr.cell? ⟨gp,96,none⟩=some vp.q:=n.out.2.1.cell 96;have p7:wr.cell? ⟨gp,7,none⟩=some (.int .i64 x.p.s.b.wa):=n.out.2.1.cell 7;have zp:=n.out.2.lt;rw[b9,HF.out.2.1]at d0;rw[eq,HF.out.2.2]at d1;rw[f4]at p7;have HB:=J6 n.out.1.2;clear b9 eq hz hr n f4;go_wp2;go_ret;exact⟨rfl,HB.out⟩
end Wd
end Go.Proofs.YtddlhnoedldidaaGreat
