/- Parts of the proof: CM CK DF0 PBH PON PKP WI3 WT0 WST WLY WO2 WLZ WAP WMB WTI WTT WRI WHD WOP WHQ WHG WHH WHI WSL WHA WHB WHC WHE WHF WPLh WLH. -/
import Derived.Test.YtddlhnoedldidaaGreatRows
import Derived.Test.YtddlhnoedldidaaGreatGK16
import Derived.Maps.OwnSet
import Derived.ChangeOld
set_option maxRecDepth 100000
set_option maxHeartbeats 16000000
namespace Go.Proofs.YtddlhnoedldidaaGreat
open Go.Proofs.Tryz
open Value renaming int->J,slice->J1,pointer->J2,bool->J3,agg->J4
open IntKind renaming i64->I
open Obj renaming cells->J5
namespace Cd
open Go.RowKit
theorem q3w(n a:Int)(b:0<a):n % (a * 256)=n % a+a * (n / a % 256):=by
 have h1:=Int.emod_add_mul_ediv n a;have h2:=Int.emod_add_mul_ediv (n / a) 256;have h3:=Int.emod_nonneg n (show a≠0 by omega)
 have g:=Int.emod_lt_of_pos n b;have c:=Int.emod_nonneg (n / a) (show (256:Int)≠0 by decide)
 have h:=Int.emod_lt_of_pos (n / a) (show (0:Int)<256 by decide)
 generalize n / a / 256=q at *;generalize n / a % 256=r at *;generalize n % a=s at *;generalize n / a=t at *;subst h2;have e:n=(s+a * r)+(a * 256) * q:=by rw[<- h1,Int.mul_add,<- Int.mul_assoc];omega
 have d:a * r<=a * 255:=Int.mul_le_mul_of_nonneg_left (by omega) (by omega)
 have f:0<=a * r:=Int.mul_nonneg (by omega) c
 rw[e,Int.add_mul_emod_self_left,Int.emod_eq_of_lt (by omega) (by omega)]
theorem j8d(n:Int):∀ (m:Nat) (a:Int),z4D a (be n m)=a * 2 ^ (8 * m)+n % 2 ^ (8 * m):=by
 intro m
 induction m with
 | zero=>intro a;simp[be,z4D,Int.emod_one]
 | succ m ih =>
  intro a;have h:z4D a (be n (m+1))=z4D (a * 256+n / 2 ^ (8 * m) % 256) (be n m):=rfl;rw[h,ih,z7H,q3w _ _ (q5b m),Int.add_mul,Int.mul_assoc,Int.mul_comm 256,Int.mul_comm (n / 2 ^ (8 * m) % 256)];omega
theorem z5V{n:Int}{m:Nat}(h:0<=n)(h2:n<2 ^ (8 * m)):z4D 0 (be n m)=n:=by
 rw[j8d,Int.zero_mul,Int.zero_add,Int.emod_eq_of_lt h h2]
theorem q3x{k i v n:Int}{S:List (Int×Int)}{D:List Int}(h:z0n k i v n S D=0) :
  1<=k/\k<=4/\1<=i/\i<=1099511627776/\0<=v/\v<6/\0<=n/\n<=1125899906842624:=by
 have d:∀ {k v n:Int} {a b:Nat},z7j k=false->z8w k v n a b=false->v=0/\n=0:=by
  intro k v n a b h1 h2;simp only[z8w,h1,Bool.or_eq_false_iff,Bool.and_eq_false_iff]at h2
  simp at h2
  exact h2.1
 rcases z5v k i v n S D with h' | h' | ⟨h1,h2,h' | h' | ⟨h3,f,h' | h' | h' | ⟨c | c,h' | h' | h' | h'⟩⟩⟩
 all_goals first | (exfalso;omega) | skip
 ·have e:isV v=true:=c.2.1;simp only[isV,decide_eq_true_eq]at e;omega
 ·obtain⟨g,j⟩:=d c h'.1;omega
theorem q6X(S:List (Int×Int)):∀ last:Int,-1<=last->z0d last S=true->∀ p∈S,0<=p.1/\p.1<6/\0<=p.2/\p.2<=1125899906842624:=by
 induction S with
 | nil=>simp
 | cons x t ih =>
  intro last b h p hp;simp only[z0d,Bool.and_eq_true,decide_eq_true_eq,isV]at h;obtain⟨⟨⟨⟨h1,h2⟩,h3⟩,c⟩,a⟩:=h
  rcases List.mem_cons.1 hp with rfl | hp
  ·omega
  ·exact ih x.1 (by omega) a p hp
theorem q2P(D:List Int):∀ last:Int,-1<=last->z0i last D=true->∀ p∈D,0<=p/\p<6:=by
 induction D with
 | nil=>simp
 | cons x t ih =>
  intro last a h p hp;simp only[z0i,Bool.and_eq_true,decide_eq_true_eq,isV]at h;obtain⟨⟨h1,h2⟩,h3⟩:=h
  rcases List.mem_cons.1 hp with rfl | hp
  ·omega
  ·exact ih x (by omega) h3 p hp
theorem z6v(a l:List Int)(m:Nat)(hm:a.length=m):tk m (a ++ l,false)=(z4D 0 a,(l,false)):=by
 subst hm;rw[tk,if_neg (by simp)]
 simp
theorem j6g(X:List Int):∀ (S:List (Int×Int)),(∀ p∈S,0<=p.1/\p.1<256/\0<=p.2/\p.2<72057594037927936)->tkP S.length (S.flatMap z5p ++ X,false)=(S,(X,false)):=by
 intro S
 induction S with
 | nil=>intro _;rfl
 | cons p t ih =>
  intro h;have hp:=h p (List.mem_cons_self ..)
  have a:tk 1 ((p :: t).flatMap z5p ++ X,false)=(p.1,(be p.2 7 ++ (t.flatMap z5p ++ X),false)):=by
   rw[List.flatMap_cons,z5p,List.append_assoc,List.append_assoc,z6v _ _ 1 (z0J _ _),z5V hp.1 (by omega)]
  have b:tk 7 (be p.2 7 ++ (t.flatMap z5p ++ X),false)=(p.2,(t.flatMap z5p ++ X,false)):=by
   rw[z6v _ _ 7 (z0J _ _),z5V hp.2.2.1 (by omega)]
  rw[List.length_cons,tkP,a];dsimp only;rw[b];dsimp only;rw[ih (fun q c=>h q (List.mem_cons_of_mem _ c))]
theorem j7r(X:List Int):∀ (D:List Int),(∀ p∈D,0<=p/\p<256)->tkD D.length (D.flatMap (be · 1) ++ X,false)=(D,(X,false)):=by
 intro D
 induction D with
 | nil=>intro _;rfl
 | cons p t ih =>
  intro h;have hp:=h p (List.mem_cons_self ..)
  have a:tk 1 ((p :: t).flatMap (be · 1) ++ X,false)=(p,(t.flatMap (be · 1) ++ X,false)):=by
   rw[List.flatMap_cons,List.append_assoc,z6v _ _ 1 (z0J _ _),z5V hp.1 (by omega)]
  rw[List.length_cons,tkD,a];dsimp only;rw[ih (fun q b=>h q (List.mem_cons_of_mem _ b))]
theorem q9g{k i v n:Int}{S:List (Int×Int)}{D:List Int}(h:z0n k i v n S D=0)(X:List Int):parse (enc k i v n S D ++ X)=((k,i,v,n,S,D),(X,false)):=by
 obtain⟨b1,b2,b3,t,u,w,x,y⟩:=q3x h;obtain⟨f,g,z,A⟩:=z9H h;have j:=q6X S (-1) (by omega) f
 have m:=q2P D (-1) (by omega) g
 have o:enc k i v n S D ++ X=be k 1 ++ (be i 6 ++ (be v 1 ++ (be n 7 ++ (be S.length 1 ++ (S.flatMap z5p ++ (be D.length 1 ++ (D.flatMap (be · 1) ++ X))))))):=by simp[enc,q4j]
 rw[o]
 have a:p1 (be k 1 ++ (be i 6 ++ (be v 1 ++ (be n 7 ++ (be S.length 1 ++ (S.flatMap z5p ++ (be D.length 1 ++ (D.flatMap (be · 1) ++ X))))))))=(k,(be i 6 ++ (be v 1 ++ (be n 7 ++ (be S.length 1 ++ (S.flatMap z5p ++ (be D.length 1 ++ (D.flatMap (be · 1) ++ X)))))),false)):=by
  rw[p1,z6v _ _ 1 (z0J _ _),z5V (by omega) (by omega)]
 generalize be k 1 ++ (be i 6 ++ (be v 1 ++ (be n 7 ++ (be S.length 1 ++ (S.flatMap z5p ++ (be D.length 1 ++ (D.flatMap (be · 1) ++ X)))))))=l at *
 have b:p2 l=(i,(be v 1 ++ (be n 7 ++ (be S.length 1 ++ (S.flatMap z5p ++ (be D.length 1 ++ (D.flatMap (be · 1) ++ X))))),false)):=by
  rw[p2,a];dsimp only;rw[z6v _ _ 6 (z0J _ _),z5V (by omega) (by omega)]
 have c:p3 l=(v,(be n 7 ++ (be S.length 1 ++ (S.flatMap z5p ++ (be D.length 1 ++ (D.flatMap (be · 1) ++ X)))),false)):=by
  rw[p3,b];dsimp only;rw[z6v _ _ 1 (z0J _ _),z5V (by omega) (by omega)]
 have d:p4 l=(n,(be S.length 1 ++ (S.flatMap z5p ++ (be D.length 1 ++ (D.flatMap (be · 1) ++ X))),false)):=by
  rw[p4,c];dsimp only;rw[z6v _ _ 7 (z0J _ _),z5V (by omega) (by omega)]
 have q:p5 l=((S.length:Int),(S.flatMap z5p ++ (be D.length 1 ++ (D.flatMap (be · 1) ++ X)),false)):=by
  rw[p5,d];dsimp only;rw[z6v _ _ 1 (z0J _ _),z5V (by omega) (by omega)]
 have e:p6 l=(S,(be D.length 1 ++ (D.flatMap (be · 1) ++ X),false)):=by
  rw[p6,q];dsimp only;rw[Int.toNat_natCast,j6g _ S (fun p hp=>by have:=j p hp;omega)]
 have r:p7 l=((D.length:Int),(D.flatMap (be · 1) ++ X,false)):=by
  rw[p7,e];dsimp only;rw[z6v _ _ 1 (z0J _ _),z5V (by omega) (by omega)]
 have s:p8 l=(D,(X,false)):=by
  rw[p8,r];dsimp only;rw[Int.toNat_natCast,j7r _ D (fun p hp=>by have:=m p hp;omega)]
 rw[parse,a,b,c,d,e,s]
theorem j5X{k i v n:Int}{S:List (Int×Int)}{D:List Int}(h:z0n k i v n S D=0):z4x (enc k i v n S D)=0/\z2w (enc k i v n S D)=(k,i,v,n,S,D):=by
 have a:=q9g h [];rw[List.append_nil]at a;have b:z4x (enc k i v n S D)=0:=by rw[z4x,a,if_pos rfl];exact h
 exact⟨b,by rw[z2w,if_pos b,a]⟩
end Cd
namespace Df
def setOf(P:Nat->Int):List Pw:=those (fun v=>decide (0<P v)) P 6
theorem z6J(P:Nat->Int)(c:Nat->Bool)(f:Nat->Int):∀ n,n<=6->∀ i,z1N P (those c f n) i=if i<n/\c i=true then f i else P i
 | 0,_,i=>by simp[those,z1N]
 | n+1,hn,i=>by
  have b:=z6J P c f n (by omega)
  rw[z2h];cases hc:c n
  ·rw[if_neg (by simp),b i]
   by_cases a:i=n
   ·subst a;simp[hc]
   ·have:(i<n↔i<n+1):=by omega
    simp[this]
  ·rw[if_pos rfl];unfold z1N at b ⊢;rw[List.foldl_append]
   show z8z _ _ i=_
   rw[z4c (by omega),b i]
   by_cases a:i=n
   ·subst a;simp[hc]
   ·have:(i<n↔i<n+1):=by omega
    simp[a,this]
theorem z7m(c:Nat->Bool)(f:Nat->Int):∀ n,n<=6->∀ (P:Nat->Int) i,(those c f n).foldr (fun x P=>z8z P x) P i=if i<n/\c i=true then f i else P i
 | 0,_,P,i=>by simp[those]
 | n+1,hn,P,i=>by
  have b:=z7m c f n (by omega)
  rw[z2h];cases hc:c n
  ·rw[if_neg (by simp),b P i]
   by_cases a:i=n
   ·subst a;simp[hc]
   ·have:(i<n↔i<n+1):=by omega
    simp[this]
  ·rw[if_pos rfl,List.foldr_append,b];simp only[List.foldr_cons,List.foldr_nil];rw[z4c (by omega)]
   by_cases a:i=n
   ·subst a;simp[hc]
   ·have:(i<n↔i<n+1):=by omega
    simp[a,this]
theorem q1y{P:Nat->Int}(h0:∀ i,0<=P i){i:Nat}(a:i<6):z1C (setOf P) i=P i:=by
 unfold z1C setOf;rw[z7m _ _ 6 (by omega)]
 by_cases h:0<P i
 ·simp[a,h]
 ·have:=h0 i
  simp[h,z2A]
  omega
theorem j3c{P:Nat->Int}(h0:∀ i,0<=P i){i:Nat}(a:i<6):z1N z2A (setOf P) i=P i:=by
 unfold setOf;rw[z6J _ _ _ 6 (by omega)]
 by_cases h:0<P i
 ·simp[a,h]
 ·have:=h0 i
  simp[h,z2A]
  omega
theorem z7I{c c':Nat->Bool}{f f':Nat->Int}:∀ n,(∀ i,i<n->c i=c' i/\(c i=true->f i=f' i))->those c f n=those c' f' n
 | 0,_=>rfl
 | n+1,h=>by
  rw[z2h,z2h,z7I n (fun i a=>h i (by omega))]
  obtain⟨h1,h2⟩:=h n (by omega)
  rw[<- h1]
  split
  ·rename_i hc;rw[h2 hc]
  ·rfl
theorem q5x{P R:Nat->Int}(b:∀ i,0<=P i)(c:∀ i,0<=R i):z2F (setOf P) (z3v (setOf P) (setOf R))=setOf R:=by
 have key:∀ i,i<6->z1N (z1N z2A (setOf P)) (z3v (setOf P) (setOf R)) i=R i:=by
  intro i a;unfold z3v;rw[z6J _ _ _ 6 (by omega)]
  simp only[q1y b a,q1y c a,j3c b a]
  by_cases h:R i=P i
  ·simp[h]
  ·simp[h,a]
 unfold z2F;exact z7I 6 fun i a=>⟨by rw[key i a],fun _=>key i a⟩
end Df
namespace Pv
open Go.RowKit Wd
theorem y2o{w:World}{g o:Nat}{cs:List Value}(h:w.there g o cs.length)(hs:cs.length=14)(h1:cs.all (·.oneCell')=true):(q3a (J2 (some ⟨g,o,none⟩)) (J4 cs.toArray)).run prog w=.ok () (w.setCells g o cs):=
 run_storeAt_mid (P:=prog) w g o 52 cs.toArray (by simpa using h) (by rw[j0c];simp[hs]) (by simpa using h1)
attribute [local go_sem ↓] z1P z0T z0F z1H z9x
end Pv
namespace Pv
open Go.RowKit
theorem q4q{k i v n:Int}{S:List (Int×Int)}{D:List Int}(h:Cd.z0n k i v n S D=0):Cd.z4x (Cd.bs (Cd.encS k i v n S D))=0/\Cd.z2w (Cd.bs (Cd.encS k i v n S D))=(k,i,v,n,S,D):=by
 rw[j0i h];exact Cd.j5X h
theorem z9b{k i v n:Int}{S:List (Int×Int)}{D:List Int}(h:Cd.z0n k i v n S D=0):z0X (Cd.bs (Cd.encS k i v n S D))=⟨k,i,v,n,S,D⟩:=by
 unfold z0X;rw[(q4q h).2]
theorem q4d:∀ (l m:List (Int×Int)) (a b:Int),z2W a l=true->z2W b m=true->(∀ x,x∈l↔x∈m)->l=m
 | [],[],_,_,_,_,_=>rfl
 | [],y :: m,_,_,_,_,h=>by have:=(h y).2 (List.mem_cons_self);cases this
 | x :: l,[],_,_,_,_,h=>by have:=(h x).1 (List.mem_cons_self);cases this
 | x :: l,y :: m,a,b,hl,hm,h=>by
  simp only[z2W,Bool.and_eq_true]at hl hm
  have e:x=y:=by
   rcases List.mem_cons.1 ((h x).1 List.mem_cons_self) with h1 | h1
   ·exact h1
   ·rcases List.mem_cons.1 ((h y).2 List.mem_cons_self) with h2 | h2
    ·exact h2.symm
    ·have:=(z2R m y.1 hm.2 x h1).1;have:=(z2R l x.1 hl.2 y h2).1;omega
  subst e;rw[q4d l m x.1 x.1 hl.2 hm.2 fun z=>⟨fun c=>?_,fun c=>?_⟩]
  ·rcases List.mem_cons.1 ((h z).1 (List.mem_cons_of_mem _ c)) with h1 | h1
   ·have:=(z2R l x.1 hl.2 z c).1;rw[h1]at this;omega
   ·exact h1
  ·rcases List.mem_cons.1 ((h z).2 (List.mem_cons_of_mem _ c)) with h1 | h1
   ·have:=(z2R m x.1 hm.2 z c).1;rw[h1]at this;omega
   ·exact h1
theorem q3I:∀ (l:List (Int×Int)) (a:Int) (P:Nat->Int),-1<=a->z2W a l=true->(∀ x∈l,Df.z1N P l x.1.toNat=x.2)/\∀ i:Nat,(∀ x∈l,x.1≠(i:Int))->Df.z1N P l i=P i
 | [],_,P,_,_=>⟨fun x c=>(by cases c),fun _ _=>rfl⟩
 | y :: l,a,P,ha,h=>by
  have hm:=z2R (y :: l) a h;have g:=hm y List.mem_cons_self;simp only[z2W,Bool.and_eq_true]at h;obtain⟨h1,h2⟩:=q3I l y.1 (Df.z8z P y) (by omega) h.2
  have f:=z2R l y.1 h.2
  have b:∀ i,Df.z8z P y i=if i=y.1.toNat then y.2 else P i:=fun i=>by
   unfold Df.z8z;rw[if_pos (by omega)]
  refine⟨fun x c=>?_,fun i e=>?_⟩
  ·show Df.z1N (Df.z8z P y) l x.1.toNat=x.2
   rcases List.mem_cons.1 c with rfl | c
   ·rw[h2 _ (fun z d=>by have:=(f z d).1;omega),b,if_pos rfl]
   ·exact h1 x c
  ·show Df.z1N (Df.z8z P y) l i=P i
   rw[h2 i (fun z d=>e z (List.mem_cons_of_mem _ d)),b,if_neg (by have:=e y List.mem_cons_self;omega)]
theorem j4Z{l:List (Int×Int)}(h:z2W (-1) l=true):l=Df.setOf (Df.z1N Df.z2A l)/\∀ i,0<=Df.z1N Df.z2A l i:=by
 obtain⟨h1,h2⟩:=q3I l (-1) Df.z2A (by omega) h
 have hm:=z2R l (-1) h
 have c:∀ i:Nat,(∃ x∈l,x.1=(i:Int)/\Df.z1N Df.z2A l i=x.2)∨((∀ x∈l,x.1≠(i:Int))/\Df.z1N Df.z2A l i=0):=fun i=>by
  by_cases e:∃ x∈l,x.1=(i:Int)
  ·obtain⟨x,a,ex⟩:=e;have:=h1 x a;rw[ex,Int.toNat_natCast]at this;exact .inl ⟨x,a,ex,this⟩
  ·have e':∀ x∈l,x.1≠(i:Int):=fun x a b=>e ⟨x,a,b⟩;exact .inr ⟨e',h2 i e'⟩
 have d:∀ i,0<=Df.z1N Df.z2A l i:=fun i=>by
  rcases c i with⟨x,a,-,e⟩ | ⟨-,e⟩
  ·rw[e];have:=hm x a;omega
  ·rw[e];omega
 refine⟨?_,d⟩
 have hmem:∀ x,x∈l↔x∈Df.setOf (Df.z1N Df.z2A l):=fun x=>by
  unfold Df.setOf;rw[z5U]
  constructor
  ·intro a;have hb:=hm x a;have e:=h1 x a;exact⟨x.1.toNat,by omega,by rw[e];simp;omega,by rw[e];ext <;> simp;omega⟩
  ·rintro⟨i,f,hc,rfl⟩
   rcases c i with⟨x,a,ex,e⟩ | ⟨-,e⟩
   ·rw[e,<- ex];exact a
   ·rw[e]at hc;simp at hc
 refine q4d l _ (-1) (-1) h (q0g _ (-1) (fun x a=>?_) (z5d _ _ 6)) hmem;exact hm x ((hmem x).2 a)
theorem q7l{l m:List (Int×Int)}(a:z2W (-1) l=true)(hm:z2W (-1) m=true):Df.z2F l (Df.z3v l m)=m:=by
 obtain⟨b,n1⟩:=j4Z a;obtain⟨c,d⟩:=j4Z hm;rw[b,c];exact Df.q5x n1 d
end Pv
namespace Wd
open Go.RowKit Pv Kc
theorem y1K(x:Wo)(d:Dd)(h:x.dn<600):(doW x d).1.dn=x.dn+1:=by
 unfold doW;rw[if_neg (by omega)]
 show (z2J (z2n x) d).1.dn=_
 rw[q7Q];rfl
theorem q4i:∀ (l:List Dd) (x:Wo),Inv x->Inv (l.foldl (fun x d=>(doW x d).1) x)
 | [],_,h=>h
 | d :: l,_,h=>q4i l _ (j5k h d)
theorem j7u(l:List Dd):Inv (y2l l):=q4i l _ q7T
theorem z2S(l:List Dd)(k:Nat):Inv (stW l k):=j7u _
theorem y0i(l:List Dd):∀ k,k<=l.length->k<=600->(stW l k).dn=k
 | 0,_,_=>rfl
 | k+1,h1,h2=>by
  have a:=y0i l k (by omega) (by omega)
  rw[z3f (List.getElem?_eq_getElem (by omega:k<l.length)),y1K _ _ (by omega),a]
  omega
theorem StW.keep{B g:Nat}{x:Wo}{w w':World}(h:StW B g x w)(c:∀ b,B<=b->b<w.heap.size->w'.heap[b]?=w.heap[b]?):StW B g x w':=by
 obtain⟨v,hc,d⟩:=h.at_
 have a:CAt 97 w' g (wdC x v):=by
  have:=c g h.le h.lt;unfold CAt at hc ⊢;rw[this];exact hc
 exact⟨⟨v,a,d.keep fun b hb e=>c b hb.1 e⟩,h.inv,h.le,a.lt⟩
theorem q9x(w:World)(p:Pr)(v:PrV):CAt 58 (j8J w p v) w.heap.size (prC p v):=(CAt.new 58 w zeroCells58).z0L (by rw[z0e];rfl)
theorem z5f(w:World)(p:Pr)(v:PrV):Bl w (j8J w p v):=z0b (Nat.le_refl _) _ _ _ (znw w _)
end Wd
namespace Wd
open Go.ChangeShapes Go.WideShapes Go.ChangeAt Go.RowKit Go.Deep Pv
theorem z7p.lt{w:World}{ao:Option Addr}{b off:Nat}{l:List Dd}(h:z7p w ao b off l)(h0:0<l.length):b<w.heap.size:=
 World.block_lt_of_cell? w ⟨b,off+0 * 7+0,none⟩ (h.cell 0 l[0] (List.getElem?_eq_getElem h0) 0 _ rfl)
theorem z7p.over{w w':World}{B:Nat}{ao:Option Addr}{b off:Nat}{l:List Dd}(h:z7p w ao b off l)(hb:Below B w w')(d:w.heap.size<=B):z7p w' ao b off l:=by
 refine⟨h.adr,h.len,fun i x a j v c=>?_⟩;have h0:0<l.length:=by have:=(List.getElem?_eq_some_iff.1 a).1;omega
 have:=h.lt h0;rw[hb.cell (p:=⟨b,off+i * 7+j,none⟩) (by show b<B;omega)]
 exact h.cell i x a j v c
theorem j8M:(prog.info? 28).map (·.size)=some 7:=by kernel_rfl
theorem z7p.load{w:World}{ao:Option Addr}{b off:Nat}{l:List Dd}(h:z7p w ao b off l){i:Nat}{x:Dd}(a:l[i]?=some x):(j5j (J2 (some ⟨b,off+i * 7,none⟩))).run prog w=.ok (J4 (ddC x)) w:=
 run_loadAt_mid (P:=prog) w b (off+i * 7) 28 (ddL x) _ (h.cell i x a) underlying28 rfl (by rw[j8M];rfl)
section
variable {H:Type} {enc:TypeId×Value->H} {W:World}
end
end Wd
namespace Wd
open Go.RowKit Pv Kc
def PLk(n:Nat)(w:World)(g:Nat)(p:Pr)(v:PrV):Prop:=CAt 58 w g (prC p v)/\PIn (fun b=>n<=b) w p v/\n<=g
theorem PLk.over{n:Nat}{w w':World}{g:Nat}{p:Pr}{v:PrV}(h:PLk n w g p v)(hb:Bl w w'):PLk n w' g p v:=⟨h.1.over hb,h.2.1.over hb,h.2.2⟩
theorem PLk.alt{n a:Nat}{w w':World}{g:Nat}{p:Pr}{v:PrV}(h:PLk n w g p v)(c:Alt a w w')(e:a<n):PLk n w' g p v:=
 ⟨c.cat (by have:=h.2.2;omega) h.1,h.2.1.keep fun b hb d=>c.block b d (by omega),h.2.2⟩
theorem PLk.lt{n:Nat}{w:World}{g:Nat}{p:Pr}{v:PrV}(h:PLk n w g p v):g<w.heap.size:=h.1.lt
theorem PLk.mk{n k:Nat}{w a:World}{g:Nat}{p:Pr}{v:PrV}(hc:CAt 58 a g (prC p v))(h:PIn (fun b=>k<=b) w p v)(hb:Bl w a)(c:n<=k)(d:n<=g):PLk n a g p v:=⟨hc,(h.mono (P':=fun b=>n<=b) fun _ _ hp=>Nat.le_trans c hp).over hb,d⟩
structure z5n(P:Nat->Prop)(w w':World):Prop where
 os:w'.os=w.os
 tape:w'.tape=w.tape
 output:w'.output=w.output
 size:w.heap.size<=w'.heap.size
 block:∀ k,k<w.heap.size->¬ P k->w'.heap[k]?=w.heap[k]?
theorem z5n.trans{P:Nat->Prop}{w w1 a:World}(h:z5n P w w1)(k:z5n P w1 a):z5n P w a:=⟨k.os.trans h.os,k.tape.trans h.tape,k.output.trans h.output,Nat.le_trans h.size k.size,fun i b h1=>(k.block i (Nat.lt_of_lt_of_le b h.size) h1).trans (h.block i b h1)⟩
theorem z5n.of{P:Nat->Prop}{w w':World}(h:Bl w w'):z5n P w w':=⟨h.os,h.tape,h.output,h.size,fun k a _=>h.block k a⟩
theorem z5n.alt{P:Nat->Prop}{a:Nat}{w w':World}(h:Alt a w w')(b:P a):z5n P w w':=⟨h.os,h.tape,h.output,h.size,fun k c h1=>h.block k c fun e=>h1 (e ▸ b)⟩
theorem z5n.also{P:Nat->Prop}{g:Nat}{w wl w':World}(h:z5n P w wl)(c:Alt g wl w')(b:w.heap.size<=g):z5n P w w':=⟨c.os.trans h.os,c.tape.trans h.tape,c.output.trans h.output,Nat.le_trans h.size c.size,fun k a h1=>(c.block k (Nat.lt_of_lt_of_le a h.size) (by omega)).trans (h.block k a h1)⟩
theorem z5n.below{P:Nat->Prop}{n:Nat}{w w':World}(h:z5n P w w')(hp:∀ k,k<n->¬ P k)(b:n<=w.heap.size):Below n w w':=⟨h.os,h.tape,h.output,h.size,fun k a=>h.block k (by omega) (hp k a)⟩
theorem z7p.y2J{P:Nat->Prop}{w w':World}{A:Option Addr}{b off:Nat}{l:List Dd}(h:z7p w A b off l)(d:z5n P w w')(hb:0<l.length->¬ P b):z7p w' A b off l:=by
 refine⟨h.adr,h.len,fun i x c j v e=>?_⟩;have h0:0<l.length:=by have:=(List.getElem?_eq_some_iff.1 c).1;omega
 rw[<- h.cell i x c j v e];exact World.cell?_of_block (w:=w) (a:=⟨b,off+i * 7+j,none⟩) (d.block b (h.lt h0) (hb h0))
end Wd
namespace Wd
open Go.RowKit Pv Kc Go.Maps
def rdM(v:Value):Option (DataW Value×List MemPlace):=some (.held v,[])
theorem y2D{w w':World}{b:Nat}(h:w.grownBy w' (some b)):Alt b w w':=⟨h.os,h.tape,h.output,h.size,fun k c a=>h.block k c (by simpa using a)⟩
theorem j4B{a:Int}(h:0<=a/\a<=1125899906842624):keyOf prog 3 (.int .i64 a)=some (.int .i64 a):=keyOf_int_mk underlying3 (WalkArith.wf_i64 (by omega))
theorem y2N{w w':World}{a n:Nat}{D:DataW Value}(h:w.ownsMap prog 3 rdM a n D)(b:w'.heap[a]?=w.heap[a]?):w'.ownsMap prog 3 rdM a n D:=by
 obtain⟨es,c,hb,r⟩:=h;exact⟨es,c,b.trans hb,r⟩
end Wd
namespace Wd
open Go.RowKit Pv Kc
structure SQ(x y:Wo)(i:Nat):Prop where
 h:y.p.h=x.p.h
 set:y.p.set=x.p.set
 on:(y.p.L i).on=(x.p.L i).on
 told:(y.p.L i).told=(x.p.L i).told
 out:(y.p.L i).out=(x.p.L i).out
 con:(y.c i).on=(x.c i).on
 cset:(y.c i).set=(x.c i).set
 id:(y.c i).id=(x.c i).id
 pd:(y.c i).pd=(x.c i).pd
inductive Tr (x y:Wo) (i:Nat):Prop
 | off:y.p.h=x.p.h->y.p.set=x.p.set->(y.c i).on=false->Tr x y i
 | same:SQ x y i->Tr x y i
 | q1J:y.c i=x.c i->y1A x.p y.p x.ck->y.p=(endP x.p x.ck).1->Tr x y i
 | beg:(x.c i).on=false->(x.c i).gone=false->1<=x.p.h->y.p.h=x.p.h->y.p.set=x.p.set->y.p.L i=z6M x.p->y.c i=z2s x.p.set x.p.h x.ck->Tr x y i
 | cons:y.p=x.p->y.c i=z2K { x.c i with h:=(x.c i).h+1,t:=x.ck }->Tr x y i
 | del (n:Nat) (s:ByteArray) (q:Pkt):z0X (Cd.bs s)=q->(x.p.L i).out.g=(n:Int)->(x.p.L i).out.S[n]?=some s->y.p.h=x.p.h->y.p.set=x.p.set->y.p.L i={ x.p.L i with out:={ (x.p.L i).out with g:=(x.p.L i).out.g+1 } }->y.c i={ x.c i with pd:=(x.c i).pd ++ [q] }->Tr x y i
theorem SQ.of{x y:Wo}{i:Nat}(h:y.p.h=x.p.h)(s:y.p.set=x.p.set)(l:y.p.L i=x.p.L i∨y.p.L i=z1u x.p.L i)(on:(y.c i).on=(x.c i).on)(a:(y.c i).set=(x.c i).set)(b:(y.c i).id=(x.c i).id)(c:(y.c i).pd=(x.c i).pd):SQ x y i:=by
 rcases l with l | l
 ·exact⟨h,s,by rw[l],by rw[l],by rw[l],on,a,b,c⟩
 ·have:=z2Z x.p.L i;exact⟨h,s,by rw[l];exact this.1,by rw[l];exact this.2.2.2,by rw[l];exact this.2.2.1,on,a,b,c⟩
theorem SQ.refl(x:Wo)(i:Nat):SQ x x i:=⟨rfl,rfl,rfl,rfl,rfl,rfl,rfl,rfl,rfl⟩
theorem y1J(x:Wo)(d:Dd)(i:Nat):SQ x (atP x d).1 i:=by
 unfold atP
 split
 ·dsimp only;rw[z5c];exact SQ.of rfl rfl (.inl rfl) rfl rfl rfl rfl
 ·split
  ·dsimp only;have e:=z4W x.p d.d d.v d.n x.ck;exact SQ.of e.1 e.2.2.2.1 (by rcases e.2.2.2.2 with e | e <;> simp only[e,or_true,true_or]) rfl rfl rfl rfl
  ·split
   ·exact SQ.of rfl rfl (.inl rfl) rfl rfl rfl rfl
   ·dsimp only;rw[z5S];exact SQ.of rfl rfl (.inl rfl) rfl rfl rfl rfl
theorem z8o(c:Cs)(k i v n now:Int):(z2o c k i v n now).1.on=c.on/\(z2o c k i v n now).1.set=c.set/\(z2o c k i v n now).1.id=c.id/\(z2o c k i v n now).1.pd=c.pd:=by
 unfold z2o
 split <;> exact⟨rfl,rfl,rfl,rfl⟩
theorem q7r(c:Cs)(v now:Int):(z3o c v now).1.on=c.on/\(z3o c v now).1.set=c.set/\(z3o c v now).1.id=c.id/\(z3o c v now).1.pd=c.pd:=by
 unfold z3o
 repeat' split
 all_goals first | exact⟨rfl,rfl,rfl,rfl⟩ | exact z8o _ _ _ _ _ _
theorem q1R(c:Cs)(v i now:Int):(z1c c v i now).1.on=c.on/\(z1c c v i now).1.set=c.set/\(z1c c v i now).1.id=c.id/\(z1c c v i now).1.pd=c.pd:=by
 unfold z1c
 repeat' split
 all_goals first | exact⟨rfl,rfl,rfl,rfl⟩ | exact z8o _ _ _ _ _ _
theorem q0P{x:Wo}{j:Nat}{y:Cs}{hp hc:Nat->Hd}(i:Nat)(h:i=j->y.on=(x.c j).on/\y.set=(x.c j).set/\y.id=(x.c j).id/\y.pd=(x.c j).pd):SQ x { x with c:=z2k x.c j y,hp:=hp,hc:=hc } i:=by
 by_cases e:i=j
 ·subst e;have:=h rfl;refine SQ.of rfl rfl (.inl rfl) ?_ ?_ ?_ ?_
  all_goals
   show _=_
   dsimp only;rw[z0S]
  ·exact this.1
  ·exact this.2.1
  ·exact this.2.2.1
  ·exact this.2.2.2
 ·refine SQ.of rfl rfl (.inl rfl) ?_ ?_ ?_ ?_
  all_goals
   dsimp only;rw[z0w _ _ e]
theorem q0c{l:Ln.Line}{s:ByteArray}{a b:Int}(h:Ln.z4B l (l.g+1) s a b=0):∃ n:Nat,l.g=(n:Int)/\l.S[n]?=some s/\Ln.z5L l (l.g+1) s a b={ l with g:=l.g+1 }:=by
 have i:Ln.z5L l (l.g+1) s a b={ l with g:=l.g+1 }:=by
  unfold Ln.z5L;rw[if_pos h]
 unfold Ln.z4B at h
 split at h
 ·exact absurd h ‹_›
 ·rename_i c;have c:Ln.z4i l=0:=by simpa using c
  have j:Ln.z1a l=true:=by
   unfold Ln.z4i at c
   split at c
   ·cases c
   ·rename_i q
    simpa using q
  have f:=((z1A l).1 j).2.2.2.1;rw[if_neg (by simp)]at h
  split at h
  ·cases h
  ·rename_i q;simp only[not_or]at q;have e:(l.g+1 - 1).toNat=l.g.toNat:=by rw[Int.add_sub_cancel]
   have q2:=q.2.2;rw[e]at q2;refine⟨l.g.toNat,(Int.toNat_of_nonneg f).symm,?_,i⟩;have d:l.g.toNat<l.S.length:=by omega
   rw[List.getD_eq_getElem?_getD,List.getElem?_eq_getElem d]at q2;rw[List.getElem?_eq_getElem d];simp only[Option.getD_some,ne_eq,Classical.not_not]at q2;rw[q2]
theorem q1p(c:Cs)(l:List Int):((z3c c l).2=0/\(z3c c l).1={ c with pd:=c.pd ++ [z0X l] })∨((z3c c l).2≠0/\(z3c c l).1=c):=by
 unfold z3c;generalize Cd.z4x l=E;generalize z0X l=q
 by_cases h1:z5t c=0
 ·rw[if_pos h1]
  by_cases h2:E=0
  ·rw[if_pos h2]
   by_cases h3:q.k=1
   ·rw[if_pos h3];exact .inl ⟨rfl,rfl⟩
   ·rw[if_neg h3];exact .inr ⟨by simp,rfl⟩
  ·rw[if_neg h2];exact .inr ⟨h2,rfl⟩
 ·rw[if_neg h1];exact .inr ⟨h1,rfl⟩
theorem q1w(f:Nat->Cs)(j:Nat):z2k f j (f j)=f:=by
 funext k
 unfold z2k
 split
 ·rename_i e;rw[e]
 ·rfl
theorem SQ.eq{x y:Wo}{i:Nat}(h:y.p.h=x.p.h)(s:y.p.set=x.p.set)(l:y.p.L i=x.p.L i)(c:y.c i=x.c i):SQ x y i:=SQ.of h s (.inl l) (by rw[c]) (by rw[c]) (by rw[c]) (by rw[c])
theorem q3J(x:Wo)(j:Nat)(s:ByteArray)(l:Ln.Line)(i:Nat):SQ x { x with p:=(z2z x.p j (Cd.bs s)).1,c:=z2k x.c j { x.c j with out:=l } } i:=by
 rw[(z5i _ _ _).1];have:=q0P (x:=x) (j:=j) (y:={ x.c j with out:=l }) (hp:=x.hp) (hc:=x.hc) i (fun _=>⟨rfl,rfl,rfl,rfl⟩)
 exact⟨rfl,rfl,rfl,rfl,rfl,this.con,this.cset,this.id,this.pd⟩
theorem y0N(x:Wo)(j:Nat)(b f:Bool)(i:Nat):Tr x (z7s x j b f).1 i:=by
 unfold z7s
 split
 ·rename_i hd;obtain⟨n,d,hs,g⟩:=q0c hd;cases b
  ·have a:z1B x j false (z0t x j false f)=({ x with c:=z2k x.c j (z3c (x.c j) (Cd.bs (z0t x j false f))).1 },(z3c (x.c j) (Cd.bs (z0t x j false f))).2):=rfl
   rw[a,g];dsimp only;have k:z0Y x j false=(x.p.L j).out:=rfl;rw[k]at d hs ⊢;generalize z0t x j false f=s at *;clear a g hd k
   rcases q1p (x.c j) (Cd.bs s) with⟨h1,h2⟩ | ⟨h1,h2⟩
   ·rw[if_pos h1,h2];clear h1 h2;generalize l:z0X (Cd.bs s)=q at *
    by_cases e:i=j
    ·subst e;exact .del n s q l d hs rfl rfl (z2u _ _ _) (z0S _ _ _)
    ·exact .same (SQ.eq rfl rfl (z2d _ _ e) (z0w _ _ e))
   ·rw[if_neg h1,h2,q1w];exact .same (SQ.eq rfl rfl rfl rfl)
  ·have a:z1B x j true (z0t x j true f)=({ x with p:=(z2z x.p j (Cd.bs (z0t x j true f))).1 },(z2z x.p j (Cd.bs (z0t x j true f))).2):=rfl
   rw[a];dsimp only
   split
   ·exact .same (q3J x j _ _ i)
   ·refine .same ?_;have:=q3J x j (z0t x j true f) (x.c j).out i;exact⟨this.h,this.set,this.on,this.told,this.out,rfl,rfl,rfl,rfl⟩
 ·exact .same (SQ.refl _ _)
theorem z4J(p:Pr)(c:Int):(z0j p c).h=p.h/\(z0j p c).set=p.set/\∀ i,i≠c.toNat->(z0j p c).L i=p.L i:=by
 unfold z0j
 split
 ·exact⟨rfl,rfl,fun i a=>z2d _ _ a⟩
 ·exact⟨rfl,rfl,fun _ _=>rfl⟩
theorem z5H(c:Cs):(z1d c).on=false:=by
 unfold z1d
 split
 ·rfl
 ·rename_i h
  simpa using h
theorem j9n(x:Wo)(j:Nat)(b:Bool)(k:Int)(i:Nat):Tr x (z6I x j b k).1 i:=by
 unfold z6I
 split
 ·dsimp only;generalize Ln.z4N (z0Y x j b) k (z5A x j b) (q2x x j b)=l
  by_cases e:i=j
  ·subst e;have a:=z4J (z1j x i b l).p i;refine .off (a.1.trans (by cases b <;> rfl)) (a.2.1.trans (by cases b <;> rfl)) ?_
   show (z2k _ i _ i).on=false
   rw[z0S];exact z5H _
  ·refine .same ?_;unfold q1X;have a:=z4J (z1j x j b l).p j;refine SQ.eq (a.1.trans ?_) (a.2.1.trans ?_) ((a.2.2 i (by simpa using e)).trans ?_) ((z0w _ _ e).trans ?_)
   all_goals cases b
   all_goals first | rfl | exact z2d _ _ e | exact z0w _ _ e
 ·exact .same (SQ.refl _ _)
theorem j8A(x:Wo)(i:Nat):Tr x (z3F x).1 i:=by
 unfold z3F
 split
 ·rename_i h0
  have a:z0o x.p=true/\isT x.ck=true/\x.p.t<=x.ck:=by
   by_cases b:z0o x.p=true/\isT x.ck=true/\x.p.t<=x.ck
   ·exact b
   ·unfold endP at h0;rw[if_neg b]at h0;cases h0
  exact .q1J rfl (z3a a) rfl
 ·exact .same (SQ.refl _ _)
theorem j3H{N:Int}{x:Wo}(h:z2P N x)(c:Int)(i:Nat):Tr x (z1X x c).1 i:=by
 unfold z1X
 split
 ·rename_i hc
  split
  ·rename_i h0
   have hb:(z0x x.p c).1={ x.p with s:={ x.p.s with W:=x.p.s.W.map (z0V c.toNat (x.p.h+1)) },L:=z0P x.p.L c.toNat (z6M x.p) }/\(x.p.L c.toNat).on=false/\(x.p.L c.toNat).gone=false/\x.p.h≠0:=by
    unfold z0x at h0 ⊢
    by_cases h1:z0o x.p=true
    ·rw[if_pos h1,if_pos hc]at h0;rw[if_pos h1,if_pos hc]
     by_cases h3:(x.p.L c.toNat).gone=true
     ·rw[if_pos h3]at h0;cases h0
     ·rw[if_neg h3]at h0 ⊢
      by_cases a:(x.p.L c.toNat).on=true
      ·rw[if_pos a]at h0;cases h0
      ·rw[if_neg a]at h0 ⊢
       by_cases b:x.p.h=0∨x.p.set.length=0
       ·rw[if_pos b]at h0;cases h0
       ·rw[if_neg b];exact⟨rfl,by simpa using a,by simpa using h3,fun q=>b (.inl q)⟩
    ·rw[if_neg h1]at h0;cases h0
   obtain⟨e,h2,h3,a⟩:=hb;rw[e];dsimp only
   have f:c.toNat<2:=by
    unfold isC at hc;simp only[Bool.and_eq_true,decide_eq_true_eq]at hc;omega
   by_cases q:i=c.toNat
   ·subst q;have d:=h.on _ f;exact .beg (d.1.trans h2) (d.2.trans h3) (by have:=h.gp.h0;omega) rfl rfl (z2u _ _ _) (z0S _ _ _)
   ·exact .same (SQ.eq rfl rfl (z2d _ _ q) (z0w _ _ q))
  ·exact .same (SQ.refl _ _)
 ·exact .same (SQ.refl _ _)
theorem j5O(x:Wo)(j i:Nat):Tr x (z3T x j).1 i:=by
 unfold z3T
 split
 ·rename_i h0
  have a:(z7A (x.c j) x.ck).1=z2K { x.c j with h:=(x.c j).h+1,t:=x.ck }:=by
   unfold z7A at h0 ⊢
   by_cases h1:z5t (x.c j)=0
   ·rw[if_pos h1]at h0 ⊢
    by_cases h2:isT x.ck=true/\(x.c j).t<=x.ck
    ·rw[if_pos h2]
    ·rw[if_neg h2]at h0;cases h0
   ·rw[if_neg h1]at h0;exact absurd h0 h1
  dsimp only;rw[a]
  by_cases e:i=j
  ·subst e;exact .cons rfl (z0S _ _ _)
  ·exact .same (SQ.eq rfl rfl rfl (z0w _ _ e))
 ·exact .same (SQ.refl _ _)
theorem j6s(x:Wo)(j:Nat)(b:Bool)(i:Nat):SQ x (z3H x j b) i:=by
 unfold z3H
 split
 ·by_cases e:i=j
  ·subst e;have h:z0P x.p.L i (j8G (x.p.L i) (x.hc i)) i=j8G (x.p.L i) (x.hc i):=z2u _ _ _;exact⟨rfl,rfl,by dsimp only;rw[h];rfl,by dsimp only;rw[h];rfl,by dsimp only;rw[h];rfl,rfl,rfl,rfl,rfl⟩
  ·exact SQ.eq rfl rfl (z2d _ _ e) rfl
 ·exact q0P (hp:=x.hp) (hc:=x.hc) i fun _=>⟨rfl,rfl,rfl,rfl⟩
theorem j1c(x:Wo)(j:Nat)(d:Dd)(i:Nat):Tr x (z2c x j d).1 i:=by
 unfold z2c
 split
 ·exact j5O _ _ _
 ·split
  ·exact .same (j6s _ _ _ _)
  ·split
   ·exact y0N _ _ _ _ _
   ·split
    ·exact j9n _ _ _ _ _
    ·dsimp only;unfold z9d
     split
     ·exact .same (q0P (hp:=x.hp) (hc:=x.hc) i fun _=>q7r _ _ _)
     ·exact .same (q0P (hp:=x.hp) (hc:=x.hc) i fun _=>q1R _ _ _ _)
theorem j8C{N:Int}{x:Wo}(h:z2P N x)(d:Dd)(i:Nat):Tr x (z2J x d).1 i:=by
 unfold z2J
 split
 ·exact .same (y1J _ _ _)
 ·split
  ·unfold z4z
   split <;> exact .same (SQ.eq rfl rfl rfl rfl)
  ·split
   ·exact j8A _ _
   ·split
    ·exact j3H h _ _
    ·split
     ·split
      ·exact j1c _ _ _ _
      ·exact .same (SQ.refl _ _)
     ·exact .same (SQ.refl _ _)
theorem j1U{x:Wo}(h:Inv x)(d:Dd)(i:Nat):Tr x (doW x d).1 i:=by
 unfold doW
 split
 ·exact .same (SQ.refl _ _)
 ·have:=j8C (x:=z2n x) (h.dn _) d i;cases this with
  | off a b c=>exact .off a b c
  | same a=>exact .same ⟨a.h,a.set,a.on,a.told,a.out,a.con,a.cset,a.id,a.pd⟩
  | q1J a b c=>exact .q1J a b c
  | beg a b c d e f g=>exact .beg a b c d e f g
  | cons a b=>exact .cons a b
  | del n s q a b c d e f g=>exact .del n s q a b c d e f g
def Ch(H:Int->Pws)(h:Int)(fin:Pws):Int->Pws->List Pkt->Prop
 | id,set,[]=>H id=set/\id<=h/\set=fin
 | id,set,q :: r=>H id=set/\id<q.i/\Ch H h fin q.i (Df.z2F set q.S) r
def j8t(set:Pws)(l:List Pkt):Pws:=l.foldl (fun s q=>Df.z2F s q.S) set
def z8U(id:Int)(l:List Pkt):Int:=l.foldl (fun _ q=>q.i) id
theorem Ch.head{H:Int->Pws}{h:Int}{fin:Pws}:∀ {l:List Pkt} {id:Int} {set:Pws},Ch H h fin id set l->H id=set/\id<=h
 | [],_,_,c=>⟨c.1,c.2.1⟩
 | _ :: _,_,_,c=>⟨c.1,by have:=(Ch.head c.2.2).2;have:=c.2.1;omega⟩
theorem Ch.take{H:Int->Pws}{h:Int}{fin:Pws}{b:List Pkt}:∀ {a:List Pkt} {id:Int} {set:Pws},Ch H h fin id set (a ++ b)->Ch H h fin (z8U id a) (j8t set a) b/\id<=z8U id a
 | [],_,_,c=>⟨c,Int.le_refl _⟩
 | q :: a,id,set,c=>by
  have h1:=Ch.take (a:=a) c.2.2;have h2:=c.2.1;have h3:=h1.2;exact⟨h1.1,by show id<=z8U q.i a;omega⟩
theorem Ch.snoc{H b:Int->Pws}{h h':Int}{fin a:Pws}{q:Pkt}(hh:h<h')(d:q.i=h')(e:Df.z2F fin q.S=a)(f:b h'=a)(hs:∀ i,i<=h->b i=H i):∀ {l:List Pkt} {id:Int} {set:Pws},Ch H h fin id set l->Ch b h' a id set (l ++ [q])
 | [],id,set,c=>by
  refine⟨(hs id c.2.1).trans c.1,by rw[d];have:=c.2.1;omega,?_⟩
  rw[c.2.2,e,d];exact⟨f,Int.le_refl _,rfl⟩
 | _ :: _,id,set,c=>⟨(hs id (Ch.head c).2).trans c.1,c.2.1,Ch.snoc hh d e f hs c.2.2⟩
theorem Ch.keep{H a:Int->Pws}{h h':Int}{fin:Pws}(hh:h<=h')(hs:∀ i,i<=h->a i=H i):∀ {l:List Pkt} {id:Int} {set:Pws},Ch H h fin id set l->Ch a h' fin id set l
 | [],id,set,c=>⟨(hs id c.2.1).trans c.1,by have:=c.2.1;omega,c.2.2⟩
 | _ :: _,id,set,c=>⟨(hs id (Ch.head c).2).trans c.1,c.2.1,Ch.keep hh hs c.2.2⟩
def pkS(S:List ByteArray):List Pkt:=S.map fun s=>z0X (Cd.bs s)
structure TI(H:Int->Pws)(x:Wo)(i:Nat):Prop where
 cl:(x.p.L i).out.cl=false
 len:((x.p.L i).out.S.length:Int)<=x.p.h
 told:(x.p.L i).told=x.p.set
 dec:∀ (n:Nat) s,(x.p.L i).out.g<=(n:Int)->(x.p.L i).out.S[n]?=some s->Cd.z4x (Cd.bs s)=0/\(z0X (Cd.bs s)).k=1
 ch:Ch H x.p.h x.p.set (x.c i).id (x.c i).set ((x.c i).pd ++ pkS ((x.p.L i).out.S.drop (x.p.L i).out.g.toNat))
theorem j3u{l:Pws}(h:z2W (-1) l=true)(v:Nat):0<=Df.z1C l v/\Df.z1C l v<=1125899906842624:=by
 have key:∀ m:Pws,(∀ x∈m,1<=x.2/\x.2<=1125899906842624)->0<=Df.z1C m v/\Df.z1C m v<=1125899906842624:=by
  intro m
  induction m with
  | nil=>intro _;exact⟨Int.le_refl _,(by decide:(0:Int)<=1125899906842624)⟩
  | cons x m ih =>
   intro hm;have h1:=ih fun y a=>hm y (List.mem_cons_of_mem _ a);have h2:=hm x (List.mem_cons_self ..)
   show 0<=Df.z8z (Df.z1C m) x v/\Df.z8z (Df.z1C m) x v<=_
   unfold Df.z8z
   split
   ·dsimp only
    split
    ·omega
    ·exact h1
   ·exact h1
 exact key l fun x b=>(z2R l _ h x b).2.2
theorem q9I(c:Nat->Bool)(f:Nat->Int)(h:∀ i,i<6->0<=f i/\f i<=1125899906842624):Cd.z0d (-1) (Df.those c f 6)=true:=by
 have h0:=h 0 (by omega)
 have h1:=h 1 (by omega)
 have h2:=h 2 (by omega)
 have h3:=h 3 (by omega)
 have k:=h 4 (by omega)
 have l:=h 5 (by omega)
 unfold Df.those;rw[show List.range 6=[0,1,2,3,4,5] from rfl];cases a:c 0 <;> cases b:c 1 <;> cases d:c 2 <;> cases e:c 3 <;> cases g:c 4 <;> cases j:c 5 <;> simp[a,b,d,e,g,j,Cd.z0d,Cd.isV] <;> omega
theorem z9I:∀ (l:List Int) (a:Int),-1<=a->z2m a l=true->Cd.z0i a l=true
 | [],_,_,_=>rfl
 | x :: l,a,ha,h=>by
  unfold z2m at h;simp only[Bool.and_eq_true,decide_eq_true_eq]at h;unfold Cd.z0i;rw[z9I l x (by omega) h.2]
  simp only[Bool.and_true,Bool.and_eq_true,decide_eq_true_eq];refine⟨h.1.1,?_⟩;unfold Cd.isV;simp only[decide_eq_true_eq];omega
theorem j0u{h:Int}{a b:Pws}{D:List Int}(h1:1<=h)(h2:h<=1099511627776)(hb:z2W (-1) b=true)(c:z2m (-1) D=true):Cd.z0n 1 h 0 0 (Df.z3v a b) D=0:=by
 have hp:Cd.z0d (-1) (Df.z3v a b)=true:=q9I _ _ fun i _=>j3u hb i;have d:=z9I D (-1) (by omega) c
 unfold Cd.z0n;rw[if_neg (by omega),if_neg (by omega),if_neg (by rintro⟨h,-⟩;revert h;decide),if_neg (by show ¬ (false=true);decide),if_neg (by rw[hp,d];decide)]
theorem q1F:∀ (l:Pws) (c:Cs),(z1R c l).on=c.on/\(z1R c l).set=c.set/\(z1R c l).id=c.id/\(z1R c l).pd=c.pd
 | [],_=>⟨rfl,rfl,rfl,rfl⟩
 | x :: l,c=>by
  unfold z1R
  split
  ·split
   ·have h:=q1F l (z2o c 2 x.1 0 0 c.t).1;have h2:=z8o c 2 x.1 0 0 c.t;exact⟨h.1.trans h2.1,h.2.1.trans h2.2.1,h.2.2.1.trans h2.2.2.1,h.2.2.2.trans h2.2.2.2⟩
   ·exact⟨rfl,rfl,rfl,rfl⟩
  ·exact⟨rfl,rfl,rfl,rfl⟩
theorem z9E:∀ (l:List Pkt) (c:Cs),(l.foldl takeC c).on=c.on/\(l.foldl takeC c).set=j8t c.set l/\(l.foldl takeC c).id=z8U c.id l
 | [],_=>⟨rfl,rfl,rfl⟩
 | q :: l,c=>by
  have h:=z9E l (takeC c q);exact⟨h.1,h.2.1,h.2.2⟩
theorem z4O(c:Cs):(z2K c).on=c.on/\(z2K c).set=j8t c.set c.pd/\(z2K c).id=z8U c.id c.pd/\(z2K c).pd=[]:=by
 unfold z2K;have h:=q1F (z1w c).rp { z1w c with pd:=[] }
 have h2:=z9E c.pd c;exact⟨h.1.trans h2.1,h.2.1.trans h2.2.1,h.2.2.1.trans h2.2.2,h.2.2.2⟩
theorem j0y{p:Pr}{c:Nat}(d:Cd.z0n 1 p.h 0 0 (Df.z3v (p.L c).told p.set) (p.L c).done=0)(hs:Ln.z5O (p.L c).out (p.t+40)=0):((z1t p c).L c=p.L c/\((p.L c).on=true->(p.L c).told=p.set))∨Pv.Told p.h p.t p.set (p.L c) ((z1t p c).L c):=by
 rcases q2I p c with h | h
 ·by_cases a:z5q p (p.L c)=true
  ·refine .inl ⟨h,fun b=>?_⟩;unfold z5q at a;rw[b]at a;simp only[Bool.not_true,Bool.false_or,Bool.and_eq_true,decide_eq_true_eq]at a;exact a.1.1
  ·refine .inr ?_;unfold z1t;rw[if_neg a,if_pos d,if_pos hs];refine⟨?_,d,hs,?_⟩
   ·cases b:(p.L c).on
    ·exact absurd (by unfold z5q;rw[b];rfl) a
    ·rfl
   ·show z0P p.L c _ c=_
    unfold z0P;rw[if_pos rfl]
 ·exact .inr h
theorem j2w{l:Ln.Line}{t:Int}(a:Ln.z1a l=true)(hc:l.cl=false)(b:l.S.length<400)(c:0<=t):Ln.z5O l t=0:=by
 unfold Ln.z5O Ln.z4i;rw[if_neg (by omega),a,hc]
 simp only[Bool.true_eq_false,if_false,Bool.false_eq_true,ne_eq,not_true_eq_false];rw[if_neg (by omega)]
theorem j2X{p:Pr}{now:Int}(a:z0o p=true/\isT now=true/\p.t<=now){c:Nat}(hc:c<2)(l:(p.L c).out.cl=false)(e:(p.L c).out.S.length<400)(m:(p.L c).on=true) :
  ∃ z,z5l (p.L c) z/\(((endP p now).1.L c=z/\z.told=(endP p now).1.set)∨Pv.Told (p.h+1) now (endP p now).1.set z ((endP p now).1.L c)):=by
 have s:(endP p now).1=z1t (z1t (z3l (z0q (z0y p now)) now) 0) 1:=by unfold endP;rw[if_pos a]
 have o:=z3a a;rw[s]at o ⊢;have hs:=z9j (z0y p now);have u:=z8e a.1 now;have d:=(z6o p).1 a.1;have w:=(z9X now).1 a.2.1;have i:(z3l (z0q (z0y p now)) now).h=p.h+1:=hs.h;have j:(z3l (z0q (z0y p now)) now).t=now:=hs.t;obtain⟨b1,b2,-,k,-,-,-⟩:=z6i (z3l (z0q (z0y p now)) now) 0;obtain⟨-,-,-,q,-,-,-⟩:=z6i (z1t (z3l (z0q (z0y p now)) now) 0) 1;have z:z5l (p.L c) ((z0q (z0y p now)).L c):=hs.lk c;have v:=u.2 c hc;have f:=o.z2W;rw[q,k]at f;have r:Cd.z0n 1 (p.h+1) 0 0 (Df.z3v ((z0q (z0y p now)).L c).told (z3l (z0q (z0y p now)) now).set) ((z0q (z0y p now)).L c).done=0:=j0u (by have:=d.h0;omega) (by have:=d.h1;omega) f v
 have g:Ln.z5O ((z0q (z0y p now)).L c).out (now+40)=0:=j2w (by rw[z.out];exact (d.lk c hc).out) (by rw[z.out];exact l) (by rw[z.out];exact e) (by omega)
 have b:((z0q (z0y p now)).L c).on=true:=z.on.trans m;refine⟨_,z,?_⟩;rw[q,k]
 rcases (show c=0∨c=1 by omega) with rfl | rfl
 ·rw[z6j _ 1 0 (by omega)]
  have h:=j0y (p:=z3l (z0q (z0y p now)) now) (c:=0) (by rw[i];exact r) (by rw[j];exact g)
  rw[i,j]at h
  rcases h with h | h
  ·exact .inl ⟨h.1,h.2 b⟩
  ·exact .inr h
 ·have n:(z1t (z3l (z0q (z0y p now)) now) 0).L 1=(z0q (z0y p now)).L 1:=z6j _ 0 1 (by omega)
  have h:=j0y (p:=z1t (z3l (z0q (z0y p now)) now) 0) (c:=1) (by rw[n,b1,k,i];exact r) (by rw[n,b2,j];exact g)
  rw[b1,b2,k,n,i,j]at h
  rcases h with h | h
  ·exact .inl ⟨h.1,h.2 b⟩
  ·exact .inr h
structure WH(H:Int->Pws)(x:Wo):Prop where
 now:H x.p.h=x.p.set
 ti:∀ i,i<2->(x.c i).on=true->TI H x i
theorem q9O{α:Type}(l:List α)(n:Nat)(a:α)(h:n<=l.length):(l ++ [a]).drop n=l.drop n ++ [a]:=by
 rw[List.drop_append,show n - l.length=0 by omega]
 rfl
theorem j8w{H:Int->Pws}{x y:Wo}{i:Nat}(w:Inv x)(hd:x.dn<400)(K:i<2)(h:(x.c i).on=true->TI H x i)(R:H x.p.h=x.p.set)(l:(y.c i).on=true)(t:Tr x y i):TI (j4i H y.p.h y.p.set) y i:=by
 have o:y.p.h=x.p.h->y.p.set=x.p.set->j4i H y.p.h y.p.set=H:=fun j r=>by
  funext k
  unfold j4i
  split
  ·rename_i e;rw[e,j,r,R]
  ·rfl
 cases t with
 | off _ _ a=>rw[a]at l;cases l
 | same q =>
  rw[o q.h q.set];have T:=h (q.con.symm.trans l);refine⟨by rw[q.out];exact T.cl,by rw[q.out,q.h];exact T.len,by rw[q.told,q.set];exact T.told,by rw[q.out];exact T.dec,?_⟩
  rw[q.out,q.h,q.set,q.cset,q.id,q.pd];exact T.ch
 | q1J ec E ep =>
  have T:=h (by rw[<- ec];exact l)
  have M:z0o x.p=true/\isT x.ck=true/\x.p.t<=x.ck:=⟨(z6o _).2 w.gp,(z9X _).2 ⟨w.k0,by have:=w.k1;omega⟩,w.pt⟩
  have X:=T.len;have U:=w.ph;have V:=(z1A _).1 (w.gp.lk i K).out;obtain⟨z,A,hc⟩:=j2X M K T.cl (by omega) ((w.on i K).1.symm.trans (by rw[<- ec];exact l))
  rw[<- ep]at hc
  have C:∀ k,k<=x.p.h->j4i H y.p.h y.p.set k=H k:=fun k Y=>by
   unfold j4i;rw[if_neg (by rw[E.h];omega)]
  rcases hc with⟨j,r⟩ | t
  ·have B:y.p.set=x.p.set:=by rw[<- r,A.told,T.told]
   refine⟨by rw[j,A.out];exact T.cl,by rw[j,A.out,E.h];omega,by rw[j];exact r,by rw[j,A.out];exact T.dec,?_⟩
   rw[j,A.out,ec];have:=T.ch.keep (h':=y.p.h) (by rw[E.h];omega) C
   rw[<- B]at this;exact this
  ·have j:=t.eq;obtain⟨W,-⟩:=q4q t.good;have N:=z9b t.good
   have G:(y.p.L i).out=⟨(x.p.L i).out.S ++ [Cd.encS 1 (x.p.h+1) 0 0 (Df.z3v z.told y.p.set) z.done],(x.p.L i).out.D ++ [x.ck+40],(x.p.L i).out.g,(x.p.L i).out.cl⟩:=by
    rw[j]
    show Ln.z4C z.out _ (x.ck+40)=_
    unfold Ln.z4C;rw[if_pos t.say,A.out]
   have P:Df.z2F x.p.set (Df.z3v z.told y.p.set)=y.p.set:=by
    rw[A.told,T.told];exact q7l w.gp.set E.z2W
   have Q:(y.p.L i).told=y.p.set:=by rw[j]
   clear j;generalize Cd.encS 1 (x.p.h+1) 0 0 (Df.z3v z.told y.p.set) z.done=s at *;refine⟨by rw[G];exact T.cl,by rw[G,E.h];simp only[List.length_append,List.length_cons,List.length_nil];omega,Q,fun m u hm hu=>?_,?_⟩
   ·rw[G]at hm hu;dsimp only at hm hu
    by_cases v:m<(x.p.L i).out.S.length
    ·rw[List.getElem?_append_left v]at hu;exact T.dec m u hm hu
    ·rw[List.getElem?_append_right (by omega)]at hu
     have:m - (x.p.L i).out.S.length=0:=by
      have:=(List.getElem?_eq_some_iff.1 hu).1
      simp at this
      omega
     rw[this]at hu;cases hu;exact⟨W,by rw[N]⟩
   ·rw[G,ec];dsimp only;rw[q9O _ _ _ (by omega)]
    unfold pkS;rw[List.map_append,<- List.append_assoc];refine Ch.snoc (h:=x.p.h) (h':=y.p.h) (fin:=x.p.set) (by rw[E.h];omega) ?_ ?_ ?_ C T.ch
    ·show (z0X (Cd.bs s)).i=_
     rw[N,E.h]
    ·show Df.z2F x.p.set (z0X (Cd.bs s)).S=_
     rw[N];exact P
    ·unfold j4i;rw[if_pos rfl]
 | beg a b c d e f g =>
  rw[o d e];refine⟨by rw[f];rfl,by rw[f,d];show ((0:Nat):Int)<=_;omega,by rw[f,e];rfl,fun n s _ hs=>?_,?_⟩
  ·rw[f]at hs
   simp[z6M]at hs
  ·rw[f,g,d,e];exact⟨R,Int.le_refl _,rfl⟩
 | cons j r =>
  rw[o (by rw[j]) (by rw[j])]
  have F:=z4O { x.c i with h:=(x.c i).h+1,t:=x.ck }
  rw[<- r]at F;have T:=h (F.1.symm.trans l);refine⟨by rw[j];exact T.cl,by rw[j];exact T.len,by rw[j];exact T.told,by rw[j];exact T.dec,?_⟩
  rw[j,F.2.1,F.2.2.1,F.2.2.2];exact (Ch.take T.ch).1
 | del n s q hq hg hs j r B e4 =>
  rw[o j r];have T:=h (by rw[e4]at l;exact l)
  refine⟨by rw[B];exact T.cl,by rw[B,j];exact T.len,by rw[B,r];exact T.told,fun m s hm hs=>?_,?_⟩
  ·rw[B]at hm hs;exact T.dec m s (by dsimp only at hm;omega) hs
  ·rw[B,e4,j,r];have c:=T.ch;dsimp only;rw[hg]at c ⊢;rw[show ((n:Int)+1).toNat=n+1 by omega]
   rw[show (n:Int).toNat=n from rfl]at c;have v:=(List.getElem?_eq_some_iff.1 hs);rw[List.drop_eq_getElem_cons v.1,v.2]at c;unfold pkS at c ⊢;rw[List.map_cons,hq]at c;rw[List.append_assoc];exact c
theorem y2u{H:Int->Pws}{x:Wo}(b:Inv x)(hd:x.dn<400)(h:WH H x)(d:Dd):WH (j4i H (doW x d).1.p.h (doW x d).1.p.set) (doW x d).1:=
 ⟨by unfold j4i;rw[if_pos rfl],fun i c a=>j8w b hd c (h.ti i c) h.now a (j1U b d i)⟩
theorem j9O:WH (fun _=>[]) z8y:=⟨rfl,fun i _ h=>by cases h⟩
theorem q3l(l:List Dd):∀ k,k<=l.length->k<=300->WH (hsW l k) (stW l k)
 | 0,_,_=>j9O
 | k+1,h1,h2=>by
  have e:=z3f (List.getElem?_eq_getElem (by omega:k<l.length))
  have:=y2u (z2S l k) (by rw[y0i l k (by omega) (by omega)];omega) (q3l l k (by omega) (by omega)) l[k]
  rw[<- e]at this;exact this
def okT(m:Int)(s:ByteArray):Prop:=Cd.z4x (Cd.bs s)=0->(z0X (Cd.bs s)).k=2->(z0X (Cd.bs s)).i<=m
structure RI(x:Wo)(i:Nat):Prop where
 rp:∀ r∈(x.c i).rp,r.1<=(x.c i).id
 said:∀ s∈(x.c i).out.S,okT (x.c i).id s
 q:∀ a∈x.p.q,a.1=(i:Int)->∃ (n:Nat) (s:ByteArray),(n:Int)<(x.c i).out.g/\(x.c i).out.S[n]?=some s/\Cd.z4x (Cd.bs s)=0/\z0X (Cd.bs s)=a.2
theorem j9P{a b:Int}{s:ByteArray}(h:okT a s)(c:a<=b):okT b s:=fun h1 h2=>Int.le_trans (h h1 h2) c
theorem j7q{m k i v n:Int}(a:Cd.z0n k i v n [] []=0)(h:k=2->i<=m):okT m (Cd.encS k i v n [] []):=fun _ h2=>by
 rw[z9b a]at h2 ⊢;exact h h2
structure CY(m:Int)(c c':Cs):Prop where
 rp:∀ r∈c'.rp,r∈c.rp
 S:∃ T,c'.out.S=c.out.S ++ T/\∀ s∈T,okT m s
 g:c'.out.g=c.out.g
theorem CY.refl(m:Int)(c:Cs):CY m c c:=⟨fun _ h=>h,⟨[],by simp,fun _ h=>by cases h⟩,rfl⟩
theorem CY.same{m:Int}{c c':Cs}(h1:c'.rp=c.rp)(h2:c'.out=c.out):CY m c c':=⟨fun r h=>h1 ▸ h,⟨[],by rw[h2];simp,fun _ h=>by cases h⟩,by rw[h2]⟩
theorem CY.trans{m:Int}{a b c:Cs}(h:CY m a b)(k:CY m b c):CY m a c:=by
 obtain⟨T,e,f⟩:=h.S;obtain⟨i,e',d⟩:=k.S;refine⟨fun r j=>h.rp r (k.rp r j),⟨T ++ i,by rw[e',e,List.append_assoc],fun s hs=>?_⟩,k.g.trans h.g⟩
 rcases List.mem_append.1 hs with hs | hs
 ·exact f s hs
 ·exact d s hs
theorem q3W{m:Int}(c:Cs){k i v n now:Int}(h:k=2->i<=m):CY m c (z2o c k i v n now).1:=by
 unfold z2o
 split
 ·rename_i hg;refine⟨fun _ h=>h,?_,?_⟩
  ·show ∃ T,(Ln.z4C c.out _ _).S=_/\_
   unfold Ln.z4C
   split
   ·exact⟨[_],rfl,fun s hs=>by rw[List.mem_singleton.1 hs];exact j7q hg h⟩
   ·exact⟨[],by simp,fun _ h=>by cases h⟩
  ·show (Ln.z4C c.out _ _).g=_
   unfold Ln.z4C
   split <;> rfl
 ·exact CY.refl _ _
theorem j1k(m:Int)(c:Cs)(v now:Int):CY m c (z3o c v now).1:=by
 unfold z3o
 repeat' split
 all_goals first | exact CY.refl _ _ | skip
 have h:=q3W (m:=m) c (k:=3) (i:=c.id) (v:=v) (n:=z4A v c.set) (now:=now) (fun h=>absurd h (by decide))
 exact⟨h.rp,h.S,h.g⟩
theorem q2j(m:Int)(c:Cs)(v i now:Int):CY m c (z1c c v i now).1:=by
 unfold z1c
 repeat' split
 all_goals first | exact CY.refl _ _ | exact q3W c (fun h=>absurd h (by decide))
theorem q9r{m:Int}:∀ (l:Pws) (c:Cs),(∀ r∈l,r.1<=m)->(∀ r∈l,r∈c.rp)->CY m c (z1R c l)
 | [],c,_,_=>⟨(fun r d=>by cases d),⟨[],by show c.out.S=_;simp,fun _ h=>by cases h⟩,rfl⟩
 | x :: l,c,h,d=>by
  unfold z1R;have a:CY m c { c with rp:=x :: l }:=⟨d,⟨[],by show c.out.S=_;simp,fun _ h=>by cases h⟩,rfl⟩
  split
  ·split
   ·have h1:=q3W c (k:=2) (i:=x.1) (v:=0) (n:=0) (now:=c.t) (m:=m) fun _=>h x List.mem_cons_self;have e:(z2o c 2 x.1 0 0 c.t).1.rp=c.rp:=by unfold z2o;split <;> rfl
    exact h1.trans (q9r l _ (fun r b=>h r (List.mem_cons_of_mem _ b)) fun r b=>by rw[e];exact d r (List.mem_cons_of_mem _ b))
   ·exact a
  ·exact a
theorem Ch.rise{H:Int->Pws}{h:Int}{fin:Pws}{b:List Pkt}:∀ {a:List Pkt} {id:Int} {set:Pws},Ch H h fin id set (a ++ b)->∀ q∈a,q.i<=z8U id a
 | [],_,_,_,q,d=>by cases d
 | p :: a,id,set,c,q,d=>by
  rcases List.mem_cons.1 d with rfl | d
  ·exact (Ch.take (a:=a) c.2.2).2
  ·exact Ch.rise (a:=a) c.2.2 q d
theorem q0v:∀ (l:List Pkt) (c:Cs),(∀ r∈(l.foldl takeC c).rp,r∈c.rp∨∃ q∈l,r.1=q.i)/\(l.foldl takeC c).out=c.out
 | [],c=>⟨fun r a=>.inl a,rfl⟩
 | p :: l,c=>by
  have h:=q0v l (takeC c p);refine⟨fun r a=>?_,h.2⟩
  rcases h.1 r a with a | ⟨q,b,e⟩
  ·rcases List.mem_append.1 (show r∈c.rp ++ [(p.i,c.t+15)] from a) with a | a
   ·exact .inl a
   ·exact .inr ⟨p,List.mem_cons_self,by rw[List.mem_singleton.1 a]⟩
  ·exact .inr ⟨q,List.mem_cons_of_mem _ b,e⟩
theorem j7R{x:Wo}{H:Int->Pws}{i:Nat}(T:TI H x i)(R:RI x i){c:Cs}(hc:c={ x.c i with h:=(x.c i).h+1,t:=x.ck }) :
  (∀ r∈(z2K c).rp,r.1<=(z2K c).id)/\(∀ s∈(z2K c).out.S,okT (z2K c).id s)/\(x.c i).out.S <+: (z2K c).out.S/\(z2K c).out.g=(x.c i).out.g:=by
 have hid:=(z4O c).2.2.1;have b:=(Ch.take T.ch).2;have j:=Ch.rise T.ch;have k:=q0v c.pd c;have f:c.pd=(x.c i).pd:=by rw[hc]
 have o:c.id=(x.c i).id:=by rw[hc]
 have p:c.rp=(x.c i).rp:=by rw[hc]
 have u:c.out=(x.c i).out:=by rw[hc]
 rw[hid,f,o];rw[f,p]at k
 have d:∀ r∈(z1w c).rp,r.1<=z8U (x.c i).id (x.c i).pd:=fun r a=>by
  rcases k.1 r (by unfold z1w at a;rw[f]at a;exact a) with h | ⟨q,hq,e⟩
  ·exact Int.le_trans (R.rp r h) b
  ·rw[e];exact j q hq
 have l:CY (z8U (x.c i).id (x.c i).pd) { z1w c with pd:=[] } (z2K c):=q9r _ _ d fun r a=>a
 have n:({ z1w c with pd:=[] }:Cs).out=(x.c i).out:=by
  show (z1w c).out=_
  unfold z1w;rw[f];exact k.2.trans u
 obtain⟨w,m,v⟩:=l.S;rw[n]at m;refine⟨fun r a=>d r (l.rp r a),fun s hs=>?_,by rw[m];exact List.prefix_append _ _,by rw[l.g,n]⟩
 rw[m]at hs
 rcases List.mem_append.1 hs with hs | hs
 ·exact j9P (R.said s hs) b
 ·exact v s hs
theorem RI.go{x y:Wo}{i:Nat}(R:RI x i)(hid:(y.c i).id=(x.c i).id)(b:CY (x.c i).id (x.c i) (y.c i))(f:∀ a∈y.p.q,a.1=(i:Int)->a∈x.p.q):RI y i:=by
 obtain⟨T,e,h⟩:=b.S;refine⟨fun r j=>by rw[hid];exact R.rp r (b.rp r j),fun s hs=>?_,fun a k d=>?_⟩
 ·rw[hid];rw[e]at hs
  rcases List.mem_append.1 hs with hs | hs
  ·exact R.said s hs
  ·exact h s hs
 ·obtain⟨n,s,h1,h2,h3⟩:=R.q a (f a k d) d;refine⟨n,s,by rw[b.g];exact h1,?_,h3⟩
  rw[e,List.getElem?_append_left (List.getElem?_eq_some_iff.1 h2).1];exact h2
theorem RI.eq{x y:Wo}{i:Nat}(R:RI x i)(hc:y.c i=x.c i)(b:∀ a∈y.p.q,a.1=(i:Int)->a∈x.p.q):RI y i:=R.go (by rw[hc]) (by rw[hc];exact CY.refl _ _) b
theorem j0O(z:QS)(a:Int×Pkt):∀ b∈(z1n z a).left,b∈z.left∨b=a:=by
 intro b;unfold z1n
 split
 ·intro hb;exact (List.mem_append.1 hb).imp id List.mem_singleton.1
 ·split
  ·exact .inl
  ·intro hb;exact (List.mem_append.1 hb).imp id List.mem_singleton.1
theorem z9D:∀ (l:List (Int×Pkt)) (z:QS),∀ b∈(l.foldl z1n z).left,b∈z.left∨b∈l
 | [],_,b,hb=>.inl hb
 | a :: l,z,b,hb=>by
  rcases z9D l (z1n z a) b hb with h | h
  ·rcases j0O z a b h with h | h
   ·exact .inl h
   ·exact .inr (h ▸ List.mem_cons_self)
  ·exact .inr (List.mem_cons_of_mem _ h)
theorem y2C{p:Pr}{now:Int}(b:z0o p=true/\isT now=true/\p.t<=now):∀ a∈(endP p now).1.q,a∈p.q:=fun a c=>by
 rw[(z3a b).q]at c
 rcases z9D _ _ a c with h | h
 ·cases h
 ·exact h
theorem z5W{x:Wo}{j:Nat}{y:Cs}(i:Nat)(R:RI x i)(h:i=j->y.id=(x.c j).id/\CY (x.c j).id (x.c j) y){hp hc:Nat->Hd}:RI { x with c:=z2k x.c j y,hp:=hp,hc:=hc } i:=by
 by_cases e:i=j
 ·subst e;have d:z2k x.c i y i=y:=z0S _ _ _;exact R.go (by dsimp only;rw[d];exact (h rfl).1) (by dsimp only;rw[d];exact (h rfl).2) fun a b _=>b
 ·exact R.eq (z0w _ _ e) fun a b _=>b
theorem j1n(p:Pr)(c:Int)(l:List Int):((z2z p c l).2=0/\Cd.z4x l=0/\(z2z p c l).1={ p with q:=p.q ++ [(c,z0X l)] })∨((z2z p c l).2≠0/\(z2z p c l).1=p):=by
 unfold z2z;generalize Cd.z4x l=E;generalize z0X l=q
 by_cases h1:z0o p=true
 ·rw[if_pos h1]
  by_cases h2:z8G p c=true
  ·rw[if_pos h2]
   by_cases h3:E=0
   ·rw[if_pos h3]
    by_cases a:q.k=1
    ·rw[if_pos a];exact .inr ⟨by simp,rfl⟩
    ·rw[if_neg a];exact .inl ⟨rfl,h3,rfl⟩
   ·rw[if_neg h3];exact .inr ⟨h3,rfl⟩
  ·rw[if_neg h2];exact .inr ⟨by simp,rfl⟩
 ·rw[if_neg h1];exact .inr ⟨by simp,rfl⟩
theorem j8S(x:Wo)(j:Nat)(b f:Bool)(i:Nat)(R:RI x i):RI (z7s x j b f).1 i:=by
 unfold z7s
 split
 ·rename_i hd;obtain⟨n,A,hs,t⟩:=q0c hd;cases b
  ·have l:z1B x j false (z0t x j false f)=({ x with c:=z2k x.c j (z3c (x.c j) (Cd.bs (z0t x j false f))).1 },(z3c (x.c j) (Cd.bs (z0t x j false f))).2):=rfl
   rw[l,t];dsimp only;generalize z0t x j false f=s at *;clear l t hd
   rcases q1p (x.c j) (Cd.bs s) with⟨h1,h2⟩ | ⟨h1,h2⟩
   ·rw[if_pos h1,h2];clear h1 h2;generalize z0X (Cd.bs s)=q at *;have h:=z5W (x:=x) (j:=j) (y:={ x.c j with pd:=(x.c j).pd ++ [q] }) (hp:=x.hp) (hc:=x.hc) i R fun _=>⟨rfl,CY.same rfl rfl⟩
    exact⟨h.rp,h.said,h.q⟩
   ·rw[if_neg h1,h2,q1w];exact R
  ·have l:z1B x j true (z0t x j true f)=({ x with p:=(z2z x.p j (Cd.bs (z0t x j true f))).1 },(z2z x.p j (Cd.bs (z0t x j true f))).2):=rfl
   rw[l,t];dsimp only;have w:z0Y x j true=(x.c j).out:=rfl;rw[w]at A hs ⊢;generalize z0t x j true f=s at *;clear l t hd w
   rcases j1n x.p j (Cd.bs s) with⟨h1,h3,h2⟩ | ⟨h1,h2⟩
   ·rw[if_pos h1,h2];clear h1 h2;generalize B:z0X (Cd.bs s)=q at *
    by_cases e:i=j
    ·subst e;have u:(z1j { x with p:={ x.p with q:=x.p.q ++ [((i:Int),q)] } } i true { (x.c i).out with g:=(x.c i).out.g+1 }).c i={ x.c i with out:={ (x.c i).out with g:=(x.c i).out.g+1 } }:=z0S _ _ _
     refine⟨fun r z=>?_,fun v o=>?_,fun a d k=>?_⟩
     ·rw[u]at z ⊢;exact R.rp r z
     ·rw[u]at o ⊢;exact R.said v o
     ·rw[u]
      rcases List.mem_append.1 (show a∈x.p.q ++ [((i:Int),q)] from d) with d | d
      ·obtain⟨m,v,k1,C⟩:=R.q a d k;exact⟨m,v,by dsimp only;omega,C⟩
      ·rw[List.mem_singleton.1 d];exact⟨n,s,by dsimp only;omega,hs,h3,B⟩
    ·refine R.eq (z0w _ _ e) fun a d k=>?_
     rcases List.mem_append.1 (show a∈x.p.q ++ [((j:Int),q)] from d) with d | d
     ·exact d
     ·rw[List.mem_singleton.1 d]at k;exact absurd (Int.ofNat.inj k.symm) e
   ·rw[if_neg h1,h2];exact R
 ·exact R
theorem y1D(x:Wo)(d:Dd)(i:Nat)(R:RI x i):RI (atP x d).1 i:=by
 have e:(atP x d).1.p.q=x.p.q:=by
  unfold atP
  split
  ·dsimp only;rw[z5c]
  ·split
   ·exact (z4W x.p d.d d.v d.n x.ck).2.2.1
   ·split
    ·rfl
    ·dsimp only;rw[z5S]
 have hc:(atP x d).1.c=x.c:=by
  unfold atP
  repeat' split
  all_goals rfl
 exact R.eq (by rw[hc]) fun a b _=>by rw[e]at b;exact b
theorem y0J(x:Wo)(j:Nat)(b:Bool)(k:Int)(i:Nat)(d:((z6I x j b k).1.c i).on=true)(R:RI x i):RI (z6I x j b k).1 i:=by
 unfold z6I at d ⊢
 split at d
 ·rename_i h0;rw[if_pos h0];dsimp only at d ⊢;generalize Ln.z4N (z0Y x j b) k (z5A x j b) (q2x x j b)=l at *
  by_cases e:i=j
  ·subst e
   have:((q1X (z1j x i b l) i).c i).on=false:=by
    show (z2k _ i _ i).on=false
    rw[z0S];exact z5H _
   rw[this]at d;cases d
  ·have hc:(q1X (z1j x j b l) j).c i=x.c i:=(z0w _ _ e).trans (by cases b;rfl;exact z0w _ _ e)
   refine R.eq hc fun a f _=>?_
   have h1:a∈(z1j x j b l).p.q:=by
    have h2:a∈(z0j (z1j x j b l).p j).q:=f;unfold z0j at h2
    split at h2
    ·exact (List.mem_filter.1 h2).1
    ·exact h2
   cases b <;> exact h1
 ·rename_i h0;rw[if_neg h0];exact R
theorem j5Y(x:Wo)(j:Nat)(b:Bool)(i:Nat)(R:RI x i):RI (z3H x j b) i:=by
 unfold z3H
 split
 ·exact R.eq rfl fun a d _=>d
 ·exact z5W (y:=y1v (x.c j) (x.hp j)) (hp:=x.hp) (hc:=x.hc) i R fun _=>⟨rfl,CY.same rfl rfl⟩
theorem j6I(c:Cs)(v now:Int):(z3o c v now).1.id=c.id:=(q7r c v now).2.2.1
theorem j0j(x:Wo){i j:Nat}(d:Dd)(e:i≠j):(z2c x j d).1.c i=x.c i:=by
 have hp:∀ (y:Wo) (b:Bool) (l:Ln.Line),(z1j y j b l).c i=y.c i:=fun y b l=>by
  cases b
  ·rfl
  ·exact z0w _ _ e
 have hh:∀ (b:Bool) (s:ByteArray),(z1B x j b s).1.c i=x.c i:=fun b s=>by
  cases b
  ·exact z0w _ _ e
  ·rfl
 unfold z2c
 split
 ·dsimp only;unfold z3T
  split
  ·exact z0w _ _ e
  ·rfl
 ·split
  ·dsimp only;unfold z3H
   split
   ·rfl
   ·exact z0w _ _ e
  ·split
   ·unfold z7s
    split
    ·split
     ·exact (hp _ _ _).trans (hh _ _)
     ·exact hh _ _
    ·rfl
   ·split
    ·dsimp only;unfold z6I
     split
     ·exact (z0w _ _ e).trans (hp _ _ _)
     ·rfl
    ·dsimp only;unfold z9d
     split <;> exact z0w _ _ e
theorem j7l{H:Int->Pws}{x:Wo}{j:Nat}{d:Dd}{i:Nat}(o:(x.c j).on=true)(T:(x.c i).on=true->TI H x i)(b:((z2c x j d).1.c i).on=true)(R:(x.c i).on=true->RI x i):RI (z2c x j d).1 i:=by
 have m:(x.c i).on=true:=by
  by_cases e:i=j
  ·rw[e];exact o
  ·rw[j0j x d e]at b;exact b
 have f:=R m;unfold z2c at b ⊢
 split at b
 ·rename_i h7;rw[if_pos h7];dsimp only at b ⊢;unfold z3T at b ⊢
  split at b
  ·rename_i h0;rw[if_pos h0]
   have p:(z7A (x.c j) x.ck).1=z2K { x.c j with h:=(x.c j).h+1,t:=x.ck }:=by
    unfold z7A at h0 ⊢
    by_cases h1:z5t (x.c j)=0
    ·rw[if_pos h1]at h0 ⊢
     by_cases h2:isT x.ck=true/\(x.c j).t<=x.ck
     ·rw[if_pos h2]
     ·rw[if_neg h2]at h0;cases h0
    ·rw[if_neg h1]at h0;exact absurd h0 h1
   dsimp only;rw[p]
   by_cases e:i=j
   ·subst e;obtain⟨k1,r,u,v⟩:=j7R (T m) f (c:={ x.c i with h:=(x.c i).h+1,t:=x.ck }) rfl
    have g:z2k x.c i (z2K { x.c i with h:=(x.c i).h+1,t:=x.ck }) i=z2K { x.c i with h:=(x.c i).h+1,t:=x.ck }:=z0S _ _ _
    refine⟨by dsimp only;rw[g];exact k1,by dsimp only;rw[g];exact r,fun a k l=>?_⟩
    obtain⟨n,s,q1,q2,q3⟩:=f.q a k l;dsimp only;rw[g,v];obtain⟨y,w⟩:=u;refine⟨n,s,q1,?_,q3⟩;rw[<- w,List.getElem?_append_left (List.getElem?_eq_some_iff.1 q2).1];exact q2
   ·exact f.eq (z0w _ _ e) fun a k _=>k
  ·rename_i h0;rw[if_neg h0];exact f
 ·rename_i h7;rw[if_neg h7]
  split at b
  ·rename_i h8;rw[if_pos h8];exact j5Y _ _ _ _ f
  ·rename_i h8;rw[if_neg h8]
   split at b
   ·rename_i h9;rw[if_pos h9];exact j8S _ _ _ _ _ f
   ·rename_i h9;rw[if_neg h9]
    split at b
    ·rename_i h10;rw[if_pos h10];exact y0J _ _ _ _ _ b f
    ·rename_i h10;rw[if_neg h10];dsimp only;unfold z9d
     split
     ·exact z5W (hp:=x.hp) (hc:=x.hc) i f fun _=>⟨j6I _ _ _,j1k _ _ _ _⟩
     ·exact z5W (hp:=x.hp) (hc:=x.hc) i f fun _=>⟨(q1R _ _ _ _).2.2.1,q2j _ _ _ _ _⟩
theorem j8u{N:Int}{H:Int->Pws}{x:Wo}{d:Dd}{i:Nat}(h:z2P N x)(T:(x.c i).on=true->TI H x i)(b:((z2J x d).1.c i).on=true)(R:(x.c i).on=true->RI x i):RI (z2J x d).1 i:=by
 unfold z2J at b ⊢
 split at b
 ·rename_i h1;rw[if_pos h1]
  have hc:(atP x d).1.c=x.c:=by
   unfold atP
   repeat' split
   all_goals rfl
  exact y1D _ _ _ (R (by dsimp only at b;rw[hc]at b;exact b))
 ·rename_i h1;rw[if_neg h1]
  split at b
  ·rename_i j;rw[if_pos j];unfold z4z at b ⊢
   split at b
   ·rename_i q;rw[if_pos q];exact R b
   ·rename_i q;rw[if_neg q];exact (R b).eq rfl fun a f _=>f
  ·rename_i j;rw[if_neg j]
   split at b
   ·rename_i h6;rw[if_pos h6];unfold z3F at b ⊢
    split at b
    ·rename_i h0;rw[if_pos h0]
     have l:z0o x.p=true/\isT x.ck=true/\x.p.t<=x.ck:=by
      by_cases o:z0o x.p=true/\isT x.ck=true/\x.p.t<=x.ck
      ·exact o
      ·unfold endP at h0;rw[if_neg o]at h0;cases h0
     exact (R b).eq rfl fun a f _=>y2C l a f
    ·rename_i h0;rw[if_neg h0];exact R b
   ·rename_i h6;rw[if_neg h6]
    split at b
    ·rename_i g;rw[if_pos g];unfold z1X at b ⊢
     split at b
     ·rename_i hc;rw[if_pos hc]
      split at b
      ·rename_i h0;rw[if_pos h0]
       have hb:(z0x x.p d.c).1.q=x.p.q/\(x.p.L d.c.toNat).on=false:=by
        unfold z0x at h0 ⊢
        by_cases q1:z0o x.p=true
        ·rw[if_pos q1,if_pos hc]at h0;rw[if_pos q1,if_pos hc]
         by_cases h3:(x.p.L d.c.toNat).gone=true
         ·rw[if_pos h3]at h0;cases h0
         ·rw[if_neg h3]at h0 ⊢
          by_cases g:(x.p.L d.c.toNat).on=true
          ·rw[if_pos g]at h0;cases h0
          ·rw[if_neg g]at h0 ⊢
           by_cases j:x.p.h=0∨x.p.set.length=0
           ·rw[if_pos j]at h0;cases h0
           ·rw[if_neg j];exact⟨rfl,by simpa using g⟩
        ·rw[if_neg q1]at h0;cases h0
       dsimp only at b ⊢
       by_cases e:i=d.c.toNat
       ·have k:z2k x.c d.c.toNat (z2s (z0x x.p d.c).1.set (z0x x.p d.c).1.h x.ck) i=z2s (z0x x.p d.c).1.set (z0x x.p d.c).1.h x.ck:=by rw[e];exact z0S _ _ _
        refine⟨(by dsimp only;rw[k];intro r v;cases v),(by dsimp only;rw[k];intro s hs;cases hs),fun a f m=>?_⟩
        have n:a∈x.p.q:=by rw[<- hb.1];exact f
        have u:=(h.gp.q a n).on;rw[m,show ((i:Int)).toNat=i from rfl,e,hb.2]at u;cases u
       ·have k:z2k x.c d.c.toNat (z2s (z0x x.p d.c).1.set (z0x x.p d.c).1.h x.ck) i=x.c i:=z0w _ _ e;rw[k]at b;exact (R b).eq k fun a f _=>by rw[<- hb.1];exact f
      ·rename_i h0;rw[if_neg h0];exact R b
     ·rename_i hc;rw[if_neg hc];exact R b
    ·rename_i g;rw[if_neg g]
     split at b
     ·rename_i h7;rw[if_pos h7]
      split at b
      ·rename_i hc;rw[if_pos hc];exact j7l hc.2 T b R
      ·rename_i hc;rw[if_neg hc];exact R b
     ·rename_i h7;rw[if_neg h7];exact R b
theorem y1y{H:Int->Pws}{x:Wo}{d:Dd}{i:Nat}(h:Inv x)(T:(x.c i).on=true->TI H x i)(a:((doW x d).1.c i).on=true)(R:(x.c i).on=true->RI x i):RI (doW x d).1 i:=by
 unfold doW at a ⊢
 split at a
 ·rename_i h0;rw[if_pos h0];exact R a
 ·rename_i h0;rw[if_neg h0];exact j8u (x:=z2n x) (H:=H) (h.dn _) (fun b=>⟨(T b).cl,(T b).len,(T b).told,(T b).dec,(T b).ch⟩) a fun b=>⟨(R b).rp,(R b).said,(R b).q⟩
theorem j0N(l:List Dd):∀ k,k<=l.length->k<=300->∀ i,i<2->((stW l k).c i).on=true->RI (stW l k) i
 | 0,_,_,i,_,h=>by cases h
 | k+1,h1,h2,i,hi,h=>by
  have e:=z3f (List.getElem?_eq_getElem (by omega:k<l.length))
  rw[e]at h ⊢;exact y1y (z2S l k) ((q3l l k (by omega) (by omega)).ti i hi) h (j0N l k (by omega) (by omega) i hi)
theorem z4q(v h f:Int)(u:Wt):(slX v h f u).hei=u.hei/\(slX v h f u).h0=u.h0/\(slX v h f u).h1=u.h1/\(slX v h f u).v=u.v/\(slX v h f u).due=u.due/\(slX v h f u).num=u.num:=by
 unfold slX
 split <;> exact⟨rfl,rfl,rfl,rfl,rfl,rfl⟩
theorem z3M(c:Nat)(r:Int)(u:Wt):(z4j c r u).hei=u.hei/\(z4j c r u).v=u.v/\(z4j c r u).amt=u.amt/\(z4j c r u).due=u.due/\(z4j c r u).num=u.num:=by
 unfold z4j
 repeat' split
 all_goals exact⟨rfl,rfl,rfl,rfl,rfl⟩
theorem j9y{p:Pr}{now:Int}(a:z0o p=true/\isT now=true/\p.t<=now):(endP p now).1.s.W=z1x now (goQ (z0y p now)).p.s.W:=by rw[(z3a a).s];rfl
theorem q4k(s:St)(d v n:Int):(z0Q s d v n).1.W=s.W:=by
 unfold z0Q
 repeat' split
 all_goals rfl
theorem q0E(s:St)(v:Int):(z1s s v).1.W=s.W:=by
 unfold z1s
 repeat' split
 all_goals rfl
theorem y2O(x:Wo)(j:Nat)(d:Dd):(z2c x j d).1.p.h=x.p.h/\((z2c x j d).1.p.s.W=x.p.s.W∨(((z2c x j d).1.c j).on=false/\((z2c x j d).1.p.L j).gone=true/\∃ r,(z2c x j d).1.p.s.W=z4X j r x.p.s.W)):=by
 have hp:∀ (y:Wo) (b:Bool) (l:Ln.Line),(z1j y j b l).p.h=y.p.h/\(z1j y j b l).p.s=y.p.s:=fun y b l=>by cases b <;> exact⟨rfl,rfl⟩
 have hh:∀ (b:Bool) (s:ByteArray),(z1B x j b s).1.p.h=x.p.h/\(z1B x j b s).1.p.s=x.p.s:=fun b s=>by
  cases b
  ·exact⟨rfl,rfl⟩
  ·show (z2z x.p j (Cd.bs s)).1.h=_/\(z2z x.p j (Cd.bs s)).1.s=_
   rw[(z5i _ _ _).1];exact⟨rfl,rfl⟩
 unfold z2c
 split
 ·dsimp only;unfold z3T
  split <;> exact⟨rfl,.inl rfl⟩
 ·split
  ·dsimp only;unfold z3H
   split <;> exact⟨rfl,.inl rfl⟩
  ·split
   ·unfold z7s
    split
    ·split
     ·have q1:=hp (z1B x j d.b (z0t x j d.b d.f)).1 d.b (Ln.z5L (z0Y x j d.b) ((z0Y x j d.b).g+1) (z0t x j d.b d.f) (j1d x j d.b) x.ck);have q2:=hh d.b (z0t x j d.b d.f);exact⟨q1.1.trans q2.1,.inl (by dsimp only;rw[q1.2,q2.2])⟩
     ·have q2:=hh d.b (z0t x j d.b d.f);exact⟨q2.1,.inl (by dsimp only;rw[q2.2])⟩
    ·exact⟨rfl,.inl rfl⟩
   ·split
    ·dsimp only;unfold z6I
     split
     ·have q1:=hp x d.b (Ln.z4N (z0Y x j d.b) d.n (z5A x j d.b) (q2x x j d.b));generalize z1j x j d.b (Ln.z4N (z0Y x j d.b) d.n (z5A x j d.b) (q2x x j d.b))=y at *
      have a:((q1X y j).c j).on=false:=by
       show (z2k _ j _ j).on=false
       rw[z0S];exact z5H _
      refine⟨(z4J y.p j).1.trans q1.1,?_⟩
      show (z0j y.p j).s.W=_∨(_/\((z0j y.p j).L j).gone=true/\∃ r,(z0j y.p j).s.W=_)
      unfold z0j
      split
      ·exact .inr ⟨a,by show (z0P y.p.L j _ j).gone=true;rw[z2u];rfl,_,by rw[<- q1.2];rfl⟩
      ·exact .inl (by rw[q1.2])
     ·exact⟨rfl,.inl rfl⟩
    ·dsimp only;unfold z9d
     split <;> exact⟨rfl,.inl rfl⟩
def y3p(x y:Wo):Prop:=∀ i,i<2->(x.p.L i).out.S <+: (y.p.L i).out.S/\(x.c i).out.S <+: (y.c i).out.S
def j5f(x:Wo):Prop:=∀ i,i<2->(x.p.L i).on=false->(x.p.L i).gone=false->(x.p.L i).out.S=[]/\(x.c i).out.S=[]
theorem j0o(l:Ln.Line)(s:ByteArray)(t:Int):l.S <+: (Ln.z4C l s t).S:=by
 unfold Ln.z4C
 split
 ·exact List.prefix_append _ _
 ·exact List.prefix_refl _
theorem q0r(c:Cs)(k i v n now:Int):c.out.S <+: (z2o c k i v n now).1.out.S:=by
 unfold z2o
 split
 ·exact j0o _ _ _
 ·exact List.prefix_refl _
theorem q4u:∀ (l:List (Int×Int)) (c:Cs),c.out.S <+: (z1R c l).out.S
 | [],_=>List.prefix_refl _
 | x :: l,c=>by
  unfold z1R
  split
  ·split
   ·exact (q0r c _ _ _ _ _).trans (q4u l _)
   ·exact List.prefix_refl _
  ·exact List.prefix_refl _
theorem q0Y:∀ (l:List Pkt) (c:Cs),(l.foldl takeC c).out=c.out
 | [],_=>rfl
 | x :: l,c=>by
  rw[List.foldl_cons,q0Y l];rfl
theorem j4o(c:Cs)(now:Int):c.out.S <+: (z7A c now).1.out.S:=by
 unfold z7A
 split
 ·split
  ·have h:=q4u (z1w { c with h:=c.h+1,t:=now }).rp { z1w { c with h:=c.h+1,t:=now } with pd:=[] }
   have e:({ z1w { c with h:=c.h+1,t:=now } with pd:=[] }:Cs).out=c.out:=q0Y _ _
   rw[e]at h;exact h
  ·exact List.prefix_refl _
 ·exact List.prefix_refl _
theorem j3b(c:Cs)(v now:Int):c.out.S <+: (z3o c v now).1.out.S:=by
 unfold z3o
 repeat' split
 all_goals first | exact List.prefix_refl _ | exact q0r c _ _ _ _ _
theorem q5q(c:Cs)(v i now:Int):c.out.S <+: (z1c c v i now).1.out.S:=by
 unfold z1c
 repeat' split
 all_goals first | exact List.prefix_refl _ | exact q0r c _ _ _ _ _
theorem j2j{h t:Int}{set:List (Int×Int)}{y x:Lk}(H:j2e h t set y x):y.out.S <+: x.out.S:=by
 obtain⟨z,a,-,b⟩:=H.ex
 rcases b with rfl | T
 ·rw[a.out];exact List.prefix_refl _
 ·rw[T.eq,<- a.out];exact j0o _ _ _
theorem j7y(p:Pr)(now:Int):∀ i,i<2->(p.L i).out.S <+: ((endP p now).1.L i).out.S:=by
 intro i b
 by_cases a:z0o p=true/\isT now=true/\p.t<=now
 ·exact j2j ((z3a a).lk i b)
 ·unfold endP;rw[if_neg a];exact List.prefix_refl _
theorem j5n(p:Pr)(now:Int):∀ i,i<2->((endP p now).1.L i).on=(p.L i).on/\((endP p now).1.L i).gone=(p.L i).gone:=by
 intro i b
 by_cases a:z0o p=true/\isT now=true/\p.t<=now
 ·have h:=j2e.same ((z3a a).lk i b);exact⟨h.1,h.2.1⟩
 ·unfold endP;rw[if_neg a];exact⟨rfl,rfl⟩
structure StL(x y:Wo)(i:Nat):Prop where
 pre:(x.p.L i).out.S <+: (y.p.L i).out.S/\(x.c i).out.S <+: (y.c i).out.S
 nil:(y.p.L i).on=false->(y.p.L i).gone=false->(x.p.L i).on=false/\(x.p.L i).gone=false/\(y.p.L i).out.S=(x.p.L i).out.S/\(y.c i).out.S=(x.c i).out.S
theorem StL.same{x y:Wo}{i:Nat}(h1:(y.p.L i).on=(x.p.L i).on/\(y.p.L i).gone=(x.p.L i).gone/\(y.p.L i).out.S=(x.p.L i).out.S)(d:(y.c i).out.S=(x.c i).out.S):StL x y i:=
 ⟨⟨by rw[h1.2.2];exact List.prefix_refl _,by rw[d];exact List.prefix_refl _⟩,fun a b=>⟨h1.1 ▸ a,h1.2.1 ▸ b,h1.2.2,d⟩⟩
theorem StL.refl(x:Wo)(i:Nat):StL x x i:=StL.same ⟨rfl,rfl,rfl⟩ rfl
theorem j6U(p:Pr)(d v n:Int):(z1T p d v n).1.L=p.L:=by
 unfold z1T
 split <;> rfl
theorem y0R(p:Pr)(v n:Int):(z3R p v n).1.L=p.L:=by
 unfold z3R
 repeat' split
 all_goals rfl
theorem j8c(p:Pr)(d v n now:Int):(z1f p d v n now).1.L=p.L∨(z1f p d v n now).1.L=z1u p.L:=by
 unfold z1f
 repeat' split
 all_goals first | exact .inr rfl | exact .inl rfl
theorem j5s(x:Wo)(d:Dd)(i:Nat):StL x (atP x d).1 i:=by
 unfold atP
 split
 ·exact StL.same (by show ((z1T x.p d.d d.v d.n).1.L i).on=_/\((z1T x.p d.d d.v d.n).1.L i).gone=_/\((z1T x.p d.d d.v d.n).1.L i).out.S=_;rw[j6U];exact⟨rfl,rfl,rfl⟩) rfl
 ·split
  ·refine StL.same ?_ rfl
   show ((z1f x.p d.d d.v d.n x.ck).1.L i).on=_/\((z1f x.p d.d d.v d.n x.ck).1.L i).gone=_/\((z1f x.p d.d d.v d.n x.ck).1.L i).out.S=_
   rcases j8c x.p d.d d.v d.n x.ck with e | e
   ·rw[e];exact⟨rfl,rfl,rfl⟩
   ·rw[e];have a:=z2Z x.p.L i;exact⟨a.1,a.2.1,by rw[a.2.2.1]⟩
  ·split
   ·exact StL.same ⟨rfl,rfl,rfl⟩ rfl
   ·exact StL.same (by show ((z3R x.p d.v d.n).1.L i).on=_/\((z3R x.p d.v d.n).1.L i).gone=_/\((z3R x.p d.v d.n).1.L i).out.S=_;rw[y0R];exact⟨rfl,rfl,rfl⟩) rfl
theorem j4d(x:Wo)(i:Nat)(d:i<2):StL x (z3F x).1 i:=by
 unfold z3F
 split
 ·refine⟨⟨j7y _ _ i d,List.prefix_refl _⟩,fun a b=>?_⟩;have e:=j5n x.p x.ck i d;have f:(x.p.L i).on=false:=e.1 ▸ a;refine⟨f,e.2 ▸ b,?_,rfl⟩
  show ((endP x.p x.ck).1.L i).out.S=_
  by_cases c:z0o x.p=true/\isT x.ck=true/\x.p.t<=x.ck
  ·obtain⟨z,g,-,h⟩:=((z3a c).lk i d).ex
   rcases h with j | T
   ·rw[j,g.out]
   ·have:=T.on;rw[g.on,f]at this;cases this
  ·unfold endP;rw[if_neg c]
 ·exact StL.refl _ _
theorem q7Y(x:Wo)(g:j5f x)(c:Int)(i:Nat)(j:i<2):StL x (z1X x c).1 i:=by
 unfold z1X
 split
 ·rename_i hc
  split
  ·rename_i h0
   have hb:(z0x x.p c).1.L=z0P x.p.L c.toNat (z6M x.p)/\(x.p.L c.toNat).on=false/\(x.p.L c.toNat).gone=false:=by
    unfold z0x at h0 ⊢
    by_cases h1:z0o x.p=true
    ·rw[if_pos h1,if_pos hc]at h0;rw[if_pos h1,if_pos hc]
     by_cases h3:(x.p.L c.toNat).gone=true
     ·rw[if_pos h3]at h0;cases h0
     ·rw[if_neg h3]at h0 ⊢
      by_cases d:(x.p.L c.toNat).on=true
      ·rw[if_pos d]at h0;cases h0
      ·rw[if_neg d]at h0 ⊢
       by_cases f:x.p.h=0∨x.p.set.length=0
       ·rw[if_pos f]at h0;cases h0
       ·rw[if_neg f];exact⟨rfl,by simpa using d,by simpa using h3⟩
    ·rw[if_neg h1]at h0;cases h0
   by_cases e:i=c.toNat
   ·subst e;have b:=g _ j hb.2.1 hb.2.2;refine⟨⟨by rw[b.1];exact List.nil_prefix,by rw[b.2];exact List.nil_prefix⟩,fun a _=>?_⟩
    have:((z0x x.p c).1.L c.toNat).on=false:=a;rw[hb.1]at this;unfold z0P at this;rw[if_pos rfl]at this;cases this
   ·refine StL.same ?_ ?_
    ·show ((z0x x.p c).1.L i).on=_/\((z0x x.p c).1.L i).gone=_/\((z0x x.p c).1.L i).out.S=_
     rw[hb.1];unfold z0P;rw[if_neg e];exact⟨rfl,rfl,rfl⟩
    ·show (z2k x.c c.toNat _ i).out.S=_
     rw[z0w _ _ e]
  ·exact StL.refl _ _
 ·exact StL.refl _ _
theorem q0M{x:Wo}{j:Nat}{y:Cs}{hp hc:Nat->Hd}(b:(x.p.L j).on=true)(d:(x.c j).out.S <+: y.out.S)(i:Nat):StL x { x with c:=z2k x.c j y,hp:=hp,hc:=hc } i:=by
 by_cases e:i=j
 ·subst e;refine⟨⟨List.prefix_refl _,?_⟩,fun a _=>?_⟩
  ·show _ <+: (z2k x.c i y i).out.S
   rw[z0S];exact d
  ·have:(x.p.L i).on=false:=a;rw[b]at this;cases this
 ·refine StL.same ⟨rfl,rfl,rfl⟩ ?_
  show (z2k x.c j y i).out.S=_
  rw[z0w _ _ e]
theorem j1j(c:Cs)(l:List Int):(z3c c l).1.out=c.out:=by
 unfold z3c
 repeat' split
 all_goals rfl
theorem j6B(p:Pr)(c:Int)(l:List Int):(z2z p c l).1.L=p.L:=by
 unfold z2z
 repeat' split
 all_goals rfl
theorem z4a(x:Wo)(j:Nat)(b:Bool)(s:ByteArray):(z1B x j b s).1.p.L=x.p.L/\∀ i,((z1B x j b s).1.c i).out=(x.c i).out:=by
 unfold z1B
 split
 ·exact⟨j6B _ _ _,fun _=>rfl⟩
 ·refine⟨rfl,fun i=>?_⟩
  show (z2k x.c j _ i).out=_
  by_cases e:i=j
  ·subst e;rw[z0S,j1j]
  ·rw[z0w _ _ e]
theorem q4n{x:Wo}{j:Nat}{b:Bool}{l:Ln.Line}(a:l.S=(z0Y x j b).S)(i:Nat):((z1j x j b l).p.L i).on=(x.p.L i).on/\((z1j x j b l).p.L i).gone=(x.p.L i).gone/\((z1j x j b l).p.L i).out.S=(x.p.L i).out.S/\((z1j x j b l).c i).out.S=(x.c i).out.S:=by
 cases b
 ·refine⟨?_,?_,?_,rfl⟩
  all_goals
   unfold z1j;rw[if_neg (by simp)]
   dsimp only;unfold z0P
   split
   ·rename_i e;subst e
    first | rfl | exact a
   ·rfl
 ·refine⟨rfl,rfl,rfl,?_⟩
  show (z2k x.c j _ i).out.S=_
  by_cases e:i=j
  ·subst e;rw[z0S];exact a
  ·rw[z0w _ _ e]
theorem y0A(l:Ln.Line)(k:Int)(s:ByteArray)(a b:Int):(Ln.z5L l k s a b).S=l.S:=by
 unfold Ln.z5L
 split <;> rfl
theorem y0L(l:Ln.Line)(k a b:Int):(Ln.z4N l k a b).S=l.S:=by
 unfold Ln.z4N
 split <;> rfl
theorem q6t(x:Wo)(j:Nat)(b bb:Bool)(s:ByteArray):(z0Y (z1B x j bb s).1 j b).S=(z0Y x j b).S:=by
 have h:=z4a x j bb s;cases b
 ·show ((z1B x j bb s).1.p.L j).out.S=_
  rw[h.1];rfl
 ·show ((z1B x j bb s).1.c j).out.S=_
  rw[h.2];rfl
theorem j7m(x:Wo)(j:Nat)(b f:Bool)(i:Nat):StL x (z7s x j b f).1 i:=by
 have hh:=z4a x j b (z0t x j b f);unfold z7s
 split
 ·split
  ·dsimp only;have hp:=q4n (x:=(z1B x j b (z0t x j b f)).1) (j:=j) (b:=b) (l:=Ln.z5L (z0Y x j b) ((z0Y x j b).g+1) (z0t x j b f) (j1d x j b) x.ck) (by rw[y0A,q6t]) i
   rw[hh.1,hh.2]at hp;exact StL.same ⟨hp.1,hp.2.1,hp.2.2.1⟩ hp.2.2.2
  ·refine StL.same ?_ ?_
   ·dsimp only;rw[hh.1];exact⟨rfl,rfl,rfl⟩
   ·dsimp only;rw[hh.2]
 ·exact StL.refl _ _
theorem q7j(c:Cs):(z1d c).out.S=c.out.S:=by
 unfold z1d
 split <;> rfl
theorem j7P(x:Wo)(j i:Nat):StL x (q1X x j) i:=by
 have hc:((q1X x j).c i).out.S=(x.c i).out.S:=by
  show (z2k x.c j _ i).out.S=_
  by_cases e:i=j
  ·subst e;rw[z0S,q7j]
  ·rw[z0w _ _ e]
 by_cases d:z0o x.p=true/\z8G x.p j=true
 ·have a:(q1X x j).p.L=z0P x.p.L j (z4w (x.p.L j)):=by
   show (z0j x.p j).L=_
   unfold z0j;rw[if_pos d];rfl
  by_cases e:i=j
  ·subst e
   have h1:((q1X x i).p.L i)=z4w (x.p.L i):=by
    rw[a];unfold z0P;rw[if_pos rfl]
   refine⟨⟨by rw[h1];exact List.prefix_refl _,by rw[hc];exact List.prefix_refl _⟩,fun _ b=>?_⟩
   rw[h1]at b;cases b
  ·have h1:((q1X x j).p.L i)=x.p.L i:=by
    rw[a];unfold z0P;rw[if_neg e]
   exact StL.same (by rw[h1];exact⟨rfl,rfl,rfl⟩) hc
 ·have a:(q1X x j).p.L=x.p.L:=by
   show (z0j x.p j).L=_
   unfold z0j;rw[if_neg d]
  exact StL.same (by rw[a];exact⟨rfl,rfl,rfl⟩) hc
theorem j6Q(x:Wo)(j:Nat)(b:Bool)(k:Int)(i:Nat):StL x (z6I x j b k).1 i:=by
 unfold z6I
 split
 ·dsimp only;have hp:=q4n (x:=x) (j:=j) (b:=b) (l:=Ln.z4N (z0Y x j b) k (z5A x j b) (q2x x j b)) (y0L _ _ _ _) i;have c:=j7P (z1j x j b (Ln.z4N (z0Y x j b) k (z5A x j b) (q2x x j b))) j i;refine⟨⟨by rw[<- hp.2.2.1];exact c.pre.1,by rw[<- hp.2.2.2];exact c.pre.2⟩,fun a e=>?_⟩
  have:=c.nil a e;exact⟨hp.1 ▸ this.1,hp.2.1 ▸ this.2.1,this.2.2.1.trans hp.2.2.1,this.2.2.2.trans hp.2.2.2⟩
 ·exact StL.refl _ _
theorem j2l(x:Wo)(j:Nat)(b:Bool)(i:Nat):StL x (z3H x j b) i:=by
 unfold z3H
 split
 ·refine StL.same ?_ rfl;dsimp only;unfold z0P
  split
  ·rename_i e;subst e;exact⟨rfl,rfl,rfl⟩
  ·exact⟨rfl,rfl,rfl⟩
 ·refine StL.same ⟨rfl,rfl,rfl⟩ ?_
  show (z2k x.c j _ i).out.S=_
  by_cases e:i=j
  ·subst e;rw[z0S];rfl
  ·rw[z0w _ _ e]
theorem j1V(x:Wo)(j:Nat)(a:(x.p.L j).on=true)(d:Dd)(i:Nat):StL x (z2c x j d).1 i:=by
 unfold z2c
 split
 ·dsimp only;unfold z3T
  split
  ·exact q0M a (j4o _ _) i
  ·exact StL.refl _ _
 ·split
  ·exact j2l _ _ _ _
  ·split
   ·exact j7m _ _ _ _ _
   ·split
    ·exact j6Q _ _ _ _ _
    ·dsimp only;unfold z9d
     split
     ·exact q0M (hp:=x.hp) (hc:=x.hc) a (j3b _ _ _) i
     ·exact q0M (hp:=x.hp) (hc:=x.hc) a (q5q _ _ _ _) i
theorem q4h{x:Wo}(b:∀ i,i<2->(x.c i).on=(x.p.L i).on)(e:j5f x)(d:Dd)(i:Nat)(a:i<2):StL x (z2J x d).1 i:=by
 unfold z2J
 split
 ·exact j5s _ _ _
 ·split
  ·unfold z4z
   split <;> exact StL.same ⟨rfl,rfl,rfl⟩ rfl
  ·split
   ·exact j4d _ _ a
   ·split
    ·exact q7Y _ e _ _ a
    ·split
     ·split
      ·rename_i h
       have f:d.c.toNat<2:=by
        have:=h.1;unfold isC at this;simp only[Bool.and_eq_true,decide_eq_true_eq]at this;omega
       exact j1V _ _ ((b _ f).symm.trans h.2) _ _
      ·exact StL.refl _ _
     ·exact StL.refl _ _
theorem j4x{x:Wo}(h:Inv x)(e:j5f x)(d:Dd):y3p x (doW x d).1/\j5f (doW x d).1:=by
 have key:∀ i,i<2->StL x (doW x d).1 i:=by
  intro i c;unfold doW
  split
  ·exact StL.refl _ _
  ·have:=q4h (x:=z2n x) (fun i c=>(h.on i c).1) e d i c;exact⟨this.pre,this.nil⟩
 refine⟨fun i c=>(key i c).pre,fun i c a b=>?_⟩;obtain⟨c1,c2,c3,f⟩:=(key i c).nil a b;have:=e i c c1 c2;exact⟨c3.trans this.1,f.trans this.2⟩
theorem j6K:j5f z8y:=fun _ _ _ _=>⟨rfl,rfl⟩
theorem j0H(l:List Dd):∀ k,k<=l.length->j5f (stW l k)
 | 0,_=>j6K
 | k+1,h=>by
  rw[z3f (List.getElem?_eq_getElem (show k<l.length by omega))]
  exact (j4x (z2S l k) (j0H l k (by omega)) _).2
theorem z3j.le{x:Wo}{c:Nat}{r g:Int}(h:z3j x c r)(i:g<=r):z3j x c g:=by
 obtain⟨n,s,a,b,d,e,f⟩:=h;exact⟨n,s,a,b,d,e,by omega⟩
structure UQ(x:Wo)(u v:Wt):Prop where
 num:v.num=u.num
 due:v.due=u.due
 hold:∀ c,c<2->z1M c v=z1M c u∨z3j x c (z1M c u)
theorem UQ.refl(x:Wo)(u:Wt):UQ x u u:=⟨rfl,rfl,fun _ _=>.inl rfl⟩
theorem UQ.trans{x:Wo}{u v w:Wt}(h:UQ x u v)(k:UQ x v w):UQ x u w:=by
 refine⟨k.num.trans h.num,k.due.trans h.due,fun c hc=>?_⟩
 rcases h.hold c hc with a | a
 ·rcases k.hold c hc with b | b
  ·exact .inl (b.trans a)
  ·exact .inr (a ▸ b)
 ·exact .inr a
def UM(x:Wo)(W a:List Wt):Prop:=∃ F:Wt->Wt,a=W.map F/\∀ u,UQ x u (F u)
theorem UM.refl(x:Wo)(W:List Wt):UM x W W:=⟨id,by simp,fun u=>UQ.refl x u⟩
theorem UM.trans{x:Wo}{a b c:List Wt}(h:UM x a b)(k:UM x b c):UM x a c:=by
 obtain⟨F,rfl,d⟩:=h;obtain⟨G,rfl,e⟩:=k;exact⟨G ∘ F,by simp,fun u=>(d u).trans (e (F u))⟩
theorem j1H(x:Wo)(v a f:Int)(W:List Wt):UM x W (slW v a f W):=⟨slX v a f,rfl,fun u=>by
 have h:=z4q v a f u
 exact⟨h.2.2.2.2.2,h.2.2.2.2.1,fun c _=>.inl (by unfold z1M;rw[h.2.1,h.2.2.1])⟩⟩
theorem j9t{x:Wo}{c:Nat}{m:Int}(hc:c<2)(h:z3j x c m)(W:List Wt):UM x W (z4X c m W):=⟨z4j c m,rfl,fun u=>by
 have hs:=z3M c m u;refine⟨hs.2.2.2.2,hs.2.2.2.1,fun i a=>?_⟩;unfold z4j z1M
 by_cases h0:c=0
 ·rw[if_pos h0]
  by_cases q:u.h0<=m
  ·rw[if_pos q]
   by_cases e:i=0
   ·refine .inr ?_;rw[if_pos e,show i=c by omega]
    exact h.le q
   ·rw[if_neg e,if_neg e];exact .inl rfl
  ·rw[if_neg q];exact .inl rfl
 ·rw[if_neg h0]
  by_cases q:u.h1<=m
  ·rw[if_pos q]
   by_cases e:i=0
   ·rw[if_pos e,if_pos e];exact .inl rfl
   ·refine .inr ?_;rw[if_neg e,show i=c by omega]
    exact h.le q
  ·rw[if_neg q]
   exact .inl rfl⟩
theorem j7o{x:Wo}{p:Pr}{c:Nat}{y:Pkt}(hc:c<2)(a:y.k=2->z3j x c y.i):UM x p.s.W (z1y p c y).1.s.W:=by
 unfold z1y
 split
 ·exact j9t hc (a ‹_›) _
 ·split
  ·split
   ·exact UM.refl _ _
   ·exact j1H _ _ _ _ _
  ·split
   ·exact UM.refl _ _
   ·split <;> exact UM.refl _ _
theorem q5e{x:Wo}:∀ (l:List (Int×Pkt)) (z:QS),(∀ a∈l,(0<=a.1/\a.1<=1)/\(a.2.k=2->z3j x a.1.toNat a.2.i))->UM x z.p.s.W (l.foldl z1n z).p.s.W
 | [],_,_=>UM.refl _ _
 | a :: l,z,ho=>by
  rw[List.foldl_cons];refine UM.trans ?_ (q5e l _ fun b hb=>ho b (List.mem_cons_of_mem _ hb));have h1:=ho a List.mem_cons_self;unfold z1n
  split
  ·exact UM.refl _ _
  ·split
   ·exact j7o (by omega) h1.2
   ·exact UM.refl _ _
theorem j7d{N:Int}{x:Wo}(b:z2P N x)(R:∀ i,i<2->(x.c i).on=true->RI x i):∀ a∈x.p.q,(0<=a.1/\a.1<=1)/\(a.2.k=2->z3j x a.1.toNat a.2.i):=fun a d=>by
 have g:=b.gp.q a d;refine⟨⟨g.c0,g.c1⟩,fun f=>?_⟩;have h0:=g.c0;have h1:=g.c1;have h2:a.1.toNat<2:=by omega
 have h:(x.c a.1.toNat).on=true:=(b.on _ h2).1.trans g.on;obtain⟨n,s,q1,q2,q3,e⟩:=(R _ h2 h).q a d (by omega)
 exact⟨n,s,q1,q2,q3,by rw[e];exact f,by rw[e];exact Int.le_refl _⟩
theorem j9E{N:Int}{x:Wo}(b:z2P N x)(R:∀ i,i<2->(x.c i).on=true->RI x i)(a:z0o x.p=true/\isT x.ck=true/\x.p.t<=x.ck):∃ F:Wt->Wt,(∀ u,UQ x u (F u))/\(endP x.p x.ck).1.s.W=(x.p.s.W.map F).filter (fun u=>!z5N x.ck u):=by
 obtain⟨F,e,d⟩:=q5e (x:=x) x.p.q ⟨z0y x.p x.ck,fun _=>false,[]⟩ (j7d b R);refine⟨F,d,?_⟩;rw[j9y a]
 show z1x x.ck (x.p.q.foldl z1n ⟨z0y x.p x.ck,fun _=>false,[]⟩).p.s.W=_
 rw[e];rfl
def GO(x y:Wo)(i:Nat):Prop:=(x.c i).out.g<=(y.c i).out.g∨(x.c i).on=false/\(x.c i).gone=false
def GN(x y:Wo)(i:Nat):Prop:=(x.p.L i).gone=true->(y.p.L i).gone=true
theorem GO.eq{x y:Wo}{i:Nat}(h:(y.c i).out.g=(x.c i).out.g):GO x y i:=.inl (by omega)
theorem q0s{x:Wo}{j:Nat}{y:Cs}{hp hc:Nat->Hd}(i:Nat)(h:(x.c j).out.g<=y.out.g):GO x { x with c:=z2k x.c j y,hp:=hp,hc:=hc } i:=by
 by_cases e:i=j
 ·subst e;have a:z2k x.c i y i=y:=z0S _ _ _;exact .inl (by dsimp only;rw[a];exact h)
 ·exact .inl (by dsimp only;rw[z0w _ _ e];exact Int.le_refl _)
theorem j4R:∀ (l:Pws) (c:Cs),(z1R c l).out.g=c.out.g
 | [],_=>rfl
 | x :: l,c=>by
  unfold z1R
  split
  ·split
   ·rw[j4R l];exact (q3W (m:=x.1) c (k:=2) (i:=x.1) (v:=0) (n:=0) (now:=c.t) fun _=>Int.le_refl _).g
   ·rfl
  ·rfl
theorem y2x(c:Cs)(now:Int):(z7A c now).1.out.g=c.out.g:=by
 unfold z7A
 split
 ·split
  ·unfold z2K;rw[j4R]
   show (z1w _).out.g=_
   unfold z1w;rw[(q0v _ _).2]
  ·rfl
 ·rfl
theorem y1X(l:Ln.Line)(k a b:Int):(Ln.z4N l k a b).g=l.g:=by
 unfold Ln.z4N
 split <;> rfl
theorem y1E(c:Cs):(z1d c).out.g=c.out.g:=by
 unfold z1d
 split <;> rfl
theorem y0e{x:Wo}{j:Nat}{b:Bool}{l:Ln.Line}(a:(z0Y x j b).g<=l.g)(i:Nat):(x.c i).out.g<=((z1j x j b l).c i).out.g:=by
 cases b
 ·exact Int.le_refl _
 ·show _<=(z2k x.c j _ i).out.g
  by_cases e:i=j
  ·subst e;rw[z0S];exact a
  ·rw[z0w _ _ e];exact Int.le_refl _
theorem j7F(x:Wo)(j:Nat)(d:Dd)(i:Nat):GO x (z2c x j d).1 i:=by
 unfold z2c
 split
 ·dsimp only;unfold z3T
  split
  ·exact q0s i (by rw[y2x];exact Int.le_refl _)
  ·exact GO.eq rfl
 ·split
  ·dsimp only;unfold z3H
   split
   ·exact GO.eq rfl
   ·exact q0s (hp:=x.hp) (hc:=x.hc) i (Int.le_refl _)
  ·split
   ·unfold z7s
    split
    ·rename_i hd;obtain⟨n,h,hs,a⟩:=q0c hd;have hh:=(z4a x j d.b (z0t x j d.b d.f)).2
     split
     ·dsimp only;rw[a];refine .inl ?_;rw[<- hh i];refine y0e ?_ i
      show _<=(z0Y x j d.b).g+1
      have:z0Y (z1B x j d.b (z0t x j d.b d.f)).1 j d.b=z0Y x j d.b:=by
       have h1:=z4a x j d.b (z0t x j d.b d.f);unfold z0Y;rw[h1.1,h1.2]
      rw[this];omega
     ·exact GO.eq (by dsimp only;rw[hh i])
    ·exact GO.eq rfl
   ·split
    ·dsimp only;unfold z6I
     split
     ·refine .inl ?_;have h1:=y0e (x:=x) (j:=j) (b:=d.b) (l:=Ln.z4N (z0Y x j d.b) d.n (z5A x j d.b) (q2x x j d.b)) (by rw[y1X];exact Int.le_refl _) i
      refine Int.le_trans h1 ?_;generalize z1j x j d.b (Ln.z4N (z0Y x j d.b) d.n (z5A x j d.b) (q2x x j d.b))=y
      show _<=(z2k y.c j (z1d (y.c j)) i).out.g
      by_cases e:i=j
      ·subst e;rw[z0S,y1E];exact Int.le_refl _
      ·rw[z0w _ _ e];exact Int.le_refl _
     ·exact GO.eq rfl
    ·dsimp only;unfold z9d
     split
     ·exact q0s (hp:=x.hp) (hc:=x.hc) i (by rw[(j1k (x.c j).id (x.c j) d.v x.ck).g];exact Int.le_refl _)
     ·exact q0s (hp:=x.hp) (hc:=x.hc) i (by rw[(q2j (x.c j).id (x.c j) d.v d.n x.ck).g];exact Int.le_refl _)
theorem q0S{p:Pr}{c:Int}(hc:isC c=true)(h0:(z0x p c).2=0):(z0x p c).1.L=z0P p.L c.toNat (z6M p)/\(p.L c.toNat).on=false/\(p.L c.toNat).gone=false:=by
 unfold z0x at h0 ⊢
 by_cases h1:z0o p=true
 ·rw[if_pos h1,if_pos hc]at h0;rw[if_pos h1,if_pos hc]
  by_cases h3:(p.L c.toNat).gone=true
  ·rw[if_pos h3]at h0;cases h0
  ·rw[if_neg h3]at h0 ⊢
   by_cases a:(p.L c.toNat).on=true
   ·rw[if_pos a]at h0;cases h0
   ·rw[if_neg a]at h0 ⊢
    by_cases b:p.h=0∨p.set.length=0
    ·rw[if_pos b]at h0;cases h0
    ·rw[if_neg b];exact⟨rfl,by simpa using a,by simpa using h3⟩
 ·rw[if_neg h1]at h0;cases h0
theorem y2z{x:Wo}(b:Inv x)(d:Dd)(i:Nat):GO x (doW x d).1 i:=by
 unfold doW
 split
 ·exact GO.eq rfl
 ·dsimp only;unfold z2J
  split
  ·have hc:(atP (z2n x) d).1.c=x.c:=by
    unfold atP
    repeat' split
    all_goals rfl
   exact GO.eq (by dsimp only;rw[hc])
  ·split
   ·unfold z4z
    split <;> exact GO.eq rfl
   ·split
    ·unfold z3F
     split <;> exact GO.eq rfl
    ·split
     ·unfold z1X
      split
      ·rename_i hc
       split
       ·rename_i h0;have hb:=(q0S (p:=x.p) hc h0).2
        by_cases e:i=d.c.toNat
        ·have f:d.c.toNat<2:=by
          unfold isC at hc;simp only[Bool.and_eq_true,decide_eq_true_eq]at hc;omega
         have a:=b.on _ f;exact .inr (by rw[e];exact⟨a.1.trans hb.1,a.2.trans hb.2⟩)
        ·exact GO.eq (by dsimp only;rw[z0w _ _ e];rfl)
       ·exact GO.eq rfl
      ·exact GO.eq rfl
     ·split
      ·split
       ·exact j7F (z2n x) _ _ _
       ·exact GO.eq rfl
      ·exact GO.eq rfl
theorem q8f{x:Wo}(f:Inv x)(i:j5f x)(d:Dd){c:Nat}(hc:c<2){r:Int}(h:z3j x c r):z3j (doW x d).1 c r:=by
 obtain⟨n,s,h1,h2,h3⟩:=h;obtain⟨T,e⟩:=((j4x f i d).1 c hc).2
 have k:((doW x d).1.c c).out.S[n]?=some s:=by
  rw[<- e,List.getElem?_append_left (List.getElem?_eq_some_iff.1 h2).1];exact h2
 rcases y2z f d c with g | ⟨a,b⟩
 ·exact⟨n,s,by omega,k,h3⟩
 ·have j:=f.on c hc;have:=(i c hc (j.1.symm.trans a) (j.2.symm.trans b)).2;rw[this]at h2;cases h2
theorem j7i(x:Wo)(j:Nat)(d:Dd)(i:Nat):GN x (z2c x j d).1 i:=by
 have hp:∀ (y:Wo) (b:Bool) (l:Ln.Line),((z1j y j b l).p.L i).gone=(y.p.L i).gone:=fun y b l=>by
  cases b
  ·show (z0P y.p.L j _ i).gone=_
   unfold z0P
   split
   ·rename_i e;rw[e]
   ·rfl
  ·rfl
 unfold z2c
 split
 ·dsimp only;unfold z3T
  split <;> exact id
 ·split
  ·dsimp only;unfold z3H
   split
   ·intro h
    show (z0P x.p.L j _ i).gone=true
    unfold z0P
    split
    ·rename_i e;rw[<- e];exact h
    ·exact h
   ·exact id
  ·split
   ·unfold z7s
    split
    ·have hh:=(z4a x j d.b (z0t x j d.b d.f)).1
     split
     ·intro h;dsimp only;rw[hp,hh];exact h
     ·intro h;dsimp only;rw[hh];exact h
    ·exact id
   ·split
    ·dsimp only;unfold z6I
     split
     ·intro h;have q:=hp x d.b (Ln.z4N (z0Y x j d.b) d.n (z5A x j d.b) (q2x x j d.b));generalize z1j x j d.b (Ln.z4N (z0Y x j d.b) d.n (z5A x j d.b) (q2x x j d.b))=y at *
      show ((z0j y.p j).L i).gone=true
      unfold z0j
      split
      ·show (z0P y.p.L _ _ i).gone=true
       unfold z0P
       split
       ·rfl
       ·rw[q];exact h
      ·rw[q];exact h
     ·exact id
    ·dsimp only;unfold z9d
     split <;> exact id
theorem j9I{x:Wo}(d:Dd){i:Nat}(a:i<2):GN x (doW x d).1 i:=by
 unfold doW
 split
 ·exact id
 ·dsimp only;unfold z2J
  split
  ·intro h;have hs:=j5s (z2n x) d i
   have b:((atP (z2n x) d).1.p.L i).gone=(x.p.L i).gone:=by
    unfold atP
    split
    ·dsimp only;rw[z5c];rfl
    ·split
     ·dsimp only
      rcases (z4W x.p d.d d.v d.n x.ck).2.2.2.2 with e | e
      ·show ((z1f x.p d.d d.v d.n x.ck).1.L i).gone=_
       rw[e]
      ·show ((z1f x.p d.d d.v d.n x.ck).1.L i).gone=_
       rw[e];exact (z2Z x.p.L i).2.1
     ·split
      ·rfl
      ·dsimp only;rw[z5S];rfl
   dsimp only;rw[b];exact h
  ·split
   ·unfold z4z
    split <;> exact id
   ·split
    ·unfold z3F
     split
     ·intro h;dsimp only;rw[(j5n _ _ i a).2];exact h
     ·exact id
    ·split
     ·unfold z1X
      split
      ·rename_i hc
       split
       ·rename_i h0;intro h;dsimp only;have hb:=q0S (p:=x.p) hc h0
        show ((z0x x.p d.c).1.L i).gone=true
        rw[hb.1];unfold z0P
        split
        ·rename_i e;have h':(x.p.L i).gone=true:=h;rw[e,hb.2.2]at h';cases h'
        ·exact h
       ·exact id
      ·exact id
     ·split
      ·split
       ·exact j7i (z2n x) _ _ _
       ·exact id
      ·exact id
structure VU(x y:Wo)(u v:Wt):Prop where
 num:v.num=u.num
 due:v.due=u.due
 hold:∀ c,c<2->z1M c v=z1M c u∨z3j y c (z1M c u)∨(y.p.L c).gone=true∨((x.p.L c).on=false/\(x.p.L c).gone=false)
theorem VU.refl(x y:Wo)(u:Wt):VU x y u u:=⟨rfl,rfl,fun _ _=>.inl rfl⟩
structure WS(x y:Wo)(k:Int):Prop where
 old:∀ v∈y.p.s.W,(∃ u∈x.p.s.W,VU x y u v)∨(x.p.s.next<=v.num/\∀ c,c<2->(y.p.L c).on=false->z1M c v=0)
 paid:∀ u∈x.p.s.W,(∃ v∈y.p.s.W,v.num=u.num)∨(k=6/\u.due<=y.p.t/\∀ c,c<2->z1M c u=0∨z3j y c (z1M c u))
theorem WS.map{x y:Wo}{k:Int}{F:Wt->Wt}(e:y.p.s.W=x.p.s.W.map F)(a:∀ u∈x.p.s.W,VU x y u (F u)):WS x y k:=by
 refine⟨fun v b=>?_,fun u hu=>?_⟩
 ·rw[e]at b;obtain⟨u,hu,rfl⟩:=List.mem_map.1 b;exact .inl ⟨u,hu,a u hu⟩
 ·rw[e];exact .inl ⟨F u,List.mem_map.2 ⟨u,hu,rfl⟩,(a u hu).num⟩
theorem WS.same{x y:Wo}{k:Int}(e:y.p.s.W=x.p.s.W):WS x y k:=WS.map (F:=id) (by simpa using e) fun u _=>VU.refl _ _ _
theorem y1Y(x y:Wo)(v a f:Int)(u:Wt):VU x y u (slX v a f u):=by
 have h:=z4q v a f u;exact⟨h.2.2.2.2.2,h.2.2.2.2.1,fun c _=>.inl (by unfold z1M;rw[h.2.1,h.2.2.1])⟩
theorem y2q(x:Wo)(d:Dd)(k:Int):WS x (atP x d).1 k:=by
 unfold atP
 split
 ·refine WS.same ?_;dsimp only;unfold z1T
  split
  ·exact q4k _ _ _ _
  ·rfl
 ·split
  ·dsimp only
   have key:(z1f x.p d.d d.v d.n x.ck).1.s.W=x.p.s.W∨((z1f x.p d.d d.v d.n x.ck).1.L=z1u x.p.L/\∃ a w,x.p.s.next<=a/\(z1f x.p d.d d.v d.n x.ck).1.s.W=x.p.s.W ++ [{ z8O x.p x.ck with num:=a,d:=d.d,v:=d.v,amt:=w }]):=by
    unfold z1f
    split
    ·split
     ·dsimp only;unfold z0N
      repeat' split
      all_goals first | exact .inl rfl | exact .inr ⟨rfl,_,_,Int.le_refl _,rfl⟩
     ·exact .inl rfl
    ·exact .inl rfl
   rcases key with e | ⟨h,a,w,i,e⟩
   ·exact WS.same e
   ·refine⟨fun v b=>?_,fun u hu=>?_⟩
    ·dsimp only at b;rw[e]at b
     rcases List.mem_append.1 b with b | b
     ·exact .inl ⟨v,b,VU.refl _ _ _⟩
     ·rw[List.mem_singleton.1 b];refine .inr ⟨i,fun c hc g=>?_⟩
      have f:(x.p.L c).on=false:=by
       dsimp only at g;rw[h]at g;exact (z2Z x.p.L c).1.symm.trans g
      show (if c=0 then z2i x.p 0 else z2i x.p 1)=0
      unfold z2i
      rcases (show c=0∨c=1 by omega) with rfl | rfl
      ·rw[if_pos rfl,f];rfl
      ·rw[if_neg (by omega),f];rfl
    ·refine .inl ⟨u,?_,rfl⟩;dsimp only;rw[e];exact List.mem_append.2 (.inl hu)
  ·split
   ·exact WS.same (q0E _ _)
   ·dsimp only;unfold z3R
    repeat' split
    all_goals first | exact WS.same rfl | exact WS.map (F:=slX _ _ _) rfl fun u _=>y1Y _ _ _ _ _ u
theorem j2D(x:Wo)(c k:Int):WS x (z1X x c).1 k:=by
 unfold z1X
 split
 ·rename_i hc
  split
  ·rename_i h0;have hb:=q0S hc h0
   have a:(z0x x.p c).1.s.W=x.p.s.W.map (z0V c.toNat (x.p.h+1)):=by
    unfold z0x at h0 ⊢
    repeat' split at h0
    all_goals first | cases h0 | skip
    rename_i q1 q3 q4 q5;rw[if_pos q1,if_pos hc,if_neg q3,if_neg q4,if_neg q5]
   refine WS.map (F:=z0V c.toNat (x.p.h+1)) a fun u _=>?_
   have hs:(z0V c.toNat (x.p.h+1) u).num=u.num/\(z0V c.toNat (x.p.h+1) u).due=u.due:=by
    unfold z0V
    repeat' split
    all_goals exact⟨rfl,rfl⟩
   refine⟨hs.1,hs.2,fun i b=>?_⟩
   by_cases e:i=c.toNat
   ·exact .inr (.inr (.inr (by rw[e];exact hb.2)))
   ·refine .inl ?_;unfold z1M z0V
    have d:c.toNat<2:=by
     unfold isC at hc;simp only[Bool.and_eq_true,decide_eq_true_eq]at hc;omega
    by_cases q:u.hei=x.p.h+1
    ·rw[if_pos q]
     by_cases h1:c.toNat=0
     ·rw[if_pos h1,if_neg (by omega),if_neg (by omega)]
     ·rw[if_neg h1,if_pos (by omega),if_pos (by omega)]
    ·rw[if_neg q]
  ·exact WS.same rfl
 ·exact WS.same rfl
theorem y0a{N:Int}{x:Wo}(j:z2P N x)(R:∀ i,i<2->(x.c i).on=true->RI x i):WS x (z3F x).1 6:=by
 unfold z3F
 split
 ·rename_i h0
  have d:z0o x.p=true/\isT x.ck=true/\x.p.t<=x.ck:=by
   by_cases f:z0o x.p=true/\isT x.ck=true/\x.p.t<=x.ck
   ·exact f
   ·unfold endP at h0;rw[if_neg f]at h0;cases h0
  obtain⟨F,b,g⟩:=j9E j R d;have k:=(z3a d).t;refine⟨fun v e=>?_,fun u hu=>?_⟩
  ·dsimp only at e;rw[g]at e;obtain⟨u,hu,rfl⟩:=List.mem_map.1 (List.mem_filter.1 e).1;exact .inl ⟨u,hu,(b u).num,(b u).due,fun c hc=>((b u).hold c hc).imp id fun h=>.inl h⟩
  ·by_cases q:z5N x.ck (F u)=true
   ·refine .inr ⟨rfl,?_,fun c hc=>?_⟩
    ·dsimp only;rw[k,<- (b u).due];unfold z5N at q;simp only[Bool.and_eq_true,decide_eq_true_eq]at q;exact q.1
    ·rcases (b u).hold c hc with a | a
     ·refine .inl ?_;rw[<- a];unfold z5N at q;simp only[Bool.and_eq_true,decide_eq_true_eq]at q;unfold z1M
      split
      ·exact q.2.1
      ·exact q.2.2
     ·exact .inr a
   ·refine .inl ⟨F u,?_,(b u).num⟩;dsimp only;rw[g];exact List.mem_filter.2 ⟨List.mem_map.2 ⟨u,hu,rfl⟩,by simpa using q⟩
 ·exact WS.same rfl
theorem j8s{x:Wo}{j:Nat}{d:Dd}(a:j<2)(k:Int):WS x (z2c x j d).1 k:=by
 obtain⟨-,e | ⟨-,b,r,e⟩⟩:=y2O x j d
 ·exact WS.same e
 ·refine WS.map (F:=z4j j r) e fun u _=>?_;have hs:=z3M j r u;refine⟨hs.2.2.2.2,hs.2.2.2.1,fun c hc=>?_⟩
  by_cases q:c=j
  ·exact .inr (.inr (.inl (by rw[q];exact b)))
  ·refine .inl ?_
   rcases (show j=0/\c=1∨j=1/\c=0 by omega) with⟨rfl,rfl⟩ | ⟨rfl,rfl⟩
   ·show (z4j 0 r u).h1=u.h1
    unfold z4j;rw[if_pos rfl]
    split <;> rfl
   ·show (z4j 1 r u).h0=u.h0
    unfold z4j;rw[if_neg (by decide)]
    split <;> rfl
theorem j9U{x:Wo}{d:Dd}(e:Inv x)(R:∀ i,i<2->(x.c i).on=true->RI x i):WS x (doW x d).1 d.k:=by
 unfold doW
 split
 ·exact WS.same rfl
 ·dsimp only;have cast:∀ {y:Wo},WS (z2n x) y d.k->WS x y d.k:=fun h=>⟨fun v f=>(h.old v f).imp (fun⟨u,hu,q⟩=>⟨u,hu,q.num,q.due,q.hold⟩) id,h.paid⟩;unfold z2J
  split
  ·exact cast (y2q (z2n x) d _)
  ·split
   ·unfold z4z
    split <;> exact WS.same rfl
   ·split
    ·rename_i h6;have:=y0a (x:=z2n x) (e.dn _) fun i a b=>⟨(R i a b).rp,(R i a b).said,(R i a b).q⟩;rw[<- h6]at this;exact cast this
    ·split
     ·exact cast (j2D (z2n x) _ _)
     ·split
      ·split
       ·rename_i hc;refine cast (j8s (x:=z2n x) ?_ _);have:=hc.1;unfold isC at this;simp only[Bool.and_eq_true,decide_eq_true_eq]at this;omega
       ·exact WS.same rfl
      ·exact WS.same rfl
def wt0:Wt:=⟨0,0,0,0,0,0,0,0⟩
def z2l(W:List Wt)(n:Int):Bool:=W.any fun u=>decide (u.num=n)
def j8W(W:List Wt)(n:Int):Wt:=(W.find? fun u=>decide (u.num=n)).getD wt0
theorem z4R(W:List Wt)(n:Int):z2l W n=true↔∃ u∈W,u.num=n:=by
 unfold z2l;simp only[List.any_eq_true,decide_eq_true_eq]
theorem q0b{next:Int}:∀ {W:List Wt} {last:Int},wOk next last W=true->∀ u∈W,j8W W u.num=u
 | [],_,_,_,hu=>by cases hu
 | w :: W,last,h,u,hu=>by
  unfold wOk at h;simp only[Bool.and_eq_true]at h;unfold j8W
  rcases List.mem_cons.1 hu with rfl | hu
  ·rw[List.find?_cons_of_pos (by simp)]
   rfl
  ·have h1:=(z2N h.2 u hu).1;rw[List.find?_cons_of_neg (by simp;omega)]
   exact q0b h.2 u hu
def rcW(l:List Dd):Nat->Int->Wt
 | 0=>fun _=>wt0
 | k+1=>fun n=>if z2l (stW l k).p.s.W n=true then rcW l k n else j8W (stW l (k+1)).p.s.W n
theorem j9Q{x:Wo}(h:Inv x)(b:j5f x)(d:Dd)(i:Nat)(a:i<2):StL x (doW x d).1 i:=by
 unfold doW
 split
 ·exact StL.refl _ _
 ·have:=q4h (x:=z2n x) (fun i a=>(h.on i a).1) b d i a;exact⟨this.pre,this.nil⟩
theorem y0r(l:List Dd):∀ k,k<=l.length->k<=300->∀ u∈(stW l k).p.s.W,HR (stW l k) (rcW l k u.num) u
 | 0,_,_,u,hu=>by cases hu
 | k+1,h1,h2,v,hv=>by
  have t:=List.getElem?_eq_getElem (by omega:k<l.length)
  have e:=z3f t;have W:=j9U (d:=l[k]) (z2S l k) fun i w x=>j0N l k (by omega) (by omega) i w x
  rw[<- e]at W;have o:=j0H l k (by omega)
  have f:∀ c,c<2->∀ r,z3j (stW l k) c r->z3j (stW l (k+1)) c r:=fun c hc r h=>by rw[e];exact q8f (z2S l k) o l[k] hc h
  have gone:∀ c,c<2->((stW l k).p.L c).gone=true->((stW l (k+1)).p.L c).gone=true:=fun c hc h=>by rw[e];exact j9I l[k] hc h
  have g:∀ c,c<2->((stW l (k+1)).p.L c).on=false->((stW l (k+1)).p.L c).gone=false->((stW l k).p.L c).on=false/\((stW l k).p.L c).gone=false:=fun c hc a b=>by
   have s:=j9Q (z2S l k) o l[k] c hc;rw[<- e]at s;have:=s.nil a b;exact⟨this.1,this.2.1⟩
  show HR _ (if z2l (stW l k).p.s.W v.num=true then rcW l k v.num else j8W (stW l (k+1)).p.s.W v.num) v
  rcases W.old v hv with⟨u,hu,q⟩ | ⟨q,hq⟩
  ·rw[if_pos ((z4R _ _).2 ⟨u,hu,q.num.symm⟩),q.num];have j:=y0r l k (by omega) (by omega) u hu
   refine⟨j.due.trans q.due.symm,fun c hc=>?_,fun c hc a b=>?_⟩
   ·rcases j.hold c hc with a | a | a | a
    ·exact .inl a
    ·rcases q.hold c hc with b | b | b | b
     ·exact .inr (.inl (b.trans a))
     ·exact .inr (.inr (.inl (a ▸ b)))
     ·exact .inr (.inr (.inr b))
     ·exact .inl (j.off c hc b.1 b.2)
    ·exact .inr (.inr (.inl (f c hc _ a)))
    ·exact .inr (.inr (.inr (gone c hc a)))
   ·have:=g c hc a b;exact j.off c hc this.1 this.2
  ·have y:=(z0h _).1 (z2S l k).gp.s;have m:=(z0h _).1 (z2S l (k+1)).gp.s
   have n:¬ z2l (stW l k).p.s.W v.num=true:=fun h=>by
    obtain⟨u,hu,e'⟩:=(z4R _ _).1 h;have:=(z2N y.2.2.2.2.1 u hu).2.1;omega
   rw[if_neg n,q0b m.2.2.2.2.1 v hv];exact⟨rfl,fun c _=>.inr (.inl rfl),fun c hc a _=>hq c hc a⟩
theorem q8A{l:List Dd}{k:Nat}(h1:k<l.length)(h2:k<300){u:Wt}(hu:u∈(stW l k).p.s.W)(h:z2l (stW l (k+1)).p.s.W u.num=false):l[k].k=6/\(rcW l k u.num).due<=(stW l (k+1)).p.t/\∀ c,c<2->z1M c (rcW l k u.num)=0∨z3j (stW l (k+1)) c (z1M c (rcW l k u.num))∨((stW l (k+1)).p.L c).gone=true:=by
 have j:=List.getElem?_eq_getElem h1;have e:=z3f j;have W:=j9U (d:=l[k]) (z2S l k) fun i f m=>j0N l k (by omega) (by omega) i f m
 rw[<- e]at W;have g:=y0r l k (by omega) (by omega) u hu
 rcases W.paid u hu with⟨v,hv,q⟩ | ⟨a,b,c⟩
 ·have:=(z4R (stW l (k+1)).p.s.W u.num).2 ⟨v,hv,q⟩;rw[h]at this;cases this
 ·refine⟨a,by rw[g.due];exact b,fun i f=>?_⟩
  rcases g.hold i f with q | q | q | q
  ·exact .inl q
  ·rcases c i f with r | r
   ·exact .inl (q.symm.trans r)
   ·exact .inr (.inl (q ▸ r))
  ·exact .inr (.inl (by rw[e];exact q8f (z2S l k) (j0H l k (by omega)) l[k] f q))
  ·exact .inr (.inr (by rw[e];exact j9I l[k] f q))
end Wd
namespace Wd
open Go.RowKit Pv
theorem y2b{P:Nat->Prop}{w a:World}{l:List ByteArray}{v:Value}(h:z0U P w v 1 16 (txC l))(hb:Bl w a):∃ A C,v=J1 A l.length C/\l.length<=140737488351232/\∀ k,k<l.length->∃ b o,A=some ⟨b,o,none⟩/\a.cell? ⟨b,o+k,none⟩=some (.string (l.getD k ByteArray.empty)):=by
 obtain⟨d,n0,C0,j,f,-,h⟩:=h;obtain⟨A,C,e,s,-,c,-⟩:=(h.over hb).open (z2a l) (by decide)
 cases e;refine⟨d,C0,f,by omega,fun k g=>?_⟩
 obtain⟨b,o,i,-,-,hc⟩:=c (by omega)
 exact⟨b,o,i,hc _ _ (z8h l k g)⟩
end Wd
namespace Wd
open Go.RowKit Pv Kc Go.Maps
open Classical in
theorem q8S(u:Wt):rdW (J4 (wtC u))=some (.held (J4 (wtC u)),[]):=if_pos ⟨u,rfl⟩
theorem q8e{v:Value}{y:DataW Value×List MemPlace}(h:rdW v=some y):∃ u:Wt,v=J4 (wtC u):=by
 unfold rdW at h
 split at h
 ·assumption
 ·cases h
theorem j7K{u v:Wt}(h:wtC u=wtC v):u=v:=by
 cases u;cases v;unfold wtC at h
 simp at h
 simp[h]
theorem y2B{w w':World}{a n:Nat}{D:DataW Value}(h:w.ownsMap prog 3 rdW a n D)(b:w'.heap[a]?=w.heap[a]?):w'.ownsMap prog 3 rdW a n D:=by
 obtain⟨es,c,hb,r⟩:=h;exact⟨es,c,b.trans hb,r⟩
theorem HD.congr{D:DataW Value}{hs a:Int->Bool}{rc b:Int->Wt}(h:HD D hs rc)(e:∀ k,hs k=a k)(e':∀ k,hs k=true->rc k=b k):HD D a b:=
 ⟨fun k=>(h.has_ k).trans (e k),fun k c z=>by rw[<- e' k ((e k).trans c)];exact h.val k ((e k).trans c) z⟩
theorem HD.put{D:DataW Value}{hs:Int->Bool}{rc:Int->Wt}(h:HD D hs rc)(hm:IsMap D)(k:Int)(u:Wt)(hu:rc k=u):HD (D.put (.int .i64 k) (.held (J4 (wtC u)))) (fun j=>hs j || decide (k=j)) rc:=by
 refine⟨fun j=>?_,fun j a z=>?_⟩
 ·by_cases e:k=j
  ·subst e;rw[has_put_same hm (show WideAt.IsKeyLit (.int .i64 _) from trivial)]
   simp
  ·rw[has_put_other (by simpa using fun q=>e q.symm),h.has_,decide_eq_false e,Bool.or_false]
 ·by_cases e:k=j
  ·subst e;rw[hu];exact atKey_put_same hm (show WideAt.IsKeyLit (.int .i64 _) from trivial) _ _
  ·rw[decide_eq_false e,Bool.or_false]at a;exact (atKey_put_other (by simpa using fun q=>e q.symm) _ _).trans (h.val j a z)
theorem HD.del{D:DataW Value}{hs:Int->Bool}{rc:Int->Wt}(h:HD D hs rc)(k:Int):HD (D.del (.int .i64 k)) (fun j=>hs j && !decide (k=j)) rc:=by
 refine⟨fun j=>?_,fun j a z=>?_⟩
 ·by_cases e:k=j
  ·subst e;rw[has_del_same]
   simp
  ·rw[has_del_other (by simpa using fun q=>e q.symm),h.has_,decide_eq_false e]
   simp
 ·by_cases e:k=j
  ·subst e
   simp at a
  ·rw[decide_eq_false e,Bool.not_false,Bool.and_true]at a;exact (atKey_del_other (by simpa using fun q=>e q.symm) _).trans (h.val j a z)
theorem j9M(w:World):(zeroValue 63).run prog w=.ok (J4 (wtC wt0)) w:=by kernel_rfl
theorem y1P(w:World):(zeroValue 4).run prog w=.ok (J3 false) w:=by kernel_rfl
theorem j5S{w:World}{b n:Nat}{D:DataW Value}{hs:Int->Bool}{rc:Int->Wt}(s:w.ownsMap prog 3 rdW b n D)(h:HD D hs rc){k:Int}(h0:0<=k/\k<=1125899906842624):∃ u,(Instr.lookup 83 (.map (some b)) (.int .i64 k) true).run prog w=.ok (.tuple #[J4 (wtC u),J3 (hs k)]) w:=by
 obtain⟨v',e,c,d⟩:=s.look_ok (int_keyed underlying3) underlying83 (j9M w) (zd:=.held (J4 (wtC wt0))) (zp:=[]) (q8S _) (j4B (a:=k) h0);obtain⟨u,rfl⟩:=q8e d;rw[h.has_]at c;exact⟨u,c⟩
structure NW(nb n:Nat)(D:DataW Value)(hs:Int->Bool)(w:World):Prop where
 own:w.ownsMap prog 3 rdM nb n D
 has_:∀ k,has D (.int .i64 k)=hs k
 val:∀ k,hs k=true->∀ z,D.atKey (.int .i64 k) z=.held (J3 true)
theorem NW.keep{nb n:Nat}{D:DataW Value}{hs:Int->Bool}{w w':World}(s:NW nb n D hs w)(h:w'.heap[nb]?=w.heap[nb]?):NW nb n D hs w':=⟨y2N s.own h,s.has_,s.val⟩
theorem NW.look{nb n:Nat}{D:DataW Value}{hs:Int->Bool}{w:World}(s:NW nb n D hs w){k:Int}(h0:0<=k/\k<=1125899906842624):(Instr.lookup 86 (.map (some nb)) (.int .i64 k) false).run prog w=.ok (J3 (hs k)) w:=by
 obtain⟨v',d,c,b⟩:=s.own.lookup (int_keyed underlying3) underlying86 (y1P w) (zd:=.held (J3 false)) (zp:=[]) rfl (j4B (a:=k) h0);unfold rdM at b;cases e:hs k
 ·rw[atKey_of_not_has ((s.has_ k).trans e)]at b;cases b;exact c
 ·rw[s.val k e]at b;cases b;exact c
theorem NW.put{nb n:Nat}{D:DataW Value}{hs:Int->Bool}{w w':World}(s:NW nb n D hs w){k:Int}(b:w'.ownsMap prog 3 rdM nb (n+1) (D.put (.int .i64 k) (.held (J3 true)))):NW nb (n+1) (D.put (.int .i64 k) (.held (J3 true))) (fun j=>hs j || decide (k=j)) w':=by
 have hm:=s.own.isMap;refine⟨b,fun j=>?_,fun j a z=>?_⟩
 ·by_cases e:k=j
  ·subst e;rw[has_put_same hm (show WideAt.IsKeyLit (.int .i64 _) from trivial)]
   simp
  ·rw[has_put_other (by simpa using fun q=>e q.symm),s.has_,decide_eq_false e,Bool.or_false]
 ·by_cases e:k=j
  ·subst e;exact atKey_put_same hm (show WideAt.IsKeyLit (.int .i64 _) from trivial) _ _
  ·rw[decide_eq_false e,Bool.or_false]at a;exact (atKey_put_other (by simpa using fun q=>e q.symm) _ _).trans (s.val j a z)
theorem q0V(W:List Wt)(j:Nat)(u:Wt)(hu:W[j]?=some u)(k:Int):z2l (W.take (j+1)) k=(z2l (W.take j) k || decide (u.num=k)):=by
 unfold z2l;rw[List.take_add_one,hu,List.any_append]
 simp
theorem HM.keep{rb n:Nat}{D:DataW Value}{hs:Int->Bool}{rc:Int->Wt}{rp:Nat->Int}{gn:Nat->Bool}{w w':World}(s:HM rb n D hs rc rp gn w)(h:∀ b,b<=rb+3->b<w.heap.size->w'.heap[b]?=w.heap[b]?):HM rb n D hs rc rp gn w':=
 ⟨y2B s.own (h _ (by omega) s.own.lt),s.hd,(h _ (by omega) s.cr.lt).trans s.cr,(h _ (by omega) s.cg.lt).trans s.cg,(h _ (by omega) s.cm.lt).trans s.cm⟩
theorem HM.over{rb n:Nat}{D:DataW Value}{hs:Int->Bool}{rc:Int->Wt}{rp:Nat->Int}{gn:Nat->Bool}{w w':World}(s:HM rb n D hs rc rp gn w)(hb:Bl w w'):HM rb n D hs rc rp gn w':=s.keep fun b _ a=>hb.block b a
theorem HM.alt{rb n g:Nat}{D:DataW Value}{hs:Int->Bool}{rc:Int->Wt}{rp:Nat->Int}{gn:Nat->Bool}{w w':World}(s:HM rb n D hs rc rp gn w)(a:Alt g w w')(d:rb+3<g):HM rb n D hs rc rp gn w':=s.keep fun b hb c=>a.block b c (by omega)
theorem HM.cell{rb n:Nat}{D:DataW Value}{hs:Int->Bool}{rc:Int->Wt}{rp:Nat->Int}{gn:Nat->Bool}{w:World}(s:HM rb n D hs rc rp gn w){k:Nat}(a:k<2):w.cell? ⟨rb,k,none⟩=some (.int .i64 (rp k))/\w.cell? ⟨rb+1,k,none⟩=some (J3 (gn k)):=by
 rcases (show k=0∨k=1 by omega) with rfl | rfl <;> exact⟨s.cr.cell _,s.cg.cell _⟩
def M3H(rb b:Nat):Prop:=b=rb∨b=rb+1∨b=rb+2
structure TH(B g rb gp n:Nat)(D:DataW Value)(hs:Int->Bool)(rc:Int->Wt)(rp:Nat->Int)(gn:Nat->Bool)(w:World)(x:Wo)(vp:PrV)(d:Dd)(wl:World):Prop where
 pl:PLk w.heap.size wl gp x.p vp
 hm:HM rb n D hs rc rp gn wl
 st:StW B g x wl
 al:z5n (M3H rb) w wl
 dd:CAt 28 wl w.heap.size (ddC d)
section
variable {B g rb gp n:Nat} {D:DataW Value} {hs:Int->Bool} {rc:Int->Wt} {rp:Nat->Int} {gn:Nat->Bool} {w:World} {x:Wo} {vp:PrV} {d:Dd} {wl w':World}
theorem TH.over(t:TH B g rb gp n D hs rc rp gn w x vp d wl)(hb:Bl wl w'):TH B g rb gp n D hs rc rp gn w x vp d w':=⟨t.pl.over hb,t.hm.over hb,t.st.over hb,t.al.trans (z5n.of hb),t.dd.over hb⟩
theorem TH.map{n':Nat}{f:DataW Value}{c:Int->Bool}{e:Int->Wt}(t:TH B g rb gp n D hs rc rp gn w x vp d wl)(a:Alt (rb+2) wl w')(j:rb+3<B)(k:rb+3<w.heap.size)(h:w'.ownsMap prog 3 rdW (rb+2) n' f)(hd:HD f c e):TH B g rb gp n' f c e rp gn w x vp d w':=by
 have l:=t.st.le;exact⟨t.pl.alt a (by omega),⟨h,hd,a.cat (by omega) t.hm.cr,a.cat (by omega) t.hm.cg,a.cat (by omega) t.hm.cm⟩,t.st.keep fun b hb i=>a.block b i (by omega),t.al.trans (z5n.alt a (.inr (.inr rfl))),a.cat (by omega) t.dd⟩
def upN{α:Type}(f:Nat->α)(k:Nat)(a:α):Nat->α:=fun i=>if i=k then a else f i
theorem TH.rip(t:TH B g rb gp n D hs rc rp gn w x vp d wl)(f:rb+3<B)(h:rb+3<w.heap.size){k:Nat}(i:k<2)(a:Int):TH B g rb gp n D hs rc (upN rp k a) gn w x vp d (wl.setCell ⟨rb,k,none⟩ (.int .i64 a)):=by
 have j:=t.st.le;have al:Alt rb wl (wl.setCell ⟨rb,k,none⟩ (.int .i64 a)):=(Alt.refl _ wl).set k _;have c:=t.hm.cr.set k (.int .i64 a);refine⟨t.pl.alt al (by omega),⟨y2B t.hm.own (al.block _ t.hm.own.lt (by omega)),t.hm.hd,?_,al.cat (by omega) t.hm.cg,al.cat (by omega) t.hm.cm⟩,t.st.keep fun b hb e=>al.block b e (by omega),t.al.trans (z5n.alt al (.inl rfl)),al.cat (by omega) t.dd⟩
 rcases (show k=0∨k=1 by omega) with rfl | rfl <;> exact c
theorem TH.gon(t:TH B g rb gp n D hs rc rp gn w x vp d wl)(f:rb+3<B)(h:rb+3<w.heap.size){k:Nat}(i:k<2)(a:Bool):TH B g rb gp n D hs rc rp (upN gn k a) w x vp d (wl.setCell ⟨rb+1,k,none⟩ (J3 a)):=by
 have j:=t.st.le;have al:Alt (rb+1) wl (wl.setCell ⟨rb+1,k,none⟩ (J3 a)):=(Alt.refl _ wl).set k _;have c:=t.hm.cg.set k (J3 a);refine⟨t.pl.alt al (by omega),⟨y2B t.hm.own (al.block _ t.hm.own.lt (by omega)),t.hm.hd,al.cat (by omega) t.hm.cr,?_,al.cat (by omega) t.hm.cm⟩,t.st.keep fun b hb e=>al.block b e (by omega),t.al.trans (z5n.alt al (.inr (.inl rfl))),al.cat (by omega) t.dd⟩
 rcases (show k=0∨k=1 by omega) with rfl | rfl <;> exact c
end
end Wd
namespace Wd
open Go.RowKit Pv Kc Go.Maps
def j1K(B g rb M:Nat)(rc:Int->Wt)(gn:Nat->Bool)(w:World)(x:Wo)(e:Ending)(w':World):Prop:=e=.returned (J3 true)/\(∃ n D rp,n<=M+60/\(∀ k,0<=rp k)/\HM rb n D (z2l x.p.s.W) rc rp gn w')/\StW B g x w'/\z5n (M3H rb) w w'
noncomputable def y2S:Code:=q3H [1,1,1,1,1,1] (f15.body.getD .skip)
set_option maxRecDepth 1000000 in
theorem j6L(B g rb gp n M:Nat)(D:DataW Value)(hs:Int->Bool)(rc:Int->Wt)(rp:Nat->Int)(gn:Nat->Bool)(w:World)(x:Wo)(vp:PrV)(d:Dd)(wt:World)(h:Hid (TH B g rb gp n D hs rc rp gn w x vp d wt))(hB:rb+3<B)(hw:rb+3<w.heap.size)(hn:n<=M)(hM:M<100000)(C:∀ k,0<=rp k)(h1:∀ k,hs k=true->z2l x.p.s.W k=true)(h2:∀ u∈x.p.s.W,hs u.num=false->rc u.num=u)
  {v1 v2 v3 v4 v6 v7 v8 v9 j0 j1 j2 j3 j4 j5 j6 j7 j8 j9 k2 k3 k4 k5 k6 k7 k8 k9 l0 l1 l2 l3 l4 l5 l6 l7 l8 l9 m1 m2 m3 m4 m5 m6 m7 m8 m9 n2 n3 n4 n5 n6 n7 n8 n9 o0 o1 o2 o3 o4 o5 o6 o7 o8 o9 p9 q4 q5 q6 q7 q8 q9 r0 r3 r4 r5 r6 r7 r8 r9 s0 s1 s2 s3 s4 s5 s6 s7 s8 s9 t2 t3 t4 t5 t6 t7 t8 t9 u0 E F G H K L N P Q R S U V X Y Z a8 a9 b4 b7 b8 b9 c4 c5 c6 c7 c8 c9 d8 d9 e0 e1 e2 e3 e4 e5 e6 e7 e8 e9 f4 f5 f6 f7 f8 f9 g0 g1 g2 g3 g5 g6 g8 g9 h4 h5 h6 h7 h8 h9 i2 i3:Value}:Code.wp prog y2S (bodyPost prog f15 (j1K B g rb M rc gn w x)) ⟨List.toArray ((J2 (some ⟨g,0,none⟩)) :: v1 :: v2 :: v3 :: v4 :: (J2 (some ⟨rb+3,0,none⟩)) :: v6 :: v7 :: v8 :: v9 :: (J2 (some ⟨gp,0,none⟩)) :: j0 :: j1 :: j2 :: j3 :: j4 :: j5 :: j6 :: j7 :: j8 :: j9 :: k2 :: k3 :: k4 :: k5 :: k6 :: k7 :: k8 :: k9 :: l0 :: l1 :: l2 :: l3 :: l4 :: l5 :: l6 :: l7 :: l8 :: l9 :: m1 :: m2 :: m3 :: m4 :: m5 :: m6 :: m7 :: m8 :: m9 :: n2 :: n3 :: n4 :: n5 :: n6 :: n7 :: n8 :: n9 :: o0 :: o1 :: o2 :: o3 :: o4 :: o5 :: o6 :: o7 :: o8 :: o9 :: p9 :: q4 :: q5 :: q6 :: q7 :: q8 :: q9 :: r0 :: r3 :: r4 :: r5 :: r6 :: r7 :: r8 :: r9 :: s0 :: s1 :: s2 :: s3 :: s4 :: s5 :: s6 :: s7 :: s8 :: s9 :: t2 :: t3 :: t4 :: t5 :: t6 :: t7 :: t8 :: t9 :: u0 :: E :: F :: G :: H :: K :: L :: N :: P :: Q :: R :: S :: U :: V :: X :: Y :: Z :: a8 :: a9 :: b4 :: b7 :: b8 :: b9 :: c4 :: c5 :: c6 :: c7 :: c8 :: c9 :: d8 :: d9 :: e0 :: e1 :: e2 :: e3 :: e4 :: e5 :: e6 :: e7 :: e8 :: e9 :: f4 :: f5 :: f6 :: f7 :: f8 :: f9 :: g0 :: g1 :: g2 :: g3 :: g5 :: g6 :: g8 :: g9 :: h4 :: h5 :: h6 :: h7 :: h8 :: h9 :: i2 :: i3 :: []),[]⟩ wt:=by
 conv=>arg 2;whnf
 have r:=h.out.st.inv.gp.s;have HV:=J6 (fun u (hu:u∈x.p.s.W)=>z2N ((z0h _).1 r).2.2.2.2.1 u hu);have v5:=((z0h _).1 r).2.2.1;have w2:x.p.s.W.length<=60:=((z0h _).1 r).2.2.2.1;have H1:=J6 h1;have H2:=J6 h2;have u3:=J6 C;clear h1 h2 r C;obtain⟨Aw,Cw,bw,ow,z,Ws,-,-⟩:=h.out.pl.2.1.ws.q0q;clear Ws;have i4:wt.cell? ⟨gp,63,none⟩=some vp.ws:=h.out.pl.1.cell 63;rw[z]at i4;have zp:=h.out.pl.lt
 go_upto_region 34 with fail
 clear i4 zp
 go_loopw [144] (fun i wl=>∃ (j:Nat),j<=x.p.s.W.length/\i=.int .i64 (j:Int)/\Hid (∃ n' o,n'<=M+j/\TH B g rb gp n' o (fun k=>hs k || z2l (x.p.s.W.take j) k) rc rp gn w x vp d wl)) (fun i _=>x.p.s.W.length - (intOf i).toNat)
 case atStart=>exact⟨0,Nat.zero_le _,rfl,n,D,by omega,h.out.pl,⟨h.out.hm.own,h.out.hm.hd.congr (fun k=>by rw[List.take_zero];simp[z2l]) (fun _ _=>rfl),h.out.hm.cr,h.out.hm.cg,h.out.hm.cm⟩,h.out.st,h.out.al,h.out.dd⟩
 case round =>
  obtain⟨j,hj,rfl,i5⟩:=hrel;clear h;obtain⟨n',o,w3,T⟩:=i5.out;have c:=J6 T;clear T i5
  by_cases u4:j<x.p.s.W.length
  ·have u5:(j:Int)<(x.p.s.W.length:Int):=by omega
   have w4:(0:Int)<=(j:Int):=by omega
   obtain⟨u,hu,-⟩:=drop_at u4;have i6:=List.mem_of_getElem? hu;have w8:=HV.out u i6;obtain⟨A',C',b',o',e',Ws,-,-⟩:=c.out.pl.2.1.ws.q0q;rw[z]at e';cases e';have u6:=Ws.adr (by omega)
   subst u6;obtain⟨d0,d1,d2,d3,d4,d5,d6,d7⟩:=Ws.cell j u hu;clear Ws z;have R5:CAt 63 (wr.alloc (J5 #[.int .i64 u.num,.int .i64 u.d,.int .i64 u.v,.int .i64 u.amt,.int .i64 u.hei,.int .i64 u.due,.int .i64 u.h0,.int .i64 u.h1] 63)) wr.heap.size #[.int .i64 u.num,.int .i64 u.d,.int .i64 u.v,.int .i64 u.amt,.int .i64 u.hei,.int .i64 u.due,.int .i64 u.h0,.int .i64 u.h1]:=CAt.new _ wr _;have b5:Bl wr (wr.alloc (J5 #[.int .i64 u.num,.int .i64 u.d,.int .i64 u.v,.int .i64 u.amt,.int .i64 u.hei,.int .i64 u.due,.int .i64 u.h0,.int .i64 u.h1] 63)):=znw wr _;have f:=J6 (show _/\_ from⟨c.out.over b5,R5⟩);clear R5 b5 c
   go_upto_region 36 with fail
   clear d0 d1 d2 d3 d4 d5 d6 d7;generalize wr.alloc (J5 #[.int .i64 u.num,.int .i64 u.d,.int .i64 u.v,.int .i64 u.amt,.int .i64 u.hei,.int .i64 u.due,.int .i64 u.h0,.int .i64 u.h1] 63)=w5 at *;generalize u7:wr.heap.size=gu at *;clear u7;have a0:w5.cell? ⟨gu,0,none⟩=some (.int .i64 u.num):=f.out.2.cell 0;have z1:=f.out.2.lt;have m0:w5.cell? ⟨rb+3,0,none⟩=some (.map (some (rb+2))):=f.out.1.hm.cm.cell 0;have z2:=f.out.1.hm.cm.lt;obtain⟨q,t⟩:=j5S f.out.1.hm.own f.out.1.hm.hd (k:=u.num) (by omega)
   unfold wtC at t;have R6:CAt 63 (w5.alloc (J5 #[.int .i64 q.num,.int .i64 q.d,.int .i64 q.v,.int .i64 q.amt,.int .i64 q.hei,.int .i64 q.due,.int .i64 q.h0,.int .i64 q.h1] 63)) w5.heap.size #[.int .i64 q.num,.int .i64 q.d,.int .i64 q.v,.int .i64 q.amt,.int .i64 q.hei,.int .i64 q.due,.int .i64 q.h0,.int .i64 q.h1]:=CAt.new _ w5 _;have b6:Bl w5 (w5.alloc (J5 #[.int .i64 q.num,.int .i64 q.d,.int .i64 q.v,.int .i64 q.amt,.int .i64 q.hei,.int .i64 q.due,.int .i64 q.h0,.int .i64 q.h1] 63)):=znw w5 _;have b:=J6 (show _/\_ from⟨f.out.1.over b6,f.out.2.over b6⟩);clear R6 b6 f;have i7:=q0V _ _ _ hu;cases l:(hs u.num || z2l (x.p.s.W.take j) u.num)
   ·rw[l]at t;have u8:rc u.num=u:=H2.out u i6 (by cases e:hs u.num;rfl;rw[e]at l;cases l)
    go_upto_region 38 with fail
    clear a0 z1 m0 z2 t;generalize w5.alloc (J5 #[.int .i64 q.num,.int .i64 q.d,.int .i64 q.v,.int .i64 q.amt,.int .i64 q.hei,.int .i64 q.due,.int .i64 q.h0,.int .i64 q.h1] 63)=w6 at *;have u9:=J6 b.out.1.hm.own;have i8:=j4B (a:=u.num) (by omega)
    have m0:w6.cell? ⟨rb+3,0,none⟩=some (.map (some (rb+2))):=b.out.1.hm.cm.cell 0;have z2:=b.out.1.hm.cm.lt;have a0:w6.cell? ⟨gu,0,none⟩=some (.int .i64 u.num):=b.out.2.cell 0;have a1:w6.cell? ⟨gu,0+1,none⟩=some (.int .i64 u.d):=b.out.2.cell 1;have a2:w6.cell? ⟨gu,0+2,none⟩=some (.int .i64 u.v):=b.out.2.cell 2;have a3:w6.cell? ⟨gu,0+3,none⟩=some (.int .i64 u.amt):=b.out.2.cell 3;have a4:w6.cell? ⟨gu,0+4,none⟩=some (.int .i64 u.hei):=b.out.2.cell 4;have a5:w6.cell? ⟨gu,0+5,none⟩=some (.int .i64 u.due):=b.out.2.cell 5;have a6:w6.cell? ⟨gu,0+6,none⟩=some (.int .i64 u.h0):=b.out.2.cell 6;have a7:w6.cell? ⟨gu,0+7,none⟩=some (.int .i64 u.h1):=b.out.2.cell 7;have z1:=b.out.2.lt
    go_wp2_with (at_mapUpdate;refine wpList_mapUpdate_own _ rfl _ _ _ 83 rfl 3 63 (int_keyed underlying3) underlying83 rdW (rb+2) n' o rfl u9.out (by unfold maxLen;omega) _ _ (.int .i64 u.num) rfl rfl i8 (.held (J4 (wtC u))) [] (q8S u) ?_;intro w7 m y;have i9:=J6 (show _/\_ from⟨m,y2D y⟩);clear m y)
    have A:Hid (∃ n' o,n'<=M+(j+1)/\TH B g rb gp n' o (fun k=>hs k || z2l (x.p.s.W.take (j+1)) k) rc rp gn w x vp d w7):=⟨n'+1,_,by omega,b.out.1.map i9.out.2 hB hw i9.out.1 ((b.out.1.hm.hd.put b.out.1.hm.own.isMap u.num u u8).congr (fun k=>by rw[i7 k,Bool.or_assoc]) (fun _ _=>rfl))⟩
    first | exact⟨⟨j+1,by omega,by go_num,A⟩,by simp[intOf];omega⟩ | ((repeat apply Exists.intro);exact⟨⟨j+1,by omega,by go_num,A⟩,rfl⟩)
   ·rw[l]at t
    have A:Hid (∃ n' o,n'<=M+(j+1)/\TH B g rb gp n' o (fun k=>hs k || z2l (x.p.s.W.take (j+1)) k) rc rp gn w x vp d (w5.alloc (J5 #[.int .i64 q.num,.int .i64 q.d,.int .i64 q.v,.int .i64 q.amt,.int .i64 q.hei,.int .i64 q.due,.int .i64 q.h0,.int .i64 q.h1] 63))):=by
     refine⟨n',o,by omega,b.out.1.pl,⟨b.out.1.hm.own,b.out.1.hm.hd.congr (fun k=>?_) (fun _ _=>rfl),b.out.1.hm.cr,b.out.1.hm.cg,b.out.1.hm.cm⟩,b.out.1.st,b.out.1.al,b.out.1.dd⟩
     rw[i7 k,<- Bool.or_assoc]
     by_cases e:u.num=k
     ·subst e;rw[l];rfl
     ·rw[decide_eq_false e,Bool.or_false]
    clear b;go_wp2
    first | exact⟨⟨j+1,by omega,by go_num,A⟩,by simp[intOf];omega⟩ | ((repeat apply Exists.intro);exact⟨⟨j+1,by omega,by go_num,A⟩,rfl⟩)
  ·have u5:¬ (j:Int)<(x.p.s.W.length:Int):=by omega
   have A:Hid (HM rb n' o (z2l x.p.s.W) rc rp gn wr):=by
    refine⟨c.out.hm.own,c.out.hm.hd.congr (fun k=>?_) (fun _ _=>rfl),c.out.hm.cr,c.out.hm.cg,c.out.hm.cm⟩;rw[List.take_of_length_le (by omega)]
    cases e:hs k
    ·rfl
    ·rw[H1.out k e];rfl
   go_wp2;go_ret;exact⟨rfl,⟨n',o,rp,by omega,u3.out,A.out⟩,c.out.st,c.out.al⟩
end Wd
namespace Go
open Go.Maps
end Go
namespace Wd
open Go.RowKit Pv Kc Go.Maps
theorem z9U(w:World){ops:Array Oper}{rest:List Oper}{o:Oper}{a:Act}{Q:Exit->Act->World->Prop}(E:o.guard=none)(k:Operand)(l:o.op=Op.next k false)(b r n:Nat)(D:DataW Value)(left:Lit->Bool)(cnt:Nat)
  (hit:a.eval k=J2 (some ⟨r,0,none⟩)) (h:w.ranges prog 3 rdW b r n D left cnt)
  (g:cnt=0->(∀ m,left m=false)->wpList prog ops Q rest (a.put o.dst (.tuple #[J3 false])) w)
  (i:∀ (x:Int) (c:Wt) (w':World) (e:Nat),left (.int .i64 x)=true->(∀ zd,D.atKey (.int .i64 x) zd=.held (J4 (wtC c)))->w'.ranges prog 3 rdW b r n D (fun z=>left z && !z.sameKey (.int .i64 x)) e->e<cnt ->
   w.grownBy w' (some r)->w'.heap.size=w.heap.size->(Instr.entry (J2 (some ⟨r,0,none⟩))).run prog w'=.ok (.tuple #[.int .i64 x,J4 #[.int .i64 c.num,.int .i64 c.d,.int .i64 c.v,.int .i64 c.amt,.int .i64 c.hei,.int .i64 c.due,.int .i64 c.h0,.int .i64 c.h1]]) w'->wpList prog ops Q rest (a.put o.dst (.tuple #[J3 true,.int .i64 x,J4 #[.int .i64 c.num,.int .i64 c.d,.int .i64 c.v,.int .i64 c.amt,.int .i64 c.hei,.int .i64 c.due,.int .i64 c.h0,.int .i64 c.h1]])) w') :
  wpList prog ops Q (o :: rest) a w:=
 wpList_next_ranges w E k l 3 (int_keyed underlying3) rdW (Value.int .i64) (fun u:Wt=>.agg (wtC u)) (fun key m f=>by obtain⟨x,rfl,_⟩:=keyOf_int_inv underlying3 f;exact⟨x,rfl⟩) (fun v y j=>q8e j) b r n D left cnt hit h g
  (fun x c m y w' e f p j q s t A B C=>by
   obtain⟨F,ex,rfl,-⟩:=keyOf_int_inv underlying3 f;cases ex;rw[q8S]at j;cases j
   exact i x c w' e p q s t A B C)
theorem y2W{g:Nat}{w wl w':World}{r:Nat}(h:Alt g w wl)(k:wl.grownBy w' (some r))(c:w.heap.size<=r):Alt g w w':=⟨k.os.trans h.os,k.tape.trans h.tape,k.output.trans h.output,Nat.le_trans h.size k.size,fun i b a=>(k.block i (Nat.lt_of_lt_of_le b h.size) (by simp;omega)).trans (h.block i b a)⟩
theorem y2Z(w:World)(a b:Int)(u:Wt)(hu:u.h0=a/\u.h1=b)(k:Nat)(c:k<2):(Instr.index 61 (J4 #[J I a,J I b]) (J I (k:Int))).run prog w=.ok (J I (z1M k u)) w:=by
 obtain⟨rfl,rfl⟩:=hu
 rcases (show k=0∨k=1 by omega) with rfl | rfl <;> kernel_rfl
theorem j9u(a b:Int):(Lit.int .i64 a).sameKey (.int .i64 b)=decide (b=a):=by
 by_cases e:b=a
 ·subst e;rw[decide_eq_true rfl]
  simp[Lit.sameKey]
 ·rw[decide_eq_false e];exact sameKey_ne (by simpa using fun q=>e q.symm)
noncomputable def y2V:Code:=q3H [1,1,1,1,1] (f15.body.getD .skip)
set_option maxRecDepth 1000000 in
theorem j6a(B g rb gp n M nb n2:Nat)(D D2:DataW Value)(W:List Wt)(rc o:Int->Wt)(rp:Nat->Int)(gn:Nat->Bool)(w:World)(x:Wo)(vp:PrV)(d:Dd)(wt:World)(X:Hid (TH B g rb gp n D (z2l W) rc rp gn w x vp d wt))(hN:NW nb n2 D2 (z2l x.p.s.W) wt)(x9:w.heap.size<=nb)(hB:rb+3<B)(hw:rb+3<w.heap.size)(hn:n<=M)(hM:M<100000)(a3:∀ k,0<=rp k)
  (P:∀ k,z2l W k=true->0<=k/\k<=1125899906842624) (A:∀ k,z2l W k=true->z2l x.p.s.W k=false->d.k=6/\(rc k).due<=x.p.t/\∀ c,c<2->z1M c (rc k)<=rp c∨gn c=true) (h1:∀ k,z2l W k=true->rc k=o k) (h2:∀ u∈x.p.s.W,z2l W u.num=false->o u.num=u)
  {v1 v2 v6 v8 v9 k6 k7 k8 k9 l0 l1 l2 l3 l4 l5 l6 l7 l8 l9 m1 m2 m3 m4 m5 m6 m7 m8 m9 n3 n4 n5 n6 n7 n8 n9 o0 o1 o2 o3 o4 o5 o6 o7 o8 o9 p9 q4 q5 q6 q7 q8 q9 r0 r3 r4 r5 r6 r7 r8 r9 s0 s1 s2 s3 s4 s5 s6 s7 s8 s9 t2 t3 t4 t5 t6 t7 t8 t9 u0 u3 u4 u5 u6 u7 u8 u9 v4 v5 v7 w3 w4 w8 w9 a4 a5 a6 a7 a8 a9 b4 b6 b7 b8 b9 c4 c5 c8 c9 d0 d1 d2 d3 d4 d5 d6 d7 d8 d9 e0 e3 e4 e5 e6 e7 e8 e9 f4 f5 f6 f7 f8 f9 g0 g1 g2 g3 g5 g6 g8 g9 h4 h5 h6 h7 h8 h9 i2 i3 i4 i5 i6 i7 i8 i9 j0:Value}:Code.wp prog y2V (bodyPost prog f15 (j1K B g rb M o gn w x)) ⟨List.toArray ((J2 (some ⟨g,0,none⟩)) :: v1 :: v2 :: (J2 (some ⟨rb+1,0,none⟩)) :: (J2 (some ⟨rb,0,none⟩)) :: (J2 (some ⟨rb+3,0,none⟩)) :: v6 :: (J2 (some ⟨w.heap.size,0,none⟩)) :: v8 :: v9 :: (J2 (some ⟨gp,0,none⟩)) :: k6 :: k7 :: k8 :: k9 :: l0 :: l1 :: (.map (some nb)) :: l2 :: l3 :: l4 :: l5 :: l6 :: l7 :: l8 :: l9 :: m1 :: m2 :: m3 :: m4 :: m5 :: m6 :: m7 :: m8 :: m9 :: n3 :: n4 :: n5 :: n6 :: n7 :: n8 :: n9 :: o0 :: o1 :: o2 :: o3 :: o4 :: o5 :: o6 :: o7 :: o8 :: o9 :: p9 :: q4 :: q5 :: q6 :: q7 :: q8 :: q9 :: r0 :: r3 :: r4 :: r5 :: r6 :: r7 :: r8 :: r9 :: s0 :: s1 :: s2 :: s3 :: s4 :: s5 :: s6 :: s7 :: s8 :: s9 :: t2 :: t3 :: t4 :: t5 :: t6 :: t7 :: t8 :: t9 :: u0 :: u3 :: u4 :: u5 :: u6 :: u7 :: u8 :: u9 :: v4 :: v5 :: v7 :: w3 :: w4 :: w8 :: w9 :: a4 :: a5 :: a6 :: a7 :: a8 :: a9 :: b4 :: b6 :: b7 :: b8 :: b9 :: c4 :: c5 :: c8 :: c9 :: d0 :: d1 :: d2 :: d3 :: d4 :: d5 :: d6 :: d7 :: d8 :: d9 :: e0 :: e3 :: e4 :: e5 :: e6 :: e7 :: e8 :: e9 :: f4 :: f5 :: f6 :: f7 :: f8 :: f9 :: g0 :: g1 :: g2 :: g3 :: g5 :: g6 :: g8 :: g9 :: h4 :: h5 :: h6 :: h7 :: h8 :: h9 :: i2 :: i3 :: i4 :: i5 :: i6 :: i7 :: i8 :: i9 :: j0 :: []),[]⟩ wt:=by
 conv=>arg 2;whnf
 refine wp_seq_k (fun K hK=>?_);have HK:Hid (∀ a w',Code.wp prog y2S (bodyPost prog f15 (j1K B g rb M o gn w x)) a w'->K a w'):=hK;have HN:=J6 hN;have HP:=J6 A;have x0:=J6 P;have HE:=J6 (show _/\_/\_ from⟨h1,h2,a3⟩);have x1:=hN.own.lt;clear hK hN A P h1 h2 a3;have m0:wt.cell? ⟨rb+3,0,none⟩=some (.map (some (rb+2))):=X.out.hm.cm.cell 0;have z2:=X.out.hm.cm.lt;have j1:=J6 X.out.hm.own
 go_upto_region 21 with (at_range;refine wpList_range_own _ rfl _ 83 rfl 3 63 (int_keyed underlying3) underlying83 rdW (rb+2) n D rfl j1.out ?_;intro w0 Q j2 x2;have H:=J6 (show _/\_ from⟨Q,j2⟩);clear Q j2 x2)
 clear m0 z2 j1
 go_frame
 obtain⟨r,hr⟩:∃ r,r=wt.heap.size:=⟨_,rfl⟩;rw[<- hr]at H ⊢;have HR:=J6 hr;clear hr
 go_loopw [102] (fun _ wl=>∃ (R:DataW Value) (left:Lit->Bool) (cnt:Nat),wl.ranges prog 3 rdW (rb+2) r n R left cnt/\Hid (HD R (fun k=>z2l W k && (left (.int .i64 k) || z2l x.p.s.W k)) rc/\(∀ k,left (.int .i64 k)=true->z2l W k=true)/\Alt (rb+2) wt wl)) (fun _ wl=>wl.rangeLeft (rb+2) r)
 case atStart =>
  have hh:=X.out.hm.hd.has_;refine⟨D,_,_,H.out.1,X.out.hm.hd.congr (fun k=>?_) (fun _ _=>rfl),fun k y=>(hh k).symm.trans y,y2W (Alt.refl _ _) (H.out.2.but (some r)) (by rw[HR.out];exact Nat.le_refl _)⟩
  rw[hh];cases z2l W k <;> rfl
 case round =>
  obtain⟨R,left,cnt,C,b⟩:=hrel;clear H
  go_wp2_with (first
   | (at_next;refine z9U _ rfl _ rfl (rb+2) r n R left cnt rfl C ?_ ?_)
   | go_in)
  ·intro _ j3;have HZ:Hid (TH B g rb gp n R (fun k=>z2l W k && z2l x.p.s.W k) o rp gn w x vp d wr):=X.out.map b.out.2.2 hB hw C.owns (b.out.1.congr (fun k=>by rw[j3,Bool.false_or]) (fun k y=>HE.out.1 k (by cases e:z2l W k;rw[e]at y;cases y;rfl)))
   clear j3 C b;go_wp2;refine HK.out _ _ (j6L B g rb gp n M R _ o rp gn w x vp d wr HZ hB hw hn hM HE.out.2.2 (fun k y=>?_) (fun u hu hh=>?_))
   ·cases e:z2l x.p.s.W k
    ·rw[e,Bool.and_false]at y;cases y
    ·rfl
   ·refine HE.out.2.1 u hu ?_;rw[(z4R _ _).2 ⟨u,hu,rfl⟩,Bool.and_true]at hh;exact hh
  ·intro q c w1 S Y j4 T j5 j6 x3 x4;have L:=b.out.2.1 q Y
   have j7:rc q=c:=by
    have Z:=b.out.1.val q (by rw[L,Y];rfl) (.held (J3 false))
    rw[j4]at Z
    injection Z with Z
    injection Z with Z
    exact (j7K Z).symm
   have j8:=y2W b.out.2.2 j6 (by rw[HR.out];exact Nat.le_refl _)
   have x5:=x0.out q L;have E:∀ k,(left (.int .i64 k) && !(Lit.int .i64 k).sameKey (.int .i64 q))=(left (.int .i64 k) && !decide (q=k)):=fun k=>by rw[j9u]
   have R5:CAt 63 (w1.alloc (J5 #[.int .i64 c.num,.int .i64 c.d,.int .i64 c.v,.int .i64 c.amt,.int .i64 c.hei,.int .i64 c.due,.int .i64 c.h0,.int .i64 c.h1] 63)) w1.heap.size #[.int .i64 c.num,.int .i64 c.d,.int .i64 c.v,.int .i64 c.amt,.int .i64 c.hei,.int .i64 c.due,.int .i64 c.h0,.int .i64 c.h1]:=CAt.new _ w1 _;have b5:Bl w1 (w1.alloc (J5 #[.int .i64 c.num,.int .i64 c.d,.int .i64 c.v,.int .i64 c.amt,.int .i64 c.hei,.int .i64 c.due,.int .i64 c.h0,.int .i64 c.h1] 63)):=znw w1 _;have U:=T.alloc (J5 #[.int .i64 c.num,.int .i64 c.d,.int .i64 c.v,.int .i64 c.amt,.int .i64 c.hei,.int .i64 c.due,.int .i64 c.h0,.int .i64 c.h1] 63);have f:=J6 (show _/\_/\_/\_ from⟨j8.trans (Alt.of b5),R5,U,b.out⟩);have j9:Hid (z2l x.p.s.W q=false->d.k=6/\c.due<=x.p.t/\∀ i,i<2->z1M i c<=rp i∨gn i=true):=fun h=>j7 ▸ HP.out q L h;have z:=J6 (show _/\_/\_ from⟨C.left_eq,E,j5⟩);clear L j7 j8 R5 b5 U C T j5 j6 x3 j4 Y b E
   go_upto_region 23 with fail
   clear x4;generalize w1.alloc (J5 #[.int .i64 c.num,.int .i64 c.d,.int .i64 c.v,.int .i64 c.amt,.int .i64 c.hei,.int .i64 c.due,.int .i64 c.h0,.int .i64 c.h1] 63)=w2 at *;generalize x6:w1.heap.size=gc at *;clear x6;have a0:=(HN.out.keep (f.out.1.block nb x1 (by omega))).look x5
   cases j:z2l x.p.s.W q
   ·obtain⟨p1,p2,p3⟩:=j9.out j;have x7:=J6 p3;rw[j]at a0;have a1:=J6 j;clear p3 j j9
    go_upto_region 24 with fail
    clear a0;have V:=J6 (X.out.map f.out.1 hB hw f.out.2.2.1.owns f.out.2.2.2.1);have c1:w2.cell? ⟨gp,1,none⟩=some (.int .i64 x.p.t):=V.out.pl.1.cell 1;have c2:w2.cell? ⟨gc,5,none⟩=some (.int .i64 c.due):=f.out.2.1.cell 5;have c3:w2.cell? ⟨w.heap.size,0,none⟩=some (.int .i64 d.k):=V.out.dd.cell 0;rw[p1]at c3;have z1:=V.out.pl.lt;have z2:=f.out.2.1.lt;have z3:=V.out.dd.lt;have q2:¬ x.p.t<c.due:=by omega
    have c6:w2.cell? ⟨gc,6,none⟩=some (.int .i64 c.h0):=f.out.2.1.cell 6;have c7:w2.cell? ⟨gc,6+1,none⟩=some (.int .i64 c.h1):=f.out.2.1.cell 7
    go_upto_region 27 with fail
    clear c1 c2 c3 z1 z2 z3 q2 c6 c7
    go_loopw [122] (fun i wl=>∃ (m:Nat),m<=2/\i=.int .i64 (m:Int)/\Hid (Bl w2 wl)) (fun i _=>2 - (intOf i).toNat)
    case atStart=>exact⟨0,by omega,rfl,Below.refl _ _⟩
    case round =>
     obtain⟨m,hm,rfl,l⟩:=hrel
     by_cases a2:m<2
     ·have y1:(m:Int)<2:=by omega
      have y2:(0:Int)<=(m:Int):=by omega
      have y3:=fun wx=>y2Z wx c.h0 c.h1 c ⟨rfl,rfl⟩ m a2;obtain⟨Z,e2⟩:=(V.out.hm.over l.out).cell a2;have z1:=(V.out.hm.over l.out).cr.lt;have z2:=(V.out.hm.over l.out).cg.lt;have ho:=x7.out m a2;generalize z1M m c=hh at *
      rcases Decidable.em (hh<=rp m) with q1 | q1
      ·have q2:¬ rp m<hh:=by omega
       go_wp2
       first | exact⟨⟨m+1,by omega,by go_num,l⟩,by simp[intOf];omega⟩ | ((repeat apply Exists.intro);exact⟨⟨m+1,by omega,by go_num,l⟩,rfl⟩)
      ·rw[ho.resolve_left q1]at e2;have q2:rp m<hh:=by omega
       clear ho;go_wp2
       first | exact⟨⟨m+1,by omega,by go_num,l⟩,by simp[intOf];omega⟩ | ((repeat apply Exists.intro);exact⟨⟨m+1,by omega,by go_num,l⟩,rfl⟩)
     ·obtain rfl:m=2:=by omega
      have T3:=J6 (V.out.over l.out);have k2:=f.out.2.2.1.kept (w':=wr) (row:=none) ⟨l.out.os,l.out.tape,l.out.output,l.out.size,fun i hi _=>l.out.block i hi⟩ (by simp) (by simp)
      have m0:wr.cell? ⟨rb+3,0,none⟩=some (.map (some (rb+2))):=T3.out.hm.cm.cell 0;have z2:=T3.out.hm.cm.lt;have x8:=J6 (f.out.1.trans (Alt.of l.out));have k3:=j4B (a:=q) (by omega)
      go_wp2_with (at_delete;refine wpList_delete_ranges _ rfl _ _ 83 3 rfl 63 (int_keyed underlying3) underlying83 rdW (rb+2) r n R _ S rfl k2 _ _ rfl k3 ?_;intro w7 k4 F k5 G;rw[strike_twice]at F;have N:=J6 (show _/\_/\_ from⟨F,k5,y2D G.grown⟩);clear F k5 G;go_frame)
      go_roundw
      case rel =>
       refine⟨_,_,k4,N.out.1,(f.out.2.2.2.1.del q).congr (fun k=>?_) (fun _ _=>rfl),fun k y=>f.out.2.2.2.2.1 k (by cases e:left (.int .i64 k);rw[e]at y;cases y;rfl),x8.out.trans N.out.2.2⟩
       rw[z.out.2.1]
       by_cases e:q=k
       ·subst e;rw[a1.out,decide_eq_true rfl]
        simp
       ·rw[decide_eq_false e]
        simp
      case measure=>rw[N.out.1.left_eq,z.out.1];have:=N.out.2.1;have:=z.out.2.2;omega
   ·rw[j]at a0;have a1:=J6 j;clear j;go_wp2;go_roundw
    case rel =>
     refine⟨R,_,S,f.out.2.2.1,f.out.2.2.2.1.congr (fun k=>?_) (fun _ _=>rfl),fun k y=>f.out.2.2.2.2.1 k (by cases e:left (.int .i64 k);rw[e]at y;cases y;rfl),f.out.1⟩
     rw[z.out.2.1]
     by_cases e:q=k
     ·subst e;rw[a1.out,decide_eq_true rfl]
      simp
     ·rw[decide_eq_false e]
      simp
    case measure=>rw[f.out.2.2.1.left_eq,z.out.1];exact z.out.2.2
end Wd
namespace Wd
open Go.RowKit Pv Kc Go.Maps
theorem bel_eq{n:Nat}{w w':World}(h:n=w.heap.size)(b:Below n w w'):Bl w w':=by
 subst h;exact b
noncomputable def y2I:Code:=q3H [1,1,1] (f15.body.getD .skip)
set_option maxRecDepth 1000000 in
theorem j5U(B g rb gp n M:Nat)(D:DataW Value)(W:List Wt)(rc o:Int->Wt)(rp:Nat->Int)(gn:Nat->Bool)(w:World)(x:Wo)(vp:PrV)(d:Dd)(wt:World)(E:Hid (TH B g rb gp n D (z2l W) rc rp gn w x vp d wt))(hB:rb+3<B)(hw:rb+3<w.heap.size)(hn:n<=M)(hM:M<100000)(N:∀ k,0<=rp k)
  (F:∀ k,z2l W k=true->0<=k/\k<=1125899906842624) (q:∀ k,z2l W k=true->z2l x.p.s.W k=false->d.k=6/\(rc k).due<=x.p.t/\∀ c,c<2->z1M c (rc k)<=rp c∨gn c=true) (h1:∀ k,z2l W k=true->rc k=o k) (h2:∀ u∈x.p.s.W,z2l W u.num=false->o u.num=u)
  {v1 v2 v6 v8 v9 i9 j0 j1 j2 j3 j4 j5 j6 j7 j8 j9 k2 k3 k4 k5 k6 k7 k8 k9 l0 l1 l2 l3 l4 l5 l6 l7 l8 l9 m0 m1 m2 m3 m4 m5 m6 m7 m8 m9 n3 n4 n5 n6 n7 n8 n9 o0 o1 o2 o3 o4 o5 o6 o7 o8 o9 p9 q4 q5 q6 q7 q8 q9 r0 r3 r4 r5 r6 r7 r8 r9 s0 s1 s2 s3 s4 s5 s6 s7 s8 s9 t2 t3 t4 t5 t6 t7 t8 t9 P Q R S U V X Y Z a1 a2 a3 a4 a5 a6 a7 a8 a9 b4 b6 b7 b8 b9 c4 c5 c6 c7 c8 c9 d8 d9 e0 e1 e2 e3 e4 e5 e6 e7 e8 e9 f4 f5 f6 f7 f8 f9 g0 g1 g2 g3 g5 g6 g8 g9 h4 h5 h6 h7 h8 h9 i2:Value}:Code.wp prog y2I (bodyPost prog f15 (j1K B g rb M o gn w x)) ⟨List.toArray ((J2 (some ⟨g,0,none⟩)) :: v1 :: v2 :: (J2 (some ⟨rb+1,0,none⟩)) :: (J2 (some ⟨rb,0,none⟩)) :: (J2 (some ⟨rb+3,0,none⟩)) :: v6 :: (J2 (some ⟨w.heap.size,0,none⟩)) :: v8 :: v9 :: (J2 (some ⟨gp,0,none⟩)) :: i9 :: j0 :: j1 :: j2 :: j3 :: j4 :: j5 :: j6 :: j7 :: j8 :: j9 :: k2 :: k3 :: k4 :: k5 :: k6 :: k7 :: k8 :: k9 :: l0 :: l1 :: l2 :: l3 :: l4 :: l5 :: l6 :: l7 :: l8 :: l9 :: m0 :: m1 :: m2 :: m3 :: m4 :: m5 :: m6 :: m7 :: m8 :: m9 :: n3 :: n4 :: n5 :: n6 :: n7 :: n8 :: n9 :: o0 :: o1 :: o2 :: o3 :: o4 :: o5 :: o6 :: o7 :: o8 :: o9 :: p9 :: q4 :: q5 :: q6 :: q7 :: q8 :: q9 :: r0 :: r3 :: r4 :: r5 :: r6 :: r7 :: r8 :: r9 :: s0 :: s1 :: s2 :: s3 :: s4 :: s5 :: s6 :: s7 :: s8 :: s9 :: t2 :: t3 :: t4 :: t5 :: t6 :: t7 :: t8 :: t9 :: P :: Q :: R :: S :: U :: V :: X :: Y :: Z :: a1 :: a2 :: a3 :: a4 :: a5 :: a6 :: a7 :: a8 :: a9 :: b4 :: b6 :: b7 :: b8 :: b9 :: c4 :: c5 :: c6 :: c7 :: c8 :: c9 :: d8 :: d9 :: e0 :: e1 :: e2 :: e3 :: e4 :: e5 :: e6 :: e7 :: e8 :: e9 :: f4 :: f5 :: f6 :: f7 :: f8 :: f9 :: g0 :: g1 :: g2 :: g3 :: g5 :: g6 :: g8 :: g9 :: h4 :: h5 :: h6 :: h7 :: h8 :: h9 :: i2 :: []),[]⟩ wt:=by
 conv=>arg 2;whnf
 have HL:=J6 (fun nb m A wx (T:Hid (TH B g rb gp n D (z2l W) rc rp gn w x vp d wx)) (hN:NW nb m A (z2l x.p.s.W) wx) (r:w.heap.size<=nb)=>@j6a B g rb gp n M nb m D A W rc o rp gn w x vp d wx T hN r hB hw hn hM N F q h1 h2);clear N F q h1 h2;have C:=E.out.st.inv.gp.s;have HV:=J6 (fun u (hu:u∈x.p.s.W)=>z2N ((z0h _).1 C).2.2.2.2.1 u hu);have v5:=((z0h _).1 C).2.2.1;have v7:x.p.s.W.length<=60:=((z0h _).1 C).2.2.2.1;have u0:=@run_makeMap prog;have w2:=E.out.al.size;obtain⟨nb,r⟩:∃ nb,nb=wt.heap.size:=⟨_,rfl⟩;have b0:Below nb wt (wt.alloc (.map #[] 0)):=(Below.refl nb wt).alloc (by omega) _
 have N0:NW nb 0 (.map []) (fun _=>false) (wt.alloc (.map #[] 0)):=by rw[r];exact⟨World.ownsMap_made wt prog 3 rdM,fun _=>rfl,fun _ h=>by cases h⟩
 have u3:w.heap.size<=nb:=by omega
 have b:=J6 r;have e:=J6 (show _/\_ from⟨b0,N0⟩);clear C b0 N0 r;refine wp_seq_k (fun K0 i3=>?_);have i4:=J6 i3;clear i3;go_wp2;refine i4.out _ _ ?_;clear i4 u0;generalize wt.alloc (.map #[] 0)=w1 at *;rw[<- b.out];refine wp_seq_k (fun K hK=>?_);have HK:Hid (∀ a w',Code.wp prog y2V (bodyPost prog f15 (j1K B g rb M o gn w x)) a w'->K a w'):=hK;clear hK;obtain⟨Aw,Cw,bw,ow,H,Ws,-,-⟩:=(E.out.over (bel_eq b.out e.out.1)).pl.2.1.ws.q0q;clear Ws;have i5:w1.cell? ⟨gp,63,none⟩=some vp.ws:=(E.out.over (bel_eq b.out e.out.1)).pl.1.cell 63;rw[H]at i5;have zp:=(E.out.over (bel_eq b.out e.out.1)).pl.lt
 go_upto_region 16 with fail
 clear i5 zp;have zn:=e.out.2.own.lt
 go_loopw [92] (fun i wl=>∃ (j:Nat),j<=x.p.s.W.length/\i=.int .i64 (j:Int)/\Hid (Below nb wt wl/\∃ m A,m<=j/\NW nb m A (z2l (x.p.s.W.take j)) wl)) (fun i _=>x.p.s.W.length - (intOf i).toNat)
 case atStart=>exact⟨0,Nat.zero_le _,rfl,e.out.1,0,_,Nat.le_refl _,e.out.2⟩
 case round =>
  obtain⟨j,hj,rfl,i6⟩:=hrel;clear e;obtain⟨bj,m,A,w3,Nj⟩:=i6.out;have f:=J6 bj;have y:=J6 Nj;clear bj Nj i6
  by_cases u4:j<x.p.s.W.length
  ·have u5:(j:Int)<(x.p.s.W.length:Int):=by omega
   have w4:(0:Int)<=(j:Int):=by omega
   obtain⟨u,hu,-⟩:=drop_at u4;have w8:=HV.out u (List.mem_of_getElem? hu);obtain⟨A',C',b',o',e',Ws,-,-⟩:=(E.out.over (bel_eq b.out f.out)).pl.2.1.ws.q0q;rw[H]at e';cases e';have u6:=Ws.adr (by omega)
   subst u6;obtain⟨d0,d1,d2,d3,d4,d5,d6,d7⟩:=Ws.cell j u hu;clear Ws H;have u7:=q0V _ _ _ hu;have v4:=f.out.size;have R5:CAt 63 (wr.alloc (J5 #[.int .i64 u.num,.int .i64 u.d,.int .i64 u.v,.int .i64 u.amt,.int .i64 u.hei,.int .i64 u.due,.int .i64 u.h0,.int .i64 u.h1] 63)) wr.heap.size #[.int .i64 u.num,.int .i64 u.d,.int .i64 u.v,.int .i64 u.amt,.int .i64 u.hei,.int .i64 u.due,.int .i64 u.h0,.int .i64 u.h1]:=CAt.new _ wr _;have b5:Bl wr (wr.alloc (J5 #[.int .i64 u.num,.int .i64 u.d,.int .i64 u.v,.int .i64 u.amt,.int .i64 u.hei,.int .i64 u.due,.int .i64 u.h0,.int .i64 u.h1] 63)):=znw wr _;have l:=J6 (show _/\_/\_ from⟨f.out.trans (b5.mono (by have:=b.out;omega)),y.out.keep (b5.block _ y.out.own.lt),R5⟩)
   clear R5 b5 f y
   go_upto_region 18 with fail
   clear d0 d1 d2 d3 d4 d5 d6 d7;generalize wr.alloc (J5 #[.int .i64 u.num,.int .i64 u.d,.int .i64 u.v,.int .i64 u.amt,.int .i64 u.hei,.int .i64 u.due,.int .i64 u.h0,.int .i64 u.h1] 63)=w5 at *;generalize u8:wr.heap.size=gu at *;clear u8;have a0:w5.cell? ⟨gu,0,none⟩=some (.int .i64 u.num):=l.out.2.2.cell 0;have z1:=l.out.2.2.lt;have u9:=J6 l.out.2.1.own;have i7:=j4B (a:=u.num) (by omega)
   go_wp2_with (at_mapUpdate;refine wpList_mapUpdate_own _ rfl _ _ _ 86 rfl 3 4 (int_keyed underlying3) underlying86 rdM nb m A rfl u9.out (by unfold maxLen;omega) _ _ (.int .i64 u.num) rfl rfl i7 (.held (J3 true)) [] rfl ?_;intro w7 z G;have i8:=J6 (show _/\_ from⟨z,G⟩);clear z G)
   have HZ:Hid (Below nb wt w7/\∃ m A,m<=j+1/\NW nb m A (z2l (x.p.s.W.take (j+1))) w7):=⟨l.out.1.grown i8.out.2 (by have:=l.out.1.size;have:=b.out;omega) (fun i hi=>by cases hi;exact Nat.le_refl _),m+1,_,by omega,(by have h:=l.out.2.1.put i8.out.1;rw[show (fun i=>z2l (x.p.s.W.take j) i || decide (u.num=i))=z2l (x.p.s.W.take (j+1)) from funext fun k=>(u7 k).symm]at h;exact h)⟩
   first | exact⟨⟨j+1,by omega,by go_num,HZ⟩,by simp[intOf];omega⟩ | ((repeat apply Exists.intro);exact⟨⟨j+1,by omega,by go_num,HZ⟩,rfl⟩)
  ·have u5:¬ (j:Int)<(x.p.s.W.length:Int):=by omega
   have L:=y.out;rw[List.take_of_length_le (by omega)]at L
   have HZ:=J6 (show _/\_ from⟨E.out.over (bel_eq b.out f.out),L⟩);clear L y f E;go_wp2;exact HK.out _ _ (HL.out nb m A wr HZ.out.1 HZ.out.2 u3)
end Wd
namespace Wd
open Go.RowKit Pv Kc Go.Maps
def rpc(E k i r:Int):Int:=if E=0/\k=2 then (if r<i then i else r) else r
theorem j4V(E k i r:Int):r<=rpc E k i r/\(E=0->k=2->i<=rpc E k i r):=by
 unfold rpc
 by_cases h:E=0/\k=2
 ·rw[if_pos h]
  split <;> omega
 ·rw[if_neg h];exact⟨Int.le_refl _,fun a b=>absurd ⟨a,b⟩ h⟩
theorem q2B{f:Int->ByteArray->Int}(a:∀ r s,r<=f r s):∀ (S:List ByteArray) (r:Int),r<=S.foldl f r
 | [],_=>Int.le_refl _
 | s :: S,r=>Int.le_trans (a r s) (q2B a S (f r s))
theorem q3T{f:Int->ByteArray->Int}(a:∀ r s,r<=f r s):∀ (S:List ByteArray) (r i:Int) (s:ByteArray),s∈S->(∀ r,i<=f r s)->i<=S.foldl f r
 | [],_,_,_,h,_=>by cases h
 | t :: S,r,i,s,h,hi=>by
  rcases List.mem_cons.1 h with rfl | h
  ·exact Int.le_trans (hi r) (q2B a S _)
  ·exact q3T a S (f r t) i s h hi
def rp1(r:Int)(s:ByteArray):Int:=rpc (Cd.z4x (Cd.bs s)) (z0X (Cd.bs s)).k (z0X (Cd.bs s)).i r
theorem j4y(r:Int)(s:ByteArray):r<=rp1 r s:=by
 unfold rp1;exact (j4V _ _ _ _).1
def j9X(f:Int->ByteArray->Int)(r:Int)(S:List ByteArray):Int:=S.foldl f r
def z8A:Int->List ByteArray->Int:=j9X rp1
theorem j0f(S:List ByteArray)(r:Int):r<=z8A r S:=by
 unfold z8A j9X;exact q2B j4y S r
theorem j1G(S:List ByteArray)(r:Int)(s:ByteArray)(h:s∈S)(h1:Cd.z4x (Cd.bs s)=0)(h2:(z0X (Cd.bs s)).k=2):(z0X (Cd.bs s)).i<=z8A r S:=by
 unfold z8A j9X;refine q3T j4y S r _ s h fun r=>?_;unfold rp1;exact (j4V _ _ _ _).2 h1 h2
theorem q7W(S:List ByteArray)(r:Int)(m:Nat)(s:ByteArray)(h:S[m]?=some s):z8A r (S.take (m+1))=rp1 (z8A r (S.take m)) s:=by
 unfold z8A;generalize rp1=f;unfold j9X;rw[List.take_add_one,h,List.foldl_append];rfl
def rpK(x:Wo)(rp:Nat->Int)(k i:Nat):Int:=if i<k then z8A (rp i) ((x.c i).out.S.take (x.c i).out.g.toNat) else rp i
def gnK(x:Wo)(gn:Nat->Bool)(k i:Nat):Bool:=if i<k then gn i || (x.p.L i).gone else gn i
theorem j9g(x:Wo)(rp:Nat->Int)(k:Nat):upN (rpK x rp k) k (z8A (rp k) ((x.c k).out.S.take (x.c k).out.g.toNat))=rpK x rp (k+1):=by
 funext i
 unfold upN rpK
 by_cases e:i=k
 ·subst e;rw[if_pos rfl,if_pos (by omega)]
 ·rw[if_neg e]
  by_cases q:i<k
  ·rw[if_pos q,if_pos (by omega)]
  ·rw[if_neg q,if_neg (by omega)]
theorem y2E(x:Wo)(rp:Nat->Int)(k:Nat)(S:List ByteArray):upN (rpK x rp k) k (z8A (rp k) (S.take 0))=rpK x rp k:=by
 funext i
 unfold upN
 by_cases e:i=k
 ·subst e;rw[if_pos rfl];unfold rpK;rw[if_neg (by omega),List.take_zero]
  unfold z8A j9X;rfl
 ·rw[if_neg e]
theorem j9D(x:Wo)(gn:Nat->Bool)(k:Nat):upN (gnK x gn k) k (gn k || (x.p.L k).gone)=gnK x gn (k+1):=by
 funext i
 unfold upN gnK
 by_cases e:i=k
 ·subst e;rw[if_pos rfl,if_pos (by omega)]
 ·rw[if_neg e]
  by_cases q:i<k
  ·rw[if_pos q,if_pos (by omega)]
  ·rw[if_neg q,if_neg (by omega)]
theorem j6J{s:ByteArray}(hs:s.size<=100)(w:World):Calls prog 16 #[.string s] w fun e w'=>∃ A n C a b c,e=.returned (.tuple #[J4 #[J I (z0X (Cd.bs s)).k,J I (z0X (Cd.bs s)).i,J I (z0X (Cd.bs s)).v,J I (z0X (Cd.bs s)).n,J1 A n C,J1 a b c],J I (Cd.z4x (Cd.bs s))])/\Bl w w':=by
 refine (Cd.z6X s w (by unfold maxLen;omega)).mono ?_
 rintro e w'⟨sa,da,cs,cd,sb,so,db,dO,rfl,f,d,hb⟩;unfold z0X;generalize Cd.z2w (Cd.bs s)=R at *;generalize Cd.z4x (Cd.bs s)=E at *;exact⟨_,_,_,_,_,_,rfl,hb⟩
theorem j8R{w:World}{b:Nat}{p:Pr}{v:PrV}(h:CAt 58 w b (prC p v)):w.rangeAt b 66 (lkL (p.L 0) (v.l 0) ++ lkL (p.L 1) (v.l 1)):=h.part fun j x a=>by
 have d:j<28:=(List.getElem?_eq_some_iff.1 a).1
 by_cases c:j<14
 ·rw[List.getElem?_append_left (by exact c)]at a
  have:=z4o (p:=p) (v:=v) 0 (by omega) j c
  rw[Nat.zero_mul,Nat.add_zero]at this;rw[this];exact a
 ·obtain⟨i,rfl⟩:∃ i,j=14+i:=⟨j - 14,by omega⟩
  rw[List.getElem?_append_right (by show 14<=_;omega)]at a
  have e:14+i - (lkL (p.L 0) (v.l 0)).length=i:=by show 14+i - 14=i;omega
  rw[e]at a;have:=z4o (p:=p) (v:=v) 1 (by omega) i (by omega)
  rw[show 66+1 * 14+i=66+(14+i) by omega]at this
  rw[this];exact a
theorem j8n:(prog.info? 53).map (·.size)=some 28:=by kernel_rfl
theorem j7x{w:World}{b:Nat}{p:Pr}{v:PrV}(h:CAt 58 w b (prC p v)):(j4u (J2 (some ⟨b,66,none⟩))).run prog w=.ok (J4 (lkL (p.L 0) (v.l 0) ++ lkL (p.L 1) (v.l 1)).toArray) w:=
 run_loadAt_mid (P:=prog) w b 66 53 _ _ (j8R h) underlying53 rfl (by rw[j8n];rfl)
theorem y1H(x a:Lk)(u b:LkV)(w:World):(Instr.index 53 (J4 (lkL x u ++ lkL a b).toArray) (J I 0)).run prog w=.ok (J4 (lkL x u).toArray) w:=by kernel_rfl
theorem y2s(x a:Lk)(u b:LkV)(w:World):(Instr.index 53 (J4 (lkL x u ++ lkL a b).toArray) (J I 1)).run prog w=.ok (J4 (lkL a b).toArray) w:=by kernel_rfl
theorem y3a(L:Nat->Lk)(l:Nat->LkV)(k:Nat)(a:k<2)(w:World):(Instr.index 53 (J4 (lkL (L 0) (l 0) ++ lkL (L 1) (l 1)).toArray) (J I (k:Int))).run prog w=.ok (J4 (lkL (L k) (l k)).toArray) w:=by
 rcases (show k=0∨k=1 by omega) with rfl | rfl
 ·exact y1H _ _ _ _ w
 ·exact y2s _ _ _ _ w
def y1t:Array Value:=#[J3 false,J3 false,J I 0,J1 none 0 0,J3 false,J1 none 0 0,J1 none 0 0,J1 none 0 0,J I 0,J3 false,J I 0,J I 0,J I 0,J I 0]
theorem j4f{P:Nat->Prop}{a:World}{x:Lk}{u:LkV}(h:z5M P a x u):∃ b,(q3a (J2 (some ⟨a.heap.size,0,none⟩)) (J4 (lkL x u).toArray)).run prog (a.alloc (J5 y1t 52))=.ok () b/\CAt 52 b a.heap.size (lkL x u).toArray/\Bl a b:=
 ⟨_,y2o ((CAt.new 52 a y1t).there 0 _ (by show 0+14<=14;omega)) rfl (List.all_eq_true.2 (q8X h)),(CAt.new 52 a y1t).z0L (ds:=(lkL x u).toArray) rfl,z0b (Nat.le_refl _) _ _ _ (znw a _)⟩
theorem j2g{w:World}{u1 u2:Value}{g:Int}{cl:Bool}(h:(#[u1,u2,J I g,J3 cl]:Array Value).all (·.oneCell')=true):∃ wa,(z3Q (J2 (some ⟨w.heap.size,0,none⟩)) (J4 #[u1,u2,J I g,J3 cl])).run prog (w.alloc (J5 Z4' 48))=.ok () wa/\CAt 48 wa w.heap.size #[u1,u2,J I g,J3 cl]/\Bl w wa:=by
 have R0:=CAt.new 48 w Z4';exact⟨_,run_storeAt_mid (P:=prog) _ _ 0 48 #[u1,u2,J I g,J3 cl] (R0.there 0 _ (Nat.le_refl _)) (by rw[z4L];rfl) h,R0.z0L rfl,z0b (Nat.le_refl _) _ _ _ (znw w _)⟩
theorem j9R(c:Cs)(v:CsV)(w:World):(Instr.field 75 (J4 (csC c v)) 9).run prog w=.ok (J4 #[v.said,v.due,J I c.out.g,J3 c.out.cl]) w:=by kernel_rfl
theorem LL.over{N gl:Nat}{v:CsV}{S:List ByteArray}{g:Int}{cl:Bool}{wl w':World}(h:LL N gl v S g cl wl)(hb:Bl wl w'):LL N gl v S g cl w':=⟨h.1,h.2.1.over hb,h.2.2.over hb⟩
theorem LL.alt{N gl b:Nat}{v:CsV}{S:List ByteArray}{g:Int}{cl:Bool}{wl w':World}(h:LL N gl v S g cl wl)(a:Alt b wl w')(hb:b<N):LL N gl v S g cl w':=⟨h.1,a.cat (by have:=h.1;omega) h.2.1,h.2.2.keep fun c hc d=>a.block c d (by omega)⟩
noncomputable def y2L:Code:=q3H [1,1] (f15.body.getD .skip)
attribute [local go_sem ↓] q8T z9x z2E
set_option maxRecDepth 1000000 in
theorem j7v(B g rb gp n M:Nat)(D:DataW Value)(W:List Wt)(rc y:Int->Wt)(rp:Nat->Int)(gn:Nat->Bool)(w:World)(x:Wo)(vp:PrV)(d:Dd)(wt:World)(HT:Hid (TH B g rb gp n D (z2l W) rc rp gn w x vp d wt))(hB:rb+3<B)(hw:rb+3<w.heap.size)(hn:n<=M)(hM:M<100000)(a1:∀ k,0<=rp k)
  (H:∀ k,z2l W k=true->0<=k/\k<=1125899906842624) (z:∀ k,z2l W k=true->z2l x.p.s.W k=false->d.k=6/\(rc k).due<=x.p.t/\∀ c,c<2->z1M c (rc k)<=rpK x rp 2 c∨gnK x gn 2 c=true) (h1:∀ k,z2l W k=true->rc k=y k) (h2:∀ u∈x.p.s.W,z2l W u.num=false->y u.num=u)
  {v1 v2 v6 v8 v9 j7 j8 j9 k2 k3 k4 k5 k6 k7 k8 k9 l0 l1 l2 l3 l4 l5 l6 l7 l8 l9 m0 m1 m2 m3 m4 m5 m6 m7 m8 m9 n2 n3 n4 n5 n8 n9 o0 o1 o2 o3 o4 o5 o6 o7 o8 o9 p9 q4 q5 q6 q7 q8 q9 r0 r3 r4 r5 r6 r7 r8 r9 s0 s1 s2 s4 s5 s6 s8 s9 t2 t3 t4 t5 t6 t7 t8 t9 u0 u3 u4 u5 u6 u7 u8 u9 v4 v5 v7 a3 a4 a5 a6 a7 a8 a9 b4 b5 c4 c5 c6 c7 c8 c9 d0 d1 d2 d3 d4 d5 d6 d7 d8 d9 e0 e1 e2 e3 e4 e5 e6 e7 e8 e9 f4 f5 f6 f7 f8 g0 g1 g2 g3 g5 g6 g8 g9 h4 h5 h6 h7 h8 h9 i2 i3 i4 i5 i6 i7 i8 i9:Value}:Code.wp prog y2L (bodyPost prog f15 (j1K B g rb M y (gnK x gn 2) w x)) ⟨List.toArray ((J2 (some ⟨g,0,none⟩)) :: v1 :: v2 :: (J2 (some ⟨rb+1,0,none⟩)) :: (J2 (some ⟨rb,0,none⟩)) :: (J2 (some ⟨rb+3,0,none⟩)) :: v6 :: (J2 (some ⟨w.heap.size,0,none⟩)) :: v8 :: v9 :: (J2 (some ⟨gp,0,none⟩)) :: j7 :: j8 :: j9 :: k2 :: k3 :: k4 :: k5 :: k6 :: k7 :: k8 :: k9 :: l0 :: l1 :: l2 :: l3 :: l4 :: l5 :: l6 :: l7 :: l8 :: l9 :: m0 :: m1 :: m2 :: m3 :: m4 :: m5 :: m6 :: m7 :: m8 :: m9 :: n2 :: n3 :: n4 :: n5 :: n8 :: n9 :: o0 :: o1 :: o2 :: o3 :: o4 :: o5 :: o6 :: o7 :: o8 :: o9 :: p9 :: q4 :: q5 :: q6 :: q7 :: q8 :: q9 :: r0 :: r3 :: r4 :: r5 :: r6 :: r7 :: r8 :: r9 :: s0 :: s1 :: s2 :: s4 :: s5 :: s6 :: s8 :: s9 :: t2 :: t3 :: t4 :: t5 :: t6 :: t7 :: t8 :: t9 :: u0 :: u3 :: u4 :: u5 :: u6 :: u7 :: u8 :: u9 :: v4 :: v5 :: v7 :: a3 :: a4 :: a5 :: a6 :: a7 :: a8 :: a9 :: b4 :: b5 :: c4 :: c5 :: c6 :: c7 :: c8 :: c9 :: d0 :: d1 :: d2 :: d3 :: d4 :: d5 :: d6 :: d7 :: d8 :: d9 :: e0 :: e1 :: e2 :: e3 :: e4 :: e5 :: e6 :: e7 :: e8 :: e9 :: f4 :: f5 :: f6 :: f7 :: f8 :: g0 :: g1 :: g2 :: g3 :: g5 :: g6 :: g8 :: g9 :: h4 :: h5 :: h6 :: h7 :: h8 :: h9 :: i2 :: i3 :: i4 :: i5 :: i6 :: i7 :: i8 :: i9 :: []),[]⟩ wt:=by
 conv=>arg 2;whnf
 have HL:=J6 (fun N (T:Hid (TH B g rb gp n D (z2l W) rc (rpK x rp 2) (gnK x gn 2) w x vp d N))=>@j5U B g rb gp n M D W rc y (rpK x rp 2) (gnK x gn 2) w x vp d N T hB hw hn hM (fun k=>by unfold rpK;split;exact Int.le_trans (a1 k) (j0f _ _);exact a1 k) H z h1 h2)
 clear H z h1 h2;refine wp_seq_k (fun K hK=>?_);have HK:Hid (∀ a w',Code.wp prog y2I (bodyPost prog f15 (j1K B g rb M y (gnK x gn 2) w x)) a w'->K a w'):=hK;clear hK;have ll:=j7x HT.out.pl.1;have zp:=HT.out.pl.lt
 go_upto_region 3 with fail
 clear ll zp
 go_loopw [32] (fun i wl=>∃ (k:Nat),k<=2/\i=.int .i64 (k:Int)/\Hid (TH B g rb gp n D (z2l W) rc (rpK x rp k) (gnK x gn k) w x vp d wl)) (fun i _=>2 - (intOf i).toNat)
 case atStart=>exact⟨0,by omega,rfl,HT⟩
 case round =>
  obtain⟨k,hk,rfl,C⟩:=hrel;clear HT
  by_cases h:k<2
  ·have x4:(k:Int)<2:=by omega
   have hk0:(0:Int)<=(k:Int):=by omega
   have w2:=fun N=>y3a x.p.L vp.l k h N;obtain⟨w3,s3,R3,b3⟩:=j4f (C.out.pl.2.1.lk k h);unfold y1t at s3;have o:=J6 (show _/\_ from⟨C.out.over b3,R3⟩);clear b3 R3 C
   go_upto_region 5 with fail
   clear w2 s3;generalize w4:wr.heap.size=gk at *;clear w4;have c1:w3.cell? ⟨gk,1,none⟩=some (J3 (x.p.L k).gone):=o.out.2.cell 1;have zk:=o.out.2.lt;obtain⟨-,c2⟩:=o.out.1.hm.cell h;have j0:gnK x gn k k=gn k:=by unfold gnK;rw[if_neg (by omega)]
   rw[j0]at c2;have zg:=o.out.1.hm.cg.lt;have fg:=o.out.1.hm.cg.free k;have f:=J6 (o.out.1.gon hB hw h (gn k || (x.p.L k).gone))
   rw[j9D]at f;clear o j0;have U:=J6 (show _/\_ from⟨(z1A _).1 (f.out.st.inv.gc k h).out,f.out.st.inv.sc k h⟩);obtain⟨A,V⟩:∃ A:Nat,(x.c k).out.g=(A:Int):=⟨_,(Int.toNat_of_nonneg U.out.1.2.2.2.1).symm⟩;have x5:A<=(x.c k).out.S.length:=by have:=U.out.1.2.2.2.2;omega
   have j1:=J6 (j9g x rp k);have x0:=J6 V;rw[V,Int.toNat_natCast]at j1;clear V;cases hg:gn k;rw[hg]at c2 f;rw[Bool.false_or]at f
   go_upto_region 6 with fail
   generalize w3.setCell ⟨rb+1,k,none⟩ (J3 (x.p.L k).gone)=w5 at *
   rotate_left
   rw[hg]at c2 f;rw[Bool.true_or]at f
   go_upto_region 6 with fail
   generalize w3.setCell ⟨rb+1,k,none⟩ (J3 true)=w5 at *
   all_goals
    clear c1 zk c2 zg fg hg;have HC:=J6 (z6e B g x w5 k h f.out.st)
    go_upto_region 8 with (go_at_call 13;refine HC.out.mono ?_;rintro e w6⟨vc,rfl,I6,b6⟩;have f9:=fun N=>j9R (x.c k) vc N;obtain⟨w7,s7,R7,b7⟩:=j2g (w:=w6) (z3r I6.said I6.due (x.c k).out.g (x.c k).out.cl);unfold Z4' at s7;have j2:=zbt b6 b7;have H7:Hid (TH B g rb gp n D (z2l W) rc (rpK x rp k) (gnK x gn (k+1)) w x vp d w7/\LL w.heap.size w6.heap.size vc (x.c k).out.S (x.c k).out.g (x.c k).out.cl w7):=⟨f.out.over j2,Nat.le_trans f.out.al.size b6.size,R7,(I6.said.mono fun b _ hb=>by have:=f.out.al.size;omega).over b7⟩;clear I6 b6 R7 b7 j2)
    clear f9 s7 HC f;generalize x2:w6.heap.size=gl at *;clear x2;rw[x0.out]at H7
    go_loopw [14] (fun i wl=>∃ (m:Nat),m<=A/\i=.int .i64 (m:Int)/\Hid (TH B g rb gp n D (z2l W) rc (upN (rpK x rp k) k (z8A (rp k) ((x.c k).out.S.take m))) (gnK x gn (k+1)) w x vp d wl/\LL w.heap.size gl vc (x.c k).out.S (A:Int) (x.c k).out.cl wl)) (fun i _=>A - (intOf i).toNat)
    case atStart=>exact⟨0,Nat.zero_le _,rfl,J6 (by rw[y2E];exact H7.out)⟩
    case round =>
     obtain⟨m,hm,rfl,F⟩:=hrel;clear H7;have a2:wr.cell? ⟨gl,2,none⟩=some (.int .i64 (A:Int)):=F.out.2.2.1.cell 2;have zl:=F.out.2.2.1.lt;obtain⟨Aw,Cw,ew,x6,fw⟩:=y2b F.out.2.2.2 (Below.refl _ wr)
     by_cases x7:m<A
     ·have x8:(m:Int)<(A:Int):=by omega
      have x9:(m:Int)<((x.c k).out.S.length:Int):=by omega
      have y2:(0:Int)<=(m:Int):=by omega
      have a0:wr.cell? ⟨gl,0,none⟩=some (J1 Aw (x.c k).out.S.length Cw):=(F.out.2.2.1.cell 0).trans (congrArg some ew);obtain⟨bw,ow,rfl,cs⟩:=fw m (by omega)
      obtain⟨s,hs⟩:∃ s,(x.c k).out.S[m]?=some s:=⟨_,List.getElem?_eq_getElem (by omega)⟩
      have j3:(x.c k).out.S.getD m ByteArray.empty=s:=by rw[List.getD_eq_getElem?_getD,hs];rfl
      rw[j3]at cs;have j:=J6 (q7W (x.c k).out.S (rp k) m s hs);have j4:=J6 (fun N=>j6J (U.out.2 s (List.mem_of_getElem? hs)) N);unfold rp1 at j;generalize (z0X (Cd.bs s)).k=qk at *;generalize (z0X (Cd.bs s)).i=qi at *;generalize (z0X (Cd.bs s)).v=qv at *;generalize (z0X (Cd.bs s)).n=qn at *;generalize Cd.z4x (Cd.bs s)=E at *;clear fw ew j3 hs
      go_upto_region 11 with (go_at_call 16;refine (j4.out _).mono ?_;rintro e P⟨A6,n6,C6,A7,n7,C7,rfl,b8⟩;have j5:=J6 b8;clear b8)
      clear a0 a2 cs j4 zl;have R9:CAt 68 (P.alloc (J5 #[.int .i64 qk,.int .i64 qi,.int .i64 qv,.int .i64 qn,J1 A6 n6 C6,J1 A7 n7 C7] 68)) P.heap.size #[.int .i64 qk,.int .i64 qi,.int .i64 qv,.int .i64 qn,J1 A6 n6 C6,J1 A7 n7 C7]:=CAt.new _ P _;have b9:Bl P (P.alloc (J5 #[.int .i64 qk,.int .i64 qi,.int .i64 qv,.int .i64 qn,J1 A6 n6 C6,J1 A7 n7 C7] 68)):=znw P _;have X:=zbt j5.out b9;have r:=J6 (show _/\_/\_ from⟨F.out.1.over X,F.out.2.over X,R9⟩);clear R9 b9 X j5 F;generalize P.alloc (J5 #[.int .i64 qk,.int .i64 qi,.int .i64 qv,.int .i64 qn,J1 A6 n6 C6,J1 A7 n7 C7] 68)=w9 at *;generalize x3:P.heap.size=gq at *;clear x3;have y0:w9.cell? ⟨gq,0,none⟩=some (.int .i64 qk):=r.out.2.2.cell 0;have zq:=r.out.2.2.lt
      rcases Decidable.em (E=0/\qk=2) with Z | Z
      ·obtain⟨rfl,rfl⟩:=Z;have Q:rpc 0 2 qi (z8A (rp k) ((x.c k).out.S.take m))=if z8A (rp k) ((x.c k).out.S.take m)<qi then qi else z8A (rp k) ((x.c k).out.S.take m):=by unfold rpc;rw[if_pos ⟨rfl,rfl⟩]
       rw[Q]at j;clear Q;have y1:w9.cell? ⟨gq,1,none⟩=some (.int .i64 qi):=r.out.2.2.cell 1;obtain⟨x1,-⟩:=r.out.1.hm.cell h;have Q:upN (rpK x rp k) k (z8A (rp k) ((x.c k).out.S.take m)) k=z8A (rp k) ((x.c k).out.S.take m):=by unfold upN;rw[if_pos rfl]
       rw[Q]at x1;have j6:∀ a b:Int,upN (upN (rpK x rp k) k a) k b=upN (rpK x rp k) k b:=fun a b=>by funext i;unfold upN;split <;> rfl
       have q:=J6 (r.out.1.rip hB hw h (z8A (rp k) ((x.c k).out.S.take (m+1))));rw[j6]at q;have al:Alt rb w9 (w9.setCell ⟨rb,k,none⟩ (.int .i64 (z8A (rp k) ((x.c k).out.S.take (m+1))))):=(Alt.refl _ w9).set k _;have G:=J6 (show _/\_ from⟨q.out,r.out.2.1.alt al (by omega)⟩)
       have zr:=r.out.1.hm.cr.lt;have fr:=r.out.1.hm.cr.free k;clear Q j6 q al r;rw[j.out]at G;have R:=J6 j.out;clear j;generalize z8A (rp k) ((x.c k).out.S.take m)=r1 at *
       go_upto_region 12 with fail
       go_region;simp only[Exit.inBlock,Exit.then];apply_assumption;clear y0 zq y1 x1 zr fr;have Y:=J6 (show _/\_ from⟨G.out.1.over (Below.refl _ _).drew,G.out.2.over (Below.refl _ _).drew⟩);clear G;generalize (w9.setCell ⟨rb,k,none⟩ (.int .i64 (if r1<qi then qi else r1))).drew=w10 at *;rw[<- R.out]at Y;clear R;go_wp2
       first | exact⟨⟨m+1,by omega,by go_num,Y⟩,by simp[intOf];omega⟩ | ((repeat apply Exists.intro);exact⟨⟨m+1,by omega,by go_num,Y⟩,rfl⟩)
      ·have Q:rpc E qk qi (z8A (rp k) ((x.c k).out.S.take m))=z8A (rp k) ((x.c k).out.S.take m):=by unfold rpc;rw[if_neg Z]
       rw[Q]at j;have q:=J6 (show _/\_ from⟨r.out.1,r.out.2.1⟩);rw[<- j.out]at q;clear Q r j
       by_cases hE:E=0
       ·have y3:¬ qk=2:=fun e=>Z ⟨hE,e⟩;subst hE;clear Z;go_wp2
        first | exact⟨⟨m+1,by omega,by go_num,q⟩,by simp[intOf];omega⟩ | ((repeat apply Exists.intro);exact⟨⟨m+1,by omega,by go_num,q⟩,rfl⟩)
       ·clear Z;go_wp2
        first | exact⟨⟨m+1,by omega,by go_num,q⟩,by simp[intOf];omega⟩ | ((repeat apply Exists.intro);exact⟨⟨m+1,by omega,by go_num,q⟩,rfl⟩)
     ·obtain rfl:m=A:=by omega
      have q:=J6 F.out.1;rw[j1.out]at q;clear F fw ew;go_wp2
      first | exact⟨⟨k+1,by omega,by go_num,q⟩,by simp[intOf];omega⟩ | ((repeat apply Exists.intro);exact⟨⟨k+1,by omega,by go_num,q⟩,rfl⟩)
  ·obtain rfl:k=2:=by omega
   go_wp2;exact HK.out _ _ (HL.out wr C)
attribute [local go_sem ↓] z0T z0F
set_option maxRecDepth 1000000 in
theorem q5J(B g rb n M:Nat)(D:DataW Value)(W:List Wt)(rc b:Int->Wt)(rp:Nat->Int)(gn:Nat->Bool)(x:Wo)(d:Dd)(v y:Int)(w:World)(h:StW B g x w)(hm:HM rb n D (z2l W) rc rp gn w)(F:rb+3<B)(G:g<w.heap.size)(H:n<=M)(L:M<100000)(m:∀ k,0<=rp k)
  (l:∀ k,z2l W k=true->0<=k/\k<=1125899906842624) (f:∀ k,z2l W k=true->z2l x.p.s.W k=false->d.k=6/\(rc k).due<=x.p.t/\∀ c,c<2->z1M c (rc k)<=rpK x rp 2 c∨gnK x gn 2 c=true) (h1:∀ k,z2l W k=true->rc k=b k) (h2:∀ u∈x.p.s.W,z2l W u.num=false->b u.num=u) :
  Calls prog 15 #[J2 (some ⟨g,0,none⟩),J4 (ddC d),J4 #[.int .i64 v,.int .i64 y],J2 (some ⟨rb+1,0,none⟩),J2 (some ⟨rb,0,none⟩),J2 (some ⟨rb+3,0,none⟩)] w (j1K B g rb M b (gnK x gn 2) w x):=by
 have N:=h.le;have P:rb+3<w.heap.size:=by omega
 have Q:=J6 (fun gp vp o (T:Hid (TH B g rb gp n D (z2l W) rc rp gn w x vp d o))=>@j7v B g rb gp n M D W rc b rp gn w x vp d o T F P H L m l f h1 h2);have R:=J6 (fun (o:World) (hb:Bl w o)=>z8g B g x o (h.over hb));have C:=J6 (show _/\_ from⟨h,hm⟩);have i:Hid (Bl w ((w.alloc (J5 (ddC d) 28)).alloc (J5 #[.int .i64 v,.int .i64 y] 31))/\CAt 28 ((w.alloc (J5 (ddC d) 28)).alloc (J5 #[.int .i64 v,.int .i64 y] 31)) w.heap.size (ddC d)):=⟨(znw w _).alloc (by simp) _,(CAt.new _ w _).alloc _⟩
 clear h hm m l f h1 h2
 go_enter func15,ntmps15
 refine wp_seq_k (fun V q=>?_);have r:=J6 q;clear q;go_wp2;refine r.out _ _ ?_;clear r;generalize (w.alloc (J5 (ddC d) 28)).alloc (J5 #[.int .i64 v,.int .i64 y] 31)=w0 at *;refine wp_seq_k (fun K E=>?_);have S:Hid (∀ a w',Code.wp prog y2L (bodyPost prog f15 (j1K B g rb M b (gnK x gn 2) w x)) a w'->K a w'):=E;clear E
 go_wp2_with (go_at_call 11;refine (R.out _ i.out.1).mono ?_;rintro e w1⟨vp,rfl,z,b1⟩;have U:=z6G z;have bb1:=b1.trans ((z5f w1 x.p vp).mono b1.size);have j:=zbt i.out.1 bb1;have A:Hid (TH B g rb w1.heap.size n D (z2l W) rc rp gn w x vp d (j8J w1 x.p vp)):=⟨PLk.mk (q9x w1 x.p vp) z (z5f w1 x.p vp) (by have:=i.out.1.size;omega) (by have:=i.out.1.size;have:=b1.size;omega),C.out.2.over j,C.out.1.over j,z5n.of j,i.out.2.over bb1⟩;clear z b1 bb1 j)
 clear U;exact S.out _ _ (Q.out _ vp _ A)
end Wd
namespace Wd
open Go.RowKit Pv Kc
theorem z7p.y0Z{w w':World}{A:Option Addr}{b off c:Nat}{l:List Dd}(h:z7p w A b off l)(e:Alt c w w')(hb:0<l.length->b≠c):z7p w' A b off l:=by
 refine⟨h.adr,h.len,fun i x d j v f=>?_⟩;have h0:0<l.length:=by have:=(List.getElem?_eq_some_iff.1 d).1;omega
 rw[<- h.cell i x d j v f];exact World.cell?_of_block (w:=w) (a:=⟨b,off+i * 7+j,none⟩) (e.block b (h.lt h0) (hb h0))
attribute [local go_sem ↓] z8i
theorem y3h(A:Option Addr)(C b off:Nat)(T:Array Value)(l:List Dd)(w:World)(o:Nat->Nat->Nat->World->Prop)(t:z7p w A b off l)
  (U:∀ B g k V,o B g k V->z7p V A b off l)
  (h0:∀ g w1 p,Bl w w1->StW w1.heap.size g z8y p->Bl w p->o w1.heap.size g 0 p)
  (W:∀ B g k d wr c j,k<120->o B g k wr->w.heap.size<=B->l[k]?=some d->StW B g (stW l k) wr->StW B g (stW l (k+1)) j->Alt g wr c->Bl c j ->
   Calls prog 15 (#[J2 (some ⟨g,0,none⟩),J4 (ddC d),J4 #[.int .i64 (doW (stW l k) d).2.1,.int .i64 (doW (stW l k) d).2.2]] ++ T) j fun e w'=>e=.returned (J3 true)/\StW B g (stW l (k+1)) w'/\o B g (k+1) w') :
  Calls prog 8 #[J1 A l.length C,.func (.func 15) #[] T] w fun e w'=>∃ B g k,e=.returned (.tuple #[J2 (some ⟨g,0,none⟩),J3 true])/\o B g k w':=by
 have X:=J6 (z6Y w);have D:=J6 (fun (h:0<l.length)=>t.lt h);have HD:=J6 U;have Y:=J6 h0;have E:=J6 W;clear t U h0 W
 go_enter func8,ntmps8
 go_upto_region 3 with (go_at_call 22;refine X.out.mono ?_;rintro e w1⟨rfl,b1⟩;have m:=J6 b1;clear b1)
 have Z:=J6 (z4S w1)
 go_upto_region 4 with (go_at_call 7;refine Z.out.mono ?_;rintro e p⟨g,rfl,h2,b2⟩;have u:Hid (StW w1.heap.size g (stW l 0) p/\o w1.heap.size g 0 p):=⟨h2,Y.out g w1 p m.out h2 (zbt m.out b2)⟩;have F:=m.out.size;have a0:=h2.le;clear h2 b2)
 go_upto_region 5 with fail
 clear Z X m Y;generalize w1.heap.size=B at *
 go_loopw [7] (fun i wl=>∃ (k:Nat),k<=l.length/\k<=120/\i=.int .i64 (k:Int)/\Hid (StW B g (stW l k) wl/\o B g k wl)) (fun i _=>120 - (intOf i).toNat)
 case atStart=>exact⟨0,Nat.zero_le _,by omega,rfl,u⟩
 case round =>
  obtain⟨k,hk,a1,rfl,a⟩:=hrel;clear u
  by_cases G:k<l.length/\k<120
  ·obtain⟨h1,h2⟩:=G;have v:(k:Int)<(l.length:Int):=by omega
   have H:(k:Int)<120:=by omega
   have x:l[k]?=some l[k]:=List.getElem?_eq_getElem h1;have q:=z3f x;generalize l[k]=d at x q;have K:=J6 q;have y:=J6 (q0A B g (stW l k) d wr a.out.1);have n:=HD.out B g k wr a.out.2;have ld:=n.load x;have hA:A=some ⟨b,off,none⟩:=n.adr (by omega)
   have L:b≠g:=by have:=D.out (by omega);omega
   have HX:=J6 x;have M:=J6 n;subst hA;clear q x n
   go_upto_region 8 with (go_at_call 10;refine y.out.mono ?_;rintro e c⟨rfl,h3,a3⟩;have r:=J6 (show _/\_ from⟨h3,a3⟩);clear h3 a3)
   have N:=c.heap.size;have P:Bl c (c.alloc (J5 #[.int .i64 (doW (stW l k) d).2.1,.int .i64 (doW (stW l k) d).2.2] 31)):=znw c _;have R4:CAt 31 (c.alloc (J5 #[.int .i64 (doW (stW l k) d).2.1,.int .i64 (doW (stW l k) d).2.2] 31)) c.heap.size #[.int .i64 (doW (stW l k) d).2.1,.int .i64 (doW (stW l k) d).2.2]:=CAt.new _ c _;have Q:=r.out.1.over P;rw[<- K.out]at Q;have f:=J6 (show _/\_/\_ from⟨Q,P,R4⟩);clear Q R4 P ld;have z:=J6 (E.out B g k d wr c);generalize (doW (stW l k) d).2.1=rc at *;generalize (doW (stW l k) d).2.2=rn at *;generalize c.alloc (J5 #[.int .i64 rc,.int .i64 rn] 31)=j at *;have s:Bl j j.drew:=(Below.refl _ j).drew;have R:=zbt f.out.2.1 s;have HT:=J6 (z.out j.drew h2 a.out.2 F HX.out a.out.1 (f.out.1.over s) r.out.2 R);have a2:=((M.out.y0Z r.out.2 (fun _=>L)).over R (Nat.le_refl _)).load HX.out;have r0:j.cell? ⟨c.heap.size,0,none⟩=some (.int .i64 rc):=f.out.2.2.cell 0;have r1:j.cell? ⟨c.heap.size,1,none⟩=some (.int .i64 rn):=f.out.2.2.cell 1;have a4:=f.out.2.2.lt;clear s R N z y
   go_region_with (go_at_call 15;refine HT.out.mono ?_;rintro e w5⟨rfl,S5,I5⟩;have S:=J6 (show _/\_ from⟨S5,I5⟩);clear S5 I5)
   all_goals (apply_assumption;go_wp2;exact⟨⟨k+1,by omega,by omega,by go_num,S⟩,by simp[intOf];omega⟩)
  ·by_cases h1:k<l.length
   ·obtain rfl:k=120:=by omega
    have v:((120:Nat):Int)<(l.length:Int):=by omega
    have H:(120:Int)<(l.length:Int):=by omega
    go_wp2;go_ret2
    first | exact⟨B,g,_,rfl,a.out.2⟩ | exact⟨B,g,rfl,_,a.out.2⟩
   ·have v:¬ (k:Int)<(l.length:Int):=by omega
    go_wp2;go_ret2
    first | exact⟨B,g,_,rfl,a.out.2⟩ | exact⟨B,g,rfl,_,a.out.2⟩
end Wd
namespace Wd
open Go.RowKit Pv Kc Go.Maps
theorem j6T{x:Wo}{c:Nat}(hc:c<2){h:Int}(d:z3j x c h)(rp:Nat->Int):h<=rpK x rp 2 c:=by
 obtain⟨n,s,a,b,e,f,q⟩:=d;unfold rpK;rw[if_pos hc];refine Int.le_trans q (j1G _ _ s ?_ e f);have j:n<(x.c c).out.g.toNat:=by omega
 refine List.mem_of_getElem? (i:=n) ?_;rw[List.getElem?_take,if_pos j];exact b
theorem j1b(l:List Dd)(k:Nat)(f:k<l.length)(h3:k<300)(rp:Nat->Int)(gn:Nat->Bool)(d:∀ i,0<=rp i):∀ i,z2l (stW l k).p.s.W i=true->z2l (stW l (k+1)).p.s.W i=false->l[k].k=6/\(rcW l k i).due<=(stW l (k+1)).p.t/\∀ c,c<2->z1M c (rcW l k i)<=rpK (stW l (k+1)) rp 2 c∨gnK (stW l (k+1)) gn 2 c=true:=by
 intro i g h;obtain⟨u,hu,rfl⟩:=(z4R _ _).1 g;obtain⟨a,b,e⟩:=q8A f h3 hu h;refine⟨a,b,fun c hc=>?_⟩
 rcases e c hc with q | q | q
 ·refine .inl ?_;rw[q];unfold rpK;rw[if_pos hc];exact Int.le_trans (d c) (j0f _ _)
 ·exact .inl (j6T hc q rp)
 ·refine .inr ?_;unfold gnK;rw[if_pos hc,q,Bool.or_true]
theorem q8k(A:Option Addr)(C b off rb:Nat)(l:List Dd)(w:World)(v:z7p w A b off l)(hb:0<l.length->b<rb)(hc:HM rb 0 (.map []) (fun _=>false) (fun _=>wt0) (fun _=>0) (fun _=>false) w)(R:rb+3<w.heap.size) :
  Calls prog 8 #[J1 A l.length C,.func (.func 15) #[] #[J2 (some ⟨rb+1,0,none⟩),J2 (some ⟨rb,0,none⟩),J2 (some ⟨rb+3,0,none⟩)]] w fun e w'=>∃ g,e=.returned (.tuple #[J2 (some ⟨g,0,none⟩),J3 true])/\Below rb w w':=by
 refine (y3h A C b off #[J2 (some ⟨rb+1,0,none⟩),J2 (some ⟨rb,0,none⟩),J2 (some ⟨rb+3,0,none⟩)] l w (fun _ g k o=>k<=l.length/\(∃ n D rp gn,n<=60 * k/\(∀ i,0<=rp i)/\HM rb n D (z2l (stW l k).p.s.W) (rcW l k) rp gn o)/\z5n (M3H rb) w o) v ?_ ?_ ?_).mono ?_
 ·rintro B g k o⟨-,-,a⟩;exact v.y2J a fun h=>by have:=hb h;unfold M3H;omega
 ·intro g w1 T b1 S b2;exact⟨Nat.zero_le _,⟨0,_,_,_,Nat.le_refl _,fun _=>Int.le_refl _,hc.over b2⟩,z5n.of b2⟩
 ·rintro B g k d wr U F x⟨G,⟨n,D,rp,gn,H,c,hm⟩,a⟩ V y hs f z E;have j:k<l.length:=(List.getElem?_eq_some_iff.1 y).1;have hd:l[k]=d:=(List.getElem?_eq_some_iff.1 y).2;have X:=hs.le;have hp:=j1b l k j (by omega) rp gn c
  rw[hd]at hp;have K:=(z0h _).1 (z2S l k).gp.s;have L:=(z0h _).1 (z2S l (k+1)).gp.s;refine (q5J B g rb n (60 * k) D (stW l k).p.s.W (rcW l k) (rcW l (k+1)) rp gn (stW l (k+1)) d _ _ F f ((hm.alt z (by omega)).over E) (by omega) f.lt H (by omega) c (fun i q=>?_) hp (fun i q=>?_) (fun u hu hh=>?_)).mono ?_
  ·obtain⟨u,hu,rfl⟩:=(z4R _ _).1 q;have:=z2N K.2.2.2.2.1 u hu;omega
  ·show _=if _ then _ else _
   rw[if_pos q]
  ·show (if _ then _ else j8W _ _)=_
   rw[if_neg (by rw[hh];simp)]
   exact q0b L.2.2.2.2.1 u hu
  rintro e w'⟨rfl,⟨n',M,r,N,m,P⟩,t,Q⟩;exact⟨rfl,t,j,⟨n',M,r,_,by omega,m,P⟩,((a.also z (by omega)).trans (z5n.of E)).trans Q⟩
 ·rintro e w'⟨B,g,k,rfl,-,-,a⟩;exact⟨g,rfl,a.below (fun k G h=>by unfold M3H at h;omega) (by omega)⟩
noncomputable def j5d(w:World):World:=(((w.alloc (J5 #[J I 0,J I 0] 61)).alloc (J5 #[J3 false,J3 false] 82)).alloc (.map #[] 0)).alloc (J5 #[.map (some (w.heap.size+1+1))] 83)
theorem j5Z(w:World):HM w.heap.size 0 (.map []) (fun _=>false) (fun _=>wt0) (fun _=>0) (fun _=>false) (j5d w)/\w.heap.size+3<(j5d w).heap.size/\Bl w (j5d w):=by
 have d:CAt 61 (j5d w) w.heap.size #[.int .i64 0,.int .i64 0]:=(((CAt.new _ w _).alloc _).alloc _).alloc _;have e:CAt 82 (j5d w) (w.heap.size+1) #[J3 false,J3 false]:=((CAt.new2 _ w _ _).alloc _).alloc _;have a:((w.alloc (J5 #[.int .i64 0,.int .i64 0] 61)).alloc (J5 #[J3 false,J3 false] 82)).heap.size=w.heap.size+2:=by simp
 have b:=(World.ownsMap_made ((w.alloc (J5 #[.int .i64 0,.int .i64 0] 61)).alloc (J5 #[J3 false,J3 false] 82)) prog 3 rdW).alloc (J5 #[.map (some (w.heap.size+1+1))] 83);rw[a]at b
 have c:CAt 83 (j5d w) (w.heap.size+3) #[.map (some (w.heap.size+2))]:=by
  have:=CAt.new2 83 ((w.alloc (J5 #[.int .i64 0,.int .i64 0] 61)).alloc (J5 #[J3 false,J3 false] 82)) (.map #[] 0) #[.map (some (w.heap.size+1+1))];rw[a]at this;exact this
 exact⟨⟨b,⟨fun _=>rfl,fun _ h=>by cases h⟩,d,e,c⟩,c.lt,(((znw w _).alloc (by simp) _).alloc (by simp;omega) _).alloc (by simp;omega) _⟩
theorem q5s(A:Option Addr)(C b off:Nat)(l:List Dd)(w:World)(c:z7p w A b off l):Calls prog 4 #[J1 A l.length C] w fun e w'=>e=.returned (J3 true)/\Bl w w':=by
 obtain⟨d,a,b3⟩:=j5Z w;have i:=J6 (q8k A C b off w.heap.size l _ (c.over b3 (Nat.le_refl _)) (fun h=>c.lt h) d a);have j:=J6 b3;have k:=@run_makeMap prog;clear c d a b3
 go_enter func4,ntmps4
 go_upto_region 4 with fail
 change Code.wp prog _ _ _ (j5d w);generalize j5d w=w5 at *
 go_wp2_with (go_at_call 8;refine i.out.mono ?_;rintro e w6⟨g,rfl,f⟩;have m:=J6 f;clear f)
 go_ret;exact⟨rfl,j.out.trans m.out⟩
end Wd
end Go.Proofs.YtddlhnoedldidaaGreat
