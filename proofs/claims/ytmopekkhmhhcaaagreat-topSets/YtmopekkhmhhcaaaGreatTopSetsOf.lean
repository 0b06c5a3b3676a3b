/- Parts of the proof: CM CK DF0 PON PKP WI3 WT0 WST WLY WLZ WAP WSA WTI WTT WSS WSR WTS WPLs WLS. -/
import Derived.Test.YtmopekkhmhhcaaaGreatRows
import Derived.Test.YtmopekkhmhhcaaaGreatFK25
import Derived.Maps.OwnSet
import Derived.ChangeOld
set_option maxRecDepth 100000
set_option maxHeartbeats 16000000
namespace Go.Proofs.YtmopekkhmhhcaaaGreat
open Go.Proofs.Tryz
namespace Cd
open Go.RowKit
theorem q2g(n a:Int)(ha:0<a):n % (a * 256)=n % a+a * (n / a % 256):=by
 have h1:=Int.emod_add_mul_ediv n a;have h2:=Int.emod_add_mul_ediv (n / a) 256;have h3:=Int.emod_nonneg n (show a≠0 by omega)
 have h4:=Int.emod_lt_of_pos n ha;have h5:=Int.emod_nonneg (n / a) (show (256:Int)≠0 by decide)
 have h6:=Int.emod_lt_of_pos (n / a) (show (0:Int)<256 by decide)
 generalize n / a / 256=q at *;generalize n / a % 256=r at *;generalize n % a=s at *;generalize n / a=t at *;subst h2;have e:n=(s+a * r)+(a * 256) * q:=by rw[← h1,Int.mul_add,← Int.mul_assoc];omega
 have hle:a * r<=a * 255:=Int.mul_le_mul_of_nonneg_left (by omega) (by omega)
 have hge:0<=a * r:=Int.mul_nonneg (by omega) h5
 rw[e,Int.add_mul_emod_self_left,Int.emod_eq_of_lt (by omega) (by omega)]
theorem j7z(n:Int):∀ (m:Nat) (acc:Int),z4x acc (be n m)=acc * 2 ^ (8 * m)+n % 2 ^ (8 * m):=by
 intro m
 induction m with
 | zero=>intro acc;simp[be,z4x,Int.emod_one]
 | succ m ih =>
  intro acc;have h:z4x acc (be n (m+1))=z4x (acc * 256+n / 2 ^ (8 * m) % 256) (be n m):=rfl;rw[h,ih,z8f,q2g _ _ (q4a m),Int.add_mul,Int.mul_assoc,Int.mul_comm 256,Int.mul_comm (n / 2 ^ (8 * m) % 256)];omega
theorem z5G{n:Int}{m:Nat}(h:0<=n)(h2:n<2 ^ (8 * m)):z4x 0 (be n m)=n:=by
 rw[j7z,Int.zero_mul,Int.zero_add,Int.emod_eq_of_lt h h2]
theorem q2I{k i v n:Int}{S:List (Int×Int)}{D:List Int}(h:z0m k i v n S D=0) :
  1<=k/\k<=4/\1<=i/\i<=1099511627776/\0<=v/\v<6/\0<=n/\n<=1125899906842624:=by
 have hf:∀ {k v n:Int} {a b:Nat},z6U k=false->z8t k v n a b=false->v=0/\n=0:=by
  intro k v n a b h1 h2;simp only[z8t,h1,Bool.or_eq_false_iff,Bool.and_eq_false_iff]at h2
  simp at h2
  exact h2.1
 rcases z5o k i v n S D with h' | h' | ⟨h1,h2,h' | h' | ⟨h3,h4,h' | h' | h' | ⟨h5 | h5,h' | h' | h' | h'⟩⟩⟩
 all_goals first | (exfalso;omega) | skip
 ·have hv:isV v=true:=h5.2.1;simp only[isV,decide_eq_true_eq]at hv;omega
 ·obtain⟨e1,e2⟩:=hf h5 h'.1;omega
theorem q6r(S:List (Int×Int)):∀ last:Int,-1<=last->z0d last S=true->∀ p∈S,0<=p.1/\p.1<6/\0<=p.2/\p.2<=1125899906842624:=by
 induction S with
 | nil=>simp
 | cons x t ih =>
  intro last hl h p hp;simp only[z0d,Bool.and_eq_true,decide_eq_true_eq,isV]at h;obtain⟨⟨⟨⟨h1,h2⟩,h3⟩,h4⟩,h5⟩:=h
  rcases List.mem_cons.1 hp with rfl | hp
  ·omega
  ·exact ih x.1 (by omega) h5 p hp
theorem q3n(D:List Int):∀ last:Int,-1<=last->z0h last D=true->∀ p∈D,0<=p/\p<6:=by
 induction D with
 | nil=>simp
 | cons x t ih =>
  intro last hl h p hp;simp only[z0h,Bool.and_eq_true,decide_eq_true_eq,isV]at h;obtain⟨⟨h1,h2⟩,h3⟩:=h
  rcases List.mem_cons.1 hp with rfl | hp
  ·omega
  ·exact ih x (by omega) h3 p hp
theorem z5F(a l:List Int)(m:Nat)(hm:a.length=m):tk m (a ++ l,false)=(z4x 0 a,(l,false)):=by
 subst hm;rw[tk,if_neg (by simp)]
 simp
theorem j6z(X:List Int):∀ (S:List (Int×Int)),(∀ p∈S,0<=p.1/\p.1<256/\0<=p.2/\p.2<72057594037927936)->tkP S.length (S.flatMap z5h ++ X,false)=(S,(X,false)):=by
 intro S
 induction S with
 | nil=>intro _;rfl
 | cons p t ih =>
  intro h;have hp:=h p (List.mem_cons_self ..)
  have e1:tk 1 ((p :: t).flatMap z5h ++ X,false)=(p.1,(be p.2 7 ++ (t.flatMap z5h ++ X),false)):=by
   rw[List.flatMap_cons,z5h,List.append_assoc,List.append_assoc,z5F _ _ 1 (z0F _ _),z5G hp.1 (by omega)]
  have e2:tk 7 (be p.2 7 ++ (t.flatMap z5h ++ X),false)=(p.2,(t.flatMap z5h ++ X,false)):=by
   rw[z5F _ _ 7 (z0F _ _),z5G hp.2.2.1 (by omega)]
  rw[List.length_cons,tkP,e1];dsimp only;rw[e2];dsimp only;rw[ih (fun q hq=>h q (List.mem_cons_of_mem _ hq))]
theorem j5Q(X:List Int):∀ (D:List Int),(∀ p∈D,0<=p/\p<256)->tkD D.length (D.flatMap (be · 1) ++ X,false)=(D,(X,false)):=by
 intro D
 induction D with
 | nil=>intro _;rfl
 | cons p t ih =>
  intro h;have hp:=h p (List.mem_cons_self ..)
  have e1:tk 1 ((p :: t).flatMap (be · 1) ++ X,false)=(p,(t.flatMap (be · 1) ++ X,false)):=by
   rw[List.flatMap_cons,List.append_assoc,z5F _ _ 1 (z0F _ _),z5G hp.1 (by omega)]
  rw[List.length_cons,tkD,e1];dsimp only;rw[ih (fun q hq=>h q (List.mem_cons_of_mem _ hq))]
theorem q8P{k i v n:Int}{S:List (Int×Int)}{D:List Int}(h:z0m k i v n S D=0)(X:List Int):parse (enc k i v n S D ++ X)=((k,i,v,n,S,D),(X,false)):=by
 obtain⟨b1,b2,b3,b4,b5,b6,b7,b8⟩:=q2I h;obtain⟨l1,l2,l3,l4⟩:=z9g h;have hS:=q6r S (-1) (by omega) l1
 have hD:=q3n D (-1) (by omega) l2
 have e0:enc k i v n S D ++ X=be k 1 ++ (be i 6 ++ (be v 1 ++ (be n 7 ++ (be S.length 1 ++ (S.flatMap z5h ++ (be D.length 1 ++ (D.flatMap (be · 1) ++ X))))))):=by simp[enc,q4j]
 rw[e0]
 have e1:p1 (be k 1 ++ (be i 6 ++ (be v 1 ++ (be n 7 ++ (be S.length 1 ++ (S.flatMap z5h ++ (be D.length 1 ++ (D.flatMap (be · 1) ++ X))))))))=(k,(be i 6 ++ (be v 1 ++ (be n 7 ++ (be S.length 1 ++ (S.flatMap z5h ++ (be D.length 1 ++ (D.flatMap (be · 1) ++ X)))))),false)):=by
  rw[p1,z5F _ _ 1 (z0F _ _),z5G (by omega) (by omega)]
 generalize be k 1 ++ (be i 6 ++ (be v 1 ++ (be n 7 ++ (be S.length 1 ++ (S.flatMap z5h ++ (be D.length 1 ++ (D.flatMap (be · 1) ++ X)))))))=l at *
 have e2:p2 l=(i,(be v 1 ++ (be n 7 ++ (be S.length 1 ++ (S.flatMap z5h ++ (be D.length 1 ++ (D.flatMap (be · 1) ++ X))))),false)):=by
  rw[p2,e1];dsimp only;rw[z5F _ _ 6 (z0F _ _),z5G (by omega) (by omega)]
 have e3:p3 l=(v,(be n 7 ++ (be S.length 1 ++ (S.flatMap z5h ++ (be D.length 1 ++ (D.flatMap (be · 1) ++ X)))),false)):=by
  rw[p3,e2];dsimp only;rw[z5F _ _ 1 (z0F _ _),z5G (by omega) (by omega)]
 have e4:p4 l=(n,(be S.length 1 ++ (S.flatMap z5h ++ (be D.length 1 ++ (D.flatMap (be · 1) ++ X))),false)):=by
  rw[p4,e3];dsimp only;rw[z5F _ _ 7 (z0F _ _),z5G (by omega) (by omega)]
 have e5:p5 l=((S.length:Int),(S.flatMap z5h ++ (be D.length 1 ++ (D.flatMap (be · 1) ++ X)),false)):=by
  rw[p5,e4];dsimp only;rw[z5F _ _ 1 (z0F _ _),z5G (by omega) (by omega)]
 have e6:p6 l=(S,(be D.length 1 ++ (D.flatMap (be · 1) ++ X),false)):=by
  rw[p6,e5];dsimp only;rw[Int.toNat_natCast,j6z _ S (fun p hp=>by have:=hS p hp;omega)]
 have e7:p7 l=((D.length:Int),(D.flatMap (be · 1) ++ X,false)):=by
  rw[p7,e6];dsimp only;rw[z5F _ _ 1 (z0F _ _),z5G (by omega) (by omega)]
 have e8:p8 l=(D,(X,false)):=by
  rw[p8,e7];dsimp only;rw[Int.toNat_natCast,j5Q _ D (fun p hp=>by have:=hD p hp;omega)]
 rw[parse,e1,e2,e3,e4,e6,e8]
theorem j5P{k i v n:Int}{S:List (Int×Int)}{D:List Int}(h:z0m k i v n S D=0):z6l (enc k i v n S D)=0/\z2q (enc k i v n S D)=(k,i,v,n,S,D):=by
 have h4:=q8P h [];rw[List.append_nil]at h4;have hE:z6l (enc k i v n S D)=0:=by rw[z6l,h4,if_pos rfl];exact h
 exact⟨hE,by rw[z2q,if_pos hE,h4]⟩
end Cd
namespace Df
def setOf(P:Nat->Int):List Pw:=those (fun v=>decide (0<P v)) P 6
theorem z6P(P:Nat->Int)(c:Nat->Bool)(f:Nat->Int):∀ n,n<=6->∀ i,z1G P (those c f n) i=if i<n/\c i=true then f i else P i
 | 0,_,i=>by simp[those,z1G]
 | n+1,hn,i=>by
  have ih:=z6P P c f n (by omega)
  rw[z1W];cases hc:c n
  ·rw[if_neg (by simp),ih i]
   by_cases hi:i=n
   ·subst hi;simp[hc]
   ·have:(i<n↔i<n+1):=by omega
    simp[this]
  ·rw[if_pos rfl];unfold z1G at ih ⊢;rw[List.foldl_append]
   show z8u _ _ i=_
   rw[z3W (by omega),ih i]
   by_cases hi:i=n
   ·subst hi;simp[hc]
   ·have:(i<n↔i<n+1):=by omega
    simp[hi,this]
theorem z7a(c:Nat->Bool)(f:Nat->Int):∀ n,n<=6->∀ (P:Nat->Int) i,(those c f n).foldr (fun x P=>z8u P x) P i=if i<n/\c i=true then f i else P i
 | 0,_,P,i=>by simp[those]
 | n+1,hn,P,i=>by
  have ih:=z7a c f n (by omega)
  rw[z1W];cases hc:c n
  ·rw[if_neg (by simp),ih P i]
   by_cases hi:i=n
   ·subst hi;simp[hc]
   ·have:(i<n↔i<n+1):=by omega
    simp[this]
  ·rw[if_pos rfl,List.foldr_append,ih];simp only[List.foldr_cons,List.foldr_nil];rw[z3W (by omega)]
   by_cases hi:i=n
   ·subst hi;simp[hc]
   ·have:(i<n↔i<n+1):=by omega
    simp[hi,this]
theorem q0Q{P:Nat->Int}(h0:∀ i,0<=P i){i:Nat}(hi:i<6):z1s (setOf P) i=P i:=by
 unfold z1s setOf;rw[z7a _ _ 6 (by omega)]
 by_cases h:0<P i
 ·simp[hi,h]
 ·have:=h0 i
  simp[h,z2t]
  omega
theorem j1G{P:Nat->Int}(h0:∀ i,0<=P i){i:Nat}(hi:i<6):z1G z2t (setOf P) i=P i:=by
 unfold setOf;rw[z6P _ _ _ 6 (by omega)]
 by_cases h:0<P i
 ·simp[hi,h]
 ·have:=h0 i
  simp[h,z2t]
  omega
theorem z7S{c c':Nat->Bool}{f f':Nat->Int}:∀ n,(∀ i,i<n->c i=c' i/\(c i=true->f i=f' i))->those c f n=those c' f' n
 | 0,_=>rfl
 | n+1,h=>by
  rw[z1W,z1W,z7S n (fun i hi=>h i (by omega))]
  obtain⟨h1,h2⟩:=h n (by omega)
  rw[← h1]
  split
  ·rename_i hc;rw[h2 hc]
  ·rfl
theorem q6P{P R:Nat->Int}(hP:∀ i,0<=P i)(hR:∀ i,0<=R i):z1L (setOf P) (z3x (setOf P) (setOf R))=setOf R:=by
 have key:∀ i,i<6->z1G (z1G z2t (setOf P)) (z3x (setOf P) (setOf R)) i=R i:=by
  intro i hi;unfold z3x;rw[z6P _ _ _ 6 (by omega)]
  simp only[q0Q hP hi,q0Q hR hi,j1G hP hi]
  by_cases h:R i=P i
  ·simp[h]
  ·simp[h,hi]
 unfold z1L;exact z7S 6 fun i hi=>⟨by rw[key i hi],fun _=>key i hi⟩
end Df
namespace Pv
open Go.RowKit
theorem q3y{k i v n:Int}{S:List (Int×Int)}{D:List Int}(h:Cd.z0m k i v n S D=0):Cd.z6l (Cd.bs (Cd.encS k i v n S D))=0/\Cd.z2q (Cd.bs (Cd.encS k i v n S D))=(k,i,v,n,S,D):=by
 rw[q8g h];exact Cd.j5P h
theorem q5v{k i v n:Int}{S:List (Int×Int)}{D:List Int}(h:Cd.z0m k i v n S D=0):z2i (Cd.bs (Cd.encS k i v n S D))=⟨k,i,v,n,S,D⟩:=by
 unfold z2i;rw[(q3y h).2]
theorem q4F:∀ (l m:List (Int×Int)) (a b:Int),z2N a l=true->z2N b m=true->(∀ x,x∈l↔x∈m)->l=m
 | [],[],_,_,_,_,_=>rfl
 | [],y :: m,_,_,_,_,h=>by have:=(h y).2 (List.mem_cons_self);cases this
 | x :: l,[],_,_,_,_,h=>by have:=(h x).1 (List.mem_cons_self);cases this
 | x :: l,y :: m,a,b,hl,hm,h=>by
  simp only[z2N,Bool.and_eq_true]at hl hm
  have e:x=y:=by
   rcases List.mem_cons.1 ((h x).1 List.mem_cons_self) with h1 | h1
   ·exact h1
   ·rcases List.mem_cons.1 ((h y).2 List.mem_cons_self) with h2 | h2
    ·exact h2.symm
    ·have:=(z2V m y.1 hm.2 x h1).1;have:=(z2V l x.1 hl.2 y h2).1;omega
  subst e;rw[q4F l m x.1 x.1 hl.2 hm.2 fun z=>⟨fun hz=>?_,fun hz=>?_⟩]
  ·rcases List.mem_cons.1 ((h z).1 (List.mem_cons_of_mem _ hz)) with h1 | h1
   ·have:=(z2V l x.1 hl.2 z hz).1;rw[h1]at this;omega
   ·exact h1
  ·rcases List.mem_cons.1 ((h z).2 (List.mem_cons_of_mem _ hz)) with h1 | h1
   ·have:=(z2V m x.1 hm.2 z hz).1;rw[h1]at this;omega
   ·exact h1
theorem q4K:∀ (l:List (Int×Int)) (a:Int) (P:Nat->Int),-1<=a->z2N a l=true->(∀ x∈l,Df.z1G P l x.1.toNat=x.2)/\∀ i:Nat,(∀ x∈l,x.1≠(i:Int))->Df.z1G P l i=P i
 | [],_,P,_,_=>⟨fun x hx=>(by cases hx),fun _ _=>rfl⟩
 | y :: l,a,P,ha,h=>by
  have hm:=z2V (y :: l) a h;have hy:=hm y List.mem_cons_self;simp only[z2N,Bool.and_eq_true]at h;obtain⟨h1,h2⟩:=q4K l y.1 (Df.z8u P y) (by omega) h.2
  have hl:=z2V l y.1 h.2
  have hput:∀ i,Df.z8u P y i=if i=y.1.toNat then y.2 else P i:=fun i=>by
   unfold Df.z8u;rw[if_pos (by omega)]
  refine⟨fun x hx=>?_,fun i hi=>?_⟩
  ·show Df.z1G (Df.z8u P y) l x.1.toNat=x.2
   rcases List.mem_cons.1 hx with rfl | hx
   ·rw[h2 _ (fun z hz=>by have:=(hl z hz).1;omega),hput,if_pos rfl]
   ·exact h1 x hx
  ·show Df.z1G (Df.z8u P y) l i=P i
   rw[h2 i (fun z hz=>hi z (List.mem_cons_of_mem _ hz)),hput,if_neg (by have:=hi y List.mem_cons_self;omega)]
theorem j3L{l:List (Int×Int)}(h:z2N (-1) l=true):l=Df.setOf (Df.z1G Df.z2t l)/\∀ i,0<=Df.z1G Df.z2t l i:=by
 obtain⟨h1,h2⟩:=q4K l (-1) Df.z2t (by omega) h
 have hm:=z2V l (-1) h
 have hz:∀ i:Nat,(∃ x∈l,x.1=(i:Int)/\Df.z1G Df.z2t l i=x.2)∨((∀ x∈l,x.1≠(i:Int))/\Df.z1G Df.z2t l i=0):=fun i=>by
  by_cases e:∃ x∈l,x.1=(i:Int)
  ·obtain⟨x,hx,ex⟩:=e;have:=h1 x hx;rw[ex,Int.toNat_natCast]at this;exact .inl ⟨x,hx,ex,this⟩
  ·have e':∀ x∈l,x.1≠(i:Int):=fun x hx hxe=>e ⟨x,hx,hxe⟩;exact .inr ⟨e',h2 i e'⟩
 have hn:∀ i,0<=Df.z1G Df.z2t l i:=fun i=>by
  rcases hz i with⟨x,hx,-,e⟩ | ⟨-,e⟩
  ·rw[e];have:=hm x hx;omega
  ·rw[e];omega
 refine⟨?_,hn⟩
 have hmem:∀ x,x∈l↔x∈Df.setOf (Df.z1G Df.z2t l):=fun x=>by
  unfold Df.setOf;rw[z5Z]
  constructor
  ·intro hx;have hb:=hm x hx;have e:=h1 x hx;exact⟨x.1.toNat,by omega,by rw[e];simp;omega,by rw[e];ext <;> simp;omega⟩
  ·rintro⟨i,hi,hc,rfl⟩
   rcases hz i with⟨x,hx,ex,e⟩ | ⟨-,e⟩
   ·rw[e,← ex];exact hx
   ·rw[e]at hc;simp at hc
 refine q4F l _ (-1) (-1) h (q0d _ (-1) (fun x hx=>?_) (z4O _ _ 6)) hmem;exact hm x ((hmem x).2 hx)
theorem j0u{l m:List (Int×Int)}(hl:z2N (-1) l=true)(hm:z2N (-1) m=true):Df.z1L l (Df.z3x l m)=m:=by
 obtain⟨e1,n1⟩:=j3L hl;obtain⟨e2,n2⟩:=j3L hm;rw[e1,e2];exact Df.q6P n1 n2
end Pv
namespace Wd
open Go.RowKit Pv Kc
theorem y0O(x:Wo)(d:Dd)(h:x.dn<600):(doW x d).1.dn=x.dn+1:=by
 unfold doW;rw[if_neg (by omega)]
 show (z2Q (z1O x) d).1.dn=_
 rw[q8E];rfl
theorem j9f(l:List Dd):∀ k,k<=l.length->k<=600->(stW l k).dn=k
 | 0,_,_=>rfl
 | k+1,h1,h2=>by
  have ih:=j9f l k (by omega) (by omega)
  rw[z3j (List.getElem?_eq_getElem (by omega:k<l.length)),y0O _ _ (by omega),ih]
  omega
theorem StW.keep{B g:Nat}{x:Wo}{w w':World}(h:StW B g x w)(hk:∀ b,B<=b->b<w.heap.size->w'.heap[b]?=w.heap[b]?):StW B g x w':=by
 obtain⟨v,hc,hi⟩:=h.at_
 have hc':CAt 98 w' g (wdC x v):=by
  have:=hk g h.le h.lt;unfold CAt at hc ⊢;rw[this];exact hc
 exact⟨⟨v,hc',hi.keep fun b hb hl=>hk b hb.1 hl⟩,h.inv,h.le,hc'.lt⟩
noncomputable def j6k(w:World)(c:Cs)(v:CsV):World:=(w.alloc (.cells Z22 63)).setCells w.heap.size 0 (csC c v).toList
theorem q2u(w:World)(c:Cs)(v:CsV):CAt 63 (j6k w c v) w.heap.size (csC c v):=(CAt.new 63 w Z22).z0H (by rw[z0z];rfl)
theorem z2P(w:World)(c:Cs)(v:CsV):Below w.heap.size w (j6k w c v):=z0b (Nat.le_refl _) _ _ _ (znw w _)
theorem z6C{P:Nat->Prop}{w:World}{c:Cs}{v:CsV}(h:CIn P w c v):(q3Z (.pointer (some ⟨w.heap.size,0,none⟩)) (.agg (csC c v))).run prog (w.alloc (.cells Z22 63))=.ok () (j6k w c v):=z2o (CAt.new _ w _) z0z (z0p c v) (z2k h)
def PLk(n:Nat)(w:World)(g:Nat)(p:Pr)(v:PrV):Prop:=CAt 57 w g (prC p v)/\PIn (fun b=>n<=b) w p v/\n<=g
def CLk(n:Nat)(w:World)(g:Nat)(c:Cs)(v:CsV):Prop:=CAt 63 w g (csC c v)/\CIn (fun b=>n<=b) w c v/\n<=g
theorem PLk.over{n:Nat}{w w':World}{g:Nat}{p:Pr}{v:PrV}(h:PLk n w g p v)(hb:Below w.heap.size w w'):PLk n w' g p v:=⟨h.1.over hb,h.2.1.over hb,h.2.2⟩
theorem PLk.alt{n g0:Nat}{w w':World}{g:Nat}{p:Pr}{v:PrV}(h:PLk n w g p v)(ha:Alt g0 w w')(hg:g0<n):PLk n w' g p v:=
 ⟨ha.cat (by have:=h.2.2;omega) h.1,h.2.1.keep fun b hb hl=>ha.block b hl (by omega),h.2.2⟩
theorem PLk.lt{n:Nat}{w:World}{g:Nat}{p:Pr}{v:PrV}(h:PLk n w g p v):g<w.heap.size:=h.1.lt
theorem CLk.lt{n:Nat}{w:World}{g:Nat}{c:Cs}{v:CsV}(h:CLk n w g c v):g<w.heap.size:=h.1.lt
theorem PLk.mk{n k:Nat}{w wb:World}{g:Nat}{p:Pr}{v:PrV}(hc:CAt 57 wb g (prC p v))(h:PIn (fun b=>k<=b) w p v)(hb:Below w.heap.size w wb)(hk:n<=k)(hg:n<=g):PLk n wb g p v:=⟨hc,(h.mono (P':=fun b=>n<=b) fun _ _ hp=>Nat.le_trans hk hp).over hb,hg⟩
theorem CLk.mk{n k:Nat}{w wb:World}{g:Nat}{c:Cs}{v:CsV}(hc:CAt 63 wb g (csC c v))(h:CIn (fun b=>k<=b) w c v)(hb:Below w.heap.size w wb)(hk:n<=k)(hg:n<=g):CLk n wb g c v:=⟨hc,(h.mono (P':=fun b=>n<=b) fun _ _ hp=>Nat.le_trans hk hp).over hb,hg⟩
structure z3g(P:Nat->Prop)(w w':World):Prop where
 os:w'.os=w.os
 tape:w'.tape=w.tape
 output:w'.output=w.output
 size:w.heap.size<=w'.heap.size
 block:∀ k,k<w.heap.size->¬ P k->w'.heap[k]?=w.heap[k]?
theorem z3g.trans{P:Nat->Prop}{w w1 w2:World}(h:z3g P w w1)(k:z3g P w1 w2):z3g P w w2:=⟨k.os.trans h.os,k.tape.trans h.tape,k.output.trans h.output,Nat.le_trans h.size k.size,fun i hi h1=>(k.block i (Nat.lt_of_lt_of_le hi h.size) h1).trans (h.block i hi h1)⟩
theorem z3g.of{P:Nat->Prop}{w w':World}(h:Below w.heap.size w w'):z3g P w w':=⟨h.os,h.tape,h.output,h.size,fun k hk _=>h.block k hk⟩
theorem z3g.alt{P:Nat->Prop}{a:Nat}{w w':World}(h:Alt a w w')(ha:P a):z3g P w w':=⟨h.os,h.tape,h.output,h.size,fun k hk h1=>h.block k hk fun e=>h1 (e ▸ ha)⟩
theorem z3g.also{P:Nat->Prop}{g:Nat}{w wl w':World}(h:z3g P w wl)(c:Alt g wl w')(hg:w.heap.size<=g):z3g P w w':=⟨c.os.trans h.os,c.tape.trans h.tape,c.output.trans h.output,Nat.le_trans h.size c.size,fun k hk h1=>(c.block k (Nat.lt_of_lt_of_le hk h.size) (by omega)).trans (h.block k hk h1)⟩
theorem z3g.below{P:Nat->Prop}{n:Nat}{w w':World}(h:z3g P w w')(hp:∀ k,k<n->¬ P k)(hn:n<=w.heap.size):Below n w w':=⟨h.os,h.tape,h.output,h.size,fun k hk=>h.block k (by omega) (hp k hk)⟩
theorem z3y.y0o{P:Nat->Prop}{w w':World}{A:Option Addr}{b off:Nat}{l:List Dd}(h:z3y w A b off l)(ha:z3g P w w')(hb:0<l.length->¬ P b):z3y w' A b off l:=by
 refine⟨h.adr,h.len,fun i x hx j v hv=>?_⟩;have h0:0<l.length:=by have:=(List.getElem?_eq_some_iff.1 hx).1;omega
 rw[← h.cell i x hx j v hv];exact World.cell?_of_block (w:=w) (a:=⟨b,off+i * 7+j,none⟩) (ha.block b (h.lt h0) (hb h0))
end Wd
namespace Wd
open Go.RowKit Pv
theorem j1j{P:Nat->Prop}{w wx:World}{l:List (Int×Int)}{v:Value}(h:Rep P w v 2 16 (pwC l))(hb:Below w.heap.size w wx):∃ A C,v=.slice A l.length C/\l.length<=140737488351232/\∀ k,k<l.length->∃ b o,A=some ⟨b,o,none⟩/\wx.cell? ⟨b,o+k * 2,none⟩=some (.int .i64 (l.getD k (0,0)).1)/\wx.cell? ⟨b,o+k * 2+1,none⟩=some (.int .i64 (l.getD k (0,0)).2):=by
 obtain⟨A,C,e,s,-,c,-⟩:=(h.over hb).open (z0c l) (by decide)
 refine⟨A,C,e,by omega,fun k hk=>?_⟩
 obtain⟨b,o,ea,-,-,hc⟩:=c (by omega)
 obtain⟨g1,g2⟩:=z2h l k hk;exact⟨b,o,ea,hc _ _ g1,by rw[Nat.add_assoc];exact hc _ _ g2⟩
theorem y1n(w:World)(a b:Int):(binOp .neq 68 (.agg #[.int .i64 a,.int .i64 b]) (.agg #[.int .i64 a,.int .i64 b])).run prog w=.ok (.bool false) w:=by
 rw[run_neq_struct];go_simp
theorem z5r(l:List (Int×Int))(v v':Value)(P P':Nat->Prop)(w:World)(h:Rep P w v 2 16 (pwC l))(h':Rep P' w v' 2 16 (pwC l)) :
  Calls prog 17 #[v,v'] w fun e w'=>e=.returned (.bool true)/\Below w.heap.size w w':=by
 have H1:=hide (fun (wx:World) (hb:Below w.heap.size w wx)=>j1j h hb);have H2:=hide (fun (wx:World) (hb:Below w.heap.size w wx)=>j1j h' hb);obtain⟨A,C,rfl,hl,-⟩:=j1j h (Below.refl _ w);obtain⟨A',C',rfl,-,-⟩:=j1j h' (Below.refl _ w);clear h h'
 go_enter func17,ntmps17
 go_upto_region 4 with fail
 go_loopw [5] (fun i wl=>∃ k:Nat,k<=l.length/\i=.int .i64 (k:Int)/\Hid (Below w.heap.size w wl)) (fun i _=>l.length - (intOf i).toNat)
 case atStart=>exact⟨0,by omega,rfl,Below.refl _ _⟩
 case round =>
  obtain⟨k,hk,rfl,HB⟩:=hrel
  by_cases hlt:k<l.length
  ·obtain⟨A1,C1,e1,-,f1⟩:=H1.out wr HB.out;obtain⟨A2,C2,e2,-,f2⟩:=H2.out wr HB.out;cases e1;cases e2;obtain⟨b,o,rfl,c0,c1⟩:=f1 k hlt;obtain⟨b',o',rfl,d0,d1⟩:=f2 k hlt;clear f1 f2;have n4:=fun w=>y1n w (l.getD k (0,0)).1 (l.getD k (0,0)).2;generalize (l.getD k (0,0)).1=y0 at *;generalize (l.getD k (0,0)).2=y1 at *;have hk0:(0:Int)<=(k:Int):=by omega
   have hk1:(k:Int)<(l.length:Int):=by omega
   go_upto_region 6 with fail
   go_quiet (fail);go_wp2;go_roundw
   case rel=>exact⟨k+1,by omega,by go_num,HB.out.os,HB.out.tape,HB.out.output,HB.out.size,HB.out.block⟩
   case measure=>simp[intOf];omega
  ·go_wp2;go_ret;exact⟨rfl,HB.out⟩
end Wd
namespace Wd
open Go.RowKit Pv Kc
structure SQ(x y:Wo)(i:Nat):Prop where
 h:y.p.h=x.p.h
 set:y.p.set=x.p.set
 on:(y.p.L i).on=(x.p.L i).on
 told:(y.p.L i).told=(x.p.L i).told
 out:(y.p.L i).out=(x.p.L i).out
 con:(y.c i).on=(x.c i).on
 cset:(y.c i).set=(x.c i).set
 id:(y.c i).id=(x.c i).id
 pd:(y.c i).pd=(x.c i).pd
inductive Tr (x y:Wo) (i:Nat):Prop
 | off:y.p.h=x.p.h->y.p.set=x.p.set->(y.c i).on=false->Tr x y i
 | same:SQ x y i->Tr x y i
 | q5i:y.c i=x.c i->y0X x.p y.p x.ck->y.p=(endP x.p x.ck).1->Tr x y i
 | beg:(x.c i).on=false->(x.c i).gone=false->1<=x.p.h->y.p.h=x.p.h->y.p.set=x.p.set->y.p.L i=z7w x.p->y.c i=z2M x.p.set x.p.h x.ck->Tr x y i
 | cons:y.p=x.p->y.c i=z4d { x.c i with h:=(x.c i).h+1,t:=x.ck }->Tr x y i
 | del (n:Nat) (s:ByteArray) (q:Pkt):z2i (Cd.bs s)=q->(x.p.L i).out.g=(n:Int)->(x.p.L i).out.S[n]?=some s->y.p.h=x.p.h->y.p.set=x.p.set->y.p.L i={ x.p.L i with out:={ (x.p.L i).out with g:=(x.p.L i).out.g+1 } }->y.c i={ x.c i with pd:=(x.c i).pd ++ [q] }->Tr x y i
theorem SQ.of{x y:Wo}{i:Nat}(h:y.p.h=x.p.h)(s:y.p.set=x.p.set)(l:y.p.L i=x.p.L i∨y.p.L i=z1q x.p.L i)(on:(y.c i).on=(x.c i).on)(a:(y.c i).set=(x.c i).set)(b:(y.c i).id=(x.c i).id)(c:(y.c i).pd=(x.c i).pd):SQ x y i:=by
 rcases l with l | l
 ·exact⟨h,s,by rw[l],by rw[l],by rw[l],on,a,b,c⟩
 ·have:=z3O x.p.L i;exact⟨h,s,by rw[l];exact this.1,by rw[l];exact this.2.2.2,by rw[l];exact this.2.2.1,on,a,b,c⟩
theorem SQ.refl(x:Wo)(i:Nat):SQ x x i:=⟨rfl,rfl,rfl,rfl,rfl,rfl,rfl,rfl,rfl⟩
theorem y0L(x:Wo)(d:Dd)(i:Nat):SQ x (atP x d).1 i:=by
 unfold atP
 split
 ·dsimp only;rw[z6T];exact SQ.of rfl rfl (.inl rfl) rfl rfl rfl rfl
 ·split
  ·dsimp only;have e:=z9u x.p d.d d.v d.n x.ck;exact SQ.of e.1 e.2.2.2.1 (by rcases e.2.2.2.2 with e | e <;> simp only[e,or_true,true_or]) rfl rfl rfl rfl
  ·split
   ·exact SQ.of rfl rfl (.inl rfl) rfl rfl rfl rfl
   ·dsimp only;rw[z8s];exact SQ.of rfl rfl (.inl rfl) rfl rfl rfl rfl
theorem z8d(c:Cs)(k i v n now:Int):(z2u c k i v n now).1.on=c.on/\(z2u c k i v n now).1.set=c.set/\(z2u c k i v n now).1.id=c.id/\(z2u c k i v n now).1.pd=c.pd:=by
 unfold z2u
 split <;> exact⟨rfl,rfl,rfl,rfl⟩
theorem j7q(c:Cs)(v now:Int):(z3z c v now).1.on=c.on/\(z3z c v now).1.set=c.set/\(z3z c v now).1.id=c.id/\(z3z c v now).1.pd=c.pd:=by
 unfold z3z
 repeat' split
 all_goals first | exact⟨rfl,rfl,rfl,rfl⟩ | exact z8d _ _ _ _ _ _
theorem j0S(c:Cs)(v i now:Int):(z1d c v i now).1.on=c.on/\(z1d c v i now).1.set=c.set/\(z1d c v i now).1.id=c.id/\(z1d c v i now).1.pd=c.pd:=by
 unfold z1d
 repeat' split
 all_goals first | exact⟨rfl,rfl,rfl,rfl⟩ | exact z8d _ _ _ _ _ _
theorem q0l{x:Wo}{j:Nat}{y:Cs}{hp hc:Nat->Hd}(i:Nat)(h:i=j->y.on=(x.c j).on/\y.set=(x.c j).set/\y.id=(x.c j).id/\y.pd=(x.c j).pd):SQ x { x with c:=z2L x.c j y,hp:=hp,hc:=hc } i:=by
 by_cases e:i=j
 ·subst e;have:=h rfl;refine SQ.of rfl rfl (.inl rfl) ?_ ?_ ?_ ?_
  all_goals
   show _=_
   dsimp only;rw[z1I]
  ·exact this.1
  ·exact this.2.1
  ·exact this.2.2.1
  ·exact this.2.2.2
 ·refine SQ.of rfl rfl (.inl rfl) ?_ ?_ ?_ ?_
  all_goals
   dsimp only;rw[z1H _ _ e]
theorem j3p{l:Ln.Line}{s:ByteArray}{a b:Int}(h:Ln.z4v l (l.g+1) s a b=0):∃ n:Nat,l.g=(n:Int)/\l.S[n]?=some s/\Ln.z4Z l (l.g+1) s a b={ l with g:=l.g+1 }:=by
 have hL:Ln.z4Z l (l.g+1) s a b={ l with g:=l.g+1 }:=by
  unfold Ln.z4Z;rw[if_pos h]
 unfold Ln.z4v at h
 split at h
 ·exact absurd h ‹_›
 ·rename_i hr;have hr:Ln.z4f l=0:=by simpa using hr
  have hg:Ln.z0T l=true:=by
   unfold Ln.z4f at hr
   split at hr
   ·cases hr
   ·rename_i q
    simpa using q
  have hg0:=((z0Y l).1 hg).2.2.2.1;rw[if_neg (by simp)]at h
  split at h
  ·cases h
  ·rename_i q;simp only[not_or]at q;have e:(l.g+1 - 1).toNat=l.g.toNat:=by rw[Int.add_sub_cancel]
   have q2:=q.2.2;rw[e]at q2;refine⟨l.g.toNat,(Int.toNat_of_nonneg hg0).symm,?_,hL⟩;have hlt:l.g.toNat<l.S.length:=by omega
   rw[List.getD_eq_getElem?_getD,List.getElem?_eq_getElem hlt]at q2;rw[List.getElem?_eq_getElem hlt];simp only[Option.getD_some,ne_eq,Classical.not_not]at q2;rw[q2]
theorem q8y(c:Cs)(l:List Int):((z3d c l).2=0/\(z3d c l).1={ c with pd:=c.pd ++ [z2i l] })∨((z3d c l).2≠0/\(z3d c l).1=c):=by
 unfold z3d;generalize Cd.z6l l=E;generalize z2i l=q
 by_cases h1:z5p c=0
 ·rw[if_pos h1]
  by_cases h2:E=0
  ·rw[if_pos h2]
   by_cases h3:q.k=1
   ·rw[if_pos h3];exact .inl ⟨rfl,rfl⟩
   ·rw[if_neg h3];exact .inr ⟨by simp,rfl⟩
  ·rw[if_neg h2];exact .inr ⟨h2,rfl⟩
 ·rw[if_neg h1];exact .inr ⟨h1,rfl⟩
theorem q9r(f:Nat->Cs)(j:Nat):z2L f j (f j)=f:=by
 funext k
 unfold z2L
 split
 ·rename_i e;rw[e]
 ·rfl
theorem SQ.eq{x y:Wo}{i:Nat}(h:y.p.h=x.p.h)(s:y.p.set=x.p.set)(l:y.p.L i=x.p.L i)(c:y.c i=x.c i):SQ x y i:=SQ.of h s (.inl l) (by rw[c]) (by rw[c]) (by rw[c]) (by rw[c])
theorem q4g(x:Wo)(j:Nat)(s:ByteArray)(l:Ln.Line)(i:Nat):SQ x { x with p:=(z3L x.p j (Cd.bs s)).1,c:=z2L x.c j { x.c j with out:=l } } i:=by
 rw[(z6r _ _ _).1];have:=q0l (x:=x) (j:=j) (y:={ x.c j with out:=l }) (hp:=x.hp) (hc:=x.hc) i (fun _=>⟨rfl,rfl,rfl,rfl⟩)
 exact⟨rfl,rfl,rfl,rfl,rfl,this.con,this.cset,this.id,this.pd⟩
theorem j8N(x:Wo)(j:Nat)(b f:Bool)(i:Nat):Tr x (z9K x j b f).1 i:=by
 unfold z9K
 split
 ·rename_i hd;obtain⟨n,hn,hs,hl⟩:=j3p hd;cases b
  ·have e1:z1N x j false (z0G x j false f)=({ x with c:=z2L x.c j (z3d (x.c j) (Cd.bs (z0G x j false f))).1 },(z3d (x.c j) (Cd.bs (z0G x j false f))).2):=rfl
   rw[e1,hl];dsimp only;have e2:z1j x j false=(x.p.L j).out:=rfl;rw[e2]at hn hs ⊢;generalize z0G x j false f=s at *;clear e1 hl hd e2
   rcases q8y (x.c j) (Cd.bs s) with⟨h1,h2⟩ | ⟨h1,h2⟩
   ·rw[if_pos h1,h2];clear h1 h2;generalize hq:z2i (Cd.bs s)=q at *
    by_cases e:i=j
    ·subst e;exact .del n s q hq hn hs rfl rfl (z2D _ _ _) (z1I _ _ _)
    ·exact .same (SQ.eq rfl rfl (z1X _ _ e) (z1H _ _ e))
   ·rw[if_neg h1,h2,q9r];exact .same (SQ.eq rfl rfl rfl rfl)
  ·have e1:z1N x j true (z0G x j true f)=({ x with p:=(z3L x.p j (Cd.bs (z0G x j true f))).1 },(z3L x.p j (Cd.bs (z0G x j true f))).2):=rfl
   rw[e1];dsimp only
   split
   ·exact .same (q4g x j _ _ i)
   ·refine .same ?_;have:=q4g x j (z0G x j true f) (x.c j).out i;exact⟨this.h,this.set,this.on,this.told,this.out,rfl,rfl,rfl,rfl⟩
 ·exact .same (SQ.refl _ _)
theorem z6V(p:Pr)(c:Int):(z0u p c).h=p.h/\(z0u p c).set=p.set/\∀ i,i≠c.toNat->(z0u p c).L i=p.L i:=by
 unfold z0u
 split
 ·exact⟨rfl,rfl,fun i hi=>z1X _ _ hi⟩
 ·exact⟨rfl,rfl,fun _ _=>rfl⟩
theorem q3i(c:Cs):(z1o c).on=false:=by
 unfold z1o
 split
 ·rfl
 ·rename_i h
  simpa using h
theorem j8R(x:Wo)(j:Nat)(b:Bool)(k:Int)(i:Nat):Tr x (z9E x j b k).1 i:=by
 unfold z9E
 split
 ·dsimp only;generalize Ln.z7d (z1j x j b) k (q1n x j b) (j3N x j b)=l
  by_cases e:i=j
  ·subst e;have hr:=z6V (z1M x i b l).p i;refine .off (hr.1.trans (by cases b <;> rfl)) (hr.2.1.trans (by cases b <;> rfl)) ?_
   show (z2L _ i _ i).on=false
   rw[z1I];exact q3i _
  ·refine .same ?_;unfold q3C;have hr:=z6V (z1M x j b l).p j;refine SQ.eq (hr.1.trans ?_) (hr.2.1.trans ?_) ((hr.2.2 i (by simpa using e)).trans ?_) ((z1H _ _ e).trans ?_)
   all_goals cases b
   all_goals first | rfl | exact z1X _ _ e | exact z1H _ _ e
 ·exact .same (SQ.refl _ _)
theorem j5m(x:Wo)(i:Nat):Tr x (z4G x).1 i:=by
 unfold z4G
 split
 ·rename_i h0
  have hok:z0x x.p=true/\isT x.ck=true/\x.p.t<=x.ck:=by
   by_cases hq:z0x x.p=true/\isT x.ck=true/\x.p.t<=x.ck
   ·exact hq
   ·unfold endP at h0;rw[if_neg hq]at h0;cases h0
  exact .q5i rfl (z5B hok) rfl
 ·exact .same (SQ.refl _ _)
theorem j3z{N:Int}{x:Wo}(h:z2W N x)(c:Int)(i:Nat):Tr x (z3u x c).1 i:=by
 unfold z3u
 split
 ·rename_i hc
  split
  ·rename_i h0
   have hb:(z0X x.p c).1={ x.p with s:={ x.p.s with W:=x.p.s.W.map (z1A c.toNat (x.p.h+1)) },L:=z0Q x.p.L c.toNat (z7w x.p) }/\(x.p.L c.toNat).on=false/\(x.p.L c.toNat).gone=false/\x.p.h≠0:=by
    unfold z0X at h0 ⊢
    by_cases h1:z0x x.p=true
    ·rw[if_pos h1,if_pos hc]at h0;rw[if_pos h1,if_pos hc]
     by_cases h3:(x.p.L c.toNat).gone=true
     ·rw[if_pos h3]at h0;cases h0
     ·rw[if_neg h3]at h0 ⊢
      by_cases h4:(x.p.L c.toNat).on=true
      ·rw[if_pos h4]at h0;cases h0
      ·rw[if_neg h4]at h0 ⊢
       by_cases h5:x.p.h=0∨x.p.set.length=0
       ·rw[if_pos h5]at h0;cases h0
       ·rw[if_neg h5];exact⟨rfl,by simpa using h4,by simpa using h3,fun q=>h5 (.inl q)⟩
    ·rw[if_neg h1]at h0;cases h0
   obtain⟨e,h2,h3,h4⟩:=hb;rw[e];dsimp only
   have hj:c.toNat<2:=by
    unfold isC at hc;simp only[Bool.and_eq_true,decide_eq_true_eq]at hc;omega
   by_cases q:i=c.toNat
   ·subst q;have ho:=h.on _ hj;exact .beg (ho.1.trans h2) (ho.2.trans h3) (by have:=h.gp.h0;omega) rfl rfl (z2D _ _ _) (z1I _ _ _)
   ·exact .same (SQ.eq rfl rfl (z1X _ _ q) (z1H _ _ q))
  ·exact .same (SQ.refl _ _)
 ·exact .same (SQ.refl _ _)
theorem j7p(x:Wo)(j i:Nat):Tr x (z5e x j).1 i:=by
 unfold z5e
 split
 ·rename_i h0
  have he:(z9J (x.c j) x.ck).1=z4d { x.c j with h:=(x.c j).h+1,t:=x.ck }:=by
   unfold z9J at h0 ⊢
   by_cases h1:z5p (x.c j)=0
   ·rw[if_pos h1]at h0 ⊢
    by_cases h2:isT x.ck=true/\(x.c j).t<=x.ck
    ·rw[if_pos h2]
    ·rw[if_neg h2]at h0;cases h0
   ·rw[if_neg h1]at h0;exact absurd h0 h1
  dsimp only;rw[he]
  by_cases e:i=j
  ·subst e;exact .cons rfl (z1I _ _ _)
  ·exact .same (SQ.eq rfl rfl rfl (z1H _ _ e))
 ·exact .same (SQ.refl _ _)
theorem j5b(x:Wo)(j:Nat)(b:Bool)(i:Nat):SQ x (z5d x j b) i:=by
 unfold z5d
 split
 ·by_cases e:i=j
  ·subst e;have h:z0Q x.p.L i (j7K (x.p.L i) (x.hc i)) i=j7K (x.p.L i) (x.hc i):=z2D _ _ _;exact⟨rfl,rfl,by dsimp only;rw[h];rfl,by dsimp only;rw[h];rfl,by dsimp only;rw[h];rfl,rfl,rfl,rfl,rfl⟩
  ·exact SQ.eq rfl rfl (z1X _ _ e) rfl
 ·exact q0l (hp:=x.hp) (hc:=x.hc) i fun _=>⟨rfl,rfl,rfl,rfl⟩
theorem j5r(x:Wo)(j:Nat)(d:Dd)(i:Nat):Tr x (z5b x j d).1 i:=by
 unfold z5b
 split
 ·exact j7p _ _ _
 ·split
  ·exact .same (j5b _ _ _ _)
  ·split
   ·exact j8N _ _ _ _ _
   ·split
    ·exact j8R _ _ _ _ _
    ·dsimp only;unfold q2N
     split
     ·exact .same (q0l (hp:=x.hp) (hc:=x.hc) i fun _=>j7q _ _ _)
     ·exact .same (q0l (hp:=x.hp) (hc:=x.hc) i fun _=>j0S _ _ _ _)
theorem j5V{N:Int}{x:Wo}(h:z2W N x)(d:Dd)(i:Nat):Tr x (z2Q x d).1 i:=by
 unfold z2Q
 split
 ·exact .same (y0L _ _ _)
 ·split
  ·unfold z6s
   split <;> exact .same (SQ.eq rfl rfl rfl rfl)
  ·split
   ·exact j5m _ _
   ·split
    ·exact j3z h _ _
    ·split
     ·split
      ·exact j5r _ _ _ _
      ·exact .same (SQ.refl _ _)
     ·exact .same (SQ.refl _ _)
theorem j4L{x:Wo}(h:Inv x)(d:Dd)(i:Nat):Tr x (doW x d).1 i:=by
 unfold doW
 split
 ·exact .same (SQ.refl _ _)
 ·have:=j5V (x:=z1O x) (h.dn _) d i;cases this with
  | off a b c=>exact .off a b c
  | same a=>exact .same ⟨a.h,a.set,a.on,a.told,a.out,a.con,a.cset,a.id,a.pd⟩
  | q5i a b c=>exact .q5i a b c
  | beg a b c d e f g=>exact .beg a b c d e f g
  | cons a b=>exact .cons a b
  | del n s q a b c d e f g=>exact .del n s q a b c d e f g
abbrev Pws:=List (Int×Int)
def Ch(H:Int->Pws)(h:Int)(fin:Pws):Int->Pws->List Pkt->Prop
 | id,set,[]=>H id=set/\id<=h/\set=fin
 | id,set,q :: r=>H id=set/\id<q.i/\Ch H h fin q.i (Df.z1L set q.S) r
def j6S(set:Pws)(l:List Pkt):Pws:=l.foldl (fun s q=>Df.z1L s q.S) set
def q2P(id:Int)(l:List Pkt):Int:=l.foldl (fun _ q=>q.i) id
theorem Ch.head{H:Int->Pws}{h:Int}{fin:Pws}:∀ {l:List Pkt} {id:Int} {set:Pws},Ch H h fin id set l->H id=set/\id<=h
 | [],_,_,c=>⟨c.1,c.2.1⟩
 | _ :: _,_,_,c=>⟨c.1,by have:=(Ch.head c.2.2).2;have:=c.2.1;omega⟩
theorem Ch.take{H:Int->Pws}{h:Int}{fin:Pws}{b:List Pkt}:∀ {a:List Pkt} {id:Int} {set:Pws},Ch H h fin id set (a ++ b)->Ch H h fin (q2P id a) (j6S set a) b/\id<=q2P id a
 | [],_,_,c=>⟨c,Int.le_refl _⟩
 | q :: a,id,set,c=>by
  have h1:=Ch.take (a:=a) c.2.2;have h2:=c.2.1;have h3:=h1.2;exact⟨h1.1,by show id<=q2P q.i a;omega⟩
theorem Ch.snoc{H H':Int->Pws}{h h':Int}{fin fin':Pws}{q:Pkt}(hh:h<h')(hq:q.i=h')(hf:Df.z1L fin q.S=fin')(hH:H' h'=fin')(hs:∀ i,i<=h->H' i=H i):∀ {l:List Pkt} {id:Int} {set:Pws},Ch H h fin id set l->Ch H' h' fin' id set (l ++ [q])
 | [],id,set,c=>by
  refine⟨(hs id c.2.1).trans c.1,by rw[hq];have:=c.2.1;omega,?_⟩
  rw[c.2.2,hf,hq];exact⟨hH,Int.le_refl _,rfl⟩
 | _ :: _,id,set,c=>⟨(hs id (Ch.head c).2).trans c.1,c.2.1,Ch.snoc hh hq hf hH hs c.2.2⟩
theorem Ch.keep{H H':Int->Pws}{h h':Int}{fin:Pws}(hh:h<=h')(hs:∀ i,i<=h->H' i=H i):∀ {l:List Pkt} {id:Int} {set:Pws},Ch H h fin id set l->Ch H' h' fin id set l
 | [],id,set,c=>⟨(hs id c.2.1).trans c.1,by have:=c.2.1;omega,c.2.2⟩
 | _ :: _,id,set,c=>⟨(hs id (Ch.head c).2).trans c.1,c.2.1,Ch.keep hh hs c.2.2⟩
def pkS(S:List ByteArray):List Pkt:=S.map fun s=>z2i (Cd.bs s)
structure TI(H:Int->Pws)(x:Wo)(i:Nat):Prop where
 cl:(x.p.L i).out.cl=false
 len:((x.p.L i).out.S.length:Int)<=x.p.h
 told:(x.p.L i).told=x.p.set
 dec:∀ (n:Nat) s,(x.p.L i).out.g<=(n:Int)->(x.p.L i).out.S[n]?=some s->Cd.z6l (Cd.bs s)=0/\(z2i (Cd.bs s)).k=1
 ch:Ch H x.p.h x.p.set (x.c i).id (x.c i).set ((x.c i).pd ++ pkS ((x.p.L i).out.S.drop (x.p.L i).out.g.toNat))
theorem j2K{l:Pws}(h:z2N (-1) l=true)(v:Nat):0<=Df.z1s l v/\Df.z1s l v<=1125899906842624:=by
 have key:∀ m:Pws,(∀ x∈m,1<=x.2/\x.2<=1125899906842624)->0<=Df.z1s m v/\Df.z1s m v<=1125899906842624:=by
  intro m
  induction m with
  | nil=>intro _;exact⟨Int.le_refl _,(by decide:(0:Int)<=1125899906842624)⟩
  | cons x m ih =>
   intro hm;have h1:=ih fun y hy=>hm y (List.mem_cons_of_mem _ hy);have h2:=hm x (List.mem_cons_self ..)
   show 0<=Df.z8u (Df.z1s m) x v/\Df.z8u (Df.z1s m) x v<=_
   unfold Df.z8u
   split
   ·dsimp only
    split
    ·omega
    ·exact h1
   ·exact h1
 exact key l fun x hx=>(z2V l _ h x hx).2.2
theorem j0i(c:Nat->Bool)(f:Nat->Int)(h:∀ i,i<6->0<=f i/\f i<=1125899906842624):Cd.z0d (-1) (Df.those c f 6)=true:=by
 have h0:=h 0 (by omega)
 have h1:=h 1 (by omega)
 have h2:=h 2 (by omega)
 have h3:=h 3 (by omega)
 have h4:=h 4 (by omega)
 have h5:=h 5 (by omega)
 unfold Df.those;rw[show List.range 6=[0,1,2,3,4,5] from rfl];cases e0:c 0 <;> cases e1:c 1 <;> cases e2:c 2 <;> cases e3:c 3 <;> cases e4:c 4 <;> cases e5:c 5 <;> simp[e0,e1,e2,e3,e4,e5,Cd.z0d,Cd.isV] <;> omega
theorem z9i:∀ (l:List Int) (a:Int),-1<=a->z2g a l=true->Cd.z0h a l=true
 | [],_,_,_=>rfl
 | x :: l,a,ha,h=>by
  unfold z2g at h;simp only[Bool.and_eq_true,decide_eq_true_eq]at h;unfold Cd.z0h;rw[z9i l x (by omega) h.2]
  simp only[Bool.and_true,Bool.and_eq_true,decide_eq_true_eq];refine⟨h.1.1,?_⟩;unfold Cd.isV;simp only[decide_eq_true_eq];omega
theorem j0N{h:Int}{a b:Pws}{D:List Int}(h1:1<=h)(h2:h<=1099511627776)(hb:z2N (-1) b=true)(hD:z2g (-1) D=true):Cd.z0m 1 h 0 0 (Df.z3x a b) D=0:=by
 have hp:Cd.z0d (-1) (Df.z3x a b)=true:=j0i _ _ fun i _=>j2K hb i;have hr:=z9i D (-1) (by omega) hD
 unfold Cd.z0m;rw[if_neg (by omega),if_neg (by omega),if_neg (by rintro⟨h,-⟩;revert h;decide),if_neg (by show ¬ (false=true);decide),if_neg (by rw[hp,hr];decide)]
theorem q1h:∀ (l:Pws) (c:Cs),(z2l c l).on=c.on/\(z2l c l).set=c.set/\(z2l c l).id=c.id/\(z2l c l).pd=c.pd
 | [],_=>⟨rfl,rfl,rfl,rfl⟩
 | x :: l,c=>by
  unfold z2l
  split
  ·split
   ·have h:=q1h l (z2u c 2 x.1 0 0 c.t).1;have h2:=z8d c 2 x.1 0 0 c.t;exact⟨h.1.trans h2.1,h.2.1.trans h2.2.1,h.2.2.1.trans h2.2.2.1,h.2.2.2.trans h2.2.2.2⟩
   ·exact⟨rfl,rfl,rfl,rfl⟩
  ·exact⟨rfl,rfl,rfl,rfl⟩
theorem z9q:∀ (l:List Pkt) (c:Cs),(l.foldl takeC c).on=c.on/\(l.foldl takeC c).set=j6S c.set l/\(l.foldl takeC c).id=q2P c.id l
 | [],_=>⟨rfl,rfl,rfl⟩
 | q :: l,c=>by
  have h:=z9q l (takeC c q);exact⟨h.1,h.2.1,h.2.2⟩
theorem q1b(c:Cs):(z4d c).on=c.on/\(z4d c).set=j6S c.set c.pd/\(z4d c).id=q2P c.id c.pd/\(z4d c).pd=[]:=by
 unfold z4d;have h:=q1h (z2v c).rp { z2v c with pd:=[] }
 have h2:=z9q c.pd c;exact⟨h.1.trans h2.1,h.2.1.trans h2.2.1,h.2.2.1.trans h2.2.2,h.2.2.2⟩
theorem q9v{p:Pr}{c:Nat}(hg:Cd.z0m 1 p.h 0 0 (Df.z3x (p.L c).told p.set) (p.L c).done=0)(hs:Ln.z5C (p.L c).out (p.t+40)=0):((z1g p c).L c=p.L c/\((p.L c).on=true->(p.L c).told=p.set))∨Pv.Told p.h p.t p.set (p.L c) ((z1g p c).L c):=by
 rcases q2U p c with h | h
 ·by_cases hq:z5k p (p.L c)=true
  ·refine .inl ⟨h,fun ho=>?_⟩;unfold z5k at hq;rw[ho]at hq;simp only[Bool.not_true,Bool.false_or,Bool.and_eq_true,decide_eq_true_eq]at hq;exact hq.1.1
  ·refine .inr ?_;unfold z1g;rw[if_neg hq,if_pos hg,if_pos hs];refine⟨?_,hg,hs,?_⟩
   ·cases ho:(p.L c).on
    ·exact absurd (by unfold z5k;rw[ho];rfl) hq
    ·rfl
   ·show z0Q p.L c _ c=_
    unfold z0Q;rw[if_pos rfl]
 ·exact .inr h
theorem j1I{l:Ln.Line}{t:Int}(hg:Ln.z0T l=true)(hc:l.cl=false)(hl:l.S.length<400)(ht:0<=t):Ln.z5C l t=0:=by
 unfold Ln.z5C Ln.z4f;rw[if_neg (by omega),hg,hc]
 simp only[Bool.true_eq_false,if_false,Bool.false_eq_true,ne_eq,not_true_eq_false];rw[if_neg (by omega)]
theorem j2m{p:Pr}{now:Int}(hok:z0x p=true/\isT now=true/\p.t<=now){c:Nat}(hc:c<2)(hcl:(p.L c).out.cl=false)(hlen:(p.L c).out.S.length<400)(hon:(p.L c).on=true) :
  ∃ z,z5c (p.L c) z/\(((endP p now).1.L c=z/\z.told=(endP p now).1.set)∨Pv.Told (p.h+1) now (endP p now).1.set z ((endP p now).1.L c)):=by
 have hE:(endP p now).1=z1g (z1g (z2J (z0n (z0j p now)) now) 0) 1:=by unfold endP;rw[if_pos hok]
 have hA:=z5B hok;rw[hE]at hA ⊢;have hs:=z6w (z0j p now);have hi:=z7Z hok.1 now;have hgp:=(z5H p).1 hok.1;have ht:=(z7I now).1 hok.2.1;have e1:(z2J (z0n (z0j p now)) now).h=p.h+1:=hs.h;have e2:(z2J (z0n (z0j p now)) now).t=now:=hs.t;obtain⟨b1,b2,-,b4,-,-,-⟩:=z3X (z2J (z0n (z0j p now)) now) 0;obtain⟨-,-,-,a4,-,-,-⟩:=z3X (z1g (z2J (z0n (z0j p now)) now) 0) 1;have z:z5c (p.L c) ((z0n (z0j p now)).L c):=hs.lk c;have hr:=hi.2 c hc;have hsb:=hA.z2N;rw[a4,b4]at hsb;have hg:Cd.z0m 1 (p.h+1) 0 0 (Df.z3x ((z0n (z0j p now)).L c).told (z2J (z0n (z0j p now)) now).set) ((z0n (z0j p now)).L c).done=0:=j0N (by have:=hgp.h0;omega) (by have:=hgp.h1;omega) hsb hr
 have hsy:Ln.z5C ((z0n (z0j p now)).L c).out (now+40)=0:=j1I (by rw[z.out];exact (hgp.lk c hc).out) (by rw[z.out];exact hcl) (by rw[z.out];exact hlen) (by omega)
 have hon':((z0n (z0j p now)).L c).on=true:=z.on.trans hon;refine⟨_,z,?_⟩;rw[a4,b4]
 rcases (show c=0∨c=1 by omega) with rfl | rfl
 ·rw[z5U _ 1 0 (by omega)]
  have h:=q9v (p:=z2J (z0n (z0j p now)) now) (c:=0) (by rw[e1];exact hg) (by rw[e2];exact hsy)
  rw[e1,e2]at h
  rcases h with h | h
  ·exact .inl ⟨h.1,h.2 hon'⟩
  ·exact .inr h
 ·have e3:(z1g (z2J (z0n (z0j p now)) now) 0).L 1=(z0n (z0j p now)).L 1:=z5U _ 0 1 (by omega)
  have h:=q9v (p:=z1g (z2J (z0n (z0j p now)) now) 0) (c:=1) (by rw[e3,b1,b4,e1];exact hg) (by rw[e3,b2,e2];exact hsy)
  rw[b1,b2,b4,e3,e1,e2]at h
  rcases h with h | h
  ·exact .inl ⟨h.1,h.2 hon'⟩
  ·exact .inr h
def q5J(H:Int->Pws)(h:Int)(s:Pws):Int->Pws:=fun k=>if k=h then s else H k
structure WH(H:Int->Pws)(x:Wo):Prop where
 now:H x.p.h=x.p.set
 ti:∀ i,i<2->(x.c i).on=true->TI H x i
theorem j0T{α:Type}(l:List α)(n:Nat)(a:α)(h:n<=l.length):(l ++ [a]).drop n=l.drop n ++ [a]:=by
 rw[List.drop_append,show n - l.length=0 by omega]
 rfl
theorem j5R{H:Int->Pws}{x y:Wo}{i:Nat}(hx:Inv x)(hd:x.dn<400)(hi:i<2)(h:(x.c i).on=true->TI H x i)(hn:H x.p.h=x.p.set)(hon:(y.c i).on=true)(t:Tr x y i):TI (q5J H y.p.h y.p.set) y i:=by
 have keep:y.p.h=x.p.h->y.p.set=x.p.set->q5J H y.p.h y.p.set=H:=fun e1 e2=>by
  funext k
  unfold q5J
  split
  ·rename_i e;rw[e,e1,e2,hn]
  ·rfl
 cases t with
 | off _ _ a=>rw[a]at hon;cases hon
 | same q =>
  rw[keep q.h q.set];have T:=h (q.con.symm.trans hon);refine⟨by rw[q.out];exact T.cl,by rw[q.out,q.h];exact T.len,by rw[q.told,q.set];exact T.told,by rw[q.out];exact T.dec,?_⟩
  rw[q.out,q.h,q.set,q.cset,q.id,q.pd];exact T.ch
 | q5i ec E ep =>
  have T:=h (by rw[← ec];exact hon)
  have hok:z0x x.p=true/\isT x.ck=true/\x.p.t<=x.ck:=⟨(z5H _).2 hx.gp,(z7I _).2 ⟨hx.k0,by have:=hx.k1;omega⟩,hx.pt⟩
  have hl:=T.len;have hph:=hx.ph;have hgl:=(z0Y _).1 (hx.gp.lk i hi).out;obtain⟨z,hz,hc⟩:=j2m hok hi T.cl (by omega) ((hx.on i hi).1.symm.trans (by rw[← ec];exact hon))
  rw[← ep]at hc
  have hsx:∀ k,k<=x.p.h->q5J H y.p.h y.p.set k=H k:=fun k hk=>by
   unfold q5J;rw[if_neg (by rw[E.h];omega)]
  rcases hc with⟨e1,e2⟩ | t
  ·have e3:y.p.set=x.p.set:=by rw[← e2,hz.told,T.told]
   refine⟨by rw[e1,hz.out];exact T.cl,by rw[e1,hz.out,E.h];omega,by rw[e1];exact e2,by rw[e1,hz.out];exact T.dec,?_⟩
   rw[e1,hz.out,ec];have:=T.ch.keep (h':=y.p.h) (by rw[E.h];omega) hsx
   rw[← e3]at this;exact this
  ·have e1:=t.eq;obtain⟨d1,-⟩:=q3y t.good;have d2:=q5v t.good
   have hS:(y.p.L i).out=⟨(x.p.L i).out.S ++ [Cd.encS 1 (x.p.h+1) 0 0 (Df.z3x z.told y.p.set) z.done],(x.p.L i).out.D ++ [x.ck+40],(x.p.L i).out.g,(x.p.L i).out.cl⟩:=by
    rw[e1]
    show Ln.z5i z.out _ (x.ck+40)=_
    unfold Ln.z5i;rw[if_pos t.say,hz.out]
   have hap:Df.z1L x.p.set (Df.z3x z.told y.p.set)=y.p.set:=by
    rw[hz.told,T.told];exact j0u hx.gp.set E.z2N
   have htl:(y.p.L i).told=y.p.set:=by rw[e1]
   clear e1;generalize Cd.encS 1 (x.p.h+1) 0 0 (Df.z3x z.told y.p.set) z.done=s at *;refine⟨by rw[hS];exact T.cl,by rw[hS,E.h];simp only[List.length_append,List.length_cons,List.length_nil];omega,htl,fun m u hm hu=>?_,?_⟩
   ·rw[hS]at hm hu;dsimp only at hm hu
    by_cases hlt:m<(x.p.L i).out.S.length
    ·rw[List.getElem?_append_left hlt]at hu;exact T.dec m u hm hu
    ·rw[List.getElem?_append_right (by omega)]at hu
     have:m - (x.p.L i).out.S.length=0:=by
      have:=(List.getElem?_eq_some_iff.1 hu).1
      simp at this
      omega
     rw[this]at hu;cases hu;exact⟨d1,by rw[d2]⟩
   ·rw[hS,ec];dsimp only;rw[j0T _ _ _ (by omega)]
    unfold pkS;rw[List.map_append,← List.append_assoc];refine Ch.snoc (h:=x.p.h) (h':=y.p.h) (fin:=x.p.set) (by rw[E.h];omega) ?_ ?_ ?_ hsx T.ch
    ·show (z2i (Cd.bs s)).i=_
     rw[d2,E.h]
    ·show Df.z1L x.p.set (z2i (Cd.bs s)).S=_
     rw[d2];exact hap
    ·unfold q5J;rw[if_pos rfl]
 | beg a b c d e f g =>
  rw[keep d e];refine⟨by rw[f];rfl,by rw[f,d];show ((0:Nat):Int)<=_;omega,by rw[f,e];rfl,fun n s _ hs=>?_,?_⟩
  ·rw[f]at hs
   simp[z7w]at hs
  ·rw[f,g,d,e];exact⟨hn,Int.le_refl _,rfl⟩
 | cons e1 e2 =>
  rw[keep (by rw[e1]) (by rw[e1])]
  have hr:=q1b { x.c i with h:=(x.c i).h+1,t:=x.ck }
  rw[← e2]at hr;have T:=h (hr.1.symm.trans hon);refine⟨by rw[e1];exact T.cl,by rw[e1];exact T.len,by rw[e1];exact T.told,by rw[e1];exact T.dec,?_⟩
  rw[e1,hr.2.1,hr.2.2.1,hr.2.2.2];exact (Ch.take T.ch).1
 | del n s q hq hg hs e1 e2 e3 e4 =>
  rw[keep e1 e2];have T:=h (by rw[e4]at hon;exact hon)
  refine⟨by rw[e3];exact T.cl,by rw[e3,e1];exact T.len,by rw[e3,e2];exact T.told,fun m s hm hs=>?_,?_⟩
  ·rw[e3]at hm hs;exact T.dec m s (by dsimp only at hm;omega) hs
  ·rw[e3,e4,e1,e2];have c:=T.ch;dsimp only;rw[hg]at c ⊢;rw[show ((n:Int)+1).toNat=n+1 by omega]
   rw[show (n:Int).toNat=n from rfl]at c;have hlt:=(List.getElem?_eq_some_iff.1 hs);rw[List.drop_eq_getElem_cons hlt.1,hlt.2]at c;unfold pkS at c ⊢;rw[List.map_cons,hq]at c;rw[List.append_assoc];exact c
theorem j9Z{H:Int->Pws}{x:Wo}(hx:Inv x)(hd:x.dn<400)(h:WH H x)(d:Dd):WH (q5J H (doW x d).1.p.h (doW x d).1.p.set) (doW x d).1:=
 ⟨by unfold q5J;rw[if_pos rfl],fun i hi hon=>j5R hx hd hi (h.ti i hi) h.now hon (j4L hx d i)⟩
theorem j8J:WH (fun _=>[]) z7h:=⟨rfl,fun i _ h=>by cases h⟩
def hsW(l:List Dd):Nat->Int->Pws
 | 0=>fun _=>[]
 | k+1=>q5J (hsW l k) (stW l (k+1)).p.h (stW l (k+1)).p.set
theorem q6n(l:List Dd):∀ k,k<=l.length->k<=300->WH (hsW l k) (stW l k)
 | 0,_,_=>j8J
 | k+1,h1,h2=>by
  have e:=z3j (List.getElem?_eq_getElem (by omega:k<l.length))
  have:=j9Z (q0D l k) (by rw[j9f l k (by omega) (by omega)];omega) (q6n l k (by omega) (by omega)) l[k]
  rw[← e]at this;exact this
theorem y0V{x y:Wo}{i:Nat}(t:Tr x y i):y.p.h=x.p.h∨y.p.h=x.p.h+1:=by
 cases t with
 | off a _ _=>exact .inl a
 | same q=>exact .inl q.h
 | q5i _ E _=>exact .inr E.h
 | beg _ _ _ d _ _ _=>exact .inl d
 | cons e _=>exact .inl (by rw[e])
 | del n s q _ _ _ e _ _ _=>exact .inl e
theorem q8n{H:Int->Pws}{x y:Wo}{i:Nat}{a:Int}(t:Tr x y i)(hon:(y.c i).on=true)(T:(x.c i).on=true->TI H x i)(h1:a<=x.p.h)(h2:(x.c i).on=true->a<=(x.c i).id/\1<=(x.c i).id):a<=(y.c i).id/\1<=(y.c i).id:=by
 cases t with
 | off _ _ a=>rw[a]at hon;cases hon
 | same q=>rw[q.id];exact h2 (q.con.symm.trans hon)
 | q5i e _ _=>rw[e]at hon ⊢;exact h2 hon
 | beg _ _ c _ _ _ e=>rw[e];exact⟨h1,c⟩
 | cons _ e =>
  have hr:=q1b { x.c i with h:=(x.c i).h+1,t:=x.ck }
  rw[← e]at hr;have h3:=hr.1.symm.trans hon;have h4:=(Ch.take (T h3).ch).2;have h5:=h2 h3;rw[hr.2.2.1]
  show a<=q2P (x.c i).id (x.c i).pd/\1<=q2P (x.c i).id (x.c i).pd
  omega
 | del n s q _ _ _ _ _ _ e=>rw[e]at hon ⊢;exact h2 hon
def idW(l:List Dd):Nat->Nat->Int
 | 0=>fun _=>0
 | k+1=>fun i=>if ((stW l (k+1)).c i).on=true then ((stW l (k+1)).c i).id else idW l k i
structure SK(l:List Dd)(k:Nat):Prop where
 h:(stW l k).p.h<=(stW l (k+1)).p.h/\(stW l (k+1)).p.h<=(stW l k).p.h+1
 i:∀ i,i<2->((stW l (k+1)).c i).on=true->idW l k i<=((stW l (k+1)).c i).id/\1<=((stW l (k+1)).c i).id/\((stW l (k+1)).c i).id<=(stW l (k+1)).p.h/\hsW l (k+1) ((stW l (k+1)).c i).id=((stW l (k+1)).c i).set
theorem j8s(l:List Dd):∀ k,k<=l.length->k<=300->∀ i,i<2->idW l k i<=(stW l k).p.h/\(((stW l k).c i).on=true->idW l k i<=((stW l k).c i).id/\1<=((stW l k).c i).id)
 | 0,_,_,i,_=>⟨Int.le_refl _,fun h=>by cases h⟩
 | k+1,h1,h2,i,hi=>by
  have ih:=j8s l k (by omega) (by omega) i hi
  have t:=j4L (q0D l k) l[k] i;rw[← z3j (List.getElem?_eq_getElem (by omega:k<l.length))]at t
  have hh:=y0V t;have W:=q6n l (k+1) h1 h2
  show (if ((stW l (k+1)).c i).on=true then ((stW l (k+1)).c i).id else idW l k i)<=_/\(_->(if ((stW l (k+1)).c i).on=true then ((stW l (k+1)).c i).id else idW l k i)<=_/\_)
  by_cases ho:((stW l (k+1)).c i).on=true
  ·rw[if_pos ho];have h3:=(Ch.head (W.ti i hi ho).ch).2;have h4:=q8n t ho ((q6n l k (by omega) (by omega)).ti i hi) ih.1 ih.2
   exact⟨h3,fun _=>⟨Int.le_refl _,h4.2⟩⟩
  ·rw[if_neg ho];exact⟨by omega,fun h=>absurd h ho⟩
theorem y0z(l:List Dd){k:Nat}(h1:k<l.length)(h2:k<300):SK l k:=by
 have t:=fun i=>j4L (q0D l k) l[k] i;have e:=z3j (List.getElem?_eq_getElem h1);have hh:=y0V (t 0);rw[← e]at hh;refine⟨by omega,fun i hi ho=>?_⟩
 have ih:=j8s l k (by omega) (by omega) i hi
 have ti:=t i;rw[← e]at ti;have h4:=q8n ti ho ((q6n l k (by omega) (by omega)).ti i hi) ih.1 ih.2
 have h3:=Ch.head ((q6n l (k+1) h1 (by omega)).ti i hi ho).ch
 exact⟨h4.1,h4.2,h3.2,h3.1⟩
noncomputable def y1r:Code:=j1c [1,1,1,0,1,9,9,1,0,9,1,1,1,0,0] (f27.body.getD .skip)
set_option maxRecDepth 1000000 in
theorem j7y(mi gp gx k:Nat)(v u:Value)(id0 a hp:Int)(wl:World)(hk:k<2)(h1:a<=id0)(h2:id0<=hp)
  (HF:Hid (∀ wx,Below wl.heap.size wl wx->wx.cell? ⟨gx,4,none⟩=some (.int .i64 id0)/\wx.cell? ⟨gx,5,none⟩=some u/\wx.cell? ⟨mi,k,none⟩=some (.int .i64 a)/\wx.cell? ⟨gp,0,none⟩=some (.int .i64 hp)))
  (HSP:Hid (∀ wx,Below wl.heap.size wl wx->Calls prog 17 #[v,u] wx fun e w'=>e=.returned (.bool true)/\Below wx.heap.size wx w'))
  {v0 v1 v2 v3 v5 v6 v7 v8 v14 v15 v16 v17 v18 v19 v20 v21 v22 v23 v24 v25 v26 v27 v28 v29 v30 v31 v32 v33 v34 v35 v36 v37 v38 v39 v40 v41 v42 v43 v44 v45 v46 v47 v48 v49 v50 v51 v52 v53 v54 v55 v56 v57 v58 v59 v60 v61 v62 v63 v64 v65:Value} {Q:Exit->Act->World->Prop} (hQ:∀ (wz:World),Below wl.heap.size wl wz->Q .normal ⟨List.toArray (v0 :: v1 :: v2 :: v3 :: (.pointer (some ⟨mi,0,none⟩)) :: v5 :: v6 :: v7 :: v8 :: (.pointer (some ⟨gp,0,none⟩)) :: (.int .i64 (k:Int)) :: (.pointer (some ⟨gx,0,none⟩)) :: v :: (.bool true) :: v14 :: v15 :: v16 :: v17 :: v18 :: v19 :: v20 :: v21 :: v22 :: v23 :: v24 :: v25 :: v26 :: v27 :: v28 :: v29 :: v30 :: v31 :: v32 :: v33 :: v34 :: v35 :: v36 :: v37 :: (.bool true) :: (.bool false) :: (.bool false) :: v :: (.pointer (some ⟨gx,5,none⟩)) :: u :: (.bool true) :: (.bool false) :: (.bool false) :: (.bool false) :: (.pointer (some ⟨gx,4,none⟩)) :: (.int .i64 id0) :: (.int .i64 (k:Int)) :: (.pointer (some ⟨mi,k,none⟩)) :: (.int .i64 a) :: (.bool false) :: (.bool false) :: (.bool false) :: (.pointer (some ⟨gx,4,none⟩)) :: (.int .i64 id0) :: (.pointer (some ⟨gp,0,none⟩)) :: (.int .i64 hp) :: (.bool false) :: (.bool false) :: v62 :: v63 :: v64 :: v65 :: []),[]⟩ wz) :
  Code.wp prog y1r Q ⟨List.toArray (v0 :: v1 :: v2 :: v3 :: (.pointer (some ⟨mi,0,none⟩)) :: v5 :: v6 :: v7 :: v8 :: (.pointer (some ⟨gp,0,none⟩)) :: (.int .i64 (k:Int)) :: (.pointer (some ⟨gx,0,none⟩)) :: v :: (.bool true) :: v14 :: v15 :: v16 :: v17 :: v18 :: v19 :: v20 :: v21 :: v22 :: v23 :: v24 :: v25 :: v26 :: v27 :: v28 :: v29 :: v30 :: v31 :: v32 :: v33 :: v34 :: v35 :: v36 :: v37 :: v38 :: v39 :: v40 :: v41 :: v42 :: v43 :: v44 :: v45 :: v46 :: v47 :: v48 :: v49 :: v50 :: v51 :: v52 :: v53 :: v54 :: v55 :: v56 :: v57 :: v58 :: v59 :: v60 :: v61 :: v62 :: v63 :: v64 :: v65 :: []),[]⟩ wl:=by
 have HK:=hide hQ;clear hQ;have hk0:(0:Int)<=(k:Int):=by omega
 have hk1:(k:Int)<2:=by omega
 have hk2:¬ ((k:Int)<0):=by omega
 have q1:¬ (id0<a):=by omega
 have q2:¬ (hp<id0):=by omega
 conv=>arg 2;whnf
 refine wp_region_noPanic ?_;refine wp_region_held_drew (S:=fun wx=>Below wl.heap.size wl wx) (by kernel_rfl) (Below.refl _ _).drew (fun hS=>?_)
 refine O.Z 0 (.bool true) 38 rfl rfl hS (fun wx hSw=>?_) ?_
 ·go_simp
 simp only[O.pp,O.pb,O.pc];refine O.Z 1 (.bool false) 39 rfl rfl hS (fun wx hSw=>?_) ?_
 ·go_simp
 simp only[O.pp,O.pb,O.pc];refine O.Z 2 (.bool false) 40 rfl rfl hS (fun wx hSw=>?_) ?_
 ·go_simp
 simp only[O.pp,O.pb,O.pc];refine O.Z 3 v 41 rfl rfl hS (fun wx hSw=>?_) ?_
 ·go_simp
 simp only[O.pp,O.pb,O.pc];refine O.Z 4 (.pointer (some ⟨gx,5,none⟩)) 42 rfl rfl hS (fun wx hSw=>?_) ?_
 ·go_simp
 simp only[O.pp,O.pb,O.pc];refine O.Z 5 u 43 rfl rfl hS (fun wx hSw=>?_) ?_
 ·obtain⟨c4,c5,ci,ch⟩:=HF.out wx hSw;go_simp
 simp only[O.pp,O.pb,O.pc];refine wpAnyH_ready (rs:=[6]) (by kernel_rfl) (by simp) ?_
 refine AllReadyH.cons rfl (fun K hK=>?_) AllReadyH.nil;go_simp
 go_at_call 17
 refine (HSP.out _ (by exact hS)).mono ?_
 rintro e w1⟨rfl,hb1⟩;replace hS:=zbt hS hb1;clear hb1;dsimp only;refine hK.out _ _ hS (fun hS=>?_);clear hK K
 try simp only[O.pp,O.pb,O.pc]
 refine O.Z 7 (.bool false) 45 rfl rfl hS (fun wx hSw=>?_) ?_
 ·go_simp
 simp only[O.pp,O.pb,O.pc];refine O.Z 8 (.bool false) 46 rfl rfl hS (fun wx hSw=>?_) ?_
 ·go_simp
 simp only[O.pp,O.pb,O.pc];refine O.Z 9 (.bool false) 47 rfl rfl hS (fun wx hSw=>?_) ?_
 ·go_simp
 simp only[O.pp,O.pb,O.pc];refine O.Z 10 (.pointer (some ⟨gx,4,none⟩)) 48 rfl rfl hS (fun wx hSw=>?_) ?_
 ·go_simp
 simp only[O.pp,O.pb,O.pc];refine O.Z 11 (.int .i64 id0) 49 rfl rfl hS (fun wx hSw=>?_) ?_
 ·obtain⟨c4,c5,ci,ch⟩:=HF.out wx hSw;go_simp
 simp only[O.pp,O.pb,O.pc];refine O.Z 12 (.int .i64 (k:Int)) 50 rfl rfl hS (fun wx hSw=>?_) ?_
 ·go_simp
 simp only[O.pp,O.pb,O.pc];refine O.Z 13 (.pointer (some ⟨mi,k,none⟩)) 51 rfl rfl hS (fun wx hSw=>?_) ?_
 ·go_simp
 simp only[O.pp,O.pb,O.pc];refine O.Z 14 (.int .i64 a) 52 rfl rfl hS (fun wx hSw=>?_) ?_
 ·obtain⟨c4,c5,ci,ch⟩:=HF.out wx hSw;go_simp
 simp only[O.pp,O.pb,O.pc];refine O.Z 15 (.bool false) 53 rfl rfl hS (fun wx hSw=>?_) ?_
 ·go_simp
 simp only[O.pp,O.pb,O.pc];refine O.Z 16 (.bool false) 54 rfl rfl hS (fun wx hSw=>?_) ?_
 ·go_simp
 simp only[O.pp,O.pb,O.pc];refine O.Z 17 (.bool false) 55 rfl rfl hS (fun wx hSw=>?_) ?_
 ·go_simp
 simp only[O.pp,O.pb,O.pc];refine O.Z 18 (.pointer (some ⟨gx,4,none⟩)) 56 rfl rfl hS (fun wx hSw=>?_) ?_
 ·go_simp
 simp only[O.pp,O.pb,O.pc];refine O.Z 19 (.int .i64 id0) 57 rfl rfl hS (fun wx hSw=>?_) ?_
 ·obtain⟨c4,c5,ci,ch⟩:=HF.out wx hSw;go_simp
 simp only[O.pp,O.pb,O.pc];refine O.Z 20 (.pointer (some ⟨gp,0,none⟩)) 58 rfl rfl hS (fun wx hSw=>?_) ?_
 ·go_simp
 simp only[O.pp,O.pb,O.pc];refine O.Z 21 (.int .i64 hp) 59 rfl rfl hS (fun wx hSw=>?_) ?_
 ·obtain⟨c4,c5,ci,ch⟩:=HF.out wx hSw;go_simp
 simp only[O.pp,O.pb,O.pc];refine O.Z 22 (.bool false) 60 rfl rfl hS (fun wx hSw=>?_) ?_
 ·go_simp
 simp only[O.pp,O.pb,O.pc];refine O.Z 23 (.bool false) 61 rfl rfl hS (fun wx hSw=>?_) ?_
 ·go_simp
 simp only[O.pp,O.pb,O.pc];refine wpAnyH_done (by kernel_rfl) ?_ _
 exact NoPanic.normal (HK.out _ hS)
end Wd
namespace Wd
open Go.RowKit Pv Kc Go.Maps
def rdV(v:Value):Option (DataW Value×List MemPlace):=some (.held v,[])
theorem j6t(w:World):(zeroValue 44).run prog w=.ok (.slice none 0 0) w:=by kernel_rfl
theorem q7Y{w w':World}{b:Nat}(h:w.grownBy w' (some b)):Alt b w w':=⟨h.os,h.tape,h.output,h.size,fun k hk hne=>h.block k hk (by simpa using hne)⟩
theorem y0Y{a:Int}(h:0<=a/\a<=1099511627776):keyOf prog 3 (.int .i64 a)=some (.int .i64 a):=keyOf_int_mk underlying3 (WalkArith.wf_i64 (by omega))
structure SM(g mb n:Nat)(D:DataW Value)(H:Int->Pws)(h i0 i1:Int)(w:World):Prop where
 own:w.ownsMap prog 3 rdV mb n D
 val:∀ k,1<=k->k<=h->∃ v,(∀ z,D.atKey (.int .i64 k) z=.held v)/\Rep (fun c=>g<c) w v 2 16 (pwC (H k))
 cm:CAt 89 w (mb+1) #[.map (some mb)]
 ci:CAt 80 w (mb+2) #[.int .i64 i0,.int .i64 i1]
theorem z4g{w w':World}{mb n:Nat}{D:DataW Value}(h:w.ownsMap prog 3 rdV mb n D)(hk:w'.heap[mb]?=w.heap[mb]?):w'.ownsMap prog 3 rdV mb n D:=by
 obtain⟨es,c,hb,r⟩:=h;exact⟨es,c,hk.trans hb,r⟩
theorem SM.over{g mb n:Nat}{D:DataW Value}{H:Int->Pws}{h i0 i1:Int}{w w':World}(s:SM g mb n D H h i0 i1 w)(hb:Below w.heap.size w w'):SM g mb n D H h i0 i1 w':=
 ⟨z4g s.own (hb.block _ s.own.lt),fun k h1 h2=>by obtain⟨v,e,r⟩:=s.val k h1 h2;exact⟨v,e,r.over hb⟩,s.cm.over hb,s.ci.over hb⟩
theorem SM.alt{g mb n:Nat}{D:DataW Value}{H:Int->Pws}{h i0 i1:Int}{w w':World}(s:SM g mb n D H h i0 i1 w)(ha:Alt g w w')(hg:mb+2<g):SM g mb n D H h i0 i1 w':=
 ⟨z4g s.own (ha.block _ s.own.lt (by omega)),fun k h1 h2=>by obtain⟨v,e,r⟩:=s.val k h1 h2;exact⟨v,e,r.keep fun b hb hl=>ha.block b hl (by omega)⟩,ha.cat (by omega) s.cm,ha.cat (by omega) s.ci⟩
theorem SM.put{g mb n:Nat}{D:DataW Value}{H:Int->Pws}{h i0 i1 h':Int}{w w':World}(s:SM g mb n D H h i0 i1 w)(hg:mb+2<g){u:Value}{set:Pws}(hu:Rep (fun c=>g<c) w u 2 16 (pwC set))(h1:h'<=h+1)(ho:w'.ownsMap prog 3 rdV mb (n+1) (D.put (.int .i64 h') (.held u)))(hgr:Alt mb w w') :
  SM g mb (n+1) (D.put (.int .i64 h') (.held u)) (q5J H h' set) h' i0 i1 w':=by
 have kp:∀ {v:Value} {cs:List Value},Rep (fun c=>g<c) w v 2 16 cs->Rep (fun c=>g<c) w' v 2 16 cs:=fun r=>r.keep fun b hb hl=>hgr.block b hl (by omega)
 refine⟨ho,fun k h2 h3=>?_,hgr.cat (by omega) s.cm,hgr.cat (by omega) s.ci⟩
 unfold q5J
 by_cases e:k=h'
 ·subst e;rw[if_pos rfl];exact⟨u,fun z=>atKey_put_same s.own.isMap (show WideAt.IsKeyLit (.int .i64 _) from trivial) _ _,kp hu⟩
 ·rw[if_neg e];obtain⟨v,ev,r⟩:=s.val k h2 (by omega)
  exact⟨v,fun z=>(atKey_put_other (by simpa using e) _ _).trans (ev z),kp r⟩
theorem SM.look{g mb n:Nat}{D:DataW Value}{H:Int->Pws}{h i0 i1:Int}{w:World}(s:SM g mb n D H h i0 i1 w){k:Int}(h1:1<=k)(h2:k<=h)(h3:k<=1099511627776):∃ v,(Instr.lookup 89 (.map (some mb)) (.int .i64 k) true).run prog w=.ok (.tuple #[v,.bool true]) w/\Rep (fun c=>g<c) w v 2 16 (pwC (H k)):=by
 obtain⟨v,e,r⟩:=s.val k h1 h2;obtain⟨v',ps,hr,hv⟩:=s.own.look_ok (int_keyed underlying3) underlying89 (j6t w) (zd:=.held (.slice none 0 0)) (zp:=[]) rfl (y0Y (a:=k) (by omega))
 rw[e]at hv;unfold rdV at hv;cases hv;rw[has_true_of_atKey e]at hr;exact⟨_,hr,r⟩
def M3(mb b:Nat):Prop:=b=mb∨b=mb+1∨b=mb+2
def TS(B g mb gp n:Nat)(D:DataW Value)(H:Int->Pws)(h i0 i1:Int)(w:World)(x:Wo)(vp:PrV)(wl:World):Prop:=PLk w.heap.size wl gp x.p vp/\SM g mb n D H h i0 i1 wl/\StW B g x wl/\z3g (M3 mb) w wl
theorem TS.over{B g mb gp n:Nat}{D:DataW Value}{H:Int->Pws}{h i0 i1:Int}{w:World}{x:Wo}{vp:PrV}{wl w':World}(t:TS B g mb gp n D H h i0 i1 w x vp wl)(hb:Below wl.heap.size wl w'):TS B g mb gp n D H h i0 i1 w x vp w':=⟨t.1.over hb,t.2.1.over hb,t.2.2.1.over hb,t.2.2.2.trans (z3g.of hb)⟩
theorem TS.id{B g mb gp n:Nat}{D:DataW Value}{H:Int->Pws}{h:Int}{ids:Nat->Int}{w:World}{x:Wo}{vp:PrV}{wl:World}(t:TS B g mb gp n D H h (ids 0) (ids 1) w x vp wl)(hB:mb+2<B)(hw:mb+2<w.heap.size){k:Nat}(hk:k<2)(a:Int) :
  TS B g mb gp n D H h ((fun i=>if i=k then a else ids i) 0) ((fun i=>if i=k then a else ids i) 1) w x vp (wl.setCell ⟨mb+2,k,none⟩ (.int .i64 a)):=by
 have hg:=t.2.2.1.le;have al:Alt (mb+2) wl (wl.setCell ⟨mb+2,k,none⟩ (.int .i64 a)):=(Alt.refl _ wl).set k _;have c:=t.2.1.ci.set k (.int .i64 a);refine⟨t.1.alt al (by omega),⟨z4g t.2.1.own (al.block _ t.2.1.own.lt (by omega)),fun j h1 h2=>by obtain⟨v,e,r⟩:=t.2.1.val j h1 h2;exact⟨v,e,r.keep fun b hb hl=>al.block b hl (by omega)⟩,al.cat (by omega) t.2.1.cm,?_⟩,t.2.2.1.keep fun b hb hl=>al.block b hl (by omega),t.2.2.2.trans (z3g.alt al (.inr (.inr rfl)))⟩
 rcases (show k=0∨k=1 by omega) with rfl | rfl <;> exact c
def jdW(x:Wo)(ids:Nat->Int)(k i:Nat):Int:=if i<k/\(x.c i).on=true then (x.c i).id else ids i
theorem j7P{x:Wo}{ids:Nat->Int}{k:Nat}(h:(x.c k).on=false):jdW x ids (k+1)=jdW x ids k:=by
 funext i
 unfold jdW
 by_cases e:i=k
 ·subst e;rw[if_neg (by rw[h];simp),if_neg (by rw[h];simp)]
 ·by_cases q:i<k/\(x.c i).on=true
  ·rw[if_pos q,if_pos ⟨by omega,q.2⟩]
  ·rw[if_neg q,if_neg (fun r=>q ⟨by omega,r.2⟩)]
theorem y0x{x:Wo}{ids:Nat->Int}{k:Nat}(h:(x.c k).on=true):jdW x ids (k+1)=fun i=>if i=k then (x.c k).id else jdW x ids k i:=by
 funext i
 unfold jdW
 by_cases e:i=k
 ·subst e;rw[if_pos ⟨by omega,h⟩,if_pos rfl]
 ·rw[if_neg e]
  by_cases q:i<k/\(x.c i).on=true
  ·rw[if_pos q,if_pos ⟨by omega,q.2⟩]
  ·rw[if_neg q,if_neg (fun r=>q ⟨by omega,r.2⟩)]
theorem y0r(x:Wo)(ids:Nat->Int)(k:Nat):jdW x ids k k=ids k:=by
 unfold jdW;rw[if_neg (by omega)]
attribute [local go_sem ↓] z0K z0q z1t z1f
set_option maxRecDepth 100000 in
theorem q6T(B g mb n:Nat)(D:DataW Value)(x:Wo)(H:Int->Pws)(h0:Int)(ids:Nat->Int)(d:Dd)(rc rn:Int)(w:World)(h:StW B g x w)(hB:mb+2<B)(hgw:g<w.heap.size)(hn:n<1000)(hm:SM g mb n D H h0 (ids 0) (ids 1) w)(hh:x.p.h<=h0+1)(H1:Int->Pws)(j0 j1:Int)(eH:q5J H x.p.h x.p.set=H1)(e0:jdW x ids 2 0=j0)(e1:jdW x ids 2 1=j1)(hi:∀ i,i<2->(x.c i).on=true->ids i<=(x.c i).id/\1<=(x.c i).id/\(x.c i).id<=x.p.h/\H1 (x.c i).id=(x.c i).set) :
  Calls prog 27 #[.pointer (some ⟨g,0,none⟩),.agg (ddC d),.agg #[.int .i64 rc,.int .i64 rn],.pointer (some ⟨mb+1,0,none⟩),.pointer (some ⟨mb+2,0,none⟩)] w fun e w'=>e=.returned (.bool true)/\(∃ D',SM g mb (n+1) D' H1 x.p.h j0 j1 w')/\StW B g x w'/\z3g (M3 mb) w w':=by
 have HP:=hide (fun (wx:World) (hb:Below w.heap.size w wx)=>z5V B g x wx (h.over hb));have HST:=hide h;have HMC:=hide hm;have hBg:=h.le;have HI:=hide hi;have hph:0<=x.p.h/\x.p.h<=1099511627775:=⟨h.inv.gp.h0,h.inv.gp.h1⟩;have HB0:Hid (Below w.heap.size w ((w.alloc (.cells (ddC d) 29)).alloc (.cells #[.int .i64 rc,.int .i64 rn] 32))):=(znw w _).alloc (by simp) _
 have hww:mb+2<w.heap.size:=by omega
 have HEE:=hide (show _/\_/\_ from⟨eH,e0,e1⟩);clear h hm hi eH e0 e1
 go_enter func27,ntmps27
 go_upto_region 1 with fail
 generalize (w.alloc (.cells (ddC d) 29)).alloc (.cells #[.int .i64 rc,.int .i64 rn] 32)=w0 at *
 go_upto_region 2 with (go_at_call 11;refine (HP.out _ HB0.out).mono ?_;rintro e w1⟨vp,rfl,I1,b1⟩;have s1:=z3Y I1;have bb1:=b1.trans ((z1B w1 x.p vp).mono b1.size);have bw1:=zbt HB0.out bb1;have HL1:Hid (TS B g mb w1.heap.size n D H h0 (ids 0) (ids 1) w x vp (q1x w1 x.p vp)):=⟨PLk.mk (z7D w1 x.p vp) I1 (z1B w1 x.p vp) (by have:=HB0.out.size;omega) (by have:=HB0.out.size;have:=b1.size;omega),HMC.out.over bw1,HST.out.over bw1,z3g.of bw1⟩;clear I1 b1 bb1 bw1)
 clear s1 HP HB0 HMC HST;generalize q1x w1 x.p vp=w2 at *;generalize w1.heap.size=gp at *;have m0:w2.cell? ⟨mb+1,0,none⟩=some (.map (some mb)):=HL1.out.2.1.cm.cell 0;have p0:w2.cell? ⟨gp,0,none⟩=some (.int .i64 x.p.h):=HL1.out.1.1.cell 0;have p65:w2.cell? ⟨gp,65,none⟩=some vp.set:=HL1.out.1.1.cell 65;have zp:=HL1.out.1.lt;have zm:=HL1.out.2.1.cm.lt;have HOW:=hide HL1.out.2.1.own;have hkey:=y0Y (a:=x.p.h) (by omega)
 go_upto_region 3 with (at_mapUpdate;refine wpList_mapUpdate_own _ rfl _ _ _ 89 rfl 3 44 (int_keyed underlying3) underlying89 rdV mb n D rfl HOW.out (by unfold maxLen;omega) _ _ (.int .i64 x.p.h) rfl rfl hkey (.held vp.set) [] rfl ?_;intro w3 hown3 hgr3;have HG3:=hide (show _/\_ from⟨hown3,q7Y hgr3⟩);clear hown3 hgr3)
 clear m0 p0 p65 zp zm HOW hkey;have HT3:Hid (TS B g mb gp (n+1) (D.put (.int .i64 x.p.h) (.held vp.set)) (q5J H x.p.h x.p.set) x.p.h (jdW x ids 0 0) (jdW x ids 0 1) w x vp w3):=⟨HL1.out.1.alt HG3.out.2 (by omega),by unfold jdW;rw[if_neg (by omega),if_neg (by omega)];exact HL1.out.2.1.put (by omega) (HL1.out.1.2.1.set.mono fun c _ hc=>by omega) hh HG3.out.1 HG3.out.2,HL1.out.2.2.1.keep fun b hb hl=>HG3.out.2.block b hl (by omega),HL1.out.2.2.2.trans (z3g.alt HG3.out.2 (.inl rfl))⟩
 clear HL1 HG3 hh;generalize D.put (.int .i64 x.p.h) (.held vp.set)=D1 at *;rw[HEE.out.1]at HT3
 go_upto_region 4 with fail
 go_loopw [10] (fun i wl=>∃ (k:Nat),k<=2/\i=.int .i64 (k:Int)/\Hid (TS B g mb gp (n+1) D1 H1 x.p.h (jdW x ids k 0) (jdW x ids k 1) w x vp wl)) (fun i _=>2 - (intOf i).toNat)
 case atStart=>exact⟨0,by omega,rfl,HT3⟩
 case round =>
  obtain⟨k,hk,rfl,HRR⟩:=hrel;clear HT3
  by_cases hlt:k<2
  ·have hI1:(k:Int)<2:=by omega
   have hk0:(0:Int)<=(k:Int):=by omega
   have HCk:=hide (z4K B g x wr k hlt HRR.out.2.2.1)
   go_upto_region 7 with (go_at_call 12;refine HCk.out.mono ?_;rintro e w3⟨vc,rfl,I3,b3⟩;have s3:=z6C I3;unfold Z22 at s3;have b33:=b3.trans ((z2P w3 (x.c k) vc).mono b3.size);have HL3:=hide (show _/\_ from⟨HRR.out.over b33,CLk.mk (n:=w.heap.size) (q2u w3 (x.c k) vc) I3 (z2P w3 (x.c k) vc) (by have:=HRR.out.2.2.2.size;omega) (by have:=HRR.out.2.2.2.size;have:=b3.size;omega)⟩);clear I3 b3 b33)
   clear s3 HCk HRR;generalize j6k w3 (x.c k) vc=w4 at *;generalize w3.heap.size=gx at *;have hz3:=HL3.out.2.lt;have c0:w4.cell? ⟨gx,0,none⟩=some (.bool (x.c k).on):=HL3.out.2.1.cell 0;cases hon:(x.c k).on
   ·rw[hon]at c0;go_wp2;exact⟨⟨k+1,by omega,by go_num,by rw[j7P hon];exact hide HL3.out.1⟩,by simp[intOf];omega⟩
   ·rw[hon]at c0;obtain⟨i1,i2,i3,i4⟩:=HI.out k hlt hon;have m0:w4.cell? ⟨mb+1,0,none⟩=some (.map (some mb)):=HL3.out.1.2.1.cm.cell 0;have zm:=HL3.out.1.2.1.cm.lt;have c4:w4.cell? ⟨gx,4,none⟩=some (.int .i64 (x.c k).id):=HL3.out.2.1.cell 4;obtain⟨v,hlk,hr⟩:=HL3.out.1.2.1.look i2 i3 (by omega)
    rw[i4]at hr;have HR:=hide hr;have HON:=hide hon;clear hr hon
    go_upto_region 9 with fail
    clear m0 zm c0 c4 hlk hz3
    have cid:∀ wx,Below w4.heap.size w4 wx->wx.cell? ⟨mb+2,k,none⟩=some (.int .i64 (ids k)):=fun wx hb=>by
     have:=(HL3.out.1.2.1.ci.over hb).cell k;rw[← y0r x ids k]
     rcases (show k=0∨k=1 by omega) with rfl | rfl <;> exact this
    have HCI:=hide cid;clear cid;refine j7y (mb+2) gp gx k v vc.set (x.c k).id (ids k) x.p.h w4 hlt i1 i3 (fun wx hb=>⟨(HL3.out.2.1.over hb).cell 4,(HL3.out.2.1.over hb).cell 5,HCI.out wx hb,(HL3.out.1.1.1.over hb).cell 0⟩) (fun wx hb=>z5r (x.c k).set _ _ _ _ wx (HR.out.over hb) (HL3.out.2.2.1.set.over hb)) (fun wz hb=>?_);simp only[Exit.then];apply_assumption;have HT9:=hide (HL3.out.1.over hb);have c4:wz.cell? ⟨gx,4,none⟩=some (.int .i64 (x.c k).id):=(HL3.out.2.1.over hb).cell 4;have zx:=(HL3.out.2.1.over hb).lt;have ck:wz.cell? ⟨mb+2,k,none⟩=some (.int .i64 (ids k)):=HCI.out wz hb;have fk:=(HL3.out.1.2.1.ci.over hb).free k;have zk:=(HL3.out.1.2.1.ci.over hb).lt;have HZ:=hide (HT9.out.id hB hww hlt (x.c k).id);rw[← y0x HON.out]at HZ;clear HL3 HCI HR hb;go_wp2;exact⟨⟨k+1,by omega,by go_num,HZ⟩,by simp[intOf];omega⟩
  ·obtain rfl:k=2:=by omega
   go_wp2;go_ret;exact⟨rfl,⟨D1,HEE.out.2.1 ▸ HEE.out.2.2 ▸ HRR.out.2.1⟩,HRR.out.2.2⟩
end Wd
namespace Wd
open Go.RowKit Pv Kc
theorem z3y.j7s{w w':World}{A:Option Addr}{b off bw:Nat}{l:List Dd}(h:z3y w A b off l)(ha:Alt bw w w')(hb:0<l.length->b≠bw):z3y w' A b off l:=by
 refine⟨h.adr,h.len,fun i x hx j v hv=>?_⟩;have h0:0<l.length:=by have:=(List.getElem?_eq_some_iff.1 hx).1;omega
 rw[← h.cell i x hx j v hv];exact World.cell?_of_block (w:=w) (a:=⟨b,off+i * 7+j,none⟩) (ha.block b (h.lt h0) (hb h0))
attribute [local go_sem ↓] z5O
theorem z3s(A:Option Addr)(C b off:Nat)(cp:Array Value)(l:List Dd)(w:World)(I:Nat->Nat->Nat->World->Prop)(hD0:z3y w A b off l)
  (hD:∀ B g k wx,I B g k wx->z3y wx A b off l)
  (h0:∀ g w1 w2,Below w.heap.size w w1->StW w1.heap.size g z7h w2->Below w.heap.size w w2->I w1.heap.size g 0 w2)
  (hS:∀ B g k d wr w3 w4,k<120->I B g k wr->w.heap.size<=B->l[k]?=some d->StW B g (stW l k) wr->StW B g (stW l (k+1)) w4->Alt g wr w3->Below w3.heap.size w3 w4 ->
   Calls prog 27 (#[.pointer (some ⟨g,0,none⟩),.agg (ddC d),.agg #[.int .i64 (doW (stW l k) d).2.1,.int .i64 (doW (stW l k) d).2.2]] ++ cp) w4 fun e w'=>e=.returned (.bool true)/\StW B g (stW l (k+1)) w'/\I B g (k+1) w') :
  Calls prog 9 #[.slice A l.length C,.func (.func 27) #[] cp] w fun e w'=>∃ B g k,e=.returned (.tuple #[.pointer (some ⟨g,0,none⟩),.bool true])/\I B g k w':=by
 have HA:=hide (z4U w);have HBL:=hide (fun (h:0<l.length)=>hD0.lt h);have HD:=hide hD;have H0:=hide h0;have HSS:=hide hS;clear hD0 hD h0 hS
 go_enter func9,ntmps9
 go_upto_region 3 with (go_at_call 28;refine HA.out.mono ?_;rintro e w1⟨rfl,b1⟩;have HB1:=hide b1;clear b1)
 have HN:=hide (z4h w1)
 go_upto_region 4 with (go_at_call 22;refine HN.out.mono ?_;rintro e w2⟨g,rfl,h2,b2⟩;have HR0:Hid (StW w1.heap.size g (stW l 0) w2/\I w1.heap.size g 0 w2):=⟨h2,H0.out g w1 w2 HB1.out h2 (zbt HB1.out b2)⟩;have hg1:=HB1.out.size;have hg2:=h2.le;clear h2 b2)
 go_upto_region 5 with fail
 clear HN HA HB1 H0;generalize w1.heap.size=B at *
 go_loopw [7] (fun i wl=>∃ (k:Nat),k<=l.length/\k<=120/\i=.int .i64 (k:Int)/\Hid (StW B g (stW l k) wl/\I B g k wl)) (fun i _=>120 - (intOf i).toNat)
 case atStart=>exact⟨0,Nat.zero_le _,by omega,rfl,HR0⟩
 case round =>
  obtain⟨k,hk,hk2,rfl,HRR⟩:=hrel;clear HR0
  by_cases hlt:k<l.length/\k<120
  ·obtain⟨h1,h2⟩:=hlt;have hI1:(k:Int)<(l.length:Int):=by omega
   have hI2:(k:Int)<120:=by omega
   have hx:l[k]?=some l[k]:=List.getElem?_eq_getElem h1;have hst:=z3j hx;generalize l[k]=d at hx hst;have HST:=hide hst;have HDO:=hide (z7G B g (stW l k) d wr HRR.out.1);have hDr:=HD.out B g k wr HRR.out.2;have ld:=hDr.load hx;have hA:A=some ⟨b,off,none⟩:=hDr.adr (by omega)
   have hbg:b≠g:=by have:=HBL.out (by omega);omega
   have HX:=hide hx;have HDR:=hide hDr;subst hA;clear hst hx hDr
   go_upto_region 8 with (go_at_call 24;refine HDO.out.mono ?_;rintro e w3⟨rfl,h3,a3⟩;have HS3:=hide (show _/\_ from⟨h3,a3⟩);clear h3 a3)
   have hz3:=w3.heap.size;have b4:Below w3.heap.size w3 (w3.alloc (.cells #[.int .i64 (doW (stW l k) d).2.1,.int .i64 (doW (stW l k) d).2.2] 32)):=znw w3 _;have R4:CAt 32 (w3.alloc (.cells #[.int .i64 (doW (stW l k) d).2.1,.int .i64 (doW (stW l k) d).2.2] 32)) w3.heap.size #[.int .i64 (doW (stW l k) d).2.1,.int .i64 (doW (stW l k) d).2.2]:=CAt.new _ w3 _;have S4:=HS3.out.1.over b4;rw[← HST.out]at S4;have HS4:=hide (show _/\_/\_ from⟨S4,b4,R4⟩);clear S4 R4 b4 ld;have HSX:=hide (HSS.out B g k d wr w3);generalize (doW (stW l k) d).2.1=rc at *;generalize (doW (stW l k) d).2.2=rn at *;generalize w3.alloc (.cells #[.int .i64 rc,.int .i64 rn] 32)=w4 at *;have hd4:Below w4.heap.size w4 w4.drew:=(Below.refl _ w4).drew;have bd:=zbt HS4.out.2.1 hd4;have HT:=hide (HSX.out w4.drew h2 HRR.out.2 hg1 HX.out HRR.out.1 (HS4.out.1.over hd4) HS3.out.2 bd);have ld4:=((HDR.out.j7s HS3.out.2 (fun _=>hbg)).over bd (Nat.le_refl _)).load HX.out;have r0:w4.cell? ⟨w3.heap.size,0,none⟩=some (.int .i64 rc):=HS4.out.2.2.cell 0;have r1:w4.cell? ⟨w3.heap.size,1,none⟩=some (.int .i64 rn):=HS4.out.2.2.cell 1;have hz4:=HS4.out.2.2.lt;clear hd4 bd hz3 HSX HDO
   go_region_with (go_at_call 27;refine HT.out.mono ?_;rintro e w5⟨rfl,S5,I5⟩;have HB5:=hide (show _/\_ from⟨S5,I5⟩);clear S5 I5)
   all_goals (apply_assumption;go_wp2;exact⟨⟨k+1,by omega,by omega,by go_num,HB5⟩,by simp[intOf];omega⟩)
  ·by_cases h1:k<l.length
   ·obtain rfl:k=120:=by omega
    have hI1:((120:Nat):Int)<(l.length:Int):=by omega
    have hI2:(120:Int)<(l.length:Int):=by omega
    go_wp2;go_ret2
    first | exact⟨B,g,_,rfl,HRR.out.2⟩ | exact⟨B,g,rfl,_,HRR.out.2⟩
   ·have hI1:¬ (k:Int)<(l.length:Int):=by omega
    go_wp2;go_ret2
    first | exact⟨B,g,_,rfl,HRR.out.2⟩ | exact⟨B,g,rfl,_,HRR.out.2⟩
end Wd
namespace Wd
open Go.RowKit Pv Kc Go.Maps
theorem q8G(A:Option Addr)(C b off mb:Nat)(l:List Dd)(w:World)(hD:z3y w A b off l)(hb:0<l.length->b<mb)(hc:∀ g,SM g mb 0 (.map []) (fun _=>[]) 0 0 0 w)(hw:mb+2<w.heap.size) :
  Calls prog 9 #[.slice A l.length C,.func (.func 27) #[] #[.pointer (some ⟨mb+1,0,none⟩),.pointer (some ⟨mb+2,0,none⟩)]] w fun e w'=>∃ g,e=.returned (.tuple #[.pointer (some ⟨g,0,none⟩),.bool true])/\Below mb w w':=by
 refine (z3s A C b off #[.pointer (some ⟨mb+1,0,none⟩),.pointer (some ⟨mb+2,0,none⟩)] l w (fun _ g k wx=>k<=l.length/\(∃ D,SM g mb k D (hsW l k) (stW l k).p.h (idW l k 0) (idW l k 1) wx)/\z3g (M3 mb) w wx) hD ?_ ?_ ?_).mono ?_
 ·rintro B g k wx⟨-,-,ha⟩;exact hD.y0o ha fun h=>by have:=hb h;unfold M3;omega
 ·intro g w1 w2 b1 S b2;exact⟨Nat.zero_le _,⟨_,(hc g).over b2⟩,z3g.of b2⟩
 ·rintro B g k d wr w3 w4 h120⟨hk,⟨D,hm⟩,ha⟩ hB hx hs hs4 a3 b4;have hk':k<l.length:=(List.getElem?_eq_some_iff.1 hx).1;have hg:=hs.le;have K:=y0z l hk' (by omega)
  have ej:∀ i,i<2->jdW (stW l (k+1)) (idW l k) 2 i=idW l (k+1) i:=fun i hi=>by
   show (if i<2/\_ then _ else _)=if _ then _ else _
   by_cases q:((stW l (k+1)).c i).on=true
   ·rw[if_pos ⟨hi,q⟩,if_pos q]
   ·rw[if_neg (fun r=>q r.2),if_neg q]
  refine (q6T B g mb k D (stW l (k+1)) (hsW l k) (stW l k).p.h (idW l k) d _ _ w4 hs4 (by omega) hs4.lt (by omega) ((hm.alt a3 (by omega)).over b4) K.h.2 (hsW l (k+1)) _ _ rfl (ej 0 (by omega)) (ej 1 (by omega)) K.i).mono ?_
  rintro e w'⟨rfl,hv,hs5,a5⟩;exact⟨rfl,hs5,hk',hv,((ha.also a3 (by omega)).trans (z3g.of b4)).trans a5⟩
 ·rintro e w'⟨B,g,k,rfl,-,-,ha⟩;exact⟨g,rfl,ha.below (fun k hk h=>by unfold M3 at h;omega) (by omega)⟩
noncomputable def j4I(w:World):World:=((w.alloc (.map #[] 0)).alloc (.cells #[.map (some w.heap.size)] 89)).alloc (.cells #[.int .i64 0,.int .i64 0] 80)
theorem j6l(w:World):(∀ g,SM g w.heap.size 0 (.map []) (fun _=>[]) 0 0 0 (j4I w))/\w.heap.size+2<(j4I w).heap.size/\Below w.heap.size w (j4I w):=by
 have d2:CAt 89 (j4I w) (w.heap.size+1) #[.map (some w.heap.size)]:=(CAt.new2 _ w _ _).alloc _
 have d3:CAt 80 (j4I w) (w.heap.size+1+1) #[.int .i64 0,.int .i64 0]:=by
  have:=CAt.new2 80 (w.alloc (.map #[] 0)) (.cells #[.map (some w.heap.size)] 89) #[.int .i64 0,.int .i64 0]
  rwa [show (w.alloc (.map #[] 0)).heap.size=w.heap.size+1 by simp]at this
 have b3:Below w.heap.size w (j4I w):=((znw w _).alloc (by simp) _).alloc (by simp;omega) _
 have l3:=d3.lt;exact⟨fun g=>⟨((World.ownsMap_made w prog 3 rdV).alloc _).alloc _,fun k h1 h2=>absurd h2 (by omega),d2,d3⟩,l3,b3⟩
theorem q5r(A:Option Addr)(C b off:Nat)(l:List Dd)(w:World)(hD:z3y w A b off l):Calls prog 8 #[.slice A l.length C] w fun e w'=>e=.returned (.bool true)/\Below w.heap.size w w':=by
 obtain⟨hM,hw3,b3⟩:=j6l w;have HP:=hide (q8G A C b off w.heap.size l _ (hD.over b3 (Nat.le_refl _)) (fun h=>hD.lt h) hM hw3);have HB:=hide b3;have hmm:=@run_makeMap prog;clear hD hM hw3 b3
 go_enter func8,ntmps8
 go_upto_region 3 with fail
 change Code.wp prog _ _ _ (j4I w);generalize j4I w=w5 at *
 go_wp2_with (go_at_call 9;refine HP.out.mono ?_;rintro e w6⟨g,rfl,b6⟩;have HA:=hide b6;clear b6)
 go_ret;exact⟨rfl,HB.out.trans HA.out⟩
end Wd
end Go.Proofs.YtmopekkhmhhcaaaGreat
