/- Parts of the proof: CM CK DF0 PON PKP WI3 WT0 WLY WSA WSL WTI WTT WTL WO2 WPLt WLT. -/
import Derived.Test.YtmopekkhmhhcaaaGreatRows
import Derived.Test.YtmopekkhmhhcaaaGreatEK23
import Derived.ChangeOld
set_option maxRecDepth 100000
set_option maxHeartbeats 16000000
namespace Go.Proofs.YtmopekkhmhhcaaaGreat
open Go.Proofs.Tryz
namespace Cd
open Go.RowKit
theorem emod_mul256(n a:Int)(ha:0<a):n % (a * 256)=n % a+a * (n / a % 256):=by
 have h1:=Int.emod_add_mul_ediv n a;have h2:=Int.emod_add_mul_ediv (n / a) 256;have h3:=Int.emod_nonneg n (show a≠0 by omega)
 have h4:=Int.emod_lt_of_pos n ha;have h5:=Int.emod_nonneg (n / a) (show (256:Int)≠0 by decide)
 have h6:=Int.emod_lt_of_pos (n / a) (show (0:Int)<256 by decide)
 generalize n / a / 256=q at *;generalize n / a % 256=r at *;generalize n % a=s at *;generalize n / a=t at *;subst h2;have e:n=(s+a * r)+(a * 256) * q:=by rw[← h1,Int.mul_add,← Int.mul_assoc];omega
 have hle:a * r<=a * 255:=Int.mul_le_mul_of_nonneg_left (by omega) (by omega)
 have hge:0<=a * r:=Int.mul_nonneg (by omega) h5
 rw[e,Int.add_mul_emod_self_left,Int.emod_eq_of_lt (by omega) (by omega)]
theorem numF_be(n:Int):∀ (m:Nat) (acc:Int),z4X acc (be n m)=acc * 2 ^ (8 * m)+n % 2 ^ (8 * m):=by
 intro m
 induction m with
 | zero=>intro acc;simp[be,z4X,Int.emod_one]
 | succ m ih =>
  intro acc;have h:z4X acc (be n (m+1))=z4X (acc * 256+n / 2 ^ (8 * m) % 256) (be n m):=rfl;rw[h,ih,q0s,emod_mul256 _ _ (j2i m),Int.add_mul,Int.mul_assoc,Int.mul_comm 256,Int.mul_comm (n / 2 ^ (8 * m) % 256)];omega
theorem num_be{n:Int}{m:Nat}(h:0<=n)(h2:n<2 ^ (8 * m)):z4X 0 (be n m)=n:=by
 rw[numF_be,Int.zero_mul,Int.zero_add,Int.emod_eq_of_lt h h2]
theorem good_bounds{k i v n:Int}{S:List (Int×Int)}{D:List Int}(h:z0q k i v n S D=0) :
  1<=k/\k<=4/\1<=i/\i<=1099511627776/\0<=v/\v<6/\0<=n/\n<=1125899906842624:=by
 have hf:∀ {k v n:Int} {a b:Nat},z6u k=false->z8v k v n a b=false->v=0/\n=0:=by
  intro k v n a b h1 h2;simp only[z8v,h1,Bool.or_eq_false_iff,Bool.and_eq_false_iff]at h2
  simp at h2
  exact h2.1
 rcases z7B k i v n S D with h' | h' | ⟨h1,h2,h' | h' | ⟨h3,h4,h' | h' | h' | ⟨h5 | h5,h' | h' | h' | h'⟩⟩⟩
 all_goals first | (exfalso;omega) | skip
 ·have hv:isV v=true:=h5.2.1;simp only[isV,decide_eq_true_eq]at hv;omega
 ·obtain ⟨e1,e2⟩:=hf h5 h'.1;omega
theorem pws_bounds(S:List (Int×Int)):∀ last:Int,-1<=last->z0e last S=true->∀ p∈S,0<=p.1/\p.1<6/\0<=p.2/\p.2<=1125899906842624:=by
 induction S with
 | nil=>simp
 | cons x t ih =>
  intro last hl h p hp;simp only[z0e,Bool.and_eq_true,decide_eq_true_eq,isV]at h;obtain ⟨⟨⟨⟨h1,h2⟩,h3⟩,h4⟩,h5⟩:=h
  rcases List.mem_cons.1 hp with rfl | hp
  ·omega
  ·exact ih x.1 (by omega) h5 p hp
theorem nums_bounds(D:List Int):∀ last:Int,-1<=last->z0i last D=true->∀ p∈D,0<=p/\p<6:=by
 induction D with
 | nil=>simp
 | cons x t ih =>
  intro last hl h p hp;simp only[z0i,Bool.and_eq_true,decide_eq_true_eq,isV]at h;obtain ⟨⟨h1,h2⟩,h3⟩:=h
  rcases List.mem_cons.1 hp with rfl | hp
  ·omega
  ·exact ih x (by omega) h3 p hp
theorem tk_app(a l:List Int)(m:Nat)(hm:a.length=m):tk m (a ++ l,false)=(z4X 0 a,(l,false)):=by
 subst hm;rw[tk,if_neg (by simp)]
 simp
theorem tkP_app(X:List Int):∀ (S:List (Int×Int)),(∀ p∈S,0<=p.1/\p.1<256/\0<=p.2/\p.2<72057594037927936)->tkP S.length (S.flatMap z9E ++ X,false)=(S,(X,false)):=by
 intro S
 induction S with
 | nil=>intro _;rfl
 | cons p t ih =>
  intro h;have hp:=h p (List.mem_cons_self ..)
  have e1:tk 1 ((p :: t).flatMap z9E ++ X,false)=(p.1,(be p.2 7 ++ (t.flatMap z9E ++ X),false)):=by
   rw[List.flatMap_cons,z9E,List.append_assoc,List.append_assoc,tk_app _ _ 1 (z1I _ _),num_be hp.1 (by omega)]
  have e2:tk 7 (be p.2 7 ++ (t.flatMap z9E ++ X),false)=(p.2,(t.flatMap z9E ++ X,false)):=by
   rw[tk_app _ _ 7 (z1I _ _),num_be hp.2.2.1 (by omega)]
  rw[List.length_cons,tkP,e1];dsimp only;rw[e2];dsimp only;rw[ih (fun q hq=>h q (List.mem_cons_of_mem _ hq))]
theorem tkD_app(X:List Int):∀ (D:List Int),(∀ p∈D,0<=p/\p<256)->tkD D.length (D.flatMap (be · 1) ++ X,false)=(D,(X,false)):=by
 intro D
 induction D with
 | nil=>intro _;rfl
 | cons p t ih =>
  intro h;have hp:=h p (List.mem_cons_self ..)
  have e1:tk 1 ((p :: t).flatMap (be · 1) ++ X,false)=(p,(t.flatMap (be · 1) ++ X,false)):=by
   rw[List.flatMap_cons,List.append_assoc,tk_app _ _ 1 (z1I _ _),num_be hp.1 (by omega)]
  rw[List.length_cons,tkD,e1];dsimp only;rw[ih (fun q hq=>h q (List.mem_cons_of_mem _ hq))]
theorem parse_enc{k i v n:Int}{S:List (Int×Int)}{D:List Int}(h:z0q k i v n S D=0)(X:List Int):parse (enc k i v n S D ++ X)=((k,i,v,n,S,D),(X,false)):=by
 obtain ⟨b1,b2,b3,b4,b5,b6,b7,b8⟩:=good_bounds h;obtain ⟨l1,l2,l3,l4⟩:=q4Y h;have hS:=pws_bounds S (-1) (by omega) l1
 have hD:=nums_bounds D (-1) (by omega) l2
 have e0:enc k i v n S D ++ X=be k 1 ++ (be i 6 ++ (be v 1 ++ (be n 7 ++ (be S.length 1 ++ (S.flatMap z9E ++ (be D.length 1 ++ (D.flatMap (be · 1) ++ X))))))):=by simp[enc,q4v]
 rw[e0]
 have e1:p1 (be k 1 ++ (be i 6 ++ (be v 1 ++ (be n 7 ++ (be S.length 1 ++ (S.flatMap z9E ++ (be D.length 1 ++ (D.flatMap (be · 1) ++ X))))))))=(k,(be i 6 ++ (be v 1 ++ (be n 7 ++ (be S.length 1 ++ (S.flatMap z9E ++ (be D.length 1 ++ (D.flatMap (be · 1) ++ X)))))),false)):=by
  rw[p1,tk_app _ _ 1 (z1I _ _),num_be (by omega) (by omega)]
 generalize be k 1 ++ (be i 6 ++ (be v 1 ++ (be n 7 ++ (be S.length 1 ++ (S.flatMap z9E ++ (be D.length 1 ++ (D.flatMap (be · 1) ++ X)))))))=l at *
 have e2:p2 l=(i,(be v 1 ++ (be n 7 ++ (be S.length 1 ++ (S.flatMap z9E ++ (be D.length 1 ++ (D.flatMap (be · 1) ++ X))))),false)):=by
  rw[p2,e1];dsimp only;rw[tk_app _ _ 6 (z1I _ _),num_be (by omega) (by omega)]
 have e3:p3 l=(v,(be n 7 ++ (be S.length 1 ++ (S.flatMap z9E ++ (be D.length 1 ++ (D.flatMap (be · 1) ++ X)))),false)):=by
  rw[p3,e2];dsimp only;rw[tk_app _ _ 1 (z1I _ _),num_be (by omega) (by omega)]
 have e4:p4 l=(n,(be S.length 1 ++ (S.flatMap z9E ++ (be D.length 1 ++ (D.flatMap (be · 1) ++ X))),false)):=by
  rw[p4,e3];dsimp only;rw[tk_app _ _ 7 (z1I _ _),num_be (by omega) (by omega)]
 have e5:p5 l=((S.length:Int),(S.flatMap z9E ++ (be D.length 1 ++ (D.flatMap (be · 1) ++ X)),false)):=by
  rw[p5,e4];dsimp only;rw[tk_app _ _ 1 (z1I _ _),num_be (by omega) (by omega)]
 have e6:p6 l=(S,(be D.length 1 ++ (D.flatMap (be · 1) ++ X),false)):=by
  rw[p6,e5];dsimp only;rw[Int.toNat_natCast,tkP_app _ S (fun p hp=>by have:=hS p hp;omega)]
 have e7:p7 l=((D.length:Int),(D.flatMap (be · 1) ++ X,false)):=by
  rw[p7,e6];dsimp only;rw[tk_app _ _ 1 (z1I _ _),num_be (by omega) (by omega)]
 have e8:p8 l=(D,(X,false)):=by
  rw[p8,e7];dsimp only;rw[Int.toNat_natCast,tkD_app _ D (fun p hp=>by have:=hD p hp;omega)]
 rw[parse,e1,e2,e3,e4,e6,e8]
theorem dec_enc{k i v n:Int}{S:List (Int×Int)}{D:List Int}(h:z0q k i v n S D=0):z7G (enc k i v n S D)=0/\z2o (enc k i v n S D)=(k,i,v,n,S,D):=by
 have h4:=parse_enc h [];rw[List.append_nil]at h4;have hE:z7G (enc k i v n S D)=0:=by rw[z7G,h4,if_pos rfl];exact h
 exact ⟨hE,by rw[z2o,if_pos hE,h4]⟩
end Cd
namespace Df
def setOf(P:Nat->Int):List Pw:=those (fun v=>decide (0<P v)) P 6
theorem last_those(P:Nat->Int)(c:Nat->Bool)(f:Nat->Int):∀ n,n<=6->∀ i,z3r P (those c f n) i=if i<n/\c i=true then f i else P i
 | 0,_,i=>by simp[those,z3r]
 | n+1,hn,i=>by
  have ih:=last_those P c f n (by omega)
  rw[z3u];cases hc:c n
  ·rw[if_neg (by simp),ih i]
   by_cases hi:i=n
   ·subst hi;simp[hc]
   ·have:(i<n↔i<n+1):=by omega
    simp[this]
  ·rw[if_pos rfl];unfold z3r at ih ⊢;rw[List.foldl_append]
   show q5M _ _ i=_
   rw[z4m (by omega),ih i]
   by_cases hi:i=n
   ·subst hi;simp[hc]
   ·have:(i<n↔i<n+1):=by omega
    simp[hi,this]
theorem first_those'(c:Nat->Bool)(f:Nat->Int):∀ n,n<=6->∀ (P:Nat->Int) i,(those c f n).foldr (fun x P=>q5M P x) P i=if i<n/\c i=true then f i else P i
 | 0,_,P,i=>by simp[those]
 | n+1,hn,P,i=>by
  have ih:=first_those' c f n (by omega)
  rw[z3u];cases hc:c n
  ·rw[if_neg (by simp),ih P i]
   by_cases hi:i=n
   ·subst hi;simp[hc]
   ·have:(i<n↔i<n+1):=by omega
    simp[this]
  ·rw[if_pos rfl,List.foldr_append,ih];simp only[List.foldr_cons,List.foldr_nil];rw[z4m (by omega)]
   by_cases hi:i=n
   ·subst hi;simp[hc]
   ·have:(i<n↔i<n+1):=by omega
    simp[hi,this]
theorem first_set{P:Nat->Int}(h0:∀ i,0<=P i){i:Nat}(hi:i<6):z2v (setOf P) i=P i:=by
 unfold z2v setOf;rw[first_those' _ _ 6 (by omega)]
 by_cases h:0<P i
 ·simp[hi,h]
 ·have:=h0 i
  simp[h,z3F]
  omega
theorem last_set{P:Nat->Int}(h0:∀ i,0<=P i){i:Nat}(hi:i<6):z3r z3F (setOf P) i=P i:=by
 unfold setOf;rw[last_those _ _ _ 6 (by omega)]
 by_cases h:0<P i
 ·simp[hi,h]
 ·have:=h0 i
  simp[h,z3F]
  omega
theorem those_congr{c c':Nat->Bool}{f f':Nat->Int}:∀ n,(∀ i,i<n->c i=c' i/\(c i=true->f i=f' i))->those c f n=those c' f' n
 | 0,_=>rfl
 | n+1,h=>by
  rw[z3u,z3u,those_congr n (fun i hi=>h i (by omega))]
  obtain ⟨h1,h2⟩:=h n (by omega)
  rw[← h1]
  split
  ·rename_i hc;rw[h2 hc]
  ·rfl
theorem apply_diff{P R:Nat->Int}(hP:∀ i,0<=P i)(hR:∀ i,0<=R i):z3X (setOf P) (z6w (setOf P) (setOf R))=setOf R:=by
 have key:∀ i,i<6->z3r (z3r z3F (setOf P)) (z6w (setOf P) (setOf R)) i=R i:=by
  intro i hi;unfold z6w;rw[last_those _ _ _ 6 (by omega)]
  simp only[first_set hP hi,first_set hR hi,last_set hP hi]
  by_cases h:R i=P i
  ·simp[h]
  ·simp[h,hi]
 unfold z3X;exact those_congr 6 fun i hi=>⟨by rw[key i hi],fun _=>key i hi⟩
end Df
namespace Pv
open Go.RowKit
theorem dec_encP{k i v n:Int}{S:List (Int×Int)}{D:List Int}(h:Cd.z0q k i v n S D=0):Cd.z7G (Cd.bs (Cd.encS k i v n S D))=0/\Cd.z2o (Cd.bs (Cd.encS k i v n S D))=(k,i,v,n,S,D):=by
 rw[j5u h];exact Cd.dec_enc h
theorem pktOf_encP{k i v n:Int}{S:List (Int×Int)}{D:List Int}(h:Cd.z0q k i v n S D=0):z3H (Cd.bs (Cd.encS k i v n S D))=⟨k,i,v,n,S,D⟩:=by
 unfold z3H;rw[(dec_encP h).2]
theorem setB_ext:∀ (l m:List (Int×Int)) (a b:Int),z3k a l=true->z3k b m=true->(∀ x,x∈l↔x∈m)->l=m
 | [],[],_,_,_,_,_=>rfl
 | [],y :: m,_,_,_,_,h=>by have:=(h y).2 (List.mem_cons_self);cases this
 | x :: l,[],_,_,_,_,h=>by have:=(h x).1 (List.mem_cons_self);cases this
 | x :: l,y :: m,a,b,hl,hm,h=>by
  simp only[z3k,Bool.and_eq_true]at hl hm
  have e:x=y:=by
   rcases List.mem_cons.1 ((h x).1 List.mem_cons_self) with h1 | h1
   ·exact h1
   ·rcases List.mem_cons.1 ((h y).2 List.mem_cons_self) with h2 | h2
    ·exact h2.symm
    ·have:=(q3x m y.1 hm.2 x h1).1;have:=(q3x l x.1 hl.2 y h2).1;omega
  subst e;rw[setB_ext l m x.1 x.1 hl.2 hm.2 fun z=>⟨fun hz=>?_,fun hz=>?_⟩]
  ·rcases List.mem_cons.1 ((h z).1 (List.mem_cons_of_mem _ hz)) with h1 | h1
   ·have:=(q3x l x.1 hl.2 z hz).1;rw[h1]at this;omega
   ·exact h1
  ·rcases List.mem_cons.1 ((h z).2 (List.mem_cons_of_mem _ hz)) with h1 | h1
   ·have:=(q3x m x.1 hm.2 z hz).1;rw[h1]at this;omega
   ·exact h1
theorem last_mem:∀ (l:List (Int×Int)) (a:Int) (P:Nat->Int),-1<=a->z3k a l=true->(∀ x∈l,Df.z3r P l x.1.toNat=x.2)/\∀ i:Nat,(∀ x∈l,x.1≠(i:Int))->Df.z3r P l i=P i
 | [],_,P,_,_=>⟨fun x hx=>(by cases hx),fun _ _=>rfl⟩
 | y :: l,a,P,ha,h=>by
  have hm:=q3x (y :: l) a h;have hy:=hm y List.mem_cons_self;simp only[z3k,Bool.and_eq_true]at h;obtain ⟨h1,h2⟩:=last_mem l y.1 (Df.q5M P y) (by omega) h.2
  have hl:=q3x l y.1 h.2
  have hput:∀ i,Df.q5M P y i=if i=y.1.toNat then y.2 else P i:=fun i=>by
   unfold Df.q5M;rw[if_pos (by omega)]
  refine ⟨fun x hx=>?_,fun i hi=>?_⟩
  ·show Df.z3r (Df.q5M P y) l x.1.toNat=x.2
   rcases List.mem_cons.1 hx with rfl | hx
   ·rw[h2 _ (fun z hz=>by have:=(hl z hz).1;omega),hput,if_pos rfl]
   ·exact h1 x hx
  ·show Df.z3r (Df.q5M P y) l i=P i
   rw[h2 i (fun z hz=>hi z (List.mem_cons_of_mem _ hz)),hput,if_neg (by have:=hi y List.mem_cons_self;omega)]
theorem set_of{l:List (Int×Int)}(h:z3k (-1) l=true):l=Df.setOf (Df.z3r Df.z3F l)/\∀ i,0<=Df.z3r Df.z3F l i:=by
 obtain ⟨h1,h2⟩:=last_mem l (-1) Df.z3F (by omega) h
 have hm:=q3x l (-1) h
 have hz:∀ i:Nat,(∃ x∈l,x.1=(i:Int)/\Df.z3r Df.z3F l i=x.2)∨((∀ x∈l,x.1≠(i:Int))/\Df.z3r Df.z3F l i=0):=fun i=>by
  by_cases e:∃ x∈l,x.1=(i:Int)
  ·obtain ⟨x,hx,ex⟩:=e;have:=h1 x hx;rw[ex,Int.toNat_natCast]at this;exact .inl ⟨x,hx,ex,this⟩
  ·have e':∀ x∈l,x.1≠(i:Int):=fun x hx hxe=>e ⟨x,hx,hxe⟩;exact .inr ⟨e',h2 i e'⟩
 have hn:∀ i,0<=Df.z3r Df.z3F l i:=fun i=>by
  rcases hz i with ⟨x,hx,-,e⟩ | ⟨-,e⟩
  ·rw[e];have:=hm x hx;omega
  ·rw[e];omega
 refine ⟨?_,hn⟩
 have hmem:∀ x,x∈l↔x∈Df.setOf (Df.z3r Df.z3F l):=fun x=>by
  unfold Df.setOf;rw[z7e]
  constructor
  ·intro hx;have hb:=hm x hx;have e:=h1 x hx;exact ⟨x.1.toNat,by omega,by rw[e];simp;omega,by rw[e];ext <;> simp;omega⟩
  ·rintro ⟨i,hi,hc,rfl⟩
   rcases hz i with ⟨x,hx,ex,e⟩ | ⟨-,e⟩
   ·rw[e,← ex];exact hx
   ·rw[e]at hc;simp at hc
 refine setB_ext l _ (-1) (-1) h (q1M _ (-1) (fun x hx=>?_) (z5Y _ _ 6)) hmem;exact hm x ((hmem x).2 hx)
theorem set_apply{l m:List (Int×Int)}(hl:z3k (-1) l=true)(hm:z3k (-1) m=true):Df.z3X l (Df.z6w l m)=m:=by
 obtain ⟨e1,n1⟩:=set_of hl;obtain ⟨e2,n2⟩:=set_of hm;rw[e1,e2];exact Df.apply_diff n1 n2
end Pv
namespace Wd
open Go.RowKit Pv Kc
theorem do_dn(x:Wo)(d:Dd)(h:x.dn<600):(doW x d).1.dn=x.dn+1:=by
 unfold doW;rw[if_neg (by omega)]
 show (z2Z (z1D x) d).1.dn=_
 rw[j3o];rfl
theorem q2u:∀ (l:List Dd) (x:Wo),Inv x->Inv (l.foldl (fun x d=>(doW x d).1) x)
 | [],_,h=>h
 | d :: l,_,h=>q2u l _ (j2R h d)
theorem j4S(l:List Dd):Inv (j8q l):=q2u l _ q8U
theorem j6u(l:List Dd)(k:Nat):Inv (stW l k):=j4S _
theorem st_dn(l:List Dd):∀ k,k<=l.length->k<=600->(stW l k).dn=k
 | 0,_,_=>rfl
 | k+1,h1,h2=>by
  have ih:=st_dn l k (by omega) (by omega)
  rw[z9c (List.getElem?_eq_getElem (by omega:k<l.length)),do_dn _ _ (by omega),ih]
  omega
noncomputable def j2C(w:World)(p:Pr)(v:PrV):World:=(w.alloc (.cells zeroCells57 57)).setCells w.heap.size 0 (prC p v).toList
theorem q7R(w:World)(p:Pr)(v:PrV):CAt 57 (j2C w p v) w.heap.size (prC p v):=(CAt.new 57 w zeroCells57).z0G (by rw[z0d];rfl)
theorem z3G(w:World)(p:Pr)(v:PrV):Below w.heap.size w (j2C w p v):=z0b (Nat.le_refl _) _ _ _ (znw w _)
theorem z7Y{P:Nat->Prop}{w:World}{p:Pr}{v:PrV}(h:PIn P w p v):(z6p (.pointer (some ⟨w.heap.size,0,none⟩)) (.agg (prC p v))).run prog (w.alloc (.cells zeroCells57 57))=.ok () (j2C w p v):=z0k (CAt.new _ w _) z0d (z0a p v) (z1c h)
noncomputable def j8c(w:World)(c:Cs)(v:CsV):World:=(w.alloc (.cells Z22 63)).setCells w.heap.size 0 (csC c v).toList
theorem j4V(w:World)(c:Cs)(v:CsV):CAt 63 (j8c w c v) w.heap.size (csC c v):=(CAt.new 63 w Z22).z0G (by rw[z0u];rfl)
theorem z8n(w:World)(c:Cs)(v:CsV):Below w.heap.size w (j8c w c v):=z0b (Nat.le_refl _) _ _ _ (znw w _)
theorem q4j{P:Nat->Prop}{w:World}{c:Cs}{v:CsV}(h:CIn P w c v):(q2y (.pointer (some ⟨w.heap.size,0,none⟩)) (.agg (csC c v))).run prog (w.alloc (.cells Z22 63))=.ok () (j8c w c v):=z2a (CAt.new _ w _) z0u (z0m c v) (z1W h)
def PLd(w0 w:World)(g:Nat)(p:Pr)(v:PrV):Prop:=CAt 57 w g (prC p v)/\PIn (fun b=>w0.heap.size<=b/\b≠g) w p v/\w0.heap.size<=g/\Below w0.heap.size w0 w
def CLd(w0 w:World)(g:Nat)(c:Cs)(v:CsV):Prop:=CAt 63 w g (csC c v)/\CIn (fun b=>w0.heap.size<=b/\b≠g) w c v/\w0.heap.size<=g/\Below w0.heap.size w0 w
theorem PLd.new{k:Nat}{w0 w:World}{p:Pr}{v:PrV}(h:PIn (fun b=>k<=b) w p v)(hk:w0.heap.size<=k)(hb:Below w0.heap.size w0 w):PLd w0 (j2C w p v) w.heap.size p v:=
 ⟨q7R w p v,((h.mono (P':=fun b=>w0.heap.size<=b/\b≠w.heap.size) fun b hl hp=>⟨by omega,by omega⟩).over (z3G w p v)),hb.size,hb.trans ((z3G w p v).mono hb.size)⟩
theorem CLd.new{k:Nat}{w0 w:World}{c:Cs}{v:CsV}(h:CIn (fun b=>k<=b) w c v)(hk:w0.heap.size<=k)(hb:Below w0.heap.size w0 w):CLd w0 (j8c w c v) w.heap.size c v:=
 ⟨j4V w c v,((h.mono (P':=fun b=>w0.heap.size<=b/\b≠w.heap.size) fun b hl hp=>⟨by omega,by omega⟩).over (z8n w c v)),hb.size,hb.trans ((z8n w c v).mono hb.size)⟩
theorem PLd.over{w0 w w':World}{g:Nat}{p:Pr}{v:PrV}(h:PLd w0 w g p v)(hb:Below w.heap.size w w'):PLd w0 w' g p v:=
 ⟨h.1.over hb,h.2.1.over hb,h.2.2.1,zbt h.2.2.2 hb⟩
theorem PLd.lt{w0 w:World}{g:Nat}{p:Pr}{v:PrV}(h:PLd w0 w g p v):g<w.heap.size:=h.1.lt
theorem CLd.lt{w0 w:World}{g:Nat}{c:Cs}{v:CsV}(h:CLd w0 w g c v):g<w.heap.size:=h.1.lt
end Wd
namespace Wd
open Go.RowKit Pv
theorem j8z{P:Nat->Prop}{w wx:World}{l:List (Int×Int)}{v:Value}(h:Rep P w v 2 16 (pwC l))(hb:Below w.heap.size w wx):∃ A C,v=.slice A l.length C/\l.length<=140737488351232/\∀ k,k<l.length->∃ b o,A=some ⟨b,o,none⟩/\wx.cell? ⟨b,o+k * 2,none⟩=some (.int .i64 (l.getD k (0,0)).1)/\wx.cell? ⟨b,o+k * 2+1,none⟩=some (.int .i64 (l.getD k (0,0)).2):=by
 obtain ⟨A,C,e,s,-,c,-⟩:=(h.over hb).open (z0c l) (by decide)
 refine ⟨A,C,e,by omega,fun k hk=>?_⟩
 obtain ⟨b,o,ea,-,-,hc⟩:=c (by omega)
 obtain ⟨g1,g2⟩:=z1U l k hk;exact ⟨b,o,ea,hc _ _ g1,by rw[Nat.add_assoc];exact hc _ _ g2⟩
theorem nePw(w:World)(a b:Int):(binOp .neq 68 (.agg #[.int .i64 a,.int .i64 b]) (.agg #[.int .i64 a,.int .i64 b])).run prog w=.ok (.bool false) w:=by
 rw[run_neq_struct];go_simp
theorem tsamepw_any(l:List (Int×Int))(v v':Value)(P P':Nat->Prop)(w:World)(h:Rep P w v 2 16 (pwC l))(h':Rep P' w v' 2 16 (pwC l)) :
  Calls prog 17 #[v,v'] w fun e w'=>e=.returned (.bool true)/\Below w.heap.size w w':=by
 have H1:=hide (fun (wx:World) (hb:Below w.heap.size w wx)=>j8z h hb);have H2:=hide (fun (wx:World) (hb:Below w.heap.size w wx)=>j8z h' hb);obtain ⟨A,C,rfl,hl,-⟩:=j8z h (Below.refl _ w);obtain ⟨A',C',rfl,-,-⟩:=j8z h' (Below.refl _ w);clear h h'
 go_enter func17,ntmps17
 go_upto_region 4 with fail
 go_loopw [5] (fun i wl=>∃ k:Nat,k<=l.length/\i=.int .i64 (k:Int)/\Hid (Below w.heap.size w wl)) (fun i _=>l.length - (intOf i).toNat)
 case atStart=>exact ⟨0,by omega,rfl,Below.refl _ _⟩
 case round =>
  obtain ⟨k,hk,rfl,HB⟩:=hrel
  by_cases hlt:k<l.length
  ·obtain ⟨A1,C1,e1,-,f1⟩:=H1.out wr HB.out;obtain ⟨A2,C2,e2,-,f2⟩:=H2.out wr HB.out;cases e1;cases e2;obtain ⟨b,o,rfl,c0,c1⟩:=f1 k hlt;obtain ⟨b',o',rfl,d0,d1⟩:=f2 k hlt;clear f1 f2;have n4:=fun w=>nePw w (l.getD k (0,0)).1 (l.getD k (0,0)).2;generalize (l.getD k (0,0)).1=y0 at *;generalize (l.getD k (0,0)).2=y1 at *;have hk0:(0:Int)<=(k:Int):=by omega
   have hk1:(k:Int)<(l.length:Int):=by omega
   go_upto_region 6 with fail
   go_quiet (fail);go_wp2;go_roundw
   case rel=>exact ⟨k+1,by omega,by go_num,HB.out.os,HB.out.tape,HB.out.output,HB.out.size,HB.out.block⟩
   case measure=>simp[intOf];omega
  ·go_wp2;go_ret;exact ⟨rfl,HB.out⟩
theorem j0U{P:Nat->Prop}{w wx:World}{l:List ByteArray}{v:Value}(h:z0D P w v 1 16 (txC l))(hb:Below w.heap.size w wx):∃ A C,v=.slice A l.length C/\l.length<=140737488351232/\∀ k,k<l.length->∃ b o,A=some ⟨b,o,none⟩/\wx.cell? ⟨b,o+k,none⟩=some (.string (l.getD k ByteArray.empty)):=by
 obtain ⟨A0,n0,C0,C1,e0,-,h⟩:=h;obtain ⟨A,C,e,s,-,c,-⟩:=(h.over hb).open (z1P l) (by decide)
 cases e;refine ⟨A0,C0,e0,by omega,fun k hk=>?_⟩
 obtain ⟨b,o,ea,-,-,hc⟩:=c (by omega)
 exact ⟨b,o,ea,hc _ _ (z7t l k hk)⟩
end Wd
namespace Wd
open Go.RowKit Pv Kc
structure SQ(x y:Wo)(i:Nat):Prop where
 h:y.p.h=x.p.h
 set:y.p.set=x.p.set
 on:(y.p.L i).on=(x.p.L i).on
 told:(y.p.L i).told=(x.p.L i).told
 out:(y.p.L i).out=(x.p.L i).out
 con:(y.c i).on=(x.c i).on
 cset:(y.c i).set=(x.c i).set
 id:(y.c i).id=(x.c i).id
 pd:(y.c i).pd=(x.c i).pd
inductive Tr (x y:Wo) (i:Nat):Prop
 | off:y.p.h=x.p.h->y.p.set=x.p.set->(y.c i).on=false->Tr x y i
 | same:SQ x y i->Tr x y i
 | j5S:y.c i=x.c i->j9m x.p y.p x.ck->y.p=(endP x.p x.ck).1->Tr x y i
 | beg:(x.c i).on=false->(x.c i).gone=false->1<=x.p.h->y.p.h=x.p.h->y.p.set=x.p.set->y.p.L i=q0U x.p->y.c i=z2J x.p.set x.p.h x.ck->Tr x y i
 | cons:y.p=x.p->y.c i=z6r { x.c i with h:=(x.c i).h+1,t:=x.ck }->Tr x y i
 | del (n:Nat) (s:ByteArray) (q:Pkt):z3H (Cd.bs s)=q->(x.p.L i).out.g=(n:Int)->(x.p.L i).out.S[n]?=some s->y.p.h=x.p.h->y.p.set=x.p.set->y.p.L i={ x.p.L i with out:={ (x.p.L i).out with g:=(x.p.L i).out.g+1 } }->y.c i={ x.c i with pd:=(x.c i).pd ++ [q] }->Tr x y i
theorem SQ.of{x y:Wo}{i:Nat}(h:y.p.h=x.p.h)(s:y.p.set=x.p.set)(l:y.p.L i=x.p.L i∨y.p.L i=z1j x.p.L i)(on:(y.c i).on=(x.c i).on)(a:(y.c i).set=(x.c i).set)(b:(y.c i).id=(x.c i).id)(c:(y.c i).pd=(x.c i).pd):SQ x y i:=by
 rcases l with l | l
 ·exact ⟨h,s,by rw[l],by rw[l],by rw[l],on,a,b,c⟩
 ·have:=z4x x.p.L i;exact ⟨h,s,by rw[l];exact this.1,by rw[l];exact this.2.2.2,by rw[l];exact this.2.2.1,on,a,b,c⟩
theorem SQ.refl(x:Wo)(i:Nat):SQ x x i:=⟨rfl,rfl,rfl,rfl,rfl,rfl,rfl,rfl,rfl⟩
theorem tr_at(x:Wo)(d:Dd)(i:Nat):SQ x (atP x d).1 i:=by
 unfold atP
 split
 ·dsimp only;rw[q3U];exact SQ.of rfl rfl (.inl rfl) rfl rfl rfl rfl
 ·split
  ·dsimp only;have e:=q4I x.p d.d d.v d.n x.ck;exact SQ.of e.1 e.2.2.2.1 (by rcases e.2.2.2.2 with e | e <;> simp only[e,or_true,true_or]) rfl rfl rfl rfl
  ·split
   ·exact SQ.of rfl rfl (.inl rfl) rfl rfl rfl rfl
   ·dsimp only;rw[q9F];exact SQ.of rfl rfl (.inl rfl) rfl rfl rfl rfl
theorem sayC_rest(c:Cs)(k i v n now:Int):(z2w c k i v n now).1.on=c.on/\(z2w c k i v n now).1.set=c.set/\(z2w c k i v n now).1.id=c.id/\(z2w c k i v n now).1.pd=c.pd:=by
 unfold z2w
 split <;> exact ⟨rfl,rfl,rfl,rfl⟩
theorem down_rs(c:Cs)(v now:Int):(z4d c v now).1.on=c.on/\(z4d c v now).1.set=c.set/\(z4d c v now).1.id=c.id/\(z4d c v now).1.pd=c.pd:=by
 unfold z4d
 repeat' split
 all_goals first | exact ⟨rfl,rfl,rfl,rfl⟩ | exact sayC_rest _ _ _ _ _ _
theorem double_rs(c:Cs)(v i now:Int):(z1J c v i now).1.on=c.on/\(z1J c v i now).1.set=c.set/\(z1J c v i now).1.id=c.id/\(z1J c v i now).1.pd=c.pd:=by
 unfold z1J
 repeat' split
 all_goals first | exact ⟨rfl,rfl,rfl,rfl⟩ | exact sayC_rest _ _ _ _ _ _
theorem sq_cons{x:Wo}{j:Nat}{y:Cs}{hp hc:Nat->Hd}(i:Nat)(h:i=j->y.on=(x.c j).on/\y.set=(x.c j).set/\y.id=(x.c j).id/\y.pd=(x.c j).pd):SQ x { x with c:=z2Q x.c j y,hp:=hp,hc:=hc } i:=by
 by_cases e:i=j
 ·subst e;have:=h rfl;refine SQ.of rfl rfl (.inl rfl) ?_ ?_ ?_ ?_
  all_goals
   show _=_
   dsimp only;rw[z2A]
  ·exact this.1
  ·exact this.2.1
  ·exact this.2.2.1
  ·exact this.2.2.2
 ·refine SQ.of rfl rfl (.inl rfl) ?_ ?_ ?_ ?_
  all_goals
   dsimp only;rw[z2M _ _ e]
theorem del_text{l:Ln.Line}{s:ByteArray}{a b:Int}(h:Ln.z4r l (l.g+1) s a b=0):∃ n:Nat,l.g=(n:Int)/\l.S[n]?=some s/\Ln.z5l l (l.g+1) s a b={ l with g:=l.g+1 }:=by
 have hL:Ln.z5l l (l.g+1) s a b={ l with g:=l.g+1 }:=by
  unfold Ln.z5l;rw[if_pos h]
 unfold Ln.z4r at h
 split at h
 ·exact absurd h ‹_›
 ·rename_i hr;have hr:Ln.z4a l=0:=by simpa using hr
  have hg:Ln.z0W l=true:=by
   unfold Ln.z4a at hr
   split at hr
   ·cases hr
   ·rename_i q
    simpa using q
  have hg0:=((z1p l).1 hg).2.2.2.1;rw[if_neg (by simp)]at h
  split at h
  ·cases h
  ·rename_i q;simp only[not_or]at q;have e:(l.g+1 - 1).toNat=l.g.toNat:=by rw[Int.add_sub_cancel]
   have q2:=q.2.2;rw[e]at q2;refine ⟨l.g.toNat,(Int.toNat_of_nonneg hg0).symm,?_,hL⟩;have hlt:l.g.toNat<l.S.length:=by omega
   rw[List.getD_eq_getElem?_getD,List.getElem?_eq_getElem hlt]at q2;rw[List.getElem?_eq_getElem hlt];simp only[Option.getD_some,ne_eq,Classical.not_not]at q2;rw[q2]
theorem hearC_two(c:Cs)(l:List Int):((z3Y c l).2=0/\(z3Y c l).1={ c with pd:=c.pd ++ [z3H l] })∨((z3Y c l).2≠0/\(z3Y c l).1=c):=by
 unfold z3Y;generalize Cd.z7G l=E;generalize z3H l=q
 by_cases h1:z5C c=0
 ·rw[if_pos h1]
  by_cases h2:E=0
  ·rw[if_pos h2]
   by_cases h3:q.k=1
   ·rw[if_pos h3];exact .inl ⟨rfl,rfl⟩
   ·rw[if_neg h3];exact .inr ⟨by simp,rfl⟩
  ·rw[if_neg h2];exact .inr ⟨h2,rfl⟩
 ·rw[if_neg h1];exact .inr ⟨h1,rfl⟩
theorem updC_self(f:Nat->Cs)(j:Nat):z2Q f j (f j)=f:=by
 funext k
 unfold z2Q
 split
 ·rename_i e;rw[e]
 ·rfl
theorem SQ.eq{x y:Wo}{i:Nat}(h:y.p.h=x.p.h)(s:y.p.set=x.p.set)(l:y.p.L i=x.p.L i)(c:y.c i=x.c i):SQ x y i:=SQ.of h s (.inl l) (by rw[c]) (by rw[c]) (by rw[c]) (by rw[c])
theorem sq_hearP(x:Wo)(j:Nat)(s:ByteArray)(l:Ln.Line)(i:Nat):SQ x { x with p:=(z3E x.p j (Cd.bs s)).1,c:=z2Q x.c j { x.c j with out:=l } } i:=by
 rw[(q5p _ _ _).1];have:=sq_cons (x:=x) (j:=j) (y:={ x.c j with out:=l }) (hp:=x.hp) (hc:=x.hc) i (fun _=>⟨rfl,rfl,rfl,rfl⟩)
 exact ⟨rfl,rfl,rfl,rfl,rfl,this.con,this.cset,this.id,this.pd⟩
theorem tr_del(x:Wo)(j:Nat)(b f:Bool)(i:Nat):Tr x (q0O x j b f).1 i:=by
 unfold q0O
 split
 ·rename_i hd;obtain ⟨n,hn,hs,hl⟩:=del_text hd;cases b
  ·have e1:z1V x j false (z0P x j false f)=({ x with c:=z2Q x.c j (z3Y (x.c j) (Cd.bs (z0P x j false f))).1 },(z3Y (x.c j) (Cd.bs (z0P x j false f))).2):=rfl
   rw[e1,hl];dsimp only;have e2:z1r x j false=(x.p.L j).out:=rfl;rw[e2]at hn hs ⊢;generalize z0P x j false f=s at *;clear e1 hl hd e2
   rcases hearC_two (x.c j) (Cd.bs s) with ⟨h1,h2⟩ | ⟨h1,h2⟩
   ·rw[if_pos h1,h2];clear h1 h2;generalize hq:z3H (Cd.bs s)=q at *
    by_cases e:i=j
    ·subst e;exact .del n s q hq hn hs rfl rfl (z3i _ _ _) (z2A _ _ _)
    ·exact .same (SQ.eq rfl rfl (z3l _ _ e) (z2M _ _ e))
   ·rw[if_neg h1,h2,updC_self];exact .same (SQ.eq rfl rfl rfl rfl)
  ·have e1:z1V x j true (z0P x j true f)=({ x with p:=(z3E x.p j (Cd.bs (z0P x j true f))).1 },(z3E x.p j (Cd.bs (z0P x j true f))).2):=rfl
   rw[e1];dsimp only
   split
   ·exact .same (sq_hearP x j _ _ i)
   ·refine .same ?_;have:=sq_hearP x j (z0P x j true f) (x.c j).out i;exact ⟨this.h,this.set,this.on,this.told,this.out,rfl,rfl,rfl,rfl⟩
 ·exact .same (SQ.refl _ _)
theorem removeP_rest(p:Pr)(c:Int):(z0A p c).h=p.h/\(z0A p c).set=p.set/\∀ i,i≠c.toNat->(z0A p c).L i=p.L i:=by
 unfold z0A
 split
 ·exact ⟨rfl,rfl,fun i hi=>z3l _ _ hi⟩
 ·exact ⟨rfl,rfl,fun _ _=>rfl⟩
theorem removeC_off(c:Cs):(z1z c).on=false:=by
 unfold z1z
 split
 ·rfl
 ·rename_i h
  simpa using h
theorem tr_exp(x:Wo)(j:Nat)(b:Bool)(k:Int)(i:Nat):Tr x (z9D x j b k).1 i:=by
 unfold z9D
 split
 ·dsimp only;generalize Ln.z6X (z1r x j b) k (q8o x j b) (j7u x j b)=l
  by_cases e:i=j
  ·subst e;have hr:=removeP_rest (z1T x i b l).p i;refine .off (hr.1.trans (by cases b <;> rfl)) (hr.2.1.trans (by cases b <;> rfl)) ?_
   show (z2Q _ i _ i).on=false
   rw[z2A];exact removeC_off _
  ·refine .same ?_;unfold q5r;have hr:=removeP_rest (z1T x j b l).p j;refine SQ.eq (hr.1.trans ?_) (hr.2.1.trans ?_) ((hr.2.2 i (by simpa using e)).trans ?_) ((z2M _ _ e).trans ?_)
   all_goals cases b
   all_goals first | rfl | exact z3l _ _ e | exact z2M _ _ e
 ·exact .same (SQ.refl _ _)
theorem tr_prov(x:Wo)(i:Nat):Tr x (z5D x).1 i:=by
 unfold z5D
 split
 ·rename_i h0
  have hok:z0B x.p=true/\isT x.ck=true/\x.p.t<=x.ck:=by
   by_cases hq:z0B x.p=true/\isT x.ck=true/\x.p.t<=x.ck
   ·exact hq
   ·unfold endP at h0;rw[if_neg hq]at h0;cases h0
  exact .j5S rfl (z6O hok) rfl
 ·exact .same (SQ.refl _ _)
theorem tr_begin{N:Int}{x:Wo}(h:z2L N x)(c:Int)(i:Nat):Tr x (z3w x c).1 i:=by
 unfold z3w
 split
 ·rename_i hc
  split
  ·rename_i h0
   have hb:(z0T x.p c).1={ x.p with s:={ x.p.s with W:=x.p.s.W.map (z1B c.toNat (x.p.h+1)) },L:=z0Q x.p.L c.toNat (q0U x.p) }/\(x.p.L c.toNat).on=false/\(x.p.L c.toNat).gone=false/\x.p.h≠0:=by
    unfold z0T at h0 ⊢
    by_cases h1:z0B x.p=true
    ·rw[if_pos h1,if_pos hc]at h0;rw[if_pos h1,if_pos hc]
     by_cases h3:(x.p.L c.toNat).gone=true
     ·rw[if_pos h3]at h0;cases h0
     ·rw[if_neg h3]at h0 ⊢
      by_cases h4:(x.p.L c.toNat).on=true
      ·rw[if_pos h4]at h0;cases h0
      ·rw[if_neg h4]at h0 ⊢
       by_cases h5:x.p.h=0∨x.p.set.length=0
       ·rw[if_pos h5]at h0;cases h0
       ·rw[if_neg h5];exact ⟨rfl,by simpa using h4,by simpa using h3,fun q=>h5 (.inl q)⟩
    ·rw[if_neg h1]at h0;cases h0
   obtain ⟨e,h2,h3,h4⟩:=hb;rw[e];dsimp only
   have hj:c.toNat<2:=by
    unfold isC at hc;simp only[Bool.and_eq_true,decide_eq_true_eq]at hc;omega
   by_cases q:i=c.toNat
   ·subst q;have ho:=h.on _ hj;exact .beg (ho.1.trans h2) (ho.2.trans h3) (by have:=h.gp.h0;omega) rfl rfl (z3i _ _ _) (z2A _ _ _)
   ·exact .same (SQ.eq rfl rfl (z3l _ _ q) (z2M _ _ q))
  ·exact .same (SQ.refl _ _)
 ·exact .same (SQ.refl _ _)
theorem tr_cons(x:Wo)(j i:Nat):Tr x (z5u x j).1 i:=by
 unfold z5u
 split
 ·rename_i h0
  have he:(z9F (x.c j) x.ck).1=z6r { x.c j with h:=(x.c j).h+1,t:=x.ck }:=by
   unfold z9F at h0 ⊢
   by_cases h1:z5C (x.c j)=0
   ·rw[if_pos h1]at h0 ⊢
    by_cases h2:isT x.ck=true/\(x.c j).t<=x.ck
    ·rw[if_pos h2]
    ·rw[if_neg h2]at h0;cases h0
   ·rw[if_neg h1]at h0;exact absurd h0 h1
  dsimp only;rw[he]
  by_cases e:i=j
  ·subst e;exact .cons rfl (z2A _ _ _)
  ·exact .same (SQ.eq rfl rfl rfl (z2M _ _ e))
 ·exact .same (SQ.refl _ _)
theorem tr_show(x:Wo)(j:Nat)(b:Bool)(i:Nat):SQ x (z5b x j b) i:=by
 unfold z5b
 split
 ·by_cases e:i=j
  ·subst e;have h:z0Q x.p.L i (j8d (x.p.L i) (x.hc i)) i=j8d (x.p.L i) (x.hc i):=z3i _ _ _;exact ⟨rfl,rfl,by dsimp only;rw[h];rfl,by dsimp only;rw[h];rfl,by dsimp only;rw[h];rfl,rfl,rfl,rfl,rfl⟩
  ·exact SQ.eq rfl rfl (z3l _ _ e) rfl
 ·exact sq_cons (hp:=x.hp) (hc:=x.hc) i fun _=>⟨rfl,rfl,rfl,rfl⟩
theorem tr_with(x:Wo)(j:Nat)(d:Dd)(i:Nat):Tr x (z5v x j d).1 i:=by
 unfold z5v
 split
 ·exact tr_cons _ _ _
 ·split
  ·exact .same (tr_show _ _ _ _)
  ·split
   ·exact tr_del _ _ _ _ _
   ·split
    ·exact tr_exp _ _ _ _ _
    ·dsimp only;unfold q2G
     split
     ·exact .same (sq_cons (hp:=x.hp) (hc:=x.hc) i fun _=>down_rs _ _ _)
     ·exact .same (sq_cons (hp:=x.hp) (hc:=x.hc) i fun _=>double_rs _ _ _ _)
theorem tr_perf{N:Int}{x:Wo}(h:z2L N x)(d:Dd)(i:Nat):Tr x (z2Z x d).1 i:=by
 unfold z2Z
 split
 ·exact .same (tr_at _ _ _)
 ·split
  ·unfold z6s
   split <;> exact .same (SQ.eq rfl rfl rfl rfl)
  ·split
   ·exact tr_prov _ _
   ·split
    ·exact tr_begin h _ _
    ·split
     ·split
      ·exact tr_with _ _ _ _
      ·exact .same (SQ.refl _ _)
     ·exact .same (SQ.refl _ _)
theorem tr_do{x:Wo}(h:Inv x)(d:Dd)(i:Nat):Tr x (doW x d).1 i:=by
 unfold doW
 split
 ·exact .same (SQ.refl _ _)
 ·have:=tr_perf (x:=z1D x) (h.dn _) d i;cases this with
  | off a b c=>exact .off a b c
  | same a=>exact .same ⟨a.h,a.set,a.on,a.told,a.out,a.con,a.cset,a.id,a.pd⟩
  | j5S a b c=>exact .j5S a b c
  | beg a b c d e f g=>exact .beg a b c d e f g
  | cons a b=>exact .cons a b
  | del n s q a b c d e f g=>exact .del n s q a b c d e f g
abbrev Pws:=List (Int×Int)
def Ch(H:Int->Pws)(h:Int)(fin:Pws):Int->Pws->List Pkt->Prop
 | id,set,[]=>H id=set/\id<=h/\set=fin
 | id,set,q :: r=>H id=set/\id<q.i/\Ch H h fin q.i (Df.z3X set q.S) r
def foldS(set:Pws)(l:List Pkt):Pws:=l.foldl (fun s q=>Df.z3X s q.S) set
def lastI(id:Int)(l:List Pkt):Int:=l.foldl (fun _ q=>q.i) id
theorem Ch.head{H:Int->Pws}{h:Int}{fin:Pws}:∀ {l:List Pkt} {id:Int} {set:Pws},Ch H h fin id set l->H id=set/\id<=h
 | [],_,_,c=>⟨c.1,c.2.1⟩
 | _ :: _,_,_,c=>⟨c.1,by have:=(Ch.head c.2.2).2;have:=c.2.1;omega⟩
theorem Ch.take{H:Int->Pws}{h:Int}{fin:Pws}{b:List Pkt}:∀ {a:List Pkt} {id:Int} {set:Pws},Ch H h fin id set (a ++ b)->Ch H h fin (lastI id a) (foldS set a) b/\id<=lastI id a
 | [],_,_,c=>⟨c,Int.le_refl _⟩
 | q :: a,id,set,c=>by
  have h1:=Ch.take (a:=a) c.2.2;have h2:=c.2.1;have h3:=h1.2;exact ⟨h1.1,by show id<=lastI q.i a;omega⟩
theorem Ch.snoc{H H':Int->Pws}{h h':Int}{fin fin':Pws}{q:Pkt}(hh:h<h')(hq:q.i=h')(hf:Df.z3X fin q.S=fin')(hH:H' h'=fin')(hs:∀ i,i<=h->H' i=H i):∀ {l:List Pkt} {id:Int} {set:Pws},Ch H h fin id set l->Ch H' h' fin' id set (l ++ [q])
 | [],id,set,c=>by
  refine ⟨(hs id c.2.1).trans c.1,by rw[hq];have:=c.2.1;omega,?_⟩
  rw[c.2.2,hf,hq];exact ⟨hH,Int.le_refl _,rfl⟩
 | _ :: _,id,set,c=>⟨(hs id (Ch.head c).2).trans c.1,c.2.1,Ch.snoc hh hq hf hH hs c.2.2⟩
theorem Ch.keep{H H':Int->Pws}{h h':Int}{fin:Pws}(hh:h<=h')(hs:∀ i,i<=h->H' i=H i):∀ {l:List Pkt} {id:Int} {set:Pws},Ch H h fin id set l->Ch H' h' fin id set l
 | [],id,set,c=>⟨(hs id c.2.1).trans c.1,by have:=c.2.1;omega,c.2.2⟩
 | _ :: _,id,set,c=>⟨(hs id (Ch.head c).2).trans c.1,c.2.1,Ch.keep hh hs c.2.2⟩
def pkS(S:List ByteArray):List Pkt:=S.map fun s=>z3H (Cd.bs s)
structure TI(H:Int->Pws)(x:Wo)(i:Nat):Prop where
 cl:(x.p.L i).out.cl=false
 len:((x.p.L i).out.S.length:Int)<=x.p.h
 told:(x.p.L i).told=x.p.set
 dec:∀ (n:Nat) s,(x.p.L i).out.g<=(n:Int)->(x.p.L i).out.S[n]?=some s->Cd.z7G (Cd.bs s)=0/\(z3H (Cd.bs s)).k=1
 ch:Ch H x.p.h x.p.set (x.c i).id (x.c i).set ((x.c i).pd ++ pkS ((x.p.L i).out.S.drop (x.p.L i).out.g.toNat))
theorem first_bd{l:Pws}(h:z3k (-1) l=true)(v:Nat):0<=Df.z2v l v/\Df.z2v l v<=1125899906842624:=by
 have key:∀ m:Pws,(∀ x∈m,1<=x.2/\x.2<=1125899906842624)->0<=Df.z2v m v/\Df.z2v m v<=1125899906842624:=by
  intro m
  induction m with
  | nil=>intro _;exact ⟨Int.le_refl _,(by decide:(0:Int)<=1125899906842624)⟩
  | cons x m ih =>
   intro hm;have h1:=ih fun y hy=>hm y (List.mem_cons_of_mem _ hy);have h2:=hm x (List.mem_cons_self ..)
   show 0<=Df.q5M (Df.z2v m) x v/\Df.q5M (Df.z2v m) x v<=_
   unfold Df.q5M
   split
   ·dsimp only
    split
    ·omega
    ·exact h1
   ·exact h1
 exact key l fun x hx=>(q3x l _ h x hx).2.2
theorem those_prs(c:Nat->Bool)(f:Nat->Int)(h:∀ i,i<6->0<=f i/\f i<=1125899906842624):Cd.z0e (-1) (Df.those c f 6)=true:=by
 have h0:=h 0 (by omega)
 have h1:=h 1 (by omega)
 have h2:=h 2 (by omega)
 have h3:=h 3 (by omega)
 have h4:=h 4 (by omega)
 have h5:=h 5 (by omega)
 unfold Df.those;rw[show List.range 6=[0,1,2,3,4,5] from rfl];cases e0:c 0 <;> cases e1:c 1 <;> cases e2:c 2 <;> cases e3:c 3 <;> cases e4:c 4 <;> cases e5:c 5 <;> simp[e0,e1,e2,e3,e4,e5,Cd.z0e,Cd.isV] <;> omega
theorem rise_rises:∀ (l:List Int) (a:Int),-1<=a->z2m a l=true->Cd.z0i a l=true
 | [],_,_,_=>rfl
 | x :: l,a,ha,h=>by
  unfold z2m at h;simp only[Bool.and_eq_true,decide_eq_true_eq]at h;unfold Cd.z0i;rw[rise_rises l x (by omega) h.2]
  simp only[Bool.and_true,Bool.and_eq_true,decide_eq_true_eq];refine ⟨h.1.1,?_⟩;unfold Cd.isV;simp only[decide_eq_true_eq];omega
theorem good_tell{h:Int}{a b:Pws}{D:List Int}(h1:1<=h)(h2:h<=1099511627776)(hb:z3k (-1) b=true)(hD:z2m (-1) D=true):Cd.z0q 1 h 0 0 (Df.z6w a b) D=0:=by
 have hp:Cd.z0e (-1) (Df.z6w a b)=true:=those_prs _ _ fun i _=>first_bd hb i;have hr:=rise_rises D (-1) (by omega) hD
 unfold Cd.z0q;rw[if_neg (by omega),if_neg (by omega),if_neg (by rintro ⟨h,-⟩;revert h;decide),if_neg (by show ¬ (false=true);decide),if_neg (by rw[hp,hr];decide)]
theorem ripe_rest:∀ (l:Pws) (c:Cs),(z2z c l).on=c.on/\(z2z c l).set=c.set/\(z2z c l).id=c.id/\(z2z c l).pd=c.pd
 | [],_=>⟨rfl,rfl,rfl,rfl⟩
 | x :: l,c=>by
  unfold z2z
  split
  ·split
   ·have h:=ripe_rest l (z2w c 2 x.1 0 0 c.t).1;have h2:=sayC_rest c 2 x.1 0 0 c.t;exact ⟨h.1.trans h2.1,h.2.1.trans h2.2.1,h.2.2.1.trans h2.2.2.1,h.2.2.2.trans h2.2.2.2⟩
   ·exact ⟨rfl,rfl,rfl,rfl⟩
  ·exact ⟨rfl,rfl,rfl,rfl⟩
theorem takes_rest:∀ (l:List Pkt) (c:Cs),(l.foldl takeC c).on=c.on/\(l.foldl takeC c).set=foldS c.set l/\(l.foldl takeC c).id=lastI c.id l
 | [],_=>⟨rfl,rfl,rfl⟩
 | q :: l,c=>by
  have h:=takes_rest l (takeC c q);exact ⟨h.1,h.2.1,h.2.2⟩
theorem done_rest(c:Cs):(z6r c).on=c.on/\(z6r c).set=foldS c.set c.pd/\(z6r c).id=lastI c.id c.pd/\(z6r c).pd=[]:=by
 unfold z6r;have h:=ripe_rest (z2y c).rp { z2y c with pd:=[] }
 have h2:=takes_rest c.pd c;exact ⟨h.1.trans h2.1,h.2.1.trans h2.2.1,h.2.2.1.trans h2.2.2,h.2.2.2⟩
theorem tell_or{p:Pr}{c:Nat}(hg:Cd.z0q 1 p.h 0 0 (Df.z6w (p.L c).told p.set) (p.L c).done=0)(hs:Ln.z6h (p.L c).out (p.t+40)=0):((z1u p c).L c=p.L c/\((p.L c).on=true->(p.L c).told=p.set))∨Pv.Told p.h p.t p.set (p.L c) ((z1u p c).L c):=by
 rcases q6K p c with h | h
 ·by_cases hq:z7z p (p.L c)=true
  ·refine .inl ⟨h,fun ho=>?_⟩;unfold z7z at hq;rw[ho]at hq;simp only[Bool.not_true,Bool.false_or,Bool.and_eq_true,decide_eq_true_eq]at hq;exact hq.1.1
  ·refine .inr ?_;unfold z1u;rw[if_neg hq,if_pos hg,if_pos hs];refine ⟨?_,hg,hs,?_⟩
   ·cases ho:(p.L c).on
    ·exact absurd (by unfold z7z;rw[ho];rfl) hq
    ·rfl
   ·show z0Q p.L c _ c=_
    unfold z0Q;rw[if_pos rfl]
 ·exact .inr h
theorem say_zero{l:Ln.Line}{t:Int}(hg:Ln.z0W l=true)(hc:l.cl=false)(hl:l.S.length<400)(ht:0<=t):Ln.z6h l t=0:=by
 unfold Ln.z6h Ln.z4a;rw[if_neg (by omega),hg,hc]
 simp only[Bool.true_eq_false,if_false,Bool.false_eq_true,ne_eq,not_true_eq_false];rw[if_neg (by omega)]
theorem end_told{p:Pr}{now:Int}(hok:z0B p=true/\isT now=true/\p.t<=now){c:Nat}(hc:c<2)(hcl:(p.L c).out.cl=false)(hlen:(p.L c).out.S.length<400)(hon:(p.L c).on=true) :
  ∃ z,z5A (p.L c) z/\(((endP p now).1.L c=z/\z.told=(endP p now).1.set)∨Pv.Told (p.h+1) now (endP p now).1.set z ((endP p now).1.L c)):=by
 have hE:(endP p now).1=z1u (z1u (z4c (z0L (z0V p now)) now) 0) 1:=by unfold endP;rw[if_pos hok]
 have hA:=z6O hok;rw[hE]at hA ⊢;have hs:=q4M (z0V p now);have hi:=q0F hok.1 now;have hgp:=(z8B p).1 hok.1;have ht:=(j3p now).1 hok.2.1;have e1:(z4c (z0L (z0V p now)) now).h=p.h+1:=hs.h;have e2:(z4c (z0L (z0V p now)) now).t=now:=hs.t;obtain ⟨b1,b2,-,b4,-,-,-⟩:=z9Z (z4c (z0L (z0V p now)) now) 0;obtain ⟨-,-,-,a4,-,-,-⟩:=z9Z (z1u (z4c (z0L (z0V p now)) now) 0) 1;have z:z5A (p.L c) ((z0L (z0V p now)).L c):=hs.lk c;have hr:=hi.2 c hc;have hsb:=hA.z3k;rw[a4,b4]at hsb;have hg:Cd.z0q 1 (p.h+1) 0 0 (Df.z6w ((z0L (z0V p now)).L c).told (z4c (z0L (z0V p now)) now).set) ((z0L (z0V p now)).L c).done=0:=good_tell (by have:=hgp.h0;omega) (by have:=hgp.h1;omega) hsb hr
 have hsy:Ln.z6h ((z0L (z0V p now)).L c).out (now+40)=0:=say_zero (by rw[z.out];exact (hgp.lk c hc).out) (by rw[z.out];exact hcl) (by rw[z.out];exact hlen) (by omega)
 have hon':((z0L (z0V p now)).L c).on=true:=z.on.trans hon;refine ⟨_,z,?_⟩;rw[a4,b4]
 rcases (show c=0∨c=1 by omega) with rfl | rfl
 ·rw[q0u _ 1 0 (by omega)]
  have h:=tell_or (p:=z4c (z0L (z0V p now)) now) (c:=0) (by rw[e1];exact hg) (by rw[e2];exact hsy)
  rw[e1,e2]at h
  rcases h with h | h
  ·exact .inl ⟨h.1,h.2 hon'⟩
  ·exact .inr h
 ·have e3:(z1u (z4c (z0L (z0V p now)) now) 0).L 1=(z0L (z0V p now)).L 1:=q0u _ 0 1 (by omega)
  have h:=tell_or (p:=z1u (z4c (z0L (z0V p now)) now) 0) (c:=1) (by rw[e3,b1,b4,e1];exact hg) (by rw[e3,b2,e2];exact hsy)
  rw[b1,b2,b4,e3,e1,e2]at h
  rcases h with h | h
  ·exact .inl ⟨h.1,h.2 hon'⟩
  ·exact .inr h
def updI(H:Int->Pws)(h:Int)(s:Pws):Int->Pws:=fun k=>if k=h then s else H k
structure WH(H:Int->Pws)(x:Wo):Prop where
 now:H x.p.h=x.p.set
 ti:∀ i,i<2->(x.c i).on=true->TI H x i
theorem drop_snoc{α:Type}(l:List α)(n:Nat)(a:α)(h:n<=l.length):(l ++ [a]).drop n=l.drop n ++ [a]:=by
 rw[List.drop_append,show n - l.length=0 by omega]
 rfl
theorem ti_step{H:Int->Pws}{x y:Wo}{i:Nat}(hx:Inv x)(hd:x.dn<400)(hi:i<2)(h:(x.c i).on=true->TI H x i)(hn:H x.p.h=x.p.set)(hon:(y.c i).on=true)(t:Tr x y i):TI (updI H y.p.h y.p.set) y i:=by
 have keep:y.p.h=x.p.h->y.p.set=x.p.set->updI H y.p.h y.p.set=H:=fun e1 e2=>by
  funext k
  unfold updI
  split
  ·rename_i e;rw[e,e1,e2,hn]
  ·rfl
 cases t with
 | off _ _ a=>rw[a]at hon;cases hon
 | same q =>
  rw[keep q.h q.set];have T:=h (q.con.symm.trans hon);refine ⟨by rw[q.out];exact T.cl,by rw[q.out,q.h];exact T.len,by rw[q.told,q.set];exact T.told,by rw[q.out];exact T.dec,?_⟩
  rw[q.out,q.h,q.set,q.cset,q.id,q.pd];exact T.ch
 | j5S ec E ep =>
  have T:=h (by rw[← ec];exact hon)
  have hok:z0B x.p=true/\isT x.ck=true/\x.p.t<=x.ck:=⟨(z8B _).2 hx.gp,(j3p _).2 ⟨hx.k0,by have:=hx.k1;omega⟩,hx.pt⟩
  have hl:=T.len;have hph:=hx.ph;have hgl:=(z1p _).1 (hx.gp.lk i hi).out;obtain ⟨z,hz,hc⟩:=end_told hok hi T.cl (by omega) ((hx.on i hi).1.symm.trans (by rw[← ec];exact hon))
  rw[← ep]at hc
  have hsx:∀ k,k<=x.p.h->updI H y.p.h y.p.set k=H k:=fun k hk=>by
   unfold updI;rw[if_neg (by rw[E.h];omega)]
  rcases hc with ⟨e1,e2⟩ | t
  ·have e3:y.p.set=x.p.set:=by rw[← e2,hz.told,T.told]
   refine ⟨by rw[e1,hz.out];exact T.cl,by rw[e1,hz.out,E.h];omega,by rw[e1];exact e2,by rw[e1,hz.out];exact T.dec,?_⟩
   rw[e1,hz.out,ec];have:=T.ch.keep (h':=y.p.h) (by rw[E.h];omega) hsx
   rw[← e3]at this;exact this
  ·have e1:=t.eq;obtain ⟨d1,-⟩:=dec_encP t.good;have d2:=pktOf_encP t.good
   have hS:(y.p.L i).out=⟨(x.p.L i).out.S ++ [Cd.encS 1 (x.p.h+1) 0 0 (Df.z6w z.told y.p.set) z.done],(x.p.L i).out.D ++ [x.ck+40],(x.p.L i).out.g,(x.p.L i).out.cl⟩:=by
    rw[e1]
    show Ln.z4W z.out _ (x.ck+40)=_
    unfold Ln.z4W;rw[if_pos t.say,hz.out]
   have hap:Df.z3X x.p.set (Df.z6w z.told y.p.set)=y.p.set:=by
    rw[hz.told,T.told];exact set_apply hx.gp.set E.z3k
   have htl:(y.p.L i).told=y.p.set:=by rw[e1]
   clear e1;generalize Cd.encS 1 (x.p.h+1) 0 0 (Df.z6w z.told y.p.set) z.done=s at *;refine ⟨by rw[hS];exact T.cl,by rw[hS,E.h];simp only[List.length_append,List.length_cons,List.length_nil];omega,htl,fun m u hm hu=>?_,?_⟩
   ·rw[hS]at hm hu;dsimp only at hm hu
    by_cases hlt:m<(x.p.L i).out.S.length
    ·rw[List.getElem?_append_left hlt]at hu;exact T.dec m u hm hu
    ·rw[List.getElem?_append_right (by omega)]at hu
     have:m - (x.p.L i).out.S.length=0:=by
      have:=(List.getElem?_eq_some_iff.1 hu).1
      simp at this
      omega
     rw[this]at hu;cases hu;exact ⟨d1,by rw[d2]⟩
   ·rw[hS,ec];dsimp only;rw[drop_snoc _ _ _ (by omega)]
    unfold pkS;rw[List.map_append,← List.append_assoc];refine Ch.snoc (h:=x.p.h) (h':=y.p.h) (fin:=x.p.set) (by rw[E.h];omega) ?_ ?_ ?_ hsx T.ch
    ·show (z3H (Cd.bs s)).i=_
     rw[d2,E.h]
    ·show Df.z3X x.p.set (z3H (Cd.bs s)).S=_
     rw[d2];exact hap
    ·unfold updI;rw[if_pos rfl]
 | beg a b c d e f g =>
  rw[keep d e];refine ⟨by rw[f];rfl,by rw[f,d];show ((0:Nat):Int)<=_;omega,by rw[f,e];rfl,fun n s _ hs=>?_,?_⟩
  ·rw[f]at hs
   simp[q0U]at hs
  ·rw[f,g,d,e];exact ⟨hn,Int.le_refl _,rfl⟩
 | cons e1 e2 =>
  rw[keep (by rw[e1]) (by rw[e1])]
  have hr:=done_rest { x.c i with h:=(x.c i).h+1,t:=x.ck }
  rw[← e2]at hr;have T:=h (hr.1.symm.trans hon);refine ⟨by rw[e1];exact T.cl,by rw[e1];exact T.len,by rw[e1];exact T.told,by rw[e1];exact T.dec,?_⟩
  rw[e1,hr.2.1,hr.2.2.1,hr.2.2.2];exact (Ch.take T.ch).1
 | del n s q hq hg hs e1 e2 e3 e4 =>
  rw[keep e1 e2];have T:=h (by rw[e4]at hon;exact hon)
  refine ⟨by rw[e3];exact T.cl,by rw[e3,e1];exact T.len,by rw[e3,e2];exact T.told,fun m s hm hs=>?_,?_⟩
  ·rw[e3]at hm hs;exact T.dec m s (by dsimp only at hm;omega) hs
  ·rw[e3,e4,e1,e2];have c:=T.ch;dsimp only;rw[hg]at c ⊢;rw[show ((n:Int)+1).toNat=n+1 by omega]
   rw[show (n:Int).toNat=n from rfl]at c;have hlt:=(List.getElem?_eq_some_iff.1 hs);rw[List.drop_eq_getElem_cons hlt.1,hlt.2]at c;unfold pkS at c ⊢;rw[List.map_cons,hq]at c;rw[List.append_assoc];exact c
theorem wh_do{H:Int->Pws}{x:Wo}(hx:Inv x)(hd:x.dn<400)(h:WH H x)(d:Dd):WH (updI H (doW x d).1.p.h (doW x d).1.p.set) (doW x d).1:=
 ⟨by unfold updI;rw[if_pos rfl],fun i hi hon=>ti_step hx hd hi (h.ti i hi) h.now hon (tr_do hx d i)⟩
theorem wh_new:WH (fun _=>[]) z6t:=⟨rfl,fun i _ h=>by cases h⟩
def hsW(l:List Dd):Nat->Int->Pws
 | 0=>fun _=>[]
 | k+1=>updI (hsW l k) (stW l (k+1)).p.h (stW l (k+1)).p.set
theorem wh_st(l:List Dd):∀ k,k<=l.length->k<=300->WH (hsW l k) (stW l k)
 | 0,_,_=>wh_new
 | k+1,h1,h2=>by
  have e:=z9c (List.getElem?_eq_getElem (by omega:k<l.length))
  have:=wh_do (j6u l k) (by rw[st_dn l k (by omega) (by omega)];omega) (wh_st l k (by omega) (by omega)) l[k]
  rw[← e]at this;exact this
end Wd
namespace Wd
open Go.RowKit Pv Kc
theorem tln_laid{w:World}{u1 u2:Value}{g:Int}{cl:Bool}(h:(#[u1,u2,.int .i64 g,.bool cl]:Array Value).all (·.oneCell')=true):∃ wa,(z3q (.pointer (some ⟨w.heap.size,0,none⟩)) (.agg #[u1,u2,.int .i64 g,.bool cl])).run prog (w.alloc (.cells Z4' 47))=.ok () wa/\CAt 47 wa w.heap.size #[u1,u2,.int .i64 g,.bool cl]/\Below w.heap.size w wa:=by
 have R0:=CAt.new 47 w Z4';exact ⟨_,run_storeAt_mid (P:=prog) _ _ 0 47 #[u1,u2,.int .i64 g,.bool cl] (R0.there 0 _ (Nat.le_refl _)) (by rw[z4h];rfl) h,R0.z0G rfl,z0b (Nat.le_refl _) _ _ _ (znw w _)⟩
theorem tpr_ln{w:World}{g:Nat}{p:Pr}{v:PrV}(h:CAt 57 w g (prC p v)){k:Nat}(hk:k<2):(z2x (.pointer (some ⟨g,66+k * 14+6,none⟩))).run prog w=.ok (.agg #[(v.l k).said,(v.l k).due,.int .i64 (p.L k).out.g,.bool (p.L k).out.cl]) w/\w.cell? ⟨g,66+k * 14+3,none⟩=some (v.l k).told/\w.cell? ⟨g,65,none⟩=some v.set:=
 ⟨z6A (cs:=lnL (p.L k).out (v.l k).said (v.l k).due) (h.part fun j x hx=>by
  have hj:j<4:=(List.getElem?_eq_some_iff.1 hx).1;have:=z4j (p:=p) (v:=v) k hk (6+j) (by omega)
  rw[← Nat.add_assoc]at this;rw[this]
  rcases (show j=0∨j=1∨j=2∨j=3 by omega) with rfl | rfl | rfl | rfl <;> exact hx) rfl,(h.cell _).trans (z4j k hk 3 (by omega)),h.cell 65⟩
theorem dec_rep{s:ByteArray}(hs:s.size<=100)(hd:Cd.z7G (Cd.bs s)=0){q:Pkt}(hq:z3H (Cd.bs s)=q)(w:World):Calls prog 16 #[.string s] w fun e w'=>∃ A n C A2 n2 C2,e=.returned (.tuple #[.agg #[.int .i64 q.k,.int .i64 q.i,.int .i64 q.v,.int .i64 q.n,.slice A n C,.slice A2 n2 C2],.int .i64 0])/\Rep (fun _=>True) w' (.slice A n C) 2 16 (pwC q.S)/\Below w.heap.size w w':=by
 have hg:=q3u hd;rw[hq]at hg;have hr:=z6d hg;have h1:=z4t _ _ (by omega) (by omega) hr.1
 have h2:=z5n _ _ (by omega) (by omega) hr.2
 refine (Cd.z8H s w (by unfold maxLen;omega)).mono ?_
 rintro e w' ⟨sa,da,cs,cd,sb,so,db,dO,rfl,hL,hRm,hb⟩;rw[hd];unfold z3H at hq;generalize Cd.z2o (Cd.bs s)=R at *;subst hq;exact ⟨_,_,_,_,_,_,rfl,(j1l hL hRm.1 hRm.2 (by dsimp only at h1;omega) (by dsimp only at h2;omega)).1.mono fun _ _ _=>trivial,hb⟩
def TL(w:World)(gp:Nat)(x:Wo)(vp:PrV)(d:Dd)(wl:World):Prop:=PLd w wl gp x.p vp/\CAt 29 wl w.heap.size (ddC d)
theorem TL.over{w:World}{gp:Nat}{x:Wo}{vp:PrV}{d:Dd}{wl w':World}(h:TL w gp x vp d wl)(hb:Below wl.heap.size wl w'):TL w gp x vp d w':=⟨h.1.over hb,h.2.over hb⟩
attribute [local go_sem ↓] z0J z0y z1O z1w z2I z2h
set_option maxRecDepth 100000 in
theorem ttold1_any(H:Int->Pws)(B g:Nat)(x:Wo)(d:Dd)(rc rn:Int)(w:World)(h:StW B g x w)(ht:∀ i,i<2->(x.c i).on=true->TI H x i) :
  Calls prog 14 #[.pointer (some ⟨g,0,none⟩),.agg (ddC d),.agg #[.int .i64 rc,.int .i64 rn]] w fun e w'=>e=.returned (.bool true)/\Below w.heap.size w w':=by
 have HP:=hide (fun (wx:World) (hb:Below w.heap.size w wx)=>q0d B g x wx (h.over hb));have HC:=hide (fun (wx:World) (i:Nat) (hi:i<2) (hb:Below w.heap.size w wx)=>z7v B g x wx i hi (h.over hb));have HIV:=hide h.inv;have HTI:=hide ht;have HB0:Hid (Below w.heap.size w ((w.alloc (.cells (ddC d) 29)).alloc (.cells #[.int .i64 rc,.int .i64 rn] 32))/\CAt 29 ((w.alloc (.cells (ddC d) 29)).alloc (.cells #[.int .i64 rc,.int .i64 rn] 32)) w.heap.size (ddC d)):=⟨(znw w _).alloc (by simp) _,(CAt.new _ w _).alloc _⟩
 clear h ht
 go_enter func14,ntmps14
 go_upto_region 1 with fail
 generalize (w.alloc (.cells (ddC d) 29)).alloc (.cells #[.int .i64 rc,.int .i64 rn] 32)=w0 at *
 go_upto_region 2 with (go_at_call 11;refine (HP.out _ HB0.out.1).mono ?_;rintro e w1 ⟨vp,rfl,I1,b1⟩;have s1:=z7Y I1;have HL1:Hid (TL w w1.heap.size x vp d (j2C w1 x.p vp)):=hide ⟨PLd.new (w0:=w) I1 (by have:=HB0.out.1.size;omega) (zbt HB0.out.1 b1),HB0.out.2.over (b1.trans ((z3G w1 x.p vp).mono b1.size))⟩;clear I1 b1)
 clear s1 HP HB0;generalize j2C w1 x.p vp=w2 at *;generalize w1.heap.size=gp at *
 go_upto_region 3 with fail
 go_loopw [8] (fun i wl=>∃ (k:Nat),k<=2/\i=.int .i64 (k:Int)/\Hid (TL w gp x vp d wl)) (fun i _=>2 - (intOf i).toNat)
 case atStart=>exact ⟨0,by omega,rfl,HL1⟩
 case round =>
  obtain ⟨k,hk,rfl,HRR⟩:=hrel;clear HL1
  by_cases hlt:k<2
  ·have hI1:(k:Int)<2:=by omega
   have hk0:(0:Int)<=(k:Int):=by omega
   have HCk:=hide (HC.out wr k hlt HRR.out.1.2.2.2)
   go_upto_region 6 with (go_at_call 12;refine HCk.out.mono ?_;rintro e w3 ⟨vc,rfl,I3,b3⟩;have s3:=q4j I3;unfold Z22 at s3;have HL3:=hide (show _/\_ from ⟨CLd.new (w0:=w) I3 (by have:=HRR.out.1.2.2.2.size;omega) (zbt HRR.out.1.2.2.2 b3),(HRR.out.over b3).over (z8n w3 (x.c k) vc)⟩);clear I3 b3)
   clear s3 HCk HRR;generalize j8c w3 (x.c k) vc=w4 at *;generalize w3.heap.size=gc at *;have hz3:=HL3.out.1.lt;have c0:w4.cell? ⟨gc,0,none⟩=some (.bool (x.c k).on):=HL3.out.1.1.cell 0;cases hon:(x.c k).on
   ·rw[hon]at c0;go_wp2;exact ⟨⟨k+1,by omega,by go_num,hide HL3.out.2⟩,by simp[intOf];omega⟩
   ·rw[hon]at c0;have HT:=hide (HTI.out k hlt hon);have HIL:=hide (show _/\_ from ⟨(z1p _).1 (HIV.out.gp.lk k hlt).out,HIV.out.sp k hlt⟩);obtain ⟨z,hz,hr,hin⟩:=HL3.out.1.2.1.pd;obtain ⟨Aq,Cq,eq,hs,-⟩:=hr.open (z2g _ _ hz) (by decide)
    have hpl:(x.c k).pd.length<=3518437208781:=by omega
    clear hs;have c4:w4.cell? ⟨gc,4,none⟩=some (.int .i64 (x.c k).id):=HL3.out.1.1.cell 4;have c5:w4.cell? ⟨gc,5,none⟩=some vc.set:=HL3.out.1.1.cell 5;have c6:w4.cell? ⟨gc,6,none⟩=some vc.pd:=HL3.out.1.1.cell 6;rw[eq]at c6;have HZ:=hide (show _/\_/\_ from ⟨hz,(by rw[eq]at hr;exact hr:Rep _ w4 (.slice Aq (x.c k).pd.length Cq) 6 40 (pdL (x.c k).pd z)),hin⟩)
    obtain ⟨As,ns,Cs,es,rs⟩:=id HL3.out.1.2.1.set;rw[es]at c5;have HR0:Hid (Rep (fun _=>True) w4 (.slice As ns Cs) 2 16 (pwC (x.c k).set)):=hide ((by rw[← es];exact HL3.out.1.2.1.set:Rep _ w4 (.slice As ns Cs) 2 16 (pwC (x.c k).set)).mono fun _ _ _=>trivial)
    clear hz hr hin eq es rs hon
    go_upto_region 7 with fail
    go_region
    go_upto_region 9 with fail
    have HCH:=hide HT.out.ch;have b4d:Below w4.heap.size w4 w4.drew:=(Below.refl _ w4).drew
    go_loopw [10,11,37] (fun u j i wl=>∃ (m:Nat) (A:Option Addr) (n C:Nat) (ci:Int) (set:Pws),m<=(x.c k).pd.length/\i=.int .i64 (m:Int)/\u=.slice A n C/\j=.int .i64 ci/\Hid (Below w4.heap.size w4 wl/\Rep (fun _=>True) wl (.slice A n C) 2 16 (pwC set)/\Ch H x.p.h x.p.set ci set ((x.c k).pd.drop m ++ pkS ((x.p.L k).out.S.drop (x.p.L k).out.g.toNat)))) (fun _ _ i _=>(x.c k).pd.length - (intOf i).toNat)
    case atStart=>exact ⟨0,As,ns,Cs,_,_,Nat.zero_le _,rfl,rfl,rfl,b4d,HR0.out.over b4d,HCH.out⟩
    case round =>
     obtain ⟨m,A,n,C,ci,set,hm,rfl,rfl,rfl,HRR⟩:=hrel;clear HR0 HCH c0 c4 c5 c6
     by_cases hml:m<(x.c k).pd.length
     ·have hmI:(m:Int)<((x.c k).pd.length:Int):=by omega
      have hm0:(0:Int)<=(m:Int):=by omega
      obtain ⟨y,hy,hd⟩:=z4u hml;obtain ⟨A',C',e',-,-,hc,-⟩:=HZ.out.2.1.open (z2g _ _ HZ.out.1) (by decide)
      cases e';obtain ⟨bq,off,rfl,-,hbl,hcell⟩:=hc (by omega)
      have hkz:m<z.length:=by have:=HZ.out.1;omega
      have hzk:z[m]?=some z[m]:=List.getElem?_eq_getElem hkz;obtain ⟨r1,r2⟩:=HZ.out.2.2 m y _ hy hzk
      have cl:∀ j,j<6->∀ u,(pkL y z[m])[j]?=some u->wr.cell? ⟨bq,off+m * 6+j,none⟩=some u:=fun j hj u hu=>by
       rw[Nat.add_assoc];exact (HRR.out.1.cell (p:=⟨bq,off+(m * 6+j),none⟩) hbl).trans (hcell _ _ ((z6M _ z m y _ j hy hzk hj).trans hu))
      have c0:=cl 0 (by omega) _ rfl
      have c1:=cl 1 (by omega) _ rfl
      have c2:=cl 2 (by omega) _ rfl
      have c3:=cl 3 (by omega) _ rfl
      have c4:=cl 4 (by omega) _ rfl
      have c5:=cl 5 (by omega) _ rfl
      rw[Nat.add_zero]at c0;have HCH:Hid (ci<y.i/\Ch H x.p.h x.p.set y.i (Df.z3X set y.S) ((x.c k).pd.drop (m+1) ++ pkS ((x.p.L k).out.S.drop (x.p.L k).out.g.toNat))):=hide (by have:=HRR.out.2.2;rw[hd]at this;exact this.2)
      clear hy hd hcell cl hc hzk;generalize z[m]=zz at *;obtain ⟨z1,z2⟩:=zz;dsimp only at c0 c1 c2 c3 c4 c5 r1 r2;obtain ⟨A1,n1,C1,rfl,-⟩:=id r1;obtain ⟨A2,n2,C2,rfl,-⟩:=id r2;clear r2;have r6:=r1.over HRR.out.1;have b5:Below wr.heap.size wr (wr.alloc (.cells #[.int .i64 y.k,.int .i64 y.i,.int .i64 y.v,.int .i64 y.n,.slice A1 n1 C1,.slice A2 n2 C2] 70)):=znw wr _;have R5:CAt 70 (wr.alloc (.cells #[.int .i64 y.k,.int .i64 y.i,.int .i64 y.v,.int .i64 y.n,.slice A1 n1 C1,.slice A2 n2 C2] 70)) wr.heap.size #[.int .i64 y.k,.int .i64 y.i,.int .i64 y.v,.int .i64 y.n,.slice A1 n1 C1,.slice A2 n2 C2]:=CAt.new _ wr _;have HAP:=hide (fun (wx:World) (hb:Below (wr.alloc (.cells #[.int .i64 y.k,.int .i64 y.i,.int .i64 y.v,.int .i64 y.n,.slice A1 n1 C1,.slice A2 n2 C2] 70)).heap.size (wr.alloc (.cells #[.int .i64 y.k,.int .i64 y.i,.int .i64 y.v,.int .i64 y.n,.slice A1 n1 C1,.slice A2 n2 C2] 70)) wx)=>q7j set y.S _ _ _ _ wx (HRR.out.2.1.over (zbt b5 hb)) (r6.over (zbt b5 hb)));have H5:=hide (show _/\_ from ⟨R5,zbt HRR.out.1 b5⟩);clear r1 r6 b5 R5 hkz
      go_upto_region 11 with fail
      clear c0 c1 c2 c3 c4 c5 HRR;generalize wr.alloc (.cells #[.int .i64 y.k,.int .i64 y.i,.int .i64 y.v,.int .i64 y.n,.slice A1 n1 C1,.slice A2 n2 C2] 70)=w6 at *;generalize hgy:wr.heap.size=gy at *;clear hgy;have HF:Hid (∀ wx,Below w6.heap.size w6 wx->wx.cell? ⟨gy,1,none⟩=some (.int .i64 y.i)/\wx.cell? ⟨gy,4,none⟩=some (.slice A1 n1 C1)):=hide fun wx hb=>⟨(H5.out.1.over hb).cell 1,(H5.out.1.over hb).cell 4⟩;have hd6:Below w6.heap.size w6 w6.drew:=(Below.refl _ w6).drew;obtain ⟨y1,y4⟩:=HF.out w6.drew hd6;obtain ⟨y1',y4'⟩:=HF.out w6 (Below.refl _ _);have hzy:=H5.out.1.lt
      go_region_with (go_at_call 15;refine (HAP.out _ (by exact hd6)).mono ?_;rintro e w7 ⟨A7,n7,C7,rfl,R7,b7⟩;have b67:=zbt hd6 b7;obtain ⟨q1,q4⟩:=HF.out w7 b67;have H7:=hide (show _/\_ from ⟨R7,b67⟩);clear R7 b7 b67)
      all_goals
       simp only[Exit.inBlock,Exit.then];apply_assumption;clear y1 y4 y1' y4' HF HAP;go_wp2
       first | exact ⟨⟨m+1,A7,n7,C7,y.i,Df.z3X set y.S,by omega,by go_num,rfl,rfl,hide ⟨zbt H5.out.2 H7.out.2,H7.out.1.mono fun _ _ _=>trivial,HCH.out.2⟩⟩,by simp[intOf];omega⟩ | ((repeat apply Exists.intro);exact ⟨⟨m+1,A7,n7,C7,y.i,Df.z3X set y.S,by omega,by go_num,rfl,rfl,hide ⟨zbt H5.out.2 H7.out.2,H7.out.1.mono fun _ _ _=>trivial,HCH.out.2⟩⟩,rfl⟩)
     ·obtain rfl:m=(x.c k).pd.length:=by omega
      have hmI:¬ (((x.c k).pd.length:Nat):Int)<((x.c k).pd.length:Int):=by omega
      have HTL:=hide (HL3.out.2.over HRR.out.1)
      have hCH:Ch H x.p.h x.p.set ci set (pkS ((x.p.L k).out.S.drop (x.p.L k).out.g.toNat)):=by
       have:=HRR.out.2.2
       rwa [List.drop_length,List.nil_append]at this
      obtain ⟨l13,-,-⟩:=tpr_ln HTL.out.1.1 hlt;have hlk:=HTL.out.1.2.1.lk k hlt;obtain ⟨wd,s13,R13,b13⟩:=tln_laid (w:=wr) (z2S hlk.said hlk.due (x.p.L k).out.g (x.p.L k).out.cl);unfold Z4' at s13;have hzp:=HTL.out.1.lt;have H13:=hide (show _/\_/\_ from ⟨HTL.out.over b13,R13,HRR.out.2.1.over b13⟩);have HCH:=hide hCH;clear hCH hlk R13 b13 HTL HRR HZ HL3
      go_upto_region 14 with fail
      clear l13 s13 hzp hmI hml hm;generalize hgl:wr.heap.size=gl at *;clear hgl;obtain ⟨G0,hG0⟩:∃ G0:Nat,(x.p.L k).out.g=(G0:Int):=⟨_,(Int.toNat_of_nonneg HIL.out.1.2.2.2.1).symm⟩;have c2:wd.cell? ⟨gl,2,none⟩=some (.int .i64 (G0:Int)):=(H13.out.2.1.cell 2).trans (by rw[← hG0];rfl)
      have hzl:=H13.out.2.1.lt;have hG1:G0<=(x.p.L k).out.S.length:=by have:=HIL.out.1.2.2.2.2;omega
      rw[hG0]at HCH;have HG0:=hide hG0;clear hG0
      go_upto_region 15 with fail
      clear c2;have bwd:Below wd.heap.size wd wd:=Below.refl _ _
      go_loopw [10,11,15] (fun u j i wl=>∃ (m:Nat) (A:Option Addr) (n C:Nat) (ci:Int) (set:Pws),G0<=m/\m<=(x.p.L k).out.S.length/\i=.int .i64 (m:Int)/\u=.slice A n C/\j=.int .i64 ci/\Hid (Below wd.heap.size wd wl/\Rep (fun _=>True) wl (.slice A n C) 2 16 (pwC set)/\Ch H x.p.h x.p.set ci set (pkS ((x.p.L k).out.S.drop m)))) (fun _ _ i _=>(x.p.L k).out.S.length - (intOf i).toNat)
      case atStart=>exact ⟨G0,A,n,C,ci,set,Nat.le_refl _,hG1,rfl,rfl,rfl,bwd,H13.out.2.2,HCH.out⟩
      case round =>
       clear HCH;obtain ⟨m,A,n,C,ci,set,hmG,hm,rfl,rfl,rfl,HRR⟩:=hrel;obtain ⟨Aw,Cw,ew,hlw,fw⟩:=j0U (H13.out.1.1.2.1.lk k hlt).said HRR.out.1;have cw:wr.cell? ⟨gl,0,none⟩=some (.slice Aw (x.p.L k).out.S.length Cw):=((H13.out.2.1.over HRR.out.1).cell 0).trans (congrArg some ew);have hzl':gl<wr.heap.size:=(H13.out.2.1.over HRR.out.1).lt
       by_cases hml:m<(x.p.L k).out.S.length
       ·have hmI:(m:Int)<((x.p.L k).out.S.length:Int):=by omega
        have hm0:(0:Int)<=(m:Int):=by omega
        obtain ⟨bw,ow,rfl,cs⟩:=fw m hml;obtain ⟨s,hs,hdr⟩:=z4u hml;have hsg:(x.p.L k).out.S.getD m ByteArray.empty=s:=by rw[List.getD_eq_getElem?_getD,hs];rfl
        rw[hsg]at cs;obtain ⟨hd,hk1⟩:=HT.out.dec m s (by rw[HG0.out];omega) hs
        obtain ⟨q,hq⟩:∃ q,z3H (Cd.bs s)=q:=⟨_,rfl⟩;rw[hq]at hk1;have HDC:=hide (fun wx=>dec_rep (HIL.out.2 s (List.mem_of_getElem? hs)) hd hq wx)
        have hCH:Ch H x.p.h x.p.set ci set (q :: pkS ((x.p.L k).out.S.drop (m+1))):=by
         have:=HRR.out.2.2;rw[hdr]at this;unfold pkS at this;rw[List.map_cons,hq]at this;exact this
        have hci:¬ (q.i<=ci):=by have:=hCH.2.1;omega
        have HCH:=hide hCH.2.2;have HRD:=hide (show _/\_ from ⟨HRR.out.1,HRR.out.2.1⟩);clear hCH hd hq hs hdr hsg fw ew HRR
        go_upto_region 18 with (go_at_call 16;refine (HDC.out _).mono ?_;rintro e w6 ⟨A6,n6,C6,A7,n7,C7,rfl,R6,b6⟩;have H6:=hide (show _/\_ from ⟨R6,b6⟩);clear R6 b6)
        clear cw cs HDC;have b8:Below w6.heap.size w6 (w6.alloc (.cells #[.int .i64 1,.int .i64 q.i,.int .i64 q.v,.int .i64 q.n,.slice A6 n6 C6,.slice A7 n7 C7] 70)):=znw w6 _;have R8:CAt 70 (w6.alloc (.cells #[.int .i64 1,.int .i64 q.i,.int .i64 q.v,.int .i64 q.n,.slice A6 n6 C6,.slice A7 n7 C7] 70)) w6.heap.size #[.int .i64 1,.int .i64 q.i,.int .i64 q.v,.int .i64 q.n,.slice A6 n6 C6,.slice A7 n7 C7]:=CAt.new _ w6 _;have b68:=zbt H6.out.2 b8;have H8:=hide (show _/\_/\_/\_ from ⟨R8,zbt HRD.out.1 b68,H6.out.1.over b8,HRD.out.2.over b68⟩);clear b8 R8 b68 H6 HRD;generalize w6.alloc (.cells #[.int .i64 1,.int .i64 q.i,.int .i64 q.v,.int .i64 q.n,.slice A6 n6 C6,.slice A7 n7 C7] 70)=w8 at *;generalize hgy:w6.heap.size=gy at *;clear hgy;have HF:Hid (∀ wx,Below w8.heap.size w8 wx->wx.cell? ⟨gy,0,none⟩=some (.int .i64 1)/\wx.cell? ⟨gy,1,none⟩=some (.int .i64 q.i)/\wx.cell? ⟨gy,4,none⟩=some (.slice A6 n6 C6)):=hide fun wx hb=>⟨(H8.out.1.over hb).cell 0,(H8.out.1.over hb).cell 1,(H8.out.1.over hb).cell 4⟩;have HAP:=hide (fun (wx:World) (hb:Below w8.heap.size w8 wx)=>q7j set q.S _ _ _ _ wx (H8.out.2.2.2.over hb) (H8.out.2.2.1.over hb));obtain ⟨y0,y1,y4⟩:=HF.out w8 (Below.refl _ _);have hzy:=H8.out.1.lt
        go_upto_region 20 with fail
        have hd8:Below w8.heap.size w8 w8.drew:=(Below.refl _ w8).drew;obtain ⟨-,z1,z4⟩:=HF.out w8.drew hd8
        go_region_with (go_at_call 15;refine (HAP.out _ (by exact hd8)).mono ?_;rintro e w9 ⟨A9,n9,C9,rfl,R9,b9⟩;have b89:=zbt hd8 b9;obtain ⟨-,q1,q4⟩:=HF.out w9 b89;have H9:=hide (show _/\_ from ⟨R9,b89⟩);clear R9 b9 b89)
        all_goals
         simp only[Exit.inBlock,Exit.then];apply_assumption;clear y0 y1 y4 z1 z4 HF HAP;go_wp2;exact ⟨⟨m+1,A9,n9,C9,q.i,Df.z3X set q.S,by omega,by omega,by go_num,rfl,rfl,hide ⟨zbt H8.out.2.1 H9.out.2,H9.out.1.mono fun _ _ _=>trivial,HCH.out⟩⟩,by simp[intOf];omega⟩
       ·obtain rfl:m=(x.p.L k).out.S.length:=by omega
        have hmI:¬ (((x.p.L k).out.S.length:Nat):Int)<((x.p.L k).out.S.length:Int):=by omega
        have hset:set=x.p.set:=by
         have:=HRR.out.2.2;rw[List.drop_length]at this;exact this.2.2
        have HTL:=hide (H13.out.1.over HRR.out.1);obtain ⟨-,ct,cp⟩:=tpr_ln HTL.out.1.1 hlt;have hr1:=(HTL.out.1.2.1.lk k hlt).told;rw[HT.out.told]at hr1;have HR1:=hide (hset ▸ HRR.out.2.1);have HSP:=hide (fun (wx:World) (hb:Below wr.heap.size wr wx)=>tsamepw_any x.p.set _ _ _ _ wx (HR1.out.over hb) (hr1.over hb));have HSQ:=hide (fun (wx:World) (hb:Below wr.heap.size wr wx)=>tsamepw_any x.p.set _ _ _ _ wx (HR1.out.over hb) (HTL.out.1.2.1.set.over hb));have HCL:Hid (∀ wx,Below wr.heap.size wr wx->wx.cell? ⟨w.heap.size,0,none⟩=some (.int .i64 d.k)/\wx.cell? ⟨gp,65,none⟩=some vp.set):=hide fun wx hb=>⟨(HTL.out.2.over hb).cell 0,(HTL.out.1.1.over hb).cell 65⟩;have hzd:=HTL.out.2.lt;have hzp:=HTL.out.1.lt;clear hr1 fw ew HR1 hset cp HRR H13 HT HIL HTI HIV HC
        by_cases h6:d.k=6
        ·rw[h6]at HCL
         go_wp2_with (first
          | (go_at_call 17;have _m:=m1;refine (HSQ.out _ HB6.out).mono ?_;rintro e w7 ⟨rfl,b7⟩;have HB7:=hide (zbt HB6.out b7);clear b7)
          | (go_at_call 17;refine (HSP.out wr (Below.refl _ _)).mono ?_;rintro e w6 ⟨rfl,b6⟩;have m1:True:=trivial;obtain ⟨f0,f65⟩:=HCL.out w6 b6;have hz6:=Nat.lt_of_lt_of_le hzd b6.size;have hz7:=Nat.lt_of_lt_of_le hzp b6.size;have HB6:=hide b6;clear b6 HSP))
         exact ⟨⟨k+1,by omega,by go_num,hide (HTL.out.over HB7.out)⟩,by simp[intOf];omega⟩
        ·go_wp2_with (go_at_call 17;refine (HSP.out wr (Below.refl _ _)).mono ?_;rintro e w6 ⟨rfl,b6⟩;obtain ⟨f0,f65⟩:=HCL.out w6 b6;have hz6:=Nat.lt_of_lt_of_le hzd b6.size;have HB6:=hide b6;clear b6 HSP)
         exact ⟨⟨k+1,by omega,by go_num,hide (HTL.out.over HB6.out)⟩,by simp[intOf];omega⟩
  ·obtain rfl:k=2:=by omega
   go_wp2;go_ret;exact ⟨rfl,HRR.out.1.2.2.2⟩
end Wd
namespace Wd
open Go.ChangeShapes Go.WideShapes Go.ChangeAt Go.RowKit Go.Deep Pv
def ddL(x:Dd):List Value:=[.int .i64 x.k,.int .i64 x.c,.int .i64 x.d,.int .i64 x.v,.int .i64 x.n,.bool x.b,.bool x.f]
structure z7n(w:World)(ao:Option Addr)(b off:Nat)(l:List Dd):Prop where
 adr:0<l.length->ao=some ⟨b,off,none⟩
 len:l.length<=maxLen
 cell:∀ (i:Nat) (x:Dd),l[i]?=some x->w.rangeAt b (off+i * 7) (ddL x)
theorem z7n.lt{w:World}{ao:Option Addr}{b off:Nat}{l:List Dd}(h:z7n w ao b off l)(h0:0<l.length):b<w.heap.size:=
 World.block_lt_of_cell? w ⟨b,off+0 * 7+0,none⟩ (h.cell 0 l[0] (List.getElem?_eq_getElem h0) 0 _ rfl)
theorem z7n.over{w w':World}{B:Nat}{ao:Option Addr}{b off:Nat}{l:List Dd}(h:z7n w ao b off l)(hb:Below B w w')(hB:w.heap.size<=B):z7n w' ao b off l:=by
 refine ⟨h.adr,h.len,fun i x hx j v hv=>?_⟩;have h0:0<l.length:=by have:=(List.getElem?_eq_some_iff.1 hx).1;omega
 have:=h.lt h0;rw[hb.cell (p:=⟨b,off+i * 7+j,none⟩) (by show b<B;omega)]
 exact h.cell i x hx j v hv
theorem j6W:(prog.info? 29).map (·.size)=some 7:=by kernel_rfl
def j2D(v:Value):Sem Value:=Instr.loadAt 29 v
theorem q0v(v:Value):Instr.loadAt 29 v=j2D v:=rfl
theorem z7n.load{w:World}{ao:Option Addr}{b off:Nat}{l:List Dd}(h:z7n w ao b off l){i:Nat}{x:Dd}(hx:l[i]?=some x):(j2D (.pointer (some ⟨b,off+i * 7,none⟩))).run prog w=.ok (.agg (ddC x)) w:=
 run_loadAt_mid (P:=prog) w b (off+i * 7) 29 (ddL x) _ (h.cell i x hx) underlying29 rfl (by rw[j6W];rfl)
theorem j4s{β:Type}{p:Nat->β->Prop}(d:β){n:Nat}(h:∀ i,i<n->∃ y,p i y):∃ f:Nat->β,∀ i,i<n->p i (f i):=by
 refine ⟨fun i=>if hi:i<n then Classical.choose (h i hi) else d,fun i hi=>?_⟩;simp only[dif_pos hi];exact Classical.choose_spec (h i hi)
theorem cI':prog.cellsOf 3=1:=by kernel_rfl
theorem cT':prog.cellsOf 4=1:=by kernel_rfl
theorem cDd:prog.cellsOf 29=7:=by kernel_rfl
section
variable {H:Type} {enc:TypeId×Value->H} {W:World}
theorem j4j{m:Nat}{l:List Value}{y:DataW H×List MemPlace}(h:DataW.trod enc prog W 0 (fun _=>true) true m 29 l=some y):∃ x:Dd,l=ddL x:=by
 obtain ⟨xs,n,_,_,hl,hxl,hx⟩:=DataW.trod_struct underlying29 h;rw[cDd]at hl
 match l,hl with
 | [a0,a1,a2,a3,a4,a5,a6],_ =>
  match xs,hxl with
  | [y0,y1,y2,y3,y4,y5,y6],_ =>
   have t0:=hx 0 _ rfl;have t1:=hx 1 _ rfl;have t2:=hx 2 _ rfl;have t3:=hx 3 _ rfl;have t4:=hx 4 _ rfl;have t5:=hx 5 _ rfl;have t6:=hx 6 _ rfl
   simp[cI',cT']at t0 t1 t2 t3 t4 t5 t6
   obtain ⟨q0,e0,_⟩:=DataW.trod_int underlying3 t0;obtain ⟨q1,e1,_⟩:=DataW.trod_int underlying3 t1;obtain ⟨q2,e2,_⟩:=DataW.trod_int underlying3 t2;obtain ⟨q3,e3,_⟩:=DataW.trod_int underlying3 t3;obtain ⟨q4,e4,_⟩:=DataW.trod_int underlying3 t4;obtain ⟨q5,e5,_⟩:=DataW.trod_bool underlying4 t5;obtain ⟨q6,e6,_⟩:=DataW.trod_bool underlying4 t6
   simp at e0 e1 e2 e3 e4 e5 e6
   subst e0 e1 e2 e3 e4 e5 e6;exact ⟨⟨q0,q1,q2,q3,q4,q5,q6⟩,rfl⟩
theorem z8z{r:Reach}{b0:Nat}{v:Value}{d:DataW H}{p:List MemPlace}(hv:Value.okWide prog W r b0 22 v)(h:DataW.Trod enc prog W 0 (fun _=>true) true 22 v d p) :
  ∃ (l:List Dd) (ao:Option Addr) (c b off:Nat),v=.slice ao l.length c/\z7n W ao b off l/\(ao=none->c=0)/\l.length<=c:=by
 obtain ⟨a,len,cap,rfl⟩:=okWide_slice underlying22 hv;obtain ⟨fuel,hf⟩:=h
 rcases open_slice underlying22 hf with ⟨h0,_⟩ | ⟨a,len',cap',k,n,D,Pl,hcs,_,hlc,hmx,hk,hy,hx⟩
 ·simp[Value.cells]at h0
  obtain ⟨rfl,rfl,rfl⟩:=h0;exact ⟨[],none,0,0,0,rfl,⟨fun h=>absurd h (by simp),by simp,fun i x h=>by simp at h⟩,fun _=>rfl,Nat.le_refl _⟩
 simp[Value.cells]at hcs
 obtain ⟨rfl,rfl,rfl⟩:=hcs;simp only[if_true]at hk;subst hk;rw[cDd]at hx
 obtain ⟨g,hg⟩:=j4s (n:=k) (p:=fun i (x:Dd)=>W.cells? 0 (a.add (i * 7)) 7=some (ddL x)) ⟨0,0,0,0,0,false,false⟩ (fun i hi=>by
  obtain ⟨cs',h1,h2⟩:=hx i hi;obtain ⟨x,rfl⟩:=j4j h2
  exact ⟨x,h1⟩)
 have hlen:((List.range len).map g).length=len:=by simp
 by_cases h0:len=0
 ·subst h0;exact ⟨[],some a,k,0,0,rfl,⟨fun h=>absurd h (by simp),by simp,fun i x h=>by simp at h⟩,(fun h=>by cases h),Nat.zero_le _⟩
 have hcell:∀ i,i<k->∀ j v,(ddL (g i))[j]?=some v->W.cell? ((a.add (i * 7)).add j)=some v:=fun i hi j v hv=>by
  obtain ⟨_,hlen',hc⟩:=World.cells?_some (hg i hi);have hj:j<7:=by have:=(List.getElem?_eq_some_iff.1 hv).1;simpa [ddL] using this
  rw[hc j hj];exact hv
 obtain ⟨b,off,spot⟩:=a
 have hspot:spot=none:=by
  have:=hcell 0 (by omega) 0 _ rfl
  simpa [Addr.add] using World.cell?_spot this
 subst hspot;refine ⟨(List.range len).map g,some ⟨b,off,none⟩,k,b,off,by rw[hlen],⟨fun _=>rfl,by rw[hlen];omega,fun i x hi=>?_⟩,(fun h=>by cases h),by rw[hlen];omega⟩
 have hil:i<len:=by have:=(List.getElem?_eq_some_iff.1 hi).1;simpa using this
 obtain rfl:g i=x:=by simpa [hil] using hi
 have hc:=hcell i (by omega)
 simp only[Addr.add_lit]at hc;intro j v hv;exact hc j v hv
end
end Wd
namespace Wd
open Go.RowKit Pv Kc
theorem z7n.j9o{w w':World}{A:Option Addr}{b off bw:Nat}{l:List Dd}(h:z7n w A b off l)(ha:Alt bw w w')(hb:0<l.length->b≠bw):z7n w' A b off l:=by
 refine ⟨h.adr,h.len,fun i x hx j v hv=>?_⟩;have h0:0<l.length:=by have:=(List.getElem?_eq_some_iff.1 hx).1;omega
 rw[← h.cell i x hx j v hv];exact World.cell?_of_block (w:=w) (a:=⟨b,off+i * 7+j,none⟩) (ha.block b (h.lt h0) (hb h0))
attribute [local go_sem ↓] q0v
theorem q6B(A:Option Addr)(C b off:Nat)(cp:Array Value)(l:List Dd)(w:World)(I:Nat->Nat->Nat->World->Prop)(hD0:z7n w A b off l)
  (hD:∀ B g k wx,I B g k wx->z7n wx A b off l)
  (h0:∀ g w1 w2,Below w.heap.size w w1->StW w1.heap.size g z6t w2->Below w.heap.size w w2->I w1.heap.size g 0 w2)
  (hS:∀ B g k d wr w3 w4,k<120->I B g k wr->w.heap.size<=B->l[k]?=some d->StW B g (stW l k) wr->StW B g (stW l (k+1)) w4->Alt g wr w3->Below w3.heap.size w3 w4 ->
   Calls prog 14 (#[.pointer (some ⟨g,0,none⟩),.agg (ddC d),.agg #[.int .i64 (doW (stW l k) d).2.1,.int .i64 (doW (stW l k) d).2.2]] ++ cp) w4 fun e w'=>e=.returned (.bool true)/\StW B g (stW l (k+1)) w'/\I B g (k+1) w') :
  Calls prog 9 #[.slice A l.length C,.func (.func 14) #[] cp] w fun e w'=>∃ B g k,e=.returned (.tuple #[.pointer (some ⟨g,0,none⟩),.bool true])/\I B g k w':=by
 have HA:=hide (z8j w);have HBL:=hide (fun (h:0<l.length)=>hD0.lt h);have HD:=hide hD;have H0:=hide h0;have HSS:=hide hS;clear hD0 hD h0 hS
 go_enter func9,ntmps9
 go_upto_region 3 with (go_at_call 28;refine HA.out.mono ?_;rintro e w1 ⟨rfl,b1⟩;have HB1:=hide b1;clear b1)
 have HN:=hide (z5q w1)
 go_upto_region 4 with (go_at_call 22;refine HN.out.mono ?_;rintro e w2 ⟨g,rfl,h2,b2⟩;have HR0:Hid (StW w1.heap.size g (stW l 0) w2/\I w1.heap.size g 0 w2):=⟨h2,H0.out g w1 w2 HB1.out h2 (zbt HB1.out b2)⟩;have hg1:=HB1.out.size;have hg2:=h2.le;clear h2 b2)
 go_upto_region 5 with fail
 clear HN HA HB1 H0;generalize w1.heap.size=B at *
 go_loopw [7] (fun i wl=>∃ (k:Nat),k<=l.length/\k<=120/\i=.int .i64 (k:Int)/\Hid (StW B g (stW l k) wl/\I B g k wl)) (fun i _=>120 - (intOf i).toNat)
 case atStart=>exact ⟨0,Nat.zero_le _,by omega,rfl,HR0⟩
 case round =>
  obtain ⟨k,hk,hk2,rfl,HRR⟩:=hrel;clear HR0
  by_cases hlt:k<l.length/\k<120
  ·obtain ⟨h1,h2⟩:=hlt;have hI1:(k:Int)<(l.length:Int):=by omega
   have hI2:(k:Int)<120:=by omega
   have hx:l[k]?=some l[k]:=List.getElem?_eq_getElem h1;have hst:=z9c hx;generalize l[k]=d at hx hst;have HST:=hide hst;have HDO:=hide (q1p B g (stW l k) d wr HRR.out.1);have hDr:=HD.out B g k wr HRR.out.2;have ld:=hDr.load hx;have hA:A=some ⟨b,off,none⟩:=hDr.adr (by omega)
   have hbg:b≠g:=by have:=HBL.out (by omega);omega
   have HX:=hide hx;have HDR:=hide hDr;subst hA;clear hst hx hDr
   go_upto_region 8 with (go_at_call 24;refine HDO.out.mono ?_;rintro e w3 ⟨rfl,h3,a3⟩;have HS3:=hide (show _/\_ from ⟨h3,a3⟩);clear h3 a3)
   have hz3:=w3.heap.size;have b4:Below w3.heap.size w3 (w3.alloc (.cells #[.int .i64 (doW (stW l k) d).2.1,.int .i64 (doW (stW l k) d).2.2] 32)):=znw w3 _;have R4:CAt 32 (w3.alloc (.cells #[.int .i64 (doW (stW l k) d).2.1,.int .i64 (doW (stW l k) d).2.2] 32)) w3.heap.size #[.int .i64 (doW (stW l k) d).2.1,.int .i64 (doW (stW l k) d).2.2]:=CAt.new _ w3 _;have S4:=HS3.out.1.over b4;rw[← HST.out]at S4;have HS4:=hide (show _/\_/\_ from ⟨S4,b4,R4⟩);clear S4 R4 b4 ld;have HSX:=hide (HSS.out B g k d wr w3);generalize (doW (stW l k) d).2.1=rc at *;generalize (doW (stW l k) d).2.2=rn at *;generalize w3.alloc (.cells #[.int .i64 rc,.int .i64 rn] 32)=w4 at *;have hd4:Below w4.heap.size w4 w4.drew:=(Below.refl _ w4).drew;have bd:=zbt HS4.out.2.1 hd4;have HT:=hide (HSX.out w4.drew h2 HRR.out.2 hg1 HX.out HRR.out.1 (HS4.out.1.over hd4) HS3.out.2 bd);have ld4:=((HDR.out.j9o HS3.out.2 (fun _=>hbg)).over bd (Nat.le_refl _)).load HX.out;have r0:w4.cell? ⟨w3.heap.size,0,none⟩=some (.int .i64 rc):=HS4.out.2.2.cell 0;have r1:w4.cell? ⟨w3.heap.size,1,none⟩=some (.int .i64 rn):=HS4.out.2.2.cell 1;have hz4:=HS4.out.2.2.lt;clear hd4 bd hz3 HSX HDO
   go_region_with (go_at_call 14;refine HT.out.mono ?_;rintro e w5 ⟨rfl,S5,I5⟩;have HB5:=hide (show _/\_ from ⟨S5,I5⟩);clear S5 I5)
   all_goals (apply_assumption;go_wp2;exact ⟨⟨k+1,by omega,by omega,by go_num,HB5⟩,by simp[intOf];omega⟩)
  ·by_cases h1:k<l.length
   ·obtain rfl:k=120:=by omega
    have hI1:((120:Nat):Int)<(l.length:Int):=by omega
    have hI2:(120:Int)<(l.length:Int):=by omega
    go_wp2;go_ret2
    first | exact ⟨B,g,_,rfl,HRR.out.2⟩ | exact ⟨B,g,rfl,_,HRR.out.2⟩
   ·have hI1:¬ (k:Int)<(l.length:Int):=by omega
    go_wp2;go_ret2
    first | exact ⟨B,g,_,rfl,HRR.out.2⟩ | exact ⟨B,g,rfl,_,HRR.out.2⟩
end Wd
namespace Wd
open Go.RowKit Pv Kc
theorem play_told(A:Option Addr)(C b off:Nat)(l:List Dd)(w:World)(hD:z7n w A b off l) :
  Calls prog 9 #[.slice A l.length C,.func (.func 14) #[] #[]] w fun e w'=>∃ g,e=.returned (.tuple #[.pointer (some ⟨g,0,none⟩),.bool true])/\Below w.heap.size w w':=by
 refine (q6B A C b off #[] l w (fun _ _ k wx=>k<=l.length/\Below w.heap.size w wx) hD ?_ ?_ ?_).mono ?_
 ·rintro B g k wx ⟨-,hb⟩;exact hD.over hb (Nat.le_refl _)
 ·intro g w1 w2 _ _ b2;exact ⟨Nat.zero_le _,b2⟩
 ·rintro B g k d wr w3 w4 h120 ⟨-,hb⟩ hB hx hs hs4 a3 b4;have hk:k<l.length:=(List.getElem?_eq_some_iff.1 hx).1;have b3:=q6Y (by have:=hs.le;omega) hb a3
  have b34:=zbt b3 b4;rw[show ∀ a:Array Value,a ++ #[]=a from fun a=>Array.append_empty];refine (ttold1_any (hsW l (k+1)) B g (stW l (k+1)) d _ _ w4 hs4 (wh_st l (k+1) hk (by omega)).ti).mono ?_
  rintro e w' ⟨rfl,b5⟩;exact ⟨rfl,hs4.over b5,hk,zbt b34 b5⟩
 ·rintro e w' ⟨B,g,k,rfl,-,hb⟩;exact ⟨g,rfl,hb⟩
theorem lttold_any(A:Option Addr)(C b off:Nat)(l:List Dd)(w:World)(hD:z7n w A b off l):Calls prog 5 #[.slice A l.length C] w fun e w'=>e=.returned (.bool true)/\Below w.heap.size w w':=by
 have HP:=hide (play_told A C b off l w hD);clear hD
 go_enter func5,ntmps5
 go_wp2_with (go_at_call 9;refine HP.out.mono ?_;rintro e w1 ⟨g,rfl,a1⟩;have HA:=hide a1;clear a1)
 go_ret;exact ⟨rfl,HA.out⟩
end Wd
end Go.Proofs.YtmopekkhmhhcaaaGreat
