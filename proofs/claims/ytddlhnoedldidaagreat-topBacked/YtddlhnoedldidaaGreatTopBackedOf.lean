/- Parts of the proof: WSA SC CM CK DF0 WSP PON PKP WI3 WT0 WST WLY WO2 WLZ WAP WMB WBR WTI WTT WRI WSS WHD WBP WTB WPLb WBH WLB. -/
import Derived.Test.YtddlhnoedldidaaGreatRows
import Derived.Test.YtddlhnoedldidaaGreatGK16
import Derived.Maps.OwnSet
import Derived.ChangeOld
set_option maxRecDepth 100000
set_option maxHeartbeats 16000000
namespace Go.Proofs.YtddlhnoedldidaaGreat
open Go.Proofs.Tryz
open Value renaming int->J,slice->J1,pointer->J2,bool->J3,agg->J4
open IntKind renaming i64->I
open Obj renaming cells->J5
namespace Wd
open Go.RowKit Pv
theorem q8h{P:Nat->Prop}{w a:World}{l:List (Int×Int)}{v:Value}(h:Rep P w v 2 16 (pwC l))(hb:Bl w a):∃ A C,v=J1 A l.length C/\l.length<=140737488351232/\∀ k,k<l.length->∃ b o,A=some ⟨b,o,none⟩/\a.cell? ⟨b,o+k * 2,none⟩=some (J I (l.getD k (0,0)).1)/\a.cell? ⟨b,o+k * 2+1,none⟩=some (J I (l.getD k (0,0)).2):=by
 obtain⟨A,C,e,s,-,c,-⟩:=(h.over hb).open (z0c l) (by decide)
 refine⟨A,C,e,by omega,fun k d=>?_⟩
 obtain⟨b,o,f,-,-,hc⟩:=c (by omega)
 obtain⟨g,i⟩:=z2j l k d;exact⟨b,o,f,hc _ _ g,by rw[Nat.add_assoc];exact hc _ _ i⟩
end Wd
section
open Go.RowKit
theorem y0j:(prog.info? 40).map (·.size)=some 24:=by kernel_rfl
end
namespace Cd
open Go.RowKit
theorem q3w(n a:Int)(b:0<a):n % (a * 256)=n % a+a * (n / a % 256):=by
 have h1:=Int.emod_add_mul_ediv n a;have h2:=Int.emod_add_mul_ediv (n / a) 256;have h3:=Int.emod_nonneg n (show a≠0 by omega)
 have g:=Int.emod_lt_of_pos n b;have c:=Int.emod_nonneg (n / a) (show (256:Int)≠0 by decide)
 have h:=Int.emod_lt_of_pos (n / a) (show (0:Int)<256 by decide)
 generalize n / a / 256=q at *;generalize n / a % 256=r at *;generalize n % a=s at *;generalize n / a=t at *;subst h2;have e:n=(s+a * r)+(a * 256) * q:=by rw[<- h1,Int.mul_add,<- Int.mul_assoc];omega
 have d:a * r<=a * 255:=Int.mul_le_mul_of_nonneg_left (by omega) (by omega)
 have f:0<=a * r:=Int.mul_nonneg (by omega) c
 rw[e,Int.add_mul_emod_self_left,Int.emod_eq_of_lt (by omega) (by omega)]
theorem j8d(n:Int):∀ (m:Nat) (a:Int),z4D a (be n m)=a * 2 ^ (8 * m)+n % 2 ^ (8 * m):=by
 intro m
 induction m with
 | zero=>intro a;simp[be,z4D,Int.emod_one]
 | succ m ih =>
  intro a;have h:z4D a (be n (m+1))=z4D (a * 256+n / 2 ^ (8 * m) % 256) (be n m):=rfl;rw[h,ih,z7H,q3w _ _ (q5b m),Int.add_mul,Int.mul_assoc,Int.mul_comm 256,Int.mul_comm (n / 2 ^ (8 * m) % 256)];omega
theorem z5V{n:Int}{m:Nat}(h:0<=n)(h2:n<2 ^ (8 * m)):z4D 0 (be n m)=n:=by
 rw[j8d,Int.zero_mul,Int.zero_add,Int.emod_eq_of_lt h h2]
theorem q3x{k i v n:Int}{S:List (Int×Int)}{D:List Int}(h:z0n k i v n S D=0) :
  1<=k/\k<=4/\1<=i/\i<=1099511627776/\0<=v/\v<6/\0<=n/\n<=1125899906842624:=by
 have d:∀ {k v n:Int} {a b:Nat},z7j k=false->z8w k v n a b=false->v=0/\n=0:=by
  intro k v n a b h1 h2;simp only[z8w,h1,Bool.or_eq_false_iff,Bool.and_eq_false_iff]at h2
  simp at h2
  exact h2.1
 rcases z5v k i v n S D with h' | h' | ⟨h1,h2,h' | h' | ⟨h3,f,h' | h' | h' | ⟨c | c,h' | h' | h' | h'⟩⟩⟩
 all_goals first | (exfalso;omega) | skip
 ·have e:isV v=true:=c.2.1;simp only[isV,decide_eq_true_eq]at e;omega
 ·obtain⟨g,j⟩:=d c h'.1;omega
theorem q6X(S:List (Int×Int)):∀ last:Int,-1<=last->z0d last S=true->∀ p∈S,0<=p.1/\p.1<6/\0<=p.2/\p.2<=1125899906842624:=by
 induction S with
 | nil=>simp
 | cons x t ih =>
  intro last b h p hp;simp only[z0d,Bool.and_eq_true,decide_eq_true_eq,isV]at h;obtain⟨⟨⟨⟨h1,h2⟩,h3⟩,c⟩,a⟩:=h
  rcases List.mem_cons.1 hp with rfl | hp
  ·omega
  ·exact ih x.1 (by omega) a p hp
theorem q2P(D:List Int):∀ last:Int,-1<=last->z0i last D=true->∀ p∈D,0<=p/\p<6:=by
 induction D with
 | nil=>simp
 | cons x t ih =>
  intro last a h p hp;simp only[z0i,Bool.and_eq_true,decide_eq_true_eq,isV]at h;obtain⟨⟨h1,h2⟩,h3⟩:=h
  rcases List.mem_cons.1 hp with rfl | hp
  ·omega
  ·exact ih x (by omega) h3 p hp
theorem z6v(a l:List Int)(m:Nat)(hm:a.length=m):tk m (a ++ l,false)=(z4D 0 a,(l,false)):=by
 subst hm;rw[tk,if_neg (by simp)]
 simp
theorem j6g(X:List Int):∀ (S:List (Int×Int)),(∀ p∈S,0<=p.1/\p.1<256/\0<=p.2/\p.2<72057594037927936)->tkP S.length (S.flatMap z5p ++ X,false)=(S,(X,false)):=by
 intro S
 induction S with
 | nil=>intro _;rfl
 | cons p t ih =>
  intro h;have hp:=h p (List.mem_cons_self ..)
  have a:tk 1 ((p :: t).flatMap z5p ++ X,false)=(p.1,(be p.2 7 ++ (t.flatMap z5p ++ X),false)):=by
   rw[List.flatMap_cons,z5p,List.append_assoc,List.append_assoc,z6v _ _ 1 (z0J _ _),z5V hp.1 (by omega)]
  have b:tk 7 (be p.2 7 ++ (t.flatMap z5p ++ X),false)=(p.2,(t.flatMap z5p ++ X,false)):=by
   rw[z6v _ _ 7 (z0J _ _),z5V hp.2.2.1 (by omega)]
  rw[List.length_cons,tkP,a];dsimp only;rw[b];dsimp only;rw[ih (fun q c=>h q (List.mem_cons_of_mem _ c))]
theorem j7r(X:List Int):∀ (D:List Int),(∀ p∈D,0<=p/\p<256)->tkD D.length (D.flatMap (be · 1) ++ X,false)=(D,(X,false)):=by
 intro D
 induction D with
 | nil=>intro _;rfl
 | cons p t ih =>
  intro h;have hp:=h p (List.mem_cons_self ..)
  have a:tk 1 ((p :: t).flatMap (be · 1) ++ X,false)=(p,(t.flatMap (be · 1) ++ X,false)):=by
   rw[List.flatMap_cons,List.append_assoc,z6v _ _ 1 (z0J _ _),z5V hp.1 (by omega)]
  rw[List.length_cons,tkD,a];dsimp only;rw[ih (fun q b=>h q (List.mem_cons_of_mem _ b))]
theorem q9g{k i v n:Int}{S:List (Int×Int)}{D:List Int}(h:z0n k i v n S D=0)(X:List Int):parse (enc k i v n S D ++ X)=((k,i,v,n,S,D),(X,false)):=by
 obtain⟨b1,b2,b3,t,u,w,x,y⟩:=q3x h;obtain⟨f,g,z,A⟩:=z9H h;have j:=q6X S (-1) (by omega) f
 have m:=q2P D (-1) (by omega) g
 have o:enc k i v n S D ++ X=be k 1 ++ (be i 6 ++ (be v 1 ++ (be n 7 ++ (be S.length 1 ++ (S.flatMap z5p ++ (be D.length 1 ++ (D.flatMap (be · 1) ++ X))))))):=by simp[enc,q4j]
 rw[o]
 have a:p1 (be k 1 ++ (be i 6 ++ (be v 1 ++ (be n 7 ++ (be S.length 1 ++ (S.flatMap z5p ++ (be D.length 1 ++ (D.flatMap (be · 1) ++ X))))))))=(k,(be i 6 ++ (be v 1 ++ (be n 7 ++ (be S.length 1 ++ (S.flatMap z5p ++ (be D.length 1 ++ (D.flatMap (be · 1) ++ X)))))),false)):=by
  rw[p1,z6v _ _ 1 (z0J _ _),z5V (by omega) (by omega)]
 generalize be k 1 ++ (be i 6 ++ (be v 1 ++ (be n 7 ++ (be S.length 1 ++ (S.flatMap z5p ++ (be D.length 1 ++ (D.flatMap (be · 1) ++ X)))))))=l at *
 have b:p2 l=(i,(be v 1 ++ (be n 7 ++ (be S.length 1 ++ (S.flatMap z5p ++ (be D.length 1 ++ (D.flatMap (be · 1) ++ X))))),false)):=by
  rw[p2,a];dsimp only;rw[z6v _ _ 6 (z0J _ _),z5V (by omega) (by omega)]
 have c:p3 l=(v,(be n 7 ++ (be S.length 1 ++ (S.flatMap z5p ++ (be D.length 1 ++ (D.flatMap (be · 1) ++ X)))),false)):=by
  rw[p3,b];dsimp only;rw[z6v _ _ 1 (z0J _ _),z5V (by omega) (by omega)]
 have d:p4 l=(n,(be S.length 1 ++ (S.flatMap z5p ++ (be D.length 1 ++ (D.flatMap (be · 1) ++ X))),false)):=by
  rw[p4,c];dsimp only;rw[z6v _ _ 7 (z0J _ _),z5V (by omega) (by omega)]
 have q:p5 l=((S.length:Int),(S.flatMap z5p ++ (be D.length 1 ++ (D.flatMap (be · 1) ++ X)),false)):=by
  rw[p5,d];dsimp only;rw[z6v _ _ 1 (z0J _ _),z5V (by omega) (by omega)]
 have e:p6 l=(S,(be D.length 1 ++ (D.flatMap (be · 1) ++ X),false)):=by
  rw[p6,q];dsimp only;rw[Int.toNat_natCast,j6g _ S (fun p hp=>by have:=j p hp;omega)]
 have r:p7 l=((D.length:Int),(D.flatMap (be · 1) ++ X,false)):=by
  rw[p7,e];dsimp only;rw[z6v _ _ 1 (z0J _ _),z5V (by omega) (by omega)]
 have s:p8 l=(D,(X,false)):=by
  rw[p8,r];dsimp only;rw[Int.toNat_natCast,j7r _ D (fun p hp=>by have:=m p hp;omega)]
 rw[parse,a,b,c,d,e,s]
theorem j5X{k i v n:Int}{S:List (Int×Int)}{D:List Int}(h:z0n k i v n S D=0):z4x (enc k i v n S D)=0/\z2w (enc k i v n S D)=(k,i,v,n,S,D):=by
 have a:=q9g h [];rw[List.append_nil]at a;have b:z4x (enc k i v n S D)=0:=by rw[z4x,a,if_pos rfl];exact h
 exact⟨b,by rw[z2w,if_pos b,a]⟩
end Cd
namespace Df
def setOf(P:Nat->Int):List Pw:=those (fun v=>decide (0<P v)) P 6
theorem z6J(P:Nat->Int)(c:Nat->Bool)(f:Nat->Int):∀ n,n<=6->∀ i,z1N P (those c f n) i=if i<n/\c i=true then f i else P i
 | 0,_,i=>by simp[those,z1N]
 | n+1,hn,i=>by
  have b:=z6J P c f n (by omega)
  rw[z2h];cases hc:c n
  ·rw[if_neg (by simp),b i]
   by_cases a:i=n
   ·subst a;simp[hc]
   ·have:(i<n↔i<n+1):=by omega
    simp[this]
  ·rw[if_pos rfl];unfold z1N at b ⊢;rw[List.foldl_append]
   show z8z _ _ i=_
   rw[z4c (by omega),b i]
   by_cases a:i=n
   ·subst a;simp[hc]
   ·have:(i<n↔i<n+1):=by omega
    simp[a,this]
theorem z7m(c:Nat->Bool)(f:Nat->Int):∀ n,n<=6->∀ (P:Nat->Int) i,(those c f n).foldr (fun x P=>z8z P x) P i=if i<n/\c i=true then f i else P i
 | 0,_,P,i=>by simp[those]
 | n+1,hn,P,i=>by
  have b:=z7m c f n (by omega)
  rw[z2h];cases hc:c n
  ·rw[if_neg (by simp),b P i]
   by_cases a:i=n
   ·subst a;simp[hc]
   ·have:(i<n↔i<n+1):=by omega
    simp[this]
  ·rw[if_pos rfl,List.foldr_append,b];simp only[List.foldr_cons,List.foldr_nil];rw[z4c (by omega)]
   by_cases a:i=n
   ·subst a;simp[hc]
   ·have:(i<n↔i<n+1):=by omega
    simp[a,this]
theorem q1y{P:Nat->Int}(h0:∀ i,0<=P i){i:Nat}(a:i<6):z1C (setOf P) i=P i:=by
 unfold z1C setOf;rw[z7m _ _ 6 (by omega)]
 by_cases h:0<P i
 ·simp[a,h]
 ·have:=h0 i
  simp[h,z2A]
  omega
theorem j3c{P:Nat->Int}(h0:∀ i,0<=P i){i:Nat}(a:i<6):z1N z2A (setOf P) i=P i:=by
 unfold setOf;rw[z6J _ _ _ 6 (by omega)]
 by_cases h:0<P i
 ·simp[a,h]
 ·have:=h0 i
  simp[h,z2A]
  omega
theorem z7I{c c':Nat->Bool}{f a:Nat->Int}:∀ n,(∀ i,i<n->c i=c' i/\(c i=true->f i=a i))->those c f n=those c' a n
 | 0,_=>rfl
 | n+1,h=>by
  rw[z2h,z2h,z7I n (fun i b=>h i (by omega))]
  obtain⟨h1,h2⟩:=h n (by omega)
  rw[<- h1]
  split
  ·rename_i hc;rw[h2 hc]
  ·rfl
theorem q5x{P R:Nat->Int}(b:∀ i,0<=P i)(c:∀ i,0<=R i):z2F (setOf P) (z3v (setOf P) (setOf R))=setOf R:=by
 have key:∀ i,i<6->z1N (z1N z2A (setOf P)) (z3v (setOf P) (setOf R)) i=R i:=by
  intro i a;unfold z3v;rw[z6J _ _ _ 6 (by omega)]
  simp only[q1y b a,q1y c a,j3c b a]
  by_cases h:R i=P i
  ·simp[h]
  ·simp[h,a]
 unfold z2F;exact z7I 6 fun i a=>⟨by rw[key i a],fun _=>key i a⟩
end Df
namespace Wd
open Go.RowKit Pv
def j4s(v:Value):Sem Value:=Instr.loadAt 38 v
theorem q1v(v:Value):Instr.loadAt 38 v=j4s v:=rfl
def j4H(v:Value):Sem Value:=Instr.loadAt 40 v
theorem q9h(v:Value):Instr.loadAt 40 v=j4H v:=rfl
def j4X(v:Value):Sem Value:=Instr.loadAt 35 v
theorem j0G(v:Value):Instr.loadAt 35 v=j4X v:=rfl
theorem y1W{w:World}{b:Nat}{p:Pr}{v:PrV}(h:CAt 58 w b (prC p v)):w.rangeAt b 2 (bkC p.s.b).toList:=by
 intro j u a;have c:j<7:=(List.getElem?_eq_some_iff.1 a).1;refine z7B h j u ?_;simp only[stC,stL];rw[List.getElem?_append_left (show j<(bkC p.s.b).toList.length from c)];exact a
theorem y1U{w:World}{b:Nat}{p:Pr}{v:PrV}(h:CAt 58 w b (prC p v)):w.rangeAt b 9 (vsC p.s.V).toList:=by
 intro j u a;have c:j<30:=(List.getElem?_eq_some_iff.1 a).1
 have:=z7B h (7+j) u (by
  simp only[stC,stL];rw[List.getElem?_append_right (by show 7<=7+j;omega),show 7+j - (bkC p.s.b).toList.length=j from by show 7+j - 7=j;omega,List.getElem?_append_left (show j<(vsC p.s.V).toList.length from c)]
  exact a)
 rwa [show 2+(7+j)=9+j by omega]at this
theorem y2t{w:World}{b:Nat}{p:Pr}{v:PrV}(h:CAt 58 w b (prC p v)):w.rangeAt b 39 (shC p.s.S).toList:=by
 intro j u a;have c:j<24:=(List.getElem?_eq_some_iff.1 a).1
 have:=z7B h (37+j) u (by
  simp only[stC,stL]
  rw[List.getElem?_append_right (by show 7<=37+j;omega),show 37+j - (bkC p.s.b).toList.length=30+j from by show 37+j - 7=30+j;omega,
   List.getElem?_append_right (by show 30<=30+j;omega),show 30+j - (vsC p.s.V).toList.length=j from by show 30+j - 30=j;omega,List.getElem?_append_left (show j<(shC p.s.S).toList.length from c)]
  exact a)
 rwa [show 2+(37+j)=39+j by omega]at this
theorem j6d{w:World}{b:Nat}{p:Pr}{v:PrV}(h:CAt 58 w b (prC p v)):(w.cell? ⟨b,0,none⟩=some (J I p.h)/\w.cell? ⟨b,1,none⟩=some (J I p.t)/\w.cell? ⟨b,63,none⟩=some v.ws/\w.cell? ⟨b,65,none⟩=some v.set/\w.cell? ⟨b,94,none⟩=some (J I p.ml)/\w.cell? ⟨b,95,none⟩=some (J I p.mn)/\w.cell? ⟨b,96,none⟩=some v.q)/\(j4X (J2 (some ⟨b,2,none⟩))).run prog w=.ok (J4 (bkC p.s.b)) w/\(j4s (J2 (some ⟨b,9,none⟩))).run prog w=.ok (J4 (vsC p.s.V)) w/\(j4H (J2 (some ⟨b,39,none⟩))).run prog w=.ok (J4 (shC p.s.S)) w:=by
 have h1:=run_loadAt_mid (P:=prog) w b 2 35 _ _ (y1W h) underlying35 rfl (by kernel_rfl)
 have h2:=run_loadAt_mid (P:=prog) w b 9 38 _ _ (y1U h) underlying38 rfl (by rw[j4A];rfl)
 have h3:=run_loadAt_mid (P:=prog) w b 39 40 _ _ (y2t h) underlying40 rfl (by rw[y0j];rfl)
 refine⟨⟨h.cell 0,h.cell 1,h.cell 63,h.cell 65,h.cell 94,h.cell 95,h.cell 96⟩,?_,?_,?_⟩
 ·change (Instr.loadAt 35 _).run prog w=_
  simpa using h1
 ·change (Instr.loadAt 38 _).run prog w=_
  simpa using h2
 ·change (Instr.loadAt 40 _).run prog w=_
  simpa using h3
attribute [local go_sem ↓] q1v q9h j0G
end Wd
namespace Pv
open Go.RowKit
theorem q4q{k i v n:Int}{S:List (Int×Int)}{D:List Int}(h:Cd.z0n k i v n S D=0):Cd.z4x (Cd.bs (Cd.encS k i v n S D))=0/\Cd.z2w (Cd.bs (Cd.encS k i v n S D))=(k,i,v,n,S,D):=by
 rw[j0i h];exact Cd.j5X h
theorem z9b{k i v n:Int}{S:List (Int×Int)}{D:List Int}(h:Cd.z0n k i v n S D=0):z0X (Cd.bs (Cd.encS k i v n S D))=⟨k,i,v,n,S,D⟩:=by
 unfold z0X;rw[(q4q h).2]
theorem q4d:∀ (l m:List (Int×Int)) (a b:Int),z2W a l=true->z2W b m=true->(∀ x,x∈l↔x∈m)->l=m
 | [],[],_,_,_,_,_=>rfl
 | [],y :: m,_,_,_,_,h=>by have:=(h y).2 (List.mem_cons_self);cases this
 | x :: l,[],_,_,_,_,h=>by have:=(h x).1 (List.mem_cons_self);cases this
 | x :: l,y :: m,a,b,hl,hm,h=>by
  simp only[z2W,Bool.and_eq_true]at hl hm
  have e:x=y:=by
   rcases List.mem_cons.1 ((h x).1 List.mem_cons_self) with h1 | h1
   ·exact h1
   ·rcases List.mem_cons.1 ((h y).2 List.mem_cons_self) with h2 | h2
    ·exact h2.symm
    ·have:=(z2R m y.1 hm.2 x h1).1;have:=(z2R l x.1 hl.2 y h2).1;omega
  subst e;rw[q4d l m x.1 x.1 hl.2 hm.2 fun z=>⟨fun c=>?_,fun c=>?_⟩]
  ·rcases List.mem_cons.1 ((h z).1 (List.mem_cons_of_mem _ c)) with h1 | h1
   ·have:=(z2R l x.1 hl.2 z c).1;rw[h1]at this;omega
   ·exact h1
  ·rcases List.mem_cons.1 ((h z).2 (List.mem_cons_of_mem _ c)) with h1 | h1
   ·have:=(z2R m x.1 hm.2 z c).1;rw[h1]at this;omega
   ·exact h1
theorem q3I:∀ (l:List (Int×Int)) (a:Int) (P:Nat->Int),-1<=a->z2W a l=true->(∀ x∈l,Df.z1N P l x.1.toNat=x.2)/\∀ i:Nat,(∀ x∈l,x.1≠(i:Int))->Df.z1N P l i=P i
 | [],_,P,_,_=>⟨fun x c=>(by cases c),fun _ _=>rfl⟩
 | y :: l,a,P,ha,h=>by
  have hm:=z2R (y :: l) a h;have g:=hm y List.mem_cons_self;simp only[z2W,Bool.and_eq_true]at h;obtain⟨h1,h2⟩:=q3I l y.1 (Df.z8z P y) (by omega) h.2
  have f:=z2R l y.1 h.2
  have b:∀ i,Df.z8z P y i=if i=y.1.toNat then y.2 else P i:=fun i=>by
   unfold Df.z8z;rw[if_pos (by omega)]
  refine⟨fun x c=>?_,fun i e=>?_⟩
  ·show Df.z1N (Df.z8z P y) l x.1.toNat=x.2
   rcases List.mem_cons.1 c with rfl | c
   ·rw[h2 _ (fun z d=>by have:=(f z d).1;omega),b,if_pos rfl]
   ·exact h1 x c
  ·show Df.z1N (Df.z8z P y) l i=P i
   rw[h2 i (fun z d=>e z (List.mem_cons_of_mem _ d)),b,if_neg (by have:=e y List.mem_cons_self;omega)]
theorem j4Z{l:List (Int×Int)}(h:z2W (-1) l=true):l=Df.setOf (Df.z1N Df.z2A l)/\∀ i,0<=Df.z1N Df.z2A l i:=by
 obtain⟨h1,h2⟩:=q3I l (-1) Df.z2A (by omega) h
 have hm:=z2R l (-1) h
 have c:∀ i:Nat,(∃ x∈l,x.1=(i:Int)/\Df.z1N Df.z2A l i=x.2)∨((∀ x∈l,x.1≠(i:Int))/\Df.z1N Df.z2A l i=0):=fun i=>by
  by_cases e:∃ x∈l,x.1=(i:Int)
  ·obtain⟨x,a,ex⟩:=e;have:=h1 x a;rw[ex,Int.toNat_natCast]at this;exact .inl ⟨x,a,ex,this⟩
  ·have d:∀ x∈l,x.1≠(i:Int):=fun x a b=>e ⟨x,a,b⟩;exact .inr ⟨d,h2 i d⟩
 have f:∀ i,0<=Df.z1N Df.z2A l i:=fun i=>by
  rcases c i with⟨x,a,-,e⟩ | ⟨-,e⟩
  ·rw[e];have:=hm x a;omega
  ·rw[e];omega
 refine⟨?_,f⟩
 have hmem:∀ x,x∈l↔x∈Df.setOf (Df.z1N Df.z2A l):=fun x=>by
  unfold Df.setOf;rw[z5U]
  constructor
  ·intro a;have hb:=hm x a;have e:=h1 x a;exact⟨x.1.toNat,by omega,by rw[e];simp;omega,by rw[e];ext <;> simp;omega⟩
  ·rintro⟨i,g,hc,rfl⟩
   rcases c i with⟨x,a,ex,e⟩ | ⟨-,e⟩
   ·rw[e,<- ex];exact a
   ·rw[e]at hc;simp at hc
 refine q4d l _ (-1) (-1) h (q0g _ (-1) (fun x a=>?_) (z5d _ _ 6)) hmem;exact hm x ((hmem x).2 a)
theorem q7l{l m:List (Int×Int)}(a:z2W (-1) l=true)(hm:z2W (-1) m=true):Df.z2F l (Df.z3v l m)=m:=by
 obtain⟨b,n1⟩:=j4Z a;obtain⟨c,d⟩:=j4Z hm;rw[b,c];exact Df.q5x n1 d
end Pv
namespace Wd
open Go.RowKit Pv Kc
theorem y1K(x:Wo)(d:Dd)(h:x.dn<600):(doW x d).1.dn=x.dn+1:=by
 unfold doW;rw[if_neg (by omega)]
 show (z2J (z2n x) d).1.dn=_
 rw[q7Q];rfl
theorem q4i:∀ (l:List Dd) (x:Wo),Inv x->Inv (l.foldl (fun x d=>(doW x d).1) x)
 | [],_,h=>h
 | d :: l,_,h=>q4i l _ (j5k h d)
theorem j7u(l:List Dd):Inv (y2l l):=q4i l _ q7T
theorem z2S(l:List Dd)(k:Nat):Inv (stW l k):=j7u _
theorem y0i(l:List Dd):∀ k,k<=l.length->k<=600->(stW l k).dn=k
 | 0,_,_=>rfl
 | k+1,h1,h2=>by
  have a:=y0i l k (by omega) (by omega)
  rw[z3f (List.getElem?_eq_getElem (by omega:k<l.length)),y1K _ _ (by omega),a]
  omega
theorem StW.keep{B g:Nat}{x:Wo}{w w':World}(h:StW B g x w)(c:∀ b,B<=b->b<w.heap.size->w'.heap[b]?=w.heap[b]?):StW B g x w':=by
 obtain⟨v,hc,d⟩:=h.at_
 have a:CAt 97 w' g (wdC x v):=by
  have:=c g h.le h.lt;unfold CAt at hc ⊢;rw[this];exact hc
 exact⟨⟨v,a,d.keep fun b hb e=>c b hb.1 e⟩,h.inv,h.le,a.lt⟩
theorem q9x(w:World)(p:Pr)(v:PrV):CAt 58 (j8J w p v) w.heap.size (prC p v):=(CAt.new 58 w zeroCells58).z0L (by rw[z0e];rfl)
theorem z5f(w:World)(p:Pr)(v:PrV):Bl w (j8J w p v):=z0b (Nat.le_refl _) _ _ _ (znw w _)
noncomputable def y1r(w:World)(c:Cs)(v:CsV):World:=(w.alloc (J5 Z22 75)).setCells w.heap.size 0 (csC c v).toList
theorem j7p(w:World)(c:Cs)(v:CsV):CAt 75 (y1r w c v) w.heap.size (csC c v):=(CAt.new 75 w Z22).z0L (by rw[z0C];rfl)
theorem z8Y(w:World)(c:Cs)(v:CsV):Bl w (y1r w c v):=z0b (Nat.le_refl _) _ _ _ (znw w _)
theorem z9L{P:Nat->Prop}{w:World}{c:Cs}{v:CsV}(h:CIn P w c v):(q3L (J2 (some ⟨w.heap.size,0,none⟩)) (J4 (csC c v))).run prog (w.alloc (J5 Z22 75))=.ok () (y1r w c v):=z2v (CAt.new _ w _) z0C (z0r c v) (z2p h)
end Wd
namespace Wd
open Go.ChangeShapes Go.WideShapes Go.ChangeAt Go.RowKit Go.Deep Pv
theorem z7p.lt{w:World}{ao:Option Addr}{b off:Nat}{l:List Dd}(h:z7p w ao b off l)(h0:0<l.length):b<w.heap.size:=
 World.block_lt_of_cell? w ⟨b,off+0 * 7+0,none⟩ (h.cell 0 l[0] (List.getElem?_eq_getElem h0) 0 _ rfl)
theorem z7p.over{w w':World}{B:Nat}{ao:Option Addr}{b off:Nat}{l:List Dd}(h:z7p w ao b off l)(hb:Below B w w')(d:w.heap.size<=B):z7p w' ao b off l:=by
 refine⟨h.adr,h.len,fun i x a j v c=>?_⟩;have h0:0<l.length:=by have:=(List.getElem?_eq_some_iff.1 a).1;omega
 have:=h.lt h0;rw[hb.cell (p:=⟨b,off+i * 7+j,none⟩) (by show b<B;omega)]
 exact h.cell i x a j v c
theorem j8M:(prog.info? 28).map (·.size)=some 7:=by kernel_rfl
theorem z7p.load{w:World}{ao:Option Addr}{b off:Nat}{l:List Dd}(h:z7p w ao b off l){i:Nat}{x:Dd}(a:l[i]?=some x):(j5j (J2 (some ⟨b,off+i * 7,none⟩))).run prog w=.ok (J4 (ddC x)) w:=
 run_loadAt_mid (P:=prog) w b (off+i * 7) 28 (ddL x) _ (h.cell i x a) underlying28 rfl (by rw[j8M];rfl)
section
variable {H:Type} {enc:TypeId×Value->H} {W:World}
end
end Wd
namespace Wd
open Go.RowKit Pv Kc
def PLk(n:Nat)(w:World)(g:Nat)(p:Pr)(v:PrV):Prop:=CAt 58 w g (prC p v)/\PIn (fun b=>n<=b) w p v/\n<=g
def CLk(n:Nat)(w:World)(g:Nat)(c:Cs)(v:CsV):Prop:=CAt 75 w g (csC c v)/\CIn (fun b=>n<=b) w c v/\n<=g
theorem PLk.over{n:Nat}{w w':World}{g:Nat}{p:Pr}{v:PrV}(h:PLk n w g p v)(hb:Bl w w'):PLk n w' g p v:=⟨h.1.over hb,h.2.1.over hb,h.2.2⟩
theorem CLk.over{n:Nat}{w w':World}{g:Nat}{c:Cs}{v:CsV}(h:CLk n w g c v)(hb:Bl w w'):CLk n w' g c v:=⟨h.1.over hb,h.2.1.over hb,h.2.2⟩
theorem PLk.alt{n a:Nat}{w w':World}{g:Nat}{p:Pr}{v:PrV}(h:PLk n w g p v)(c:Alt a w w')(e:a<n):PLk n w' g p v:=
 ⟨c.cat (by have:=h.2.2;omega) h.1,h.2.1.keep fun b hb d=>c.block b d (by omega),h.2.2⟩
theorem PLk.lt{n:Nat}{w:World}{g:Nat}{p:Pr}{v:PrV}(h:PLk n w g p v):g<w.heap.size:=h.1.lt
theorem CLk.lt{n:Nat}{w:World}{g:Nat}{c:Cs}{v:CsV}(h:CLk n w g c v):g<w.heap.size:=h.1.lt
theorem PLk.mk{n k:Nat}{w a:World}{g:Nat}{p:Pr}{v:PrV}(hc:CAt 58 a g (prC p v))(h:PIn (fun b=>k<=b) w p v)(hb:Bl w a)(c:n<=k)(d:n<=g):PLk n a g p v:=⟨hc,(h.mono (P':=fun b=>n<=b) fun _ _ hp=>Nat.le_trans c hp).over hb,d⟩
theorem CLk.mk{n k:Nat}{w a:World}{g:Nat}{c:Cs}{v:CsV}(hc:CAt 75 a g (csC c v))(h:CIn (fun b=>k<=b) w c v)(hb:Bl w a)(d:n<=k)(e:n<=g):CLk n a g c v:=⟨hc,(h.mono (P':=fun b=>n<=b) fun _ _ hp=>Nat.le_trans d hp).over hb,e⟩
structure z5n(P:Nat->Prop)(w w':World):Prop where
 os:w'.os=w.os
 tape:w'.tape=w.tape
 output:w'.output=w.output
 size:w.heap.size<=w'.heap.size
 block:∀ k,k<w.heap.size->¬ P k->w'.heap[k]?=w.heap[k]?
theorem z5n.trans{P:Nat->Prop}{w w1 a:World}(h:z5n P w w1)(k:z5n P w1 a):z5n P w a:=⟨k.os.trans h.os,k.tape.trans h.tape,k.output.trans h.output,Nat.le_trans h.size k.size,fun i b h1=>(k.block i (Nat.lt_of_lt_of_le b h.size) h1).trans (h.block i b h1)⟩
theorem z5n.of{P:Nat->Prop}{w w':World}(h:Bl w w'):z5n P w w':=⟨h.os,h.tape,h.output,h.size,fun k a _=>h.block k a⟩
theorem z5n.alt{P:Nat->Prop}{a:Nat}{w w':World}(h:Alt a w w')(b:P a):z5n P w w':=⟨h.os,h.tape,h.output,h.size,fun k c h1=>h.block k c fun e=>h1 (e ▸ b)⟩
theorem z5n.also{P:Nat->Prop}{g:Nat}{w wl w':World}(h:z5n P w wl)(c:Alt g wl w')(b:w.heap.size<=g):z5n P w w':=⟨c.os.trans h.os,c.tape.trans h.tape,c.output.trans h.output,Nat.le_trans h.size c.size,fun k a h1=>(c.block k (Nat.lt_of_lt_of_le a h.size) (by omega)).trans (h.block k a h1)⟩
theorem z5n.below{P:Nat->Prop}{n:Nat}{w w':World}(h:z5n P w w')(hp:∀ k,k<n->¬ P k)(b:n<=w.heap.size):Below n w w':=⟨h.os,h.tape,h.output,h.size,fun k a=>h.block k (by omega) (hp k a)⟩
theorem z7p.y2J{P:Nat->Prop}{w w':World}{A:Option Addr}{b off:Nat}{l:List Dd}(h:z7p w A b off l)(d:z5n P w w')(hb:0<l.length->¬ P b):z7p w' A b off l:=by
 refine⟨h.adr,h.len,fun i x c j v e=>?_⟩;have h0:0<l.length:=by have:=(List.getElem?_eq_some_iff.1 c).1;omega
 rw[<- h.cell i x c j v e];exact World.cell?_of_block (w:=w) (a:=⟨b,off+i * 7+j,none⟩) (d.block b (h.lt h0) (hb h0))
end Wd
namespace Wd
open Go.RowKit Pv Kc Go.Maps
def rdM(v:Value):Option (DataW Value×List MemPlace):=some (.held v,[])
theorem y2D{w w':World}{b:Nat}(h:w.grownBy w' (some b)):Alt b w w':=⟨h.os,h.tape,h.output,h.size,fun k c a=>h.block k c (by simpa using a)⟩
theorem j4B{a:Int}(h:0<=a/\a<=1125899906842624):keyOf prog 3 (.int .i64 a)=some (.int .i64 a):=keyOf_int_mk underlying3 (WalkArith.wf_i64 (by omega))
theorem y2N{w w':World}{mb n:Nat}{D:DataW Value}(h:w.ownsMap prog 3 rdM mb n D)(a:w'.heap[mb]?=w.heap[mb]?):w'.ownsMap prog 3 rdM mb n D:=by
 obtain⟨es,c,hb,r⟩:=h;exact⟨es,c,a.trans hb,r⟩
def laC(f:Nat->Int):Array Value:=#[J I (f 0),J I (f 1),J I (f 2),J I (f 3),J I (f 4),J I (f 5)]
theorem q8s(w:World):(zeroValue 39).run prog w=.ok (J4 (laC fun _=>0)) w:=by kernel_rfl
theorem ixR(w:World)(f:Nat->Int)(k:Nat)(a:k<6):(Instr.index 39 (J4 (laC f)) (J I (k:Int))).run prog w=.ok (J I (f k)) w:=by
 rcases (show k=0∨k=1∨k=2∨k=3∨k=4∨k=5 by omega) with rfl | rfl | rfl | rfl | rfl | rfl <;> kernel_rfl
structure BM(mb n:Nat)(D:DataW Value)(H:Int->Nat->Int)(hm:Int)(w:World):Prop where
 own:w.ownsMap prog 3 rdM mb n D
 val:∀ k,0<=k->k<=hm->(1<=k∨k=hm)->∀ z,D.atKey (.int .i64 k) z=.held (J4 (laC (H k)))
 non:∀ k,hm<k->has D (.int .i64 k)=false
 cm:CAt 88 w (mb+1) #[.map (some mb)]
 bd:∀ k v,v<6->0<=H k v/\H k v<=1125899906842624
theorem BM.keep{mb n:Nat}{D:DataW Value}{H:Int->Nat->Int}{hm:Int}{w w':World}(s:BM mb n D H hm w)(h:∀ b,b<=mb+1->b<w.heap.size->w'.heap[b]?=w.heap[b]?):BM mb n D H hm w':=
 ⟨y2N s.own (h _ (by omega) s.own.lt),s.val,s.non,(h _ (Nat.le_refl _) s.cm.lt).trans s.cm,s.bd⟩
theorem BM.over{mb n:Nat}{D:DataW Value}{H:Int->Nat->Int}{hm:Int}{w w':World}(s:BM mb n D H hm w)(hb:Bl w w'):BM mb n D H hm w':=s.keep fun b _ a=>hb.block b a
theorem BM.alt{mb n g:Nat}{D:DataW Value}{H:Int->Nat->Int}{hm:Int}{w w':World}(s:BM mb n D H hm w)(a:Alt g w w')(d:mb+1<g):BM mb n D H hm w':=s.keep fun b hb c=>a.block b c (by omega)
def j8K(H:Int->Nat->Int)(h:Int)(f:Nat->Int)(k:Int):Nat->Int:=if k=h then f else H k
theorem BM.put{mb n:Nat}{D:DataW Value}{H:Int->Nat->Int}{hm h:Int}{f:Nat->Int}{w w':World}(s:BM mb n D H hm w)(h1:hm<h)(h2:h<=hm+1∨h<=1)(i:∀ v,v<6->0<=f v/\f v<=1125899906842624)(j:w'.ownsMap prog 3 rdM mb (n+1) (D.put (.int .i64 h) (.held (J4 (laC f)))))(d:Alt mb w w') :
  BM mb (n+1) (D.put (.int .i64 h) (.held (J4 (laC f)))) (j8K H h f) h w':=by
 refine⟨j,fun k a b c z=>?_,fun k a=>?_,d.cat (by omega) s.cm,fun k v g=>?_⟩ <;> (try unfold j8K)
 ·by_cases e:k=h
  ·subst e;rw[if_pos rfl];exact atKey_put_same s.own.isMap (show WideAt.IsKeyLit (.int .i64 _) from trivial) _ _
  ·rw[if_neg e];exact (atKey_put_other (by simpa using e) _ _).trans (s.val k a (by omega) (by omega) z)
 ·exact (has_put_other (by simp;omega) _).trans (s.non k (by omega))
 ·split
  ·exact i v g
  ·exact s.bd k v g
theorem BM.look{mb n:Nat}{D:DataW Value}{H:Int->Nat->Int}{hm:Int}{w:World}(s:BM mb n D H hm w){k:Int}(h0:0<=k)(h3:k<=1125899906842624)(hc:k=hm∨hm<k):∃ f,(Instr.lookup 88 (.map (some mb)) (.int .i64 k) true).run prog w=.ok (.tuple #[J4 (laC f),J3 (decide (k=hm))]) w:=by
 obtain⟨v',g,d,b⟩:=s.own.look_ok (int_keyed underlying3) underlying88 (q8s w) (zd:=.held (J4 (laC fun _=>0))) (zp:=[]) rfl (j4B (a:=k) (by omega))
 unfold rdM at b
 rcases hc with c | c
 ·have e:=s.val k h0 (by omega) (.inr c)
  rw[e]at b;cases b;rw[has_true_of_atKey e]at d;exact⟨_,by rw[decide_eq_true c];exact d⟩
 ·have e:=s.non k c;rw[atKey_of_not_has e]at b;cases b;rw[e]at d;exact⟨_,by rw[decide_eq_false (by omega)];exact d⟩
theorem BM.at{mb n:Nat}{D:DataW Value}{H:Int->Nat->Int}{hm:Int}{w:World}(s:BM mb n D H hm w){k:Int}(h1:1<=k)(h2:k<=hm)(h3:k<=1125899906842624):(Instr.lookup 88 (.map (some mb)) (.int .i64 k) false).run prog w=.ok (J4 (laC (H k))) w:=by
 obtain⟨v',d,c,b⟩:=s.own.lookup (int_keyed underlying3) underlying88 (q8s w) (zd:=.held (J4 (laC fun _=>0))) (zp:=[]) rfl (j4B (a:=k) (by omega))
 rw[s.val k (by omega) h2 (.inl h1)]at b
 unfold rdM at b;cases b;exact c
end Wd
namespace Wd
open Go.RowKit Pv Kc
noncomputable def y3m:Code:=q3H [1,1,1,0,1,9,9,1,0,9,1,1,1,9,9,1,1,0,9,1,0] (f17.body.getD .skip)
set_option maxRecDepth 1000000 in
theorem j6u(mi mb gp F e v:Nat)(tk d g:Int)(f:Nat->Int)(wl:World)(hv:v<6)(h1:0<=tk/\tk<=1125899906842624)(h2:0<=d/\d<=1125899906842624)(h3:0<=f v/\f v<=1125899906842624)
  (h:Hid (∀ b,Bl wl b->b.cell? ⟨e,0,none⟩=some (J I (v:Int))/\b.cell? ⟨gp,9+v * 5,none⟩=some (J I tk)/\b.cell? ⟨gp,9+v * 5+2,none⟩=some (J I d)/\b.cell? ⟨mi,0,none⟩=some (.map (some mb))/\b.cell? ⟨F,4,none⟩=some (J I g)/\(Instr.lookup 88 (.map (some mb)) (J I g) false).run prog b=.ok (J4 (laC f)) b))
  {v0 v1 v2 v4 v5 v6 v7 v9 G H K L M N g8 P R T U V W X Y a0 a1 a2 a3 a4 a5 a6 a7 a8 a9 b4 b5 b6 b7 b8 b9 c8 c9 d0 d1 d2 d3 d4 d5 d6 d7 d8 d9 e0 e1 e2 e3 e4 e5 e6 e7 e8 e9 g9 h4 h5 h6 h7 h8 h9 i2 i3 i4 i5 i6 i7 i8 i9 j0 j1 j2 j3 j4 j5 j6 j7 f4 f5 f6 f7 f8 f9 g0 g1 g2 g3 g5 g6 i j k l m n o p q r s t u w x y z A B:Value} {Q:Exit->Act->World->Prop} (hQ:∀ (wz:World),Bl wl wz->Q .normal ⟨List.toArray (v0 :: v1 :: v2 :: (J2 (some ⟨mi,0,none⟩)) :: v4 :: v5 :: v6 :: v7 :: (J2 (some ⟨gp,0,none⟩)) :: v9 :: G :: H :: K :: L :: M :: (J2 (some ⟨F,0,none⟩)) :: N :: (J2 (some ⟨e,0,none⟩)) :: (J I (tk+d - f v)) :: P :: R :: T :: U :: V :: W :: X :: Y :: a0 :: a1 :: a2 :: a3 :: a4 :: a5 :: a6 :: a7 :: a8 :: a9 :: b4 :: b5 :: b6 :: b7 :: b8 :: b9 :: c8 :: c9 :: d0 :: d1 :: d2 :: d3 :: d4 :: d5 :: d6 :: d7 :: d8 :: d9 :: e0 :: e1 :: e2 :: e3 :: e4 :: e5 :: e6 :: e7 :: e8 :: e9 :: (J2 (some ⟨e,0,none⟩)) :: (J I (v:Int)) :: (J2 (some ⟨gp,2,none⟩)) :: (J2 (some ⟨gp,9,none⟩)) :: (J2 (some ⟨gp,(9+v * 5),none⟩)) :: (J2 (some ⟨gp,(9+v * 5),none⟩)) :: (J I tk) :: (J2 (some ⟨e,0,none⟩)) :: (J I (v:Int)) :: (J2 (some ⟨gp,2,none⟩)) :: (J2 (some ⟨gp,9,none⟩)) :: (J2 (some ⟨gp,(9+v * 5),none⟩)) :: (J2 (some ⟨gp,(9+v * 5+2),none⟩)) :: (J I d) :: (J I (tk+d)) :: (.map (some mb)) :: (J2 (some ⟨F,4,none⟩)) :: (J I g) :: (J4 (laC f)) :: (J2 (some ⟨e,0,none⟩)) :: (J I (v:Int)) :: (J I (f v)) :: (J I (tk+d - f v)) :: f4 :: f5 :: f6 :: f7 :: f8 :: f9 :: g0 :: g1 :: g2 :: g3 :: g5 :: g6 :: i :: j :: k :: l :: m :: n :: o :: p :: q :: r :: s :: t :: u :: w :: x :: y :: z :: A :: B :: []),[]⟩ wz) :
  Code.wp prog y3m Q ⟨List.toArray (v0 :: v1 :: v2 :: (J2 (some ⟨mi,0,none⟩)) :: v4 :: v5 :: v6 :: v7 :: (J2 (some ⟨gp,0,none⟩)) :: v9 :: G :: H :: K :: L :: M :: (J2 (some ⟨F,0,none⟩)) :: N :: (J2 (some ⟨e,0,none⟩)) :: g8 :: P :: R :: T :: U :: V :: W :: X :: Y :: a0 :: a1 :: a2 :: a3 :: a4 :: a5 :: a6 :: a7 :: a8 :: a9 :: b4 :: b5 :: b6 :: b7 :: b8 :: b9 :: c8 :: c9 :: d0 :: d1 :: d2 :: d3 :: d4 :: d5 :: d6 :: d7 :: d8 :: d9 :: e0 :: e1 :: e2 :: e3 :: e4 :: e5 :: e6 :: e7 :: e8 :: e9 :: g9 :: h4 :: h5 :: h6 :: h7 :: h8 :: h9 :: i2 :: i3 :: i4 :: i5 :: i6 :: i7 :: i8 :: i9 :: j0 :: j1 :: j2 :: j3 :: j4 :: j5 :: j6 :: j7 :: f4 :: f5 :: f6 :: f7 :: f8 :: f9 :: g0 :: g1 :: g2 :: g3 :: g5 :: g6 :: i :: j :: k :: l :: m :: n :: o :: p :: q :: r :: s :: t :: u :: w :: x :: y :: z :: A :: B :: []),[]⟩ wl:=by
 have HK:=J6 hQ;clear hQ;have hk0:(0:Int)<=(v:Int):=by omega
 have hk1:(v:Int)<6:=by omega
 have j8:¬ ((v:Int)<0):=by omega
 have q1:IntKind.i64.wrap (tk+d)=tk+d:=z5z (by omega) (by omega)
 have q2:IntKind.i64.wrap (tk+d - f v)=tk+d - f v:=z5z (by omega) (by omega)
 conv=>arg 2;whnf
 refine wp_region_noPanic ?_;refine wp_region_held_drew (S:=fun b=>Bl wl b) (by kernel_rfl) (Below.refl _ _).drew (fun c=>?_)
 refine O.Z 0 (J2 (some ⟨e,0,none⟩)) 65 rfl rfl c (fun b a=>?_) ?_
 ·go_simp
 simp only[O.pp,O.pb,O.pc];refine O.Z 1 (J I (v:Int)) 66 rfl rfl c (fun b a=>?_) ?_
 ·obtain⟨c1,c2,c3,C,D,E⟩:=h.out b a;go_simp
 simp only[O.pp,O.pb,O.pc];refine O.Z 2 (J2 (some ⟨gp,2,none⟩)) 67 rfl rfl c (fun b a=>?_) ?_
 ·go_simp
 simp only[O.pp,O.pb,O.pc];refine O.Z 3 (J2 (some ⟨gp,9,none⟩)) 68 rfl rfl c (fun b a=>?_) ?_
 ·go_simp
 simp only[O.pp,O.pb,O.pc];refine O.Z 4 (J2 (some ⟨gp,(9+v * 5),none⟩)) 69 rfl rfl c (fun b a=>?_) ?_
 ·go_simp
 simp only[O.pp,O.pb,O.pc];refine O.Z 5 (J2 (some ⟨gp,(9+v * 5),none⟩)) 70 rfl rfl c (fun b a=>?_) ?_
 ·go_simp
 simp only[O.pp,O.pb,O.pc];refine O.Z 6 (J I tk) 71 rfl rfl c (fun b a=>?_) ?_
 ·obtain⟨c1,c2,c3,C,D,E⟩:=h.out b a;go_simp
 simp only[O.pp,O.pb,O.pc];refine O.Z 7 (J2 (some ⟨e,0,none⟩)) 72 rfl rfl c (fun b a=>?_) ?_
 ·go_simp
 simp only[O.pp,O.pb,O.pc];refine O.Z 8 (J I (v:Int)) 73 rfl rfl c (fun b a=>?_) ?_
 ·obtain⟨c1,c2,c3,C,D,E⟩:=h.out b a;go_simp
 simp only[O.pp,O.pb,O.pc];refine O.Z 9 (J2 (some ⟨gp,2,none⟩)) 74 rfl rfl c (fun b a=>?_) ?_
 ·go_simp
 simp only[O.pp,O.pb,O.pc];refine O.Z 10 (J2 (some ⟨gp,9,none⟩)) 75 rfl rfl c (fun b a=>?_) ?_
 ·go_simp
 simp only[O.pp,O.pb,O.pc];refine O.Z 11 (J2 (some ⟨gp,(9+v * 5),none⟩)) 76 rfl rfl c (fun b a=>?_) ?_
 ·go_simp
 simp only[O.pp,O.pb,O.pc];refine O.Z 12 (J2 (some ⟨gp,(9+v * 5+2),none⟩)) 77 rfl rfl c (fun b a=>?_) ?_
 ·go_simp
 simp only[O.pp,O.pb,O.pc];refine O.Z 13 (J I d) 78 rfl rfl c (fun b a=>?_) ?_
 ·obtain⟨c1,c2,c3,C,D,E⟩:=h.out b a;go_simp
 simp only[O.pp,O.pb,O.pc];refine O.Z 14 (J I (tk+d)) 79 rfl rfl c (fun b a=>?_) ?_
 ·go_simp
 simp only[O.pp,O.pb,O.pc];refine O.Z 15 (.map (some mb)) 80 rfl rfl c (fun b a=>?_) ?_
 ·obtain⟨c1,c2,c3,C,D,E⟩:=h.out b a;go_simp
 simp only[O.pp,O.pb,O.pc];refine O.Z 16 (J2 (some ⟨F,4,none⟩)) 81 rfl rfl c (fun b a=>?_) ?_
 ·go_simp
 simp only[O.pp,O.pb,O.pc];refine O.Z 17 (J I g) 82 rfl rfl c (fun b a=>?_) ?_
 ·obtain⟨c1,c2,c3,C,D,E⟩:=h.out b a;go_simp
 simp only[O.pp,O.pb,O.pc];refine O.Z 18 (J4 (laC f)) 83 rfl rfl c (fun b a=>?_) ?_
 ·obtain⟨c1,c2,c3,C,D,E⟩:=h.out b a;go_simp
 simp only[O.pp,O.pb,O.pc];refine O.Z 19 (J2 (some ⟨e,0,none⟩)) 84 rfl rfl c (fun b a=>?_) ?_
 ·go_simp
 simp only[O.pp,O.pb,O.pc];refine O.Z 20 (J I (v:Int)) 85 rfl rfl c (fun b a=>?_) ?_
 ·obtain⟨c1,c2,c3,C,D,E⟩:=h.out b a;go_simp
 simp only[O.pp,O.pb,O.pc];refine O.Z 21 (J I (f v)) 86 rfl rfl c (fun b a=>?_) ?_
 ·have c7:=ixR b f v hv;go_simp
 simp only[O.pp,O.pb,O.pc];refine O.Z 22 (J I (tk+d - f v)) 87 rfl rfl c (fun b a=>?_) ?_
 ·go_simp
 simp only[O.pp,O.pb,O.pc];refine O.Z 23 (J I (tk+d - f v)) 18 rfl rfl c (fun b a=>?_) ?_
 ·go_simp
 simp only[O.pp,O.pb,O.pc];refine wpAnyH_done (by kernel_rfl) ?_ _
 exact NoPanic.normal (HK.out _ c)
structure SQ(x y:Wo)(i:Nat):Prop where
 h:y.p.h=x.p.h
 set:y.p.set=x.p.set
 on:(y.p.L i).on=(x.p.L i).on
 told:(y.p.L i).told=(x.p.L i).told
 out:(y.p.L i).out=(x.p.L i).out
 con:(y.c i).on=(x.c i).on
 cset:(y.c i).set=(x.c i).set
 id:(y.c i).id=(x.c i).id
 pd:(y.c i).pd=(x.c i).pd
inductive Tr (x y:Wo) (i:Nat):Prop
 | off:y.p.h=x.p.h->y.p.set=x.p.set->(y.c i).on=false->Tr x y i
 | same:SQ x y i->Tr x y i
 | q1J:y.c i=x.c i->y1A x.p y.p x.ck->y.p=(endP x.p x.ck).1->Tr x y i
 | beg:(x.c i).on=false->(x.c i).gone=false->1<=x.p.h->y.p.h=x.p.h->y.p.set=x.p.set->y.p.L i=z6M x.p->y.c i=z2s x.p.set x.p.h x.ck->Tr x y i
 | cons:y.p=x.p->y.c i=z2K { x.c i with h:=(x.c i).h+1,t:=x.ck }->Tr x y i
 | del (n:Nat) (s:ByteArray) (q:Pkt):z0X (Cd.bs s)=q->(x.p.L i).out.g=(n:Int)->(x.p.L i).out.S[n]?=some s->y.p.h=x.p.h->y.p.set=x.p.set->y.p.L i={ x.p.L i with out:={ (x.p.L i).out with g:=(x.p.L i).out.g+1 } }->y.c i={ x.c i with pd:=(x.c i).pd ++ [q] }->Tr x y i
theorem SQ.of{x y:Wo}{i:Nat}(h:y.p.h=x.p.h)(s:y.p.set=x.p.set)(l:y.p.L i=x.p.L i∨y.p.L i=z1u x.p.L i)(on:(y.c i).on=(x.c i).on)(a:(y.c i).set=(x.c i).set)(b:(y.c i).id=(x.c i).id)(c:(y.c i).pd=(x.c i).pd):SQ x y i:=by
 rcases l with l | l
 ·exact⟨h,s,by rw[l],by rw[l],by rw[l],on,a,b,c⟩
 ·have:=z2Z x.p.L i;exact⟨h,s,by rw[l];exact this.1,by rw[l];exact this.2.2.2,by rw[l];exact this.2.2.1,on,a,b,c⟩
theorem SQ.refl(x:Wo)(i:Nat):SQ x x i:=⟨rfl,rfl,rfl,rfl,rfl,rfl,rfl,rfl,rfl⟩
theorem y1J(x:Wo)(d:Dd)(i:Nat):SQ x (atP x d).1 i:=by
 unfold atP
 split
 ·dsimp only;rw[z5c];exact SQ.of rfl rfl (.inl rfl) rfl rfl rfl rfl
 ·split
  ·dsimp only;have e:=z4W x.p d.d d.v d.n x.ck;exact SQ.of e.1 e.2.2.2.1 (by rcases e.2.2.2.2 with e | e <;> simp only[e,or_true,true_or]) rfl rfl rfl rfl
  ·split
   ·exact SQ.of rfl rfl (.inl rfl) rfl rfl rfl rfl
   ·dsimp only;rw[z5S];exact SQ.of rfl rfl (.inl rfl) rfl rfl rfl rfl
theorem z8o(c:Cs)(k i v n now:Int):(z2o c k i v n now).1.on=c.on/\(z2o c k i v n now).1.set=c.set/\(z2o c k i v n now).1.id=c.id/\(z2o c k i v n now).1.pd=c.pd:=by
 unfold z2o
 split <;> exact⟨rfl,rfl,rfl,rfl⟩
theorem q7r(c:Cs)(v now:Int):(z3o c v now).1.on=c.on/\(z3o c v now).1.set=c.set/\(z3o c v now).1.id=c.id/\(z3o c v now).1.pd=c.pd:=by
 unfold z3o
 repeat' split
 all_goals first | exact⟨rfl,rfl,rfl,rfl⟩ | exact z8o _ _ _ _ _ _
theorem q1R(c:Cs)(v i now:Int):(z1c c v i now).1.on=c.on/\(z1c c v i now).1.set=c.set/\(z1c c v i now).1.id=c.id/\(z1c c v i now).1.pd=c.pd:=by
 unfold z1c
 repeat' split
 all_goals first | exact⟨rfl,rfl,rfl,rfl⟩ | exact z8o _ _ _ _ _ _
theorem q0P{x:Wo}{j:Nat}{y:Cs}{hp hc:Nat->Hd}(i:Nat)(h:i=j->y.on=(x.c j).on/\y.set=(x.c j).set/\y.id=(x.c j).id/\y.pd=(x.c j).pd):SQ x { x with c:=z2k x.c j y,hp:=hp,hc:=hc } i:=by
 by_cases e:i=j
 ·subst e;have:=h rfl;refine SQ.of rfl rfl (.inl rfl) ?_ ?_ ?_ ?_
  all_goals
   show _=_
   dsimp only;rw[z0S]
  ·exact this.1
  ·exact this.2.1
  ·exact this.2.2.1
  ·exact this.2.2.2
 ·refine SQ.of rfl rfl (.inl rfl) ?_ ?_ ?_ ?_
  all_goals
   dsimp only;rw[z0w _ _ e]
theorem q0c{l:Ln.Line}{s:ByteArray}{a b:Int}(h:Ln.z4B l (l.g+1) s a b=0):∃ n:Nat,l.g=(n:Int)/\l.S[n]?=some s/\Ln.z5L l (l.g+1) s a b={ l with g:=l.g+1 }:=by
 have i:Ln.z5L l (l.g+1) s a b={ l with g:=l.g+1 }:=by
  unfold Ln.z5L;rw[if_pos h]
 unfold Ln.z4B at h
 split at h
 ·exact absurd h ‹_›
 ·rename_i c;have c:Ln.z4i l=0:=by simpa using c
  have j:Ln.z1a l=true:=by
   unfold Ln.z4i at c
   split at c
   ·cases c
   ·rename_i q
    simpa using q
  have f:=((z1A l).1 j).2.2.2.1;rw[if_neg (by simp)]at h
  split at h
  ·cases h
  ·rename_i q;simp only[not_or]at q;have e:(l.g+1 - 1).toNat=l.g.toNat:=by rw[Int.add_sub_cancel]
   have q2:=q.2.2;rw[e]at q2;refine⟨l.g.toNat,(Int.toNat_of_nonneg f).symm,?_,i⟩;have d:l.g.toNat<l.S.length:=by omega
   rw[List.getD_eq_getElem?_getD,List.getElem?_eq_getElem d]at q2;rw[List.getElem?_eq_getElem d];simp only[Option.getD_some,ne_eq,Classical.not_not]at q2;rw[q2]
theorem q1p(c:Cs)(l:List Int):((z3c c l).2=0/\(z3c c l).1={ c with pd:=c.pd ++ [z0X l] })∨((z3c c l).2≠0/\(z3c c l).1=c):=by
 unfold z3c;generalize Cd.z4x l=E;generalize z0X l=q
 by_cases h1:z5t c=0
 ·rw[if_pos h1]
  by_cases h2:E=0
  ·rw[if_pos h2]
   by_cases h3:q.k=1
   ·rw[if_pos h3];exact .inl ⟨rfl,rfl⟩
   ·rw[if_neg h3];exact .inr ⟨by simp,rfl⟩
  ·rw[if_neg h2];exact .inr ⟨h2,rfl⟩
 ·rw[if_neg h1];exact .inr ⟨h1,rfl⟩
theorem q1w(f:Nat->Cs)(j:Nat):z2k f j (f j)=f:=by
 funext k
 unfold z2k
 split
 ·rename_i e;rw[e]
 ·rfl
theorem SQ.eq{x y:Wo}{i:Nat}(h:y.p.h=x.p.h)(s:y.p.set=x.p.set)(l:y.p.L i=x.p.L i)(c:y.c i=x.c i):SQ x y i:=SQ.of h s (.inl l) (by rw[c]) (by rw[c]) (by rw[c]) (by rw[c])
theorem q3J(x:Wo)(j:Nat)(s:ByteArray)(l:Ln.Line)(i:Nat):SQ x { x with p:=(z2z x.p j (Cd.bs s)).1,c:=z2k x.c j { x.c j with out:=l } } i:=by
 rw[(z5i _ _ _).1];have:=q0P (x:=x) (j:=j) (y:={ x.c j with out:=l }) (hp:=x.hp) (hc:=x.hc) i (fun _=>⟨rfl,rfl,rfl,rfl⟩)
 exact⟨rfl,rfl,rfl,rfl,rfl,this.con,this.cset,this.id,this.pd⟩
theorem y0N(x:Wo)(j:Nat)(b f:Bool)(i:Nat):Tr x (z7s x j b f).1 i:=by
 unfold z7s
 split
 ·rename_i hd;obtain⟨n,d,hs,g⟩:=q0c hd;cases b
  ·have a:z1B x j false (z0t x j false f)=({ x with c:=z2k x.c j (z3c (x.c j) (Cd.bs (z0t x j false f))).1 },(z3c (x.c j) (Cd.bs (z0t x j false f))).2):=rfl
   rw[a,g];dsimp only;have k:z0Y x j false=(x.p.L j).out:=rfl;rw[k]at d hs ⊢;generalize z0t x j false f=s at *;clear a g hd k
   rcases q1p (x.c j) (Cd.bs s) with⟨h1,h2⟩ | ⟨h1,h2⟩
   ·rw[if_pos h1,h2];clear h1 h2;generalize l:z0X (Cd.bs s)=q at *
    by_cases e:i=j
    ·subst e;exact .del n s q l d hs rfl rfl (z2u _ _ _) (z0S _ _ _)
    ·exact .same (SQ.eq rfl rfl (z2d _ _ e) (z0w _ _ e))
   ·rw[if_neg h1,h2,q1w];exact .same (SQ.eq rfl rfl rfl rfl)
  ·have a:z1B x j true (z0t x j true f)=({ x with p:=(z2z x.p j (Cd.bs (z0t x j true f))).1 },(z2z x.p j (Cd.bs (z0t x j true f))).2):=rfl
   rw[a];dsimp only
   split
   ·exact .same (q3J x j _ _ i)
   ·refine .same ?_;have:=q3J x j (z0t x j true f) (x.c j).out i;exact⟨this.h,this.set,this.on,this.told,this.out,rfl,rfl,rfl,rfl⟩
 ·exact .same (SQ.refl _ _)
theorem z4J(p:Pr)(c:Int):(z0j p c).h=p.h/\(z0j p c).set=p.set/\∀ i,i≠c.toNat->(z0j p c).L i=p.L i:=by
 unfold z0j
 split
 ·exact⟨rfl,rfl,fun i a=>z2d _ _ a⟩
 ·exact⟨rfl,rfl,fun _ _=>rfl⟩
theorem z5H(c:Cs):(z1d c).on=false:=by
 unfold z1d
 split
 ·rfl
 ·rename_i h
  simpa using h
theorem j9n(x:Wo)(j:Nat)(b:Bool)(k:Int)(i:Nat):Tr x (z6I x j b k).1 i:=by
 unfold z6I
 split
 ·dsimp only;generalize Ln.z4N (z0Y x j b) k (z5A x j b) (q2x x j b)=l
  by_cases e:i=j
  ·subst e;have a:=z4J (z1j x i b l).p i;refine .off (a.1.trans (by cases b <;> rfl)) (a.2.1.trans (by cases b <;> rfl)) ?_
   show (z2k _ i _ i).on=false
   rw[z0S];exact z5H _
  ·refine .same ?_;unfold q1X;have a:=z4J (z1j x j b l).p j;refine SQ.eq (a.1.trans ?_) (a.2.1.trans ?_) ((a.2.2 i (by simpa using e)).trans ?_) ((z0w _ _ e).trans ?_)
   all_goals cases b
   all_goals first | rfl | exact z2d _ _ e | exact z0w _ _ e
 ·exact .same (SQ.refl _ _)
theorem j8A(x:Wo)(i:Nat):Tr x (z3F x).1 i:=by
 unfold z3F
 split
 ·rename_i h0
  have a:z0o x.p=true/\isT x.ck=true/\x.p.t<=x.ck:=by
   by_cases b:z0o x.p=true/\isT x.ck=true/\x.p.t<=x.ck
   ·exact b
   ·unfold endP at h0;rw[if_neg b]at h0;cases h0
  exact .q1J rfl (z3a a) rfl
 ·exact .same (SQ.refl _ _)
theorem j3H{N:Int}{x:Wo}(h:z2P N x)(c:Int)(i:Nat):Tr x (z1X x c).1 i:=by
 unfold z1X
 split
 ·rename_i hc
  split
  ·rename_i h0
   have hb:(z0x x.p c).1={ x.p with s:={ x.p.s with W:=x.p.s.W.map (z0V c.toNat (x.p.h+1)) },L:=z0P x.p.L c.toNat (z6M x.p) }/\(x.p.L c.toNat).on=false/\(x.p.L c.toNat).gone=false/\x.p.h≠0:=by
    unfold z0x at h0 ⊢
    by_cases h1:z0o x.p=true
    ·rw[if_pos h1,if_pos hc]at h0;rw[if_pos h1,if_pos hc]
     by_cases h3:(x.p.L c.toNat).gone=true
     ·rw[if_pos h3]at h0;cases h0
     ·rw[if_neg h3]at h0 ⊢
      by_cases a:(x.p.L c.toNat).on=true
      ·rw[if_pos a]at h0;cases h0
      ·rw[if_neg a]at h0 ⊢
       by_cases b:x.p.h=0∨x.p.set.length=0
       ·rw[if_pos b]at h0;cases h0
       ·rw[if_neg b];exact⟨rfl,by simpa using a,by simpa using h3,fun q=>b (.inl q)⟩
    ·rw[if_neg h1]at h0;cases h0
   obtain⟨e,h2,h3,a⟩:=hb;rw[e];dsimp only
   have f:c.toNat<2:=by
    unfold isC at hc;simp only[Bool.and_eq_true,decide_eq_true_eq]at hc;omega
   by_cases q:i=c.toNat
   ·subst q;have d:=h.on _ f;exact .beg (d.1.trans h2) (d.2.trans h3) (by have:=h.gp.h0;omega) rfl rfl (z2u _ _ _) (z0S _ _ _)
   ·exact .same (SQ.eq rfl rfl (z2d _ _ q) (z0w _ _ q))
  ·exact .same (SQ.refl _ _)
 ·exact .same (SQ.refl _ _)
theorem j5O(x:Wo)(j i:Nat):Tr x (z3T x j).1 i:=by
 unfold z3T
 split
 ·rename_i h0
  have a:(z7A (x.c j) x.ck).1=z2K { x.c j with h:=(x.c j).h+1,t:=x.ck }:=by
   unfold z7A at h0 ⊢
   by_cases h1:z5t (x.c j)=0
   ·rw[if_pos h1]at h0 ⊢
    by_cases h2:isT x.ck=true/\(x.c j).t<=x.ck
    ·rw[if_pos h2]
    ·rw[if_neg h2]at h0;cases h0
   ·rw[if_neg h1]at h0;exact absurd h0 h1
  dsimp only;rw[a]
  by_cases e:i=j
  ·subst e;exact .cons rfl (z0S _ _ _)
  ·exact .same (SQ.eq rfl rfl rfl (z0w _ _ e))
 ·exact .same (SQ.refl _ _)
theorem j6s(x:Wo)(j:Nat)(b:Bool)(i:Nat):SQ x (z3H x j b) i:=by
 unfold z3H
 split
 ·by_cases e:i=j
  ·subst e;have h:z0P x.p.L i (j8G (x.p.L i) (x.hc i)) i=j8G (x.p.L i) (x.hc i):=z2u _ _ _;exact⟨rfl,rfl,by dsimp only;rw[h];rfl,by dsimp only;rw[h];rfl,by dsimp only;rw[h];rfl,rfl,rfl,rfl,rfl⟩
  ·exact SQ.eq rfl rfl (z2d _ _ e) rfl
 ·exact q0P (hp:=x.hp) (hc:=x.hc) i fun _=>⟨rfl,rfl,rfl,rfl⟩
theorem j1c(x:Wo)(j:Nat)(d:Dd)(i:Nat):Tr x (z2c x j d).1 i:=by
 unfold z2c
 split
 ·exact j5O _ _ _
 ·split
  ·exact .same (j6s _ _ _ _)
  ·split
   ·exact y0N _ _ _ _ _
   ·split
    ·exact j9n _ _ _ _ _
    ·dsimp only;unfold z9d
     split
     ·exact .same (q0P (hp:=x.hp) (hc:=x.hc) i fun _=>q7r _ _ _)
     ·exact .same (q0P (hp:=x.hp) (hc:=x.hc) i fun _=>q1R _ _ _ _)
theorem j8C{N:Int}{x:Wo}(h:z2P N x)(d:Dd)(i:Nat):Tr x (z2J x d).1 i:=by
 unfold z2J
 split
 ·exact .same (y1J _ _ _)
 ·split
  ·unfold z4z
   split <;> exact .same (SQ.eq rfl rfl rfl rfl)
  ·split
   ·exact j8A _ _
   ·split
    ·exact j3H h _ _
    ·split
     ·split
      ·exact j1c _ _ _ _
      ·exact .same (SQ.refl _ _)
     ·exact .same (SQ.refl _ _)
theorem j1U{x:Wo}(h:Inv x)(d:Dd)(i:Nat):Tr x (doW x d).1 i:=by
 unfold doW
 split
 ·exact .same (SQ.refl _ _)
 ·have:=j8C (x:=z2n x) (h.dn _) d i;cases this with
  | off a b c=>exact .off a b c
  | same a=>exact .same ⟨a.h,a.set,a.on,a.told,a.out,a.con,a.cset,a.id,a.pd⟩
  | q1J a b c=>exact .q1J a b c
  | beg a b c d e f g=>exact .beg a b c d e f g
  | cons a b=>exact .cons a b
  | del n s q a b c d e f g=>exact .del n s q a b c d e f g
def Ch(H:Int->Pws)(h:Int)(fin:Pws):Int->Pws->List Pkt->Prop
 | id,set,[]=>H id=set/\id<=h/\set=fin
 | id,set,q :: r=>H id=set/\id<q.i/\Ch H h fin q.i (Df.z2F set q.S) r
def j8t(set:Pws)(l:List Pkt):Pws:=l.foldl (fun s q=>Df.z2F s q.S) set
def z8U(id:Int)(l:List Pkt):Int:=l.foldl (fun _ q=>q.i) id
theorem Ch.head{H:Int->Pws}{h:Int}{fin:Pws}:∀ {l:List Pkt} {id:Int} {set:Pws},Ch H h fin id set l->H id=set/\id<=h
 | [],_,_,c=>⟨c.1,c.2.1⟩
 | _ :: _,_,_,c=>⟨c.1,by have:=(Ch.head c.2.2).2;have:=c.2.1;omega⟩
theorem Ch.take{H:Int->Pws}{h:Int}{fin:Pws}{b:List Pkt}:∀ {a:List Pkt} {id:Int} {set:Pws},Ch H h fin id set (a ++ b)->Ch H h fin (z8U id a) (j8t set a) b/\id<=z8U id a
 | [],_,_,c=>⟨c,Int.le_refl _⟩
 | q :: a,id,set,c=>by
  have h1:=Ch.take (a:=a) c.2.2;have h2:=c.2.1;have h3:=h1.2;exact⟨h1.1,by show id<=z8U q.i a;omega⟩
theorem Ch.snoc{H b:Int->Pws}{h h':Int}{fin a:Pws}{q:Pkt}(g:h<h')(d:q.i=h')(e:Df.z2F fin q.S=a)(f:b h'=a)(hs:∀ i,i<=h->b i=H i):∀ {l:List Pkt} {id:Int} {set:Pws},Ch H h fin id set l->Ch b h' a id set (l ++ [q])
 | [],id,set,c=>by
  refine⟨(hs id c.2.1).trans c.1,by rw[d];have:=c.2.1;omega,?_⟩
  rw[c.2.2,e,d];exact⟨f,Int.le_refl _,rfl⟩
 | _ :: _,id,set,c=>⟨(hs id (Ch.head c).2).trans c.1,c.2.1,Ch.snoc g d e f hs c.2.2⟩
theorem Ch.keep{H a:Int->Pws}{h h':Int}{fin:Pws}(b:h<=h')(hs:∀ i,i<=h->a i=H i):∀ {l:List Pkt} {id:Int} {set:Pws},Ch H h fin id set l->Ch a h' fin id set l
 | [],id,set,c=>⟨(hs id c.2.1).trans c.1,by have:=c.2.1;omega,c.2.2⟩
 | _ :: _,id,set,c=>⟨(hs id (Ch.head c).2).trans c.1,c.2.1,Ch.keep b hs c.2.2⟩
def pkS(S:List ByteArray):List Pkt:=S.map fun s=>z0X (Cd.bs s)
structure TI(H:Int->Pws)(x:Wo)(i:Nat):Prop where
 cl:(x.p.L i).out.cl=false
 len:((x.p.L i).out.S.length:Int)<=x.p.h
 told:(x.p.L i).told=x.p.set
 dec:∀ (n:Nat) s,(x.p.L i).out.g<=(n:Int)->(x.p.L i).out.S[n]?=some s->Cd.z4x (Cd.bs s)=0/\(z0X (Cd.bs s)).k=1
 ch:Ch H x.p.h x.p.set (x.c i).id (x.c i).set ((x.c i).pd ++ pkS ((x.p.L i).out.S.drop (x.p.L i).out.g.toNat))
theorem j3u{l:Pws}(h:z2W (-1) l=true)(v:Nat):0<=Df.z1C l v/\Df.z1C l v<=1125899906842624:=by
 have key:∀ m:Pws,(∀ x∈m,1<=x.2/\x.2<=1125899906842624)->0<=Df.z1C m v/\Df.z1C m v<=1125899906842624:=by
  intro m
  induction m with
  | nil=>intro _;exact⟨Int.le_refl _,(by decide:(0:Int)<=1125899906842624)⟩
  | cons x m ih =>
   intro hm;have h1:=ih fun y a=>hm y (List.mem_cons_of_mem _ a);have h2:=hm x (List.mem_cons_self ..)
   show 0<=Df.z8z (Df.z1C m) x v/\Df.z8z (Df.z1C m) x v<=_
   unfold Df.z8z
   split
   ·dsimp only
    split
    ·omega
    ·exact h1
   ·exact h1
 exact key l fun x b=>(z2R l _ h x b).2.2
theorem q9I(c:Nat->Bool)(f:Nat->Int)(h:∀ i,i<6->0<=f i/\f i<=1125899906842624):Cd.z0d (-1) (Df.those c f 6)=true:=by
 have h0:=h 0 (by omega)
 have h1:=h 1 (by omega)
 have h2:=h 2 (by omega)
 have h3:=h 3 (by omega)
 have k:=h 4 (by omega)
 have l:=h 5 (by omega)
 unfold Df.those;rw[show List.range 6=[0,1,2,3,4,5] from rfl];cases a:c 0 <;> cases b:c 1 <;> cases d:c 2 <;> cases e:c 3 <;> cases g:c 4 <;> cases j:c 5 <;> simp[a,b,d,e,g,j,Cd.z0d,Cd.isV] <;> omega
theorem z9I:∀ (l:List Int) (a:Int),-1<=a->z2m a l=true->Cd.z0i a l=true
 | [],_,_,_=>rfl
 | x :: l,a,ha,h=>by
  unfold z2m at h;simp only[Bool.and_eq_true,decide_eq_true_eq]at h;unfold Cd.z0i;rw[z9I l x (by omega) h.2]
  simp only[Bool.and_true,Bool.and_eq_true,decide_eq_true_eq];refine⟨h.1.1,?_⟩;unfold Cd.isV;simp only[decide_eq_true_eq];omega
theorem j0u{h:Int}{a b:Pws}{D:List Int}(h1:1<=h)(h2:h<=1099511627776)(hb:z2W (-1) b=true)(c:z2m (-1) D=true):Cd.z0n 1 h 0 0 (Df.z3v a b) D=0:=by
 have hp:Cd.z0d (-1) (Df.z3v a b)=true:=q9I _ _ fun i _=>j3u hb i;have d:=z9I D (-1) (by omega) c
 unfold Cd.z0n;rw[if_neg (by omega),if_neg (by omega),if_neg (by rintro⟨h,-⟩;revert h;decide),if_neg (by show ¬ (false=true);decide),if_neg (by rw[hp,d];decide)]
theorem q1F:∀ (l:Pws) (c:Cs),(z1R c l).on=c.on/\(z1R c l).set=c.set/\(z1R c l).id=c.id/\(z1R c l).pd=c.pd
 | [],_=>⟨rfl,rfl,rfl,rfl⟩
 | x :: l,c=>by
  unfold z1R
  split
  ·split
   ·have h:=q1F l (z2o c 2 x.1 0 0 c.t).1;have h2:=z8o c 2 x.1 0 0 c.t;exact⟨h.1.trans h2.1,h.2.1.trans h2.2.1,h.2.2.1.trans h2.2.2.1,h.2.2.2.trans h2.2.2.2⟩
   ·exact⟨rfl,rfl,rfl,rfl⟩
  ·exact⟨rfl,rfl,rfl,rfl⟩
theorem z9E:∀ (l:List Pkt) (c:Cs),(l.foldl takeC c).on=c.on/\(l.foldl takeC c).set=j8t c.set l/\(l.foldl takeC c).id=z8U c.id l
 | [],_=>⟨rfl,rfl,rfl⟩
 | q :: l,c=>by
  have h:=z9E l (takeC c q);exact⟨h.1,h.2.1,h.2.2⟩
theorem z4O(c:Cs):(z2K c).on=c.on/\(z2K c).set=j8t c.set c.pd/\(z2K c).id=z8U c.id c.pd/\(z2K c).pd=[]:=by
 unfold z2K;have h:=q1F (z1w c).rp { z1w c with pd:=[] }
 have h2:=z9E c.pd c;exact⟨h.1.trans h2.1,h.2.1.trans h2.2.1,h.2.2.1.trans h2.2.2,h.2.2.2⟩
theorem j0y{p:Pr}{c:Nat}(d:Cd.z0n 1 p.h 0 0 (Df.z3v (p.L c).told p.set) (p.L c).done=0)(hs:Ln.z5O (p.L c).out (p.t+40)=0):((z1t p c).L c=p.L c/\((p.L c).on=true->(p.L c).told=p.set))∨Pv.Told p.h p.t p.set (p.L c) ((z1t p c).L c):=by
 rcases q2I p c with h | h
 ·by_cases a:z5q p (p.L c)=true
  ·refine .inl ⟨h,fun b=>?_⟩;unfold z5q at a;rw[b]at a;simp only[Bool.not_true,Bool.false_or,Bool.and_eq_true,decide_eq_true_eq]at a;exact a.1.1
  ·refine .inr ?_;unfold z1t;rw[if_neg a,if_pos d,if_pos hs];refine⟨?_,d,hs,?_⟩
   ·cases b:(p.L c).on
    ·exact absurd (by unfold z5q;rw[b];rfl) a
    ·rfl
   ·show z0P p.L c _ c=_
    unfold z0P;rw[if_pos rfl]
 ·exact .inr h
theorem j2w{l:Ln.Line}{t:Int}(a:Ln.z1a l=true)(hc:l.cl=false)(b:l.S.length<400)(c:0<=t):Ln.z5O l t=0:=by
 unfold Ln.z5O Ln.z4i;rw[if_neg (by omega),a,hc]
 simp only[Bool.true_eq_false,if_false,Bool.false_eq_true,ne_eq,not_true_eq_false];rw[if_neg (by omega)]
theorem j2X{p:Pr}{now:Int}(a:z0o p=true/\isT now=true/\p.t<=now){c:Nat}(hc:c<2)(l:(p.L c).out.cl=false)(e:(p.L c).out.S.length<400)(m:(p.L c).on=true) :
  ∃ z,z5l (p.L c) z/\(((endP p now).1.L c=z/\z.told=(endP p now).1.set)∨Pv.Told (p.h+1) now (endP p now).1.set z ((endP p now).1.L c)):=by
 have s:(endP p now).1=z1t (z1t (z3l (z0q (z0y p now)) now) 0) 1:=by unfold endP;rw[if_pos a]
 have o:=z3a a;rw[s]at o ⊢;have hs:=z9j (z0y p now);have u:=z8e a.1 now;have d:=(z6o p).1 a.1;have w:=(z9X now).1 a.2.1;have i:(z3l (z0q (z0y p now)) now).h=p.h+1:=hs.h;have j:(z3l (z0q (z0y p now)) now).t=now:=hs.t;obtain⟨b1,b2,-,k,-,-,-⟩:=z6i (z3l (z0q (z0y p now)) now) 0;obtain⟨-,-,-,q,-,-,-⟩:=z6i (z1t (z3l (z0q (z0y p now)) now) 0) 1;have z:z5l (p.L c) ((z0q (z0y p now)).L c):=hs.lk c;have v:=u.2 c hc;have f:=o.z2W;rw[q,k]at f;have r:Cd.z0n 1 (p.h+1) 0 0 (Df.z3v ((z0q (z0y p now)).L c).told (z3l (z0q (z0y p now)) now).set) ((z0q (z0y p now)).L c).done=0:=j0u (by have:=d.h0;omega) (by have:=d.h1;omega) f v
 have g:Ln.z5O ((z0q (z0y p now)).L c).out (now+40)=0:=j2w (by rw[z.out];exact (d.lk c hc).out) (by rw[z.out];exact l) (by rw[z.out];exact e) (by omega)
 have b:((z0q (z0y p now)).L c).on=true:=z.on.trans m;refine⟨_,z,?_⟩;rw[q,k]
 rcases (show c=0∨c=1 by omega) with rfl | rfl
 ·rw[z6j _ 1 0 (by omega)]
  have h:=j0y (p:=z3l (z0q (z0y p now)) now) (c:=0) (by rw[i];exact r) (by rw[j];exact g)
  rw[i,j]at h
  rcases h with h | h
  ·exact .inl ⟨h.1,h.2 b⟩
  ·exact .inr h
 ·have n:(z1t (z3l (z0q (z0y p now)) now) 0).L 1=(z0q (z0y p now)).L 1:=z6j _ 0 1 (by omega)
  have h:=j0y (p:=z1t (z3l (z0q (z0y p now)) now) 0) (c:=1) (by rw[n,b1,k,i];exact r) (by rw[n,b2,j];exact g)
  rw[b1,b2,k,n,i,j]at h
  rcases h with h | h
  ·exact .inl ⟨h.1,h.2 b⟩
  ·exact .inr h
structure WH(H:Int->Pws)(x:Wo):Prop where
 now:H x.p.h=x.p.set
 ti:∀ i,i<2->(x.c i).on=true->TI H x i
theorem q9O{α:Type}(l:List α)(n:Nat)(a:α)(h:n<=l.length):(l ++ [a]).drop n=l.drop n ++ [a]:=by
 rw[List.drop_append,show n - l.length=0 by omega]
 rfl
theorem j8w{H:Int->Pws}{x y:Wo}{i:Nat}(w:Inv x)(hd:x.dn<400)(K:i<2)(h:(x.c i).on=true->TI H x i)(R:H x.p.h=x.p.set)(l:(y.c i).on=true)(t:Tr x y i):TI (j4i H y.p.h y.p.set) y i:=by
 have o:y.p.h=x.p.h->y.p.set=x.p.set->j4i H y.p.h y.p.set=H:=fun j r=>by
  funext k
  unfold j4i
  split
  ·rename_i e;rw[e,j,r,R]
  ·rfl
 cases t with
 | off _ _ a=>rw[a]at l;cases l
 | same q =>
  rw[o q.h q.set];have T:=h (q.con.symm.trans l);refine⟨by rw[q.out];exact T.cl,by rw[q.out,q.h];exact T.len,by rw[q.told,q.set];exact T.told,by rw[q.out];exact T.dec,?_⟩
  rw[q.out,q.h,q.set,q.cset,q.id,q.pd];exact T.ch
 | q1J ec E ep =>
  have T:=h (by rw[<- ec];exact l)
  have M:z0o x.p=true/\isT x.ck=true/\x.p.t<=x.ck:=⟨(z6o _).2 w.gp,(z9X _).2 ⟨w.k0,by have:=w.k1;omega⟩,w.pt⟩
  have X:=T.len;have U:=w.ph;have V:=(z1A _).1 (w.gp.lk i K).out;obtain⟨z,A,hc⟩:=j2X M K T.cl (by omega) ((w.on i K).1.symm.trans (by rw[<- ec];exact l))
  rw[<- ep]at hc
  have C:∀ k,k<=x.p.h->j4i H y.p.h y.p.set k=H k:=fun k Y=>by
   unfold j4i;rw[if_neg (by rw[E.h];omega)]
  rcases hc with⟨j,r⟩ | t
  ·have B:y.p.set=x.p.set:=by rw[<- r,A.told,T.told]
   refine⟨by rw[j,A.out];exact T.cl,by rw[j,A.out,E.h];omega,by rw[j];exact r,by rw[j,A.out];exact T.dec,?_⟩
   rw[j,A.out,ec];have:=T.ch.keep (h':=y.p.h) (by rw[E.h];omega) C
   rw[<- B]at this;exact this
  ·have j:=t.eq;obtain⟨W,-⟩:=q4q t.good;have N:=z9b t.good
   have G:(y.p.L i).out=⟨(x.p.L i).out.S ++ [Cd.encS 1 (x.p.h+1) 0 0 (Df.z3v z.told y.p.set) z.done],(x.p.L i).out.D ++ [x.ck+40],(x.p.L i).out.g,(x.p.L i).out.cl⟩:=by
    rw[j]
    show Ln.z4C z.out _ (x.ck+40)=_
    unfold Ln.z4C;rw[if_pos t.say,A.out]
   have P:Df.z2F x.p.set (Df.z3v z.told y.p.set)=y.p.set:=by
    rw[A.told,T.told];exact q7l w.gp.set E.z2W
   have Q:(y.p.L i).told=y.p.set:=by rw[j]
   clear j;generalize Cd.encS 1 (x.p.h+1) 0 0 (Df.z3v z.told y.p.set) z.done=s at *;refine⟨by rw[G];exact T.cl,by rw[G,E.h];simp only[List.length_append,List.length_cons,List.length_nil];omega,Q,fun m u hm hu=>?_,?_⟩
   ·rw[G]at hm hu;dsimp only at hm hu
    by_cases v:m<(x.p.L i).out.S.length
    ·rw[List.getElem?_append_left v]at hu;exact T.dec m u hm hu
    ·rw[List.getElem?_append_right (by omega)]at hu
     have:m - (x.p.L i).out.S.length=0:=by
      have:=(List.getElem?_eq_some_iff.1 hu).1
      simp at this
      omega
     rw[this]at hu;cases hu;exact⟨W,by rw[N]⟩
   ·rw[G,ec];dsimp only;rw[q9O _ _ _ (by omega)]
    unfold pkS;rw[List.map_append,<- List.append_assoc];refine Ch.snoc (h:=x.p.h) (h':=y.p.h) (fin:=x.p.set) (by rw[E.h];omega) ?_ ?_ ?_ C T.ch
    ·show (z0X (Cd.bs s)).i=_
     rw[N,E.h]
    ·show Df.z2F x.p.set (z0X (Cd.bs s)).S=_
     rw[N];exact P
    ·unfold j4i;rw[if_pos rfl]
 | beg a b c d e f g =>
  rw[o d e];refine⟨by rw[f];rfl,by rw[f,d];show ((0:Nat):Int)<=_;omega,by rw[f,e];rfl,fun n s _ hs=>?_,?_⟩
  ·rw[f]at hs
   simp[z6M]at hs
  ·rw[f,g,d,e];exact⟨R,Int.le_refl _,rfl⟩
 | cons j r =>
  rw[o (by rw[j]) (by rw[j])]
  have F:=z4O { x.c i with h:=(x.c i).h+1,t:=x.ck }
  rw[<- r]at F;have T:=h (F.1.symm.trans l);refine⟨by rw[j];exact T.cl,by rw[j];exact T.len,by rw[j];exact T.told,by rw[j];exact T.dec,?_⟩
  rw[j,F.2.1,F.2.2.1,F.2.2.2];exact (Ch.take T.ch).1
 | del n s q hq hg hs j r B e4 =>
  rw[o j r];have T:=h (by rw[e4]at l;exact l)
  refine⟨by rw[B];exact T.cl,by rw[B,j];exact T.len,by rw[B,r];exact T.told,fun m s hm hs=>?_,?_⟩
  ·rw[B]at hm hs;exact T.dec m s (by dsimp only at hm;omega) hs
  ·rw[B,e4,j,r];have c:=T.ch;dsimp only;rw[hg]at c ⊢;rw[show ((n:Int)+1).toNat=n+1 by omega]
   rw[show (n:Int).toNat=n from rfl]at c;have v:=(List.getElem?_eq_some_iff.1 hs);rw[List.drop_eq_getElem_cons v.1,v.2]at c;unfold pkS at c ⊢;rw[List.map_cons,hq]at c;rw[List.append_assoc];exact c
theorem y2u{H:Int->Pws}{x:Wo}(b:Inv x)(hd:x.dn<400)(h:WH H x)(d:Dd):WH (j4i H (doW x d).1.p.h (doW x d).1.p.set) (doW x d).1:=
 ⟨by unfold j4i;rw[if_pos rfl],fun i c a=>j8w b hd c (h.ti i c) h.now a (j1U b d i)⟩
theorem j9O:WH (fun _=>[]) z8y:=⟨rfl,fun i _ h=>by cases h⟩
theorem q3l(l:List Dd):∀ k,k<=l.length->k<=300->WH (hsW l k) (stW l k)
 | 0,_,_=>j9O
 | k+1,h1,h2=>by
  have e:=z3f (List.getElem?_eq_getElem (by omega:k<l.length))
  have:=y2u (z2S l k) (by rw[y0i l k (by omega) (by omega)];omega) (q3l l k (by omega) (by omega)) l[k]
  rw[<- e]at this;exact this
def okT(m:Int)(s:ByteArray):Prop:=Cd.z4x (Cd.bs s)=0->(z0X (Cd.bs s)).k=2->(z0X (Cd.bs s)).i<=m
structure RI(x:Wo)(i:Nat):Prop where
 rp:∀ r∈(x.c i).rp,r.1<=(x.c i).id
 said:∀ s∈(x.c i).out.S,okT (x.c i).id s
 q:∀ a∈x.p.q,a.1=(i:Int)->∃ (n:Nat) (s:ByteArray),(n:Int)<(x.c i).out.g/\(x.c i).out.S[n]?=some s/\Cd.z4x (Cd.bs s)=0/\z0X (Cd.bs s)=a.2
theorem j9P{a b:Int}{s:ByteArray}(h:okT a s)(c:a<=b):okT b s:=fun h1 h2=>Int.le_trans (h h1 h2) c
theorem j7q{m k i v n:Int}(a:Cd.z0n k i v n [] []=0)(h:k=2->i<=m):okT m (Cd.encS k i v n [] []):=fun _ h2=>by
 rw[z9b a]at h2 ⊢;exact h h2
structure CY(m:Int)(c c':Cs):Prop where
 rp:∀ r∈c'.rp,r∈c.rp
 S:∃ T,c'.out.S=c.out.S ++ T/\∀ s∈T,okT m s
 g:c'.out.g=c.out.g
theorem CY.refl(m:Int)(c:Cs):CY m c c:=⟨fun _ h=>h,⟨[],by simp,fun _ h=>by cases h⟩,rfl⟩
theorem CY.same{m:Int}{c c':Cs}(h1:c'.rp=c.rp)(h2:c'.out=c.out):CY m c c':=⟨fun r h=>h1 ▸ h,⟨[],by rw[h2];simp,fun _ h=>by cases h⟩,by rw[h2]⟩
theorem CY.trans{m:Int}{a b c:Cs}(h:CY m a b)(k:CY m b c):CY m a c:=by
 obtain⟨T,e,f⟩:=h.S;obtain⟨i,j,d⟩:=k.S;refine⟨fun r l=>h.rp r (k.rp r l),⟨T ++ i,by rw[j,e,List.append_assoc],fun s hs=>?_⟩,k.g.trans h.g⟩
 rcases List.mem_append.1 hs with hs | hs
 ·exact f s hs
 ·exact d s hs
theorem q3W{m:Int}(c:Cs){k i v n now:Int}(h:k=2->i<=m):CY m c (z2o c k i v n now).1:=by
 unfold z2o
 split
 ·rename_i hg;refine⟨fun _ h=>h,?_,?_⟩
  ·show ∃ T,(Ln.z4C c.out _ _).S=_/\_
   unfold Ln.z4C
   split
   ·exact⟨[_],rfl,fun s hs=>by rw[List.mem_singleton.1 hs];exact j7q hg h⟩
   ·exact⟨[],by simp,fun _ h=>by cases h⟩
  ·show (Ln.z4C c.out _ _).g=_
   unfold Ln.z4C
   split <;> rfl
 ·exact CY.refl _ _
theorem j1k(m:Int)(c:Cs)(v now:Int):CY m c (z3o c v now).1:=by
 unfold z3o
 repeat' split
 all_goals first | exact CY.refl _ _ | skip
 have h:=q3W (m:=m) c (k:=3) (i:=c.id) (v:=v) (n:=z4A v c.set) (now:=now) (fun h=>absurd h (by decide))
 exact⟨h.rp,h.S,h.g⟩
theorem q2j(m:Int)(c:Cs)(v i now:Int):CY m c (z1c c v i now).1:=by
 unfold z1c
 repeat' split
 all_goals first | exact CY.refl _ _ | exact q3W c (fun h=>absurd h (by decide))
theorem q9r{m:Int}:∀ (l:Pws) (c:Cs),(∀ r∈l,r.1<=m)->(∀ r∈l,r∈c.rp)->CY m c (z1R c l)
 | [],c,_,_=>⟨(fun r d=>by cases d),⟨[],by show c.out.S=_;simp,fun _ h=>by cases h⟩,rfl⟩
 | x :: l,c,h,d=>by
  unfold z1R;have a:CY m c { c with rp:=x :: l }:=⟨d,⟨[],by show c.out.S=_;simp,fun _ h=>by cases h⟩,rfl⟩
  split
  ·split
   ·have h1:=q3W c (k:=2) (i:=x.1) (v:=0) (n:=0) (now:=c.t) (m:=m) fun _=>h x List.mem_cons_self;have e:(z2o c 2 x.1 0 0 c.t).1.rp=c.rp:=by unfold z2o;split <;> rfl
    exact h1.trans (q9r l _ (fun r b=>h r (List.mem_cons_of_mem _ b)) fun r b=>by rw[e];exact d r (List.mem_cons_of_mem _ b))
   ·exact a
  ·exact a
theorem Ch.rise{H:Int->Pws}{h:Int}{fin:Pws}{b:List Pkt}:∀ {a:List Pkt} {id:Int} {set:Pws},Ch H h fin id set (a ++ b)->∀ q∈a,q.i<=z8U id a
 | [],_,_,_,q,d=>by cases d
 | p :: a,id,set,c,q,d=>by
  rcases List.mem_cons.1 d with rfl | d
  ·exact (Ch.take (a:=a) c.2.2).2
  ·exact Ch.rise (a:=a) c.2.2 q d
theorem q0v:∀ (l:List Pkt) (c:Cs),(∀ r∈(l.foldl takeC c).rp,r∈c.rp∨∃ q∈l,r.1=q.i)/\(l.foldl takeC c).out=c.out
 | [],c=>⟨fun r a=>.inl a,rfl⟩
 | p :: l,c=>by
  have h:=q0v l (takeC c p);refine⟨fun r a=>?_,h.2⟩
  rcases h.1 r a with a | ⟨q,b,e⟩
  ·rcases List.mem_append.1 (show r∈c.rp ++ [(p.i,c.t+15)] from a) with a | a
   ·exact .inl a
   ·exact .inr ⟨p,List.mem_cons_self,by rw[List.mem_singleton.1 a]⟩
  ·exact .inr ⟨q,List.mem_cons_of_mem _ b,e⟩
theorem j7R{x:Wo}{H:Int->Pws}{i:Nat}(T:TI H x i)(R:RI x i){c:Cs}(hc:c={ x.c i with h:=(x.c i).h+1,t:=x.ck }) :
  (∀ r∈(z2K c).rp,r.1<=(z2K c).id)/\(∀ s∈(z2K c).out.S,okT (z2K c).id s)/\(x.c i).out.S <+: (z2K c).out.S/\(z2K c).out.g=(x.c i).out.g:=by
 have hid:=(z4O c).2.2.1;have b:=(Ch.take T.ch).2;have j:=Ch.rise T.ch;have k:=q0v c.pd c;have f:c.pd=(x.c i).pd:=by rw[hc]
 have o:c.id=(x.c i).id:=by rw[hc]
 have p:c.rp=(x.c i).rp:=by rw[hc]
 have u:c.out=(x.c i).out:=by rw[hc]
 rw[hid,f,o];rw[f,p]at k
 have d:∀ r∈(z1w c).rp,r.1<=z8U (x.c i).id (x.c i).pd:=fun r a=>by
  rcases k.1 r (by unfold z1w at a;rw[f]at a;exact a) with h | ⟨q,hq,e⟩
  ·exact Int.le_trans (R.rp r h) b
  ·rw[e];exact j q hq
 have l:CY (z8U (x.c i).id (x.c i).pd) { z1w c with pd:=[] } (z2K c):=q9r _ _ d fun r a=>a
 have n:({ z1w c with pd:=[] }:Cs).out=(x.c i).out:=by
  show (z1w c).out=_
  unfold z1w;rw[f];exact k.2.trans u
 obtain⟨w,m,v⟩:=l.S;rw[n]at m;refine⟨fun r a=>d r (l.rp r a),fun s hs=>?_,by rw[m];exact List.prefix_append _ _,by rw[l.g,n]⟩
 rw[m]at hs
 rcases List.mem_append.1 hs with hs | hs
 ·exact j9P (R.said s hs) b
 ·exact v s hs
theorem RI.go{x y:Wo}{i:Nat}(R:RI x i)(hid:(y.c i).id=(x.c i).id)(b:CY (x.c i).id (x.c i) (y.c i))(f:∀ a∈y.p.q,a.1=(i:Int)->a∈x.p.q):RI y i:=by
 obtain⟨T,e,h⟩:=b.S;refine⟨fun r j=>by rw[hid];exact R.rp r (b.rp r j),fun s hs=>?_,fun a k d=>?_⟩
 ·rw[hid];rw[e]at hs
  rcases List.mem_append.1 hs with hs | hs
  ·exact R.said s hs
  ·exact h s hs
 ·obtain⟨n,s,h1,h2,h3⟩:=R.q a (f a k d) d;refine⟨n,s,by rw[b.g];exact h1,?_,h3⟩
  rw[e,List.getElem?_append_left (List.getElem?_eq_some_iff.1 h2).1];exact h2
theorem RI.eq{x y:Wo}{i:Nat}(R:RI x i)(hc:y.c i=x.c i)(b:∀ a∈y.p.q,a.1=(i:Int)->a∈x.p.q):RI y i:=R.go (by rw[hc]) (by rw[hc];exact CY.refl _ _) b
theorem j0O(z:QS)(a:Int×Pkt):∀ b∈(z1n z a).left,b∈z.left∨b=a:=by
 intro b;unfold z1n
 split
 ·intro hb;exact (List.mem_append.1 hb).imp id List.mem_singleton.1
 ·split
  ·exact .inl
  ·intro hb;exact (List.mem_append.1 hb).imp id List.mem_singleton.1
theorem z9D:∀ (l:List (Int×Pkt)) (z:QS),∀ b∈(l.foldl z1n z).left,b∈z.left∨b∈l
 | [],_,b,hb=>.inl hb
 | a :: l,z,b,hb=>by
  rcases z9D l (z1n z a) b hb with h | h
  ·rcases j0O z a b h with h | h
   ·exact .inl h
   ·exact .inr (h ▸ List.mem_cons_self)
  ·exact .inr (List.mem_cons_of_mem _ h)
theorem y2C{p:Pr}{now:Int}(b:z0o p=true/\isT now=true/\p.t<=now):∀ a∈(endP p now).1.q,a∈p.q:=fun a c=>by
 rw[(z3a b).q]at c
 rcases z9D _ _ a c with h | h
 ·cases h
 ·exact h
theorem z5W{x:Wo}{j:Nat}{y:Cs}(i:Nat)(R:RI x i)(h:i=j->y.id=(x.c j).id/\CY (x.c j).id (x.c j) y){hp hc:Nat->Hd}:RI { x with c:=z2k x.c j y,hp:=hp,hc:=hc } i:=by
 by_cases e:i=j
 ·subst e;have d:z2k x.c i y i=y:=z0S _ _ _;exact R.go (by dsimp only;rw[d];exact (h rfl).1) (by dsimp only;rw[d];exact (h rfl).2) fun a b _=>b
 ·exact R.eq (z0w _ _ e) fun a b _=>b
theorem j1n(p:Pr)(c:Int)(l:List Int):((z2z p c l).2=0/\Cd.z4x l=0/\(z2z p c l).1={ p with q:=p.q ++ [(c,z0X l)] })∨((z2z p c l).2≠0/\(z2z p c l).1=p):=by
 unfold z2z;generalize Cd.z4x l=E;generalize z0X l=q
 by_cases h1:z0o p=true
 ·rw[if_pos h1]
  by_cases h2:z8G p c=true
  ·rw[if_pos h2]
   by_cases h3:E=0
   ·rw[if_pos h3]
    by_cases a:q.k=1
    ·rw[if_pos a];exact .inr ⟨by simp,rfl⟩
    ·rw[if_neg a];exact .inl ⟨rfl,h3,rfl⟩
   ·rw[if_neg h3];exact .inr ⟨h3,rfl⟩
  ·rw[if_neg h2];exact .inr ⟨by simp,rfl⟩
 ·rw[if_neg h1];exact .inr ⟨by simp,rfl⟩
theorem j8S(x:Wo)(j:Nat)(b f:Bool)(i:Nat)(R:RI x i):RI (z7s x j b f).1 i:=by
 unfold z7s
 split
 ·rename_i hd;obtain⟨n,A,hs,t⟩:=q0c hd;cases b
  ·have l:z1B x j false (z0t x j false f)=({ x with c:=z2k x.c j (z3c (x.c j) (Cd.bs (z0t x j false f))).1 },(z3c (x.c j) (Cd.bs (z0t x j false f))).2):=rfl
   rw[l,t];dsimp only;generalize z0t x j false f=s at *;clear l t hd
   rcases q1p (x.c j) (Cd.bs s) with⟨h1,h2⟩ | ⟨h1,h2⟩
   ·rw[if_pos h1,h2];clear h1 h2;generalize z0X (Cd.bs s)=q at *;have h:=z5W (x:=x) (j:=j) (y:={ x.c j with pd:=(x.c j).pd ++ [q] }) (hp:=x.hp) (hc:=x.hc) i R fun _=>⟨rfl,CY.same rfl rfl⟩
    exact⟨h.rp,h.said,h.q⟩
   ·rw[if_neg h1,h2,q1w];exact R
  ·have l:z1B x j true (z0t x j true f)=({ x with p:=(z2z x.p j (Cd.bs (z0t x j true f))).1 },(z2z x.p j (Cd.bs (z0t x j true f))).2):=rfl
   rw[l,t];dsimp only;have w:z0Y x j true=(x.c j).out:=rfl;rw[w]at A hs ⊢;generalize z0t x j true f=s at *;clear l t hd w
   rcases j1n x.p j (Cd.bs s) with⟨h1,h3,h2⟩ | ⟨h1,h2⟩
   ·rw[if_pos h1,h2];clear h1 h2;generalize B:z0X (Cd.bs s)=q at *
    by_cases e:i=j
    ·subst e;have u:(z1j { x with p:={ x.p with q:=x.p.q ++ [((i:Int),q)] } } i true { (x.c i).out with g:=(x.c i).out.g+1 }).c i={ x.c i with out:={ (x.c i).out with g:=(x.c i).out.g+1 } }:=z0S _ _ _
     refine⟨fun r z=>?_,fun v o=>?_,fun a d k=>?_⟩
     ·rw[u]at z ⊢;exact R.rp r z
     ·rw[u]at o ⊢;exact R.said v o
     ·rw[u]
      rcases List.mem_append.1 (show a∈x.p.q ++ [((i:Int),q)] from d) with d | d
      ·obtain⟨m,v,k1,C⟩:=R.q a d k;exact⟨m,v,by dsimp only;omega,C⟩
      ·rw[List.mem_singleton.1 d];exact⟨n,s,by dsimp only;omega,hs,h3,B⟩
    ·refine R.eq (z0w _ _ e) fun a d k=>?_
     rcases List.mem_append.1 (show a∈x.p.q ++ [((j:Int),q)] from d) with d | d
     ·exact d
     ·rw[List.mem_singleton.1 d]at k;exact absurd (Int.ofNat.inj k.symm) e
   ·rw[if_neg h1,h2];exact R
 ·exact R
theorem y1D(x:Wo)(d:Dd)(i:Nat)(R:RI x i):RI (atP x d).1 i:=by
 have e:(atP x d).1.p.q=x.p.q:=by
  unfold atP
  split
  ·dsimp only;rw[z5c]
  ·split
   ·exact (z4W x.p d.d d.v d.n x.ck).2.2.1
   ·split
    ·rfl
    ·dsimp only;rw[z5S]
 have hc:(atP x d).1.c=x.c:=by
  unfold atP
  repeat' split
  all_goals rfl
 exact R.eq (by rw[hc]) fun a b _=>by rw[e]at b;exact b
theorem y0J(x:Wo)(j:Nat)(b:Bool)(k:Int)(i:Nat)(d:((z6I x j b k).1.c i).on=true)(R:RI x i):RI (z6I x j b k).1 i:=by
 unfold z6I at d ⊢
 split at d
 ·rename_i h0;rw[if_pos h0];dsimp only at d ⊢;generalize Ln.z4N (z0Y x j b) k (z5A x j b) (q2x x j b)=l at *
  by_cases e:i=j
  ·subst e
   have:((q1X (z1j x i b l) i).c i).on=false:=by
    show (z2k _ i _ i).on=false
    rw[z0S];exact z5H _
   rw[this]at d;cases d
  ·have hc:(q1X (z1j x j b l) j).c i=x.c i:=(z0w _ _ e).trans (by cases b;rfl;exact z0w _ _ e)
   refine R.eq hc fun a f _=>?_
   have h1:a∈(z1j x j b l).p.q:=by
    have h2:a∈(z0j (z1j x j b l).p j).q:=f;unfold z0j at h2
    split at h2
    ·exact (List.mem_filter.1 h2).1
    ·exact h2
   cases b <;> exact h1
 ·rename_i h0;rw[if_neg h0];exact R
theorem j5Y(x:Wo)(j:Nat)(b:Bool)(i:Nat)(R:RI x i):RI (z3H x j b) i:=by
 unfold z3H
 split
 ·exact R.eq rfl fun a d _=>d
 ·exact z5W (y:=y1v (x.c j) (x.hp j)) (hp:=x.hp) (hc:=x.hc) i R fun _=>⟨rfl,CY.same rfl rfl⟩
theorem j6I(c:Cs)(v now:Int):(z3o c v now).1.id=c.id:=(q7r c v now).2.2.1
theorem j0j(x:Wo){i j:Nat}(d:Dd)(e:i≠j):(z2c x j d).1.c i=x.c i:=by
 have hp:∀ (y:Wo) (b:Bool) (l:Ln.Line),(z1j y j b l).c i=y.c i:=fun y b l=>by
  cases b
  ·rfl
  ·exact z0w _ _ e
 have a:∀ (b:Bool) (s:ByteArray),(z1B x j b s).1.c i=x.c i:=fun b s=>by
  cases b
  ·exact z0w _ _ e
  ·rfl
 unfold z2c
 split
 ·dsimp only;unfold z3T
  split
  ·exact z0w _ _ e
  ·rfl
 ·split
  ·dsimp only;unfold z3H
   split
   ·rfl
   ·exact z0w _ _ e
  ·split
   ·unfold z7s
    split
    ·split
     ·exact (hp _ _ _).trans (a _ _)
     ·exact a _ _
    ·rfl
   ·split
    ·dsimp only;unfold z6I
     split
     ·exact (z0w _ _ e).trans (hp _ _ _)
     ·rfl
    ·dsimp only;unfold z9d
     split <;> exact z0w _ _ e
theorem j7l{H:Int->Pws}{x:Wo}{j:Nat}{d:Dd}{i:Nat}(o:(x.c j).on=true)(T:(x.c i).on=true->TI H x i)(b:((z2c x j d).1.c i).on=true)(R:(x.c i).on=true->RI x i):RI (z2c x j d).1 i:=by
 have m:(x.c i).on=true:=by
  by_cases e:i=j
  ·rw[e];exact o
  ·rw[j0j x d e]at b;exact b
 have f:=R m;unfold z2c at b ⊢
 split at b
 ·rename_i h7;rw[if_pos h7];dsimp only at b ⊢;unfold z3T at b ⊢
  split at b
  ·rename_i h0;rw[if_pos h0]
   have p:(z7A (x.c j) x.ck).1=z2K { x.c j with h:=(x.c j).h+1,t:=x.ck }:=by
    unfold z7A at h0 ⊢
    by_cases h1:z5t (x.c j)=0
    ·rw[if_pos h1]at h0 ⊢
     by_cases h2:isT x.ck=true/\(x.c j).t<=x.ck
     ·rw[if_pos h2]
     ·rw[if_neg h2]at h0;cases h0
    ·rw[if_neg h1]at h0;exact absurd h0 h1
   dsimp only;rw[p]
   by_cases e:i=j
   ·subst e;obtain⟨k1,r,u,v⟩:=j7R (T m) f (c:={ x.c i with h:=(x.c i).h+1,t:=x.ck }) rfl
    have g:z2k x.c i (z2K { x.c i with h:=(x.c i).h+1,t:=x.ck }) i=z2K { x.c i with h:=(x.c i).h+1,t:=x.ck }:=z0S _ _ _
    refine⟨by dsimp only;rw[g];exact k1,by dsimp only;rw[g];exact r,fun a k l=>?_⟩
    obtain⟨n,s,q1,q2,q3⟩:=f.q a k l;dsimp only;rw[g,v];obtain⟨y,w⟩:=u;refine⟨n,s,q1,?_,q3⟩;rw[<- w,List.getElem?_append_left (List.getElem?_eq_some_iff.1 q2).1];exact q2
   ·exact f.eq (z0w _ _ e) fun a k _=>k
  ·rename_i h0;rw[if_neg h0];exact f
 ·rename_i h7;rw[if_neg h7]
  split at b
  ·rename_i h8;rw[if_pos h8];exact j5Y _ _ _ _ f
  ·rename_i h8;rw[if_neg h8]
   split at b
   ·rename_i h9;rw[if_pos h9];exact j8S _ _ _ _ _ f
   ·rename_i h9;rw[if_neg h9]
    split at b
    ·rename_i h10;rw[if_pos h10];exact y0J _ _ _ _ _ b f
    ·rename_i h10;rw[if_neg h10];dsimp only;unfold z9d
     split
     ·exact z5W (hp:=x.hp) (hc:=x.hc) i f fun _=>⟨j6I _ _ _,j1k _ _ _ _⟩
     ·exact z5W (hp:=x.hp) (hc:=x.hc) i f fun _=>⟨(q1R _ _ _ _).2.2.1,q2j _ _ _ _ _⟩
theorem j8u{N:Int}{H:Int->Pws}{x:Wo}{d:Dd}{i:Nat}(h:z2P N x)(T:(x.c i).on=true->TI H x i)(b:((z2J x d).1.c i).on=true)(R:(x.c i).on=true->RI x i):RI (z2J x d).1 i:=by
 unfold z2J at b ⊢
 split at b
 ·rename_i h1;rw[if_pos h1]
  have hc:(atP x d).1.c=x.c:=by
   unfold atP
   repeat' split
   all_goals rfl
  exact y1D _ _ _ (R (by dsimp only at b;rw[hc]at b;exact b))
 ·rename_i h1;rw[if_neg h1]
  split at b
  ·rename_i j;rw[if_pos j];unfold z4z at b ⊢
   split at b
   ·rename_i q;rw[if_pos q];exact R b
   ·rename_i q;rw[if_neg q];exact (R b).eq rfl fun a f _=>f
  ·rename_i j;rw[if_neg j]
   split at b
   ·rename_i h6;rw[if_pos h6];unfold z3F at b ⊢
    split at b
    ·rename_i h0;rw[if_pos h0]
     have l:z0o x.p=true/\isT x.ck=true/\x.p.t<=x.ck:=by
      by_cases o:z0o x.p=true/\isT x.ck=true/\x.p.t<=x.ck
      ·exact o
      ·unfold endP at h0;rw[if_neg o]at h0;cases h0
     exact (R b).eq rfl fun a f _=>y2C l a f
    ·rename_i h0;rw[if_neg h0];exact R b
   ·rename_i h6;rw[if_neg h6]
    split at b
    ·rename_i g;rw[if_pos g];unfold z1X at b ⊢
     split at b
     ·rename_i hc;rw[if_pos hc]
      split at b
      ·rename_i h0;rw[if_pos h0]
       have hb:(z0x x.p d.c).1.q=x.p.q/\(x.p.L d.c.toNat).on=false:=by
        unfold z0x at h0 ⊢
        by_cases q1:z0o x.p=true
        ·rw[if_pos q1,if_pos hc]at h0;rw[if_pos q1,if_pos hc]
         by_cases h3:(x.p.L d.c.toNat).gone=true
         ·rw[if_pos h3]at h0;cases h0
         ·rw[if_neg h3]at h0 ⊢
          by_cases g:(x.p.L d.c.toNat).on=true
          ·rw[if_pos g]at h0;cases h0
          ·rw[if_neg g]at h0 ⊢
           by_cases j:x.p.h=0∨x.p.set.length=0
           ·rw[if_pos j]at h0;cases h0
           ·rw[if_neg j];exact⟨rfl,by simpa using g⟩
        ·rw[if_neg q1]at h0;cases h0
       dsimp only at b ⊢
       by_cases e:i=d.c.toNat
       ·have k:z2k x.c d.c.toNat (z2s (z0x x.p d.c).1.set (z0x x.p d.c).1.h x.ck) i=z2s (z0x x.p d.c).1.set (z0x x.p d.c).1.h x.ck:=by rw[e];exact z0S _ _ _
        refine⟨(by dsimp only;rw[k];intro r v;cases v),(by dsimp only;rw[k];intro s hs;cases hs),fun a f m=>?_⟩
        have n:a∈x.p.q:=by rw[<- hb.1];exact f
        have u:=(h.gp.q a n).on;rw[m,show ((i:Int)).toNat=i from rfl,e,hb.2]at u;cases u
       ·have k:z2k x.c d.c.toNat (z2s (z0x x.p d.c).1.set (z0x x.p d.c).1.h x.ck) i=x.c i:=z0w _ _ e;rw[k]at b;exact (R b).eq k fun a f _=>by rw[<- hb.1];exact f
      ·rename_i h0;rw[if_neg h0];exact R b
     ·rename_i hc;rw[if_neg hc];exact R b
    ·rename_i g;rw[if_neg g]
     split at b
     ·rename_i h7;rw[if_pos h7]
      split at b
      ·rename_i hc;rw[if_pos hc];exact j7l hc.2 T b R
      ·rename_i hc;rw[if_neg hc];exact R b
     ·rename_i h7;rw[if_neg h7];exact R b
theorem y1y{H:Int->Pws}{x:Wo}{d:Dd}{i:Nat}(h:Inv x)(T:(x.c i).on=true->TI H x i)(a:((doW x d).1.c i).on=true)(R:(x.c i).on=true->RI x i):RI (doW x d).1 i:=by
 unfold doW at a ⊢
 split at a
 ·rename_i h0;rw[if_pos h0];exact R a
 ·rename_i h0;rw[if_neg h0];exact j8u (x:=z2n x) (H:=H) (h.dn _) (fun b=>⟨(T b).cl,(T b).len,(T b).told,(T b).dec,(T b).ch⟩) a fun b=>⟨(R b).rp,(R b).said,(R b).q⟩
theorem j0N(l:List Dd):∀ k,k<=l.length->k<=300->∀ i,i<2->((stW l k).c i).on=true->RI (stW l k) i
 | 0,_,_,i,_,h=>by cases h
 | k+1,h1,h2,i,hi,h=>by
  have e:=z3f (List.getElem?_eq_getElem (by omega:k<l.length))
  rw[e]at h ⊢;exact y1y (z2S l k) ((q3l l k (by omega) (by omega)).ti i hi) h (j0N l k (by omega) (by omega) i hi)
theorem y1Z{x y:Wo}{i:Nat}(t:Tr x y i):y.p.h=x.p.h∨y.p.h=x.p.h+1:=by
 cases t with
 | off a _ _=>exact .inl a
 | same q=>exact .inl q.h
 | q1J _ E _=>exact .inr E.h
 | beg _ _ _ d _ _ _=>exact .inl d
 | cons e _=>exact .inl (by rw[e])
 | del n s q _ _ _ e _ _ _=>exact .inl e
theorem j6A{H:Int->Pws}{x y:Wo}{i:Nat}{a:Int}(t:Tr x y i)(b:(y.c i).on=true)(T:(x.c i).on=true->TI H x i)(h1:a<=x.p.h)(h2:(x.c i).on=true->a<=(x.c i).id/\1<=(x.c i).id):a<=(y.c i).id/\1<=(y.c i).id:=by
 cases t with
 | off _ _ a=>rw[a]at b;cases b
 | same q=>rw[q.id];exact h2 (q.con.symm.trans b)
 | q1J e _ _=>rw[e]at b ⊢;exact h2 b
 | beg _ _ c _ _ _ e=>rw[e];exact⟨h1,c⟩
 | cons _ e =>
  have d:=z4O { x.c i with h:=(x.c i).h+1,t:=x.ck }
  rw[<- e]at d;have h3:=d.1.symm.trans b;have f:=(Ch.take (T h3).ch).2;have g:=h2 h3;rw[d.2.2.1]
  show a<=z8U (x.c i).id (x.c i).pd/\1<=z8U (x.c i).id (x.c i).pd
  omega
 | del n s q _ _ _ _ _ _ e=>rw[e]at b ⊢;exact h2 b
def idW(l:List Dd):Nat->Nat->Int
 | 0=>fun _=>0
 | k+1=>fun i=>if ((stW l (k+1)).c i).on=true then ((stW l (k+1)).c i).id else idW l k i
theorem y0y(l:List Dd):∀ k,k<=l.length->k<=300->∀ i,i<2->idW l k i<=(stW l k).p.h/\(((stW l k).c i).on=true->idW l k i<=((stW l k).c i).id/\1<=((stW l k).c i).id)
 | 0,_,_,i,_=>⟨Int.le_refl _,fun h=>by cases h⟩
 | k+1,h1,h2,i,hi=>by
  have b:=y0y l k (by omega) (by omega) i hi
  have t:=j1U (z2S l k) l[k] i;rw[<- z3f (List.getElem?_eq_getElem (by omega:k<l.length))]at t
  have e:=y1Z t;have W:=q3l l (k+1) h1 h2
  show (if ((stW l (k+1)).c i).on=true then ((stW l (k+1)).c i).id else idW l k i)<=_/\(_->(if ((stW l (k+1)).c i).on=true then ((stW l (k+1)).c i).id else idW l k i)<=_/\_)
  by_cases a:((stW l (k+1)).c i).on=true
  ·rw[if_pos a];have h3:=(Ch.head (W.ti i hi a).ch).2;have d:=j6A t a ((q3l l k (by omega) (by omega)).ti i hi) b.1 b.2
   exact⟨h3,fun _=>⟨Int.le_refl _,d.2⟩⟩
  ·rw[if_neg a];exact⟨by omega,fun h=>absurd h a⟩
theorem Hw.sub{i:Nat}{m:Int}{W a:List Wt}(h:Hw i m W)(hs:∀ u∈a,u∈W):Hw i m a:=fun u hu=>h u (hs u hu)
theorem Hw.map{i:Nat}{m:Int}{W:List Wt}{f:Wt->Wt}(h:Hw i m W)(b:∀ u∈W,(f u).hei=u.hei/\(m<u.hei->z1M i u=u.hei->z1M i (f u)=u.hei)):Hw i m (W.map f):=fun u hu hm=>by
 obtain⟨v,a,rfl⟩:=List.mem_map.1 hu;have:=b v a;rw[this.1]at hm ⊢;exact this.2 hm (h v a hm)
theorem Hw.up{i:Nat}{m n:Int}{W:List Wt}(h:Hw i m W)(hm:m<=n):Hw i n W:=fun u hu a=>h u hu (by omega)
theorem z4q(v h f:Int)(u:Wt):(slX v h f u).hei=u.hei/\(slX v h f u).h0=u.h0/\(slX v h f u).h1=u.h1/\(slX v h f u).v=u.v/\(slX v h f u).due=u.due/\(slX v h f u).num=u.num:=by
 unfold slX
 split <;> exact⟨rfl,rfl,rfl,rfl,rfl,rfl⟩
theorem Hw.slash{i:Nat}{m:Int}{W:List Wt}(h:Hw i m W)(v a f:Int):Hw i m (slW v a f W):=h.map fun u _=>by
 have:=z4q v a f u;exact⟨this.1,fun _ e=>by unfold z1M at e ⊢;rw[this.2.1,this.2.2.1];exact e⟩
theorem z3M(c:Nat)(r:Int)(u:Wt):(z4j c r u).hei=u.hei/\(z4j c r u).v=u.v/\(z4j c r u).amt=u.amt/\(z4j c r u).due=u.due/\(z4j c r u).num=u.num:=by
 unfold z4j
 repeat' split
 all_goals exact⟨rfl,rfl,rfl,rfl,rfl⟩
theorem Hw.rel{i c:Nat}{m r:Int}{W:List Wt}(d:i<2)(hc:c<2)(h:Hw i m W)(b:c=i->r<=m):Hw i m (z4X c r W):=h.map fun u _=>by
 refine⟨(z3M c r u).1,fun hm e=>?_⟩;unfold z1M z4j at *
 by_cases a:c=i
 ·have:=b a;subst a
  by_cases h0:c=0
  ·rw[if_pos h0]at e;rw[if_pos h0,if_pos h0,if_neg (by omega)]
   exact e
  ·rw[if_neg h0]at e;rw[if_neg h0,if_neg h0,if_neg (by omega)]
   exact e
 ·by_cases h0:c=0
  ·have h1:i≠0:=fun q=>a (h0.trans q.symm);rw[if_neg h1]at e;rw[if_neg h1,if_pos h0]
   split <;> exact e
  ·have h1:i=0:=by omega
   rw[if_pos h1]at e;rw[if_pos h1,if_neg h0]
   split <;> exact e
theorem Hw.hold{i c:Nat}{m a:Int}{W:List Wt}(h:Hw i m W):Hw i m (W.map (z0V c a)):=h.map fun u _=>by
 unfold z1M z0V
 by_cases b:u.hei=a
 ·rw[if_pos b]
  by_cases hc:c=0
  ·rw[if_pos hc];refine⟨rfl,fun _ e=>?_⟩
   by_cases q:i=0
   ·rw[if_pos q];exact b.symm
   ·rw[if_neg q]at e ⊢;exact e
  ·rw[if_neg hc];refine⟨rfl,fun _ e=>?_⟩
   by_cases q:i=0
   ·rw[if_pos q]at e ⊢;exact e
   ·rw[if_neg q];exact b.symm
 ·rw[if_neg b];exact⟨rfl,fun _ e=>e⟩
theorem j2R{c:Nat}{m:Int}{W:List Wt}(h:∀ u∈W,u.hei<=m+1):Hw c m (W.map (z0V c (m+1))):=fun u hu hm=>by
 obtain⟨v,a,rfl⟩:=List.mem_map.1 hu;have h1:=h v a;unfold z1M z0V at *
 by_cases e:v.hei=m+1
 ·rw[if_pos e]at hm ⊢
  by_cases hc:c=0
  ·rw[if_pos hc,if_pos hc];exact e.symm
  ·rw[if_neg hc,if_neg hc];exact e.symm
 ·rw[if_neg e]at hm;omega
theorem j6Y{i c:Nat}{m:Int}{p:Pr}{x:Pkt}(a:i<2)(hc:c<2)(h:Hw i m p.s.W)(b:x.k=2->c=i->x.i<=m):Hw i m (z1y p c x).1.s.W:=by
 unfold z1y
 split
 ·exact h.rel a hc (b ‹_›)
 ·split
  ·split
   ·exact h
   ·exact h.slash _ _ _
  ·split
   ·exact h
   ·split <;> exact h
theorem q0a{i:Nat}{m:Int}(c:i<2):∀ (l:List (Int×Pkt)) (z:QS),(∀ a∈l,(0<=a.1/\a.1<=1)/\(a.2.k=2->a.1=(i:Int)->a.2.i<=m))->Hw i m z.p.s.W->Hw i m (l.foldl z1n z).p.s.W
 | [],_,_,h=>h
 | a :: l,z,ho,h=>by
  rw[List.foldl_cons];refine q0a c l _ (fun b hb=>ho b (List.mem_cons_of_mem _ hb)) ?_;have h1:=ho a List.mem_cons_self;unfold z1n
  split
  ·exact h
  ·split
   ·exact j6Y c (by omega) h fun d hc=>h1.2 d (by omega)
   ·exact h
theorem j9y{p:Pr}{now:Int}(a:z0o p=true/\isT now=true/\p.t<=now):(endP p now).1.s.W=z1x now (goQ (z0y p now)).p.s.W:=by rw[(z3a a).s];rfl
theorem q0U{m:Int}:∀ (l:List (Int×Pkt)) (z:QS),(∀ u∈z.p.s.W,u.hei<=m)->∀ u∈(l.foldl z1n z).p.s.W,u.hei<=m
 | [],_,h=>h
 | a :: l,z,h=>by
  rw[List.foldl_cons];refine q0U l _ ?_
  have key:∀ {f:Wt->Wt},(∀ u,(f u).hei=u.hei)->∀ u∈z.p.s.W.map f,u.hei<=m:=fun b u hu=>by
   obtain⟨v,c,rfl⟩:=List.mem_map.1 hu;rw[b];exact h v c
  unfold z1n
  split
  ·exact h
  ·split
   ·dsimp only;unfold z1y
    split
    ·exact key fun u=>(z3M _ _ u).1
    ·split
     ·split
      ·exact h
      ·exact key fun u=>(z4q _ _ _ u).1
     ·split
      ·exact h
      ·split <;> exact h
   ·exact h
theorem y2P{x:Wo}{i:Nat}(R:RI x i){a:Int×Pkt}(b:a∈x.p.q)(d:a.2.k=2)(e:a.1=(i:Int)):a.2.i<=(x.c i).id:=by
 obtain⟨n,s,-,h2,h3,f⟩:=R.q a b e;have:=R.said s (List.mem_of_getElem? h2) h3;rw[f]at this;exact this d
theorem q4k(s:St)(d v n:Int):(z0Q s d v n).1.W=s.W:=by
 unfold z0Q
 repeat' split
 all_goals rfl
theorem q0E(s:St)(v:Int):(z1s s v).1.W=s.W:=by
 unfold z1s
 repeat' split
 all_goals rfl
theorem j5P(s:St)(d v n:Int)(y:Wt):(z0N s d v n y).1.W=s.W∨((z0N s d v n y).2=0/\∃ a w,(z0N s d v n y).1.W=s.W ++ [{ y with num:=a,d:=d,v:=v,amt:=w }]):=by
 unfold z0N
 repeat' split
 all_goals first | exact .inl rfl | exact .inr ⟨rfl,_,_,rfl⟩
theorem y2a{x:Wo}(h:HW x)(j:∀ i,i<2->(x.c i).on=(x.p.L i).on)(d:Dd):HW (atP x d).1:=by
 unfold atP
 split
 ·have e:(z1T x.p d.d d.v d.n).1.s.W=x.p.s.W/\(z1T x.p d.d d.v d.n).1.h=x.p.h:=by
   unfold z1T
   split
   ·exact⟨q4k _ _ _ _,rfl⟩
   ·exact⟨rfl,rfl⟩
  exact⟨by dsimp only;rw[e.1,e.2];exact h.hei,by dsimp only;rw[e.1];exact h.held⟩
 ·split
  ·dsimp only;unfold z1f
   split
   ·split
    ·dsimp only
     rcases j5P x.p.s d.d d.v d.n (z8O x.p x.ck) with e | ⟨-,a,w,e⟩
     ·exact⟨by dsimp only;rw[e];exact h.hei,by dsimp only;rw[e];exact h.held⟩
     ·refine⟨fun u hu=>?_,fun i f b u hu hm=>?_⟩
      ·dsimp only at hu ⊢;rw[e]at hu
       rcases List.mem_append.1 hu with hu | hu
       ·exact h.hei u hu
       ·rw[List.mem_singleton.1 hu];exact Int.le_refl _
      ·dsimp only at hu;rw[e]at hu
       rcases List.mem_append.1 hu with hu | hu
       ·exact h.held i f b u hu hm
       ·rw[List.mem_singleton.1 hu];have g:(x.p.L i).on=true:=(j i f).symm.trans b
        show (if i=0 then z2i x.p 0 else z2i x.p 1)=x.p.h+1
        unfold z2i
        rcases (show i=0∨i=1 by omega) with rfl | rfl
        ·rw[if_pos rfl,if_pos g]
        ·rw[if_neg (by omega),if_pos g]
    ·exact h
   ·exact h
  ·split
   ·exact⟨by dsimp only;rw[q0E];exact h.hei,by dsimp only;rw[q0E];exact h.held⟩
   ·dsimp only;unfold z3R
    repeat' split
    all_goals first | exact h | skip
    refine⟨fun u hu=>?_,fun i f b=>(h.held i f b).slash _ _ _⟩;obtain⟨v,k,rfl⟩:=List.mem_map.1 (show u∈slW _ _ _ _ from hu);rw[(z4q _ _ _ v).1];exact h.hei v k
theorem y0h{N:Int}{x:Wo}(j:z2P N x)(h:HW x)(R:∀ i,i<2->(x.c i).on=true->RI x i):HW (z3F x).1:=by
 unfold z3F
 split
 ·rename_i h0
  have b:z0o x.p=true/\isT x.ck=true/\x.p.t<=x.ck:=by
   by_cases k:z0o x.p=true/\isT x.ck=true/\x.p.t<=x.ck
   ·exact k
   ·unfold endP at h0;rw[if_neg k]at h0;cases h0
  have e:=j9y b;have l:=(z3a b).h;have hs:∀ u∈z1x x.ck (goQ (z0y x.p x.ck)).p.s.W,u∈(goQ (z0y x.p x.ck)).p.s.W:=fun u hu=>(List.mem_filter.1 hu).1;refine⟨fun u hu=>?_,fun i f d=>?_⟩
  ·dsimp only at hu ⊢;rw[e]at hu;have:=q0U (m:=x.p.h+1) x.p.q ⟨z0y x.p x.ck,fun _=>false,[]⟩ h.hei u (hs u hu);rw[l];omega
  ·dsimp only;rw[e];refine Hw.sub ?_ hs;exact q0a f x.p.q ⟨z0y x.p x.ck,fun _=>false,[]⟩ (fun a g=>⟨⟨(j.gp.q a g).c0,(j.gp.q a g).c1⟩,fun n o=>y2P (R i f d) g n o⟩) (h.held i f d)
 ·exact h
theorem j1I{x:Wo}(h:HW x)(c:Int):HW (z1X x c).1:=by
 unfold z1X
 split
 ·split
  ·rename_i h0
   have hb:(z0x x.p c).1={ x.p with s:={ x.p.s with W:=x.p.s.W.map (z0V c.toNat (x.p.h+1)) },L:=z0P x.p.L c.toNat (z6M x.p) }:=by
    unfold z0x at h0 ⊢
    repeat' split at h0
    all_goals first | cases h0 | skip
    rename_i q1 q2 q3 q4 q5;rw[if_pos q1,if_pos q2,if_neg q3,if_neg q4,if_neg q5]
   rw[hb];refine⟨fun u hu=>?_,fun i b a=>?_⟩
   ·obtain⟨v,d,rfl⟩:=List.mem_map.1 hu
    have:(z0V c.toNat (x.p.h+1) v).hei=v.hei:=by
     unfold z0V
     repeat' split
     all_goals rfl
    rw[this];exact h.hei v d
   ·dsimp only at a ⊢
    by_cases e:i=c.toNat
    ·subst e;rw[z0S];exact j2R h.hei
    ·rw[z0w _ _ e]at a ⊢;exact (h.held i b a).hold
  ·exact h
 ·exact h
theorem y2O(x:Wo)(j:Nat)(d:Dd):(z2c x j d).1.p.h=x.p.h/\((z2c x j d).1.p.s.W=x.p.s.W∨(((z2c x j d).1.c j).on=false/\((z2c x j d).1.p.L j).gone=true/\∃ r,(z2c x j d).1.p.s.W=z4X j r x.p.s.W)):=by
 have hp:∀ (y:Wo) (b:Bool) (l:Ln.Line),(z1j y j b l).p.h=y.p.h/\(z1j y j b l).p.s=y.p.s:=fun y b l=>by cases b <;> exact⟨rfl,rfl⟩
 have e:∀ (b:Bool) (s:ByteArray),(z1B x j b s).1.p.h=x.p.h/\(z1B x j b s).1.p.s=x.p.s:=fun b s=>by
  cases b
  ·exact⟨rfl,rfl⟩
  ·show (z2z x.p j (Cd.bs s)).1.h=_/\(z2z x.p j (Cd.bs s)).1.s=_
   rw[(z5i _ _ _).1];exact⟨rfl,rfl⟩
 unfold z2c
 split
 ·dsimp only;unfold z3T
  split <;> exact⟨rfl,.inl rfl⟩
 ·split
  ·dsimp only;unfold z3H
   split <;> exact⟨rfl,.inl rfl⟩
  ·split
   ·unfold z7s
    split
    ·split
     ·have q1:=hp (z1B x j d.b (z0t x j d.b d.f)).1 d.b (Ln.z5L (z0Y x j d.b) ((z0Y x j d.b).g+1) (z0t x j d.b d.f) (j1d x j d.b) x.ck);have q2:=e d.b (z0t x j d.b d.f);exact⟨q1.1.trans q2.1,.inl (by dsimp only;rw[q1.2,q2.2])⟩
     ·have q2:=e d.b (z0t x j d.b d.f);exact⟨q2.1,.inl (by dsimp only;rw[q2.2])⟩
    ·exact⟨rfl,.inl rfl⟩
   ·split
    ·dsimp only;unfold z6I
     split
     ·have q1:=hp x d.b (Ln.z4N (z0Y x j d.b) d.n (z5A x j d.b) (q2x x j d.b));generalize z1j x j d.b (Ln.z4N (z0Y x j d.b) d.n (z5A x j d.b) (q2x x j d.b))=y at *
      have a:((q1X y j).c j).on=false:=by
       show (z2k _ j _ j).on=false
       rw[z0S];exact z5H _
      refine⟨(z4J y.p j).1.trans q1.1,?_⟩
      show (z0j y.p j).s.W=_∨(_/\((z0j y.p j).L j).gone=true/\∃ r,(z0j y.p j).s.W=_)
      unfold z0j
      split
      ·exact .inr ⟨a,by show (z0P y.p.L j _ j).gone=true;rw[z2u];rfl,_,by rw[<- q1.2];rfl⟩
      ·exact .inl (by rw[q1.2])
     ·exact⟨rfl,.inl rfl⟩
    ·dsimp only;unfold z9d
     split <;> exact⟨rfl,.inl rfl⟩
theorem j7h{H:Int->Pws}{x:Wo}{j:Nat}{d:Dd}(k:j<2)(n:(x.c j).on=true)(T:∀ i,i<2->(x.c i).on=true->TI H x i)(h:HW x):HW (z2c x j d).1:=by
 obtain⟨o,l⟩:=y2O x j d
 have hid:∀ i,i<2->((z2c x j d).1.c i).on=true->(x.c i).on=true/\(x.c i).id<=((z2c x j d).1.c i).id:=fun i g b=>by
  have f:(x.c i).on=true:=by
   by_cases e:i=j
   ·rw[e];exact n
   ·rw[j0j x d e]at b;exact b
  refine⟨f,?_⟩;have t:=j1c x j d i;cases t with
  | off _ _ a=>rw[a]at b;cases b
  | same q=>rw[q.id];exact Int.le_refl _
  | q1J e _ _=>rw[e];exact Int.le_refl _
  | beg a _ _ _ _ _ _=>rw[a]at f;cases f
  | cons _ e =>
   have m:=z4O { x.c i with h:=(x.c i).h+1,t:=x.ck }
   rw[<- e]at m;rw[m.2.2.1];exact (Ch.take (T i g f).ch).2
  | del _ _ _ _ _ _ _ _ _ e=>rw[e];exact Int.le_refl _
 refine⟨fun u hu=>?_,fun i g b=>?_⟩
 ·rw[o]
  rcases l with e | ⟨-,-,r,e⟩
  ·rw[e]at hu;exact h.hei u hu
  ·rw[e]at hu;obtain⟨v,p,rfl⟩:=List.mem_map.1 hu;rw[(z3M _ _ v).1];exact h.hei v p
 ·have f:=hid i g b
  rcases l with e | ⟨s,-,r,e⟩
  ·rw[e];exact (h.held i g f.1).up f.2
  ·rw[e];refine Hw.up (Hw.rel g k (h.held i g f.1) fun q=>?_) f.2;subst q;rw[s]at b;cases b
theorem y1R{H:Int->Pws}{x:Wo}{d:Dd}(e:Inv x)(T:∀ i,i<2->(x.c i).on=true->TI H x i)(R:∀ i,i<2->(x.c i).on=true->RI x i)(h:HW x):HW (doW x d).1:=by
 unfold doW
 split
 ·exact h
 ·dsimp only;have h':HW (z2n x):=⟨h.hei,h.held⟩;unfold z2J
  split
  ·exact y2a h' (fun i a=>(e.on i a).1) d
  ·split
   ·unfold z4z
    split <;> exact⟨h.hei,h.held⟩
   ·split
    ·exact y0h (x:=z2n x) (e.dn _) h' fun i a b=>⟨(R i a b).rp,(R i a b).said,(R i a b).q⟩
    ·split
     ·exact j1I h' _
     ·split
      ·split
       ·rename_i hc;refine j7h (H:=H) ?_ hc.2 (fun i a b=>⟨(T i a b).cl,(T i a b).len,(T i a b).told,(T i a b).dec,(T i a b).ch⟩) h';have:=hc.1;unfold isC at this;simp only[Bool.and_eq_true,decide_eq_true_eq]at this;omega
       ·exact h'
      ·exact h'
theorem j9F(l:List Dd):∀ k,k<=l.length->k<=300->HW (stW l k)
 | 0,_,_=>⟨(fun u hu=>by cases hu),fun i _ h=>by cases h⟩
 | k+1,h1,h2=>by
  rw[z3f (List.getElem?_eq_getElem (by omega:k<l.length))]
  exact y1R (z2S l k) (q3l l k (by omega) (by omega)).ti (fun i a b=>j0N l k (by omega) (by omega) i a b) (j9F l k (by omega) (by omega))
def z3I(v h:Int):List Wt->Int
 | []=>0
 | u :: W=>(if u.v=v/\h<u.hei then u.amt else 0)+z3I v h W
def j3Z(s:St)(v:Nat)(h:Int):Int:=(s.V v).tok+(s.V v).lost+z3I v h s.W
def VM(h:Int)(s a:St):Prop:=∀ v,v<6->j3Z s v h<=j3Z a v h
theorem VM.refl(h:Int)(s:St):VM h s s:=fun _ _=>Int.le_refl _
theorem VM.trans{h:Int}{a b c:St}(x:VM h a b)(y:VM h b c):VM h a c:=fun v d=>Int.le_trans (x v d) (y v d)
theorem q4D(v h:Int)(u:Wt):∀ W,z3I v h (W ++ [u])=z3I v h W+(if u.v=v/\h<u.hei then u.amt else 0)
 | []=>by simp[z3I]
 | x :: W=>by
  show _+z3I v h (W ++ [u])=_+z3I v h W+_
  rw[q4D v h u W];omega
theorem q0i(v h:Int){f:Wt->Wt}(a:∀ u,(f u).v=u.v/\(f u).hei=u.hei/\(f u).amt=u.amt):∀ W,z3I v h (W.map f)=z3I v h W
 | []=>rfl
 | x :: W=>by
  show (if (f x).v=v/\h<(f x).hei then (f x).amt else 0)+z3I v h (W.map f)=_
  rw[(a x).1,(a x).2.1,(a x).2.2,q0i v h a W];rfl
theorem q1M(v h:Int){q:Wt->Bool}:∀ W:List Wt,(∀ u∈W,h<u.hei->q u=true)->z3I v h (W.filter q)=z3I v h W
 | [],_=>rfl
 | x :: W,hq=>by
  have a:=q1M v h W fun u hu=>hq u (List.mem_cons_of_mem _ hu)
  by_cases e:q x=true
  ·rw[List.filter_cons_of_pos e]
   show _+z3I v h (W.filter q)=_+z3I v h W
   rw[a]
  ·rw[List.filter_cons_of_neg e,a];have:¬ (x.v=v/\h<x.hei):=fun r=>e (hq x List.mem_cons_self r.2)
   show _=(if x.v=v/\h<x.hei then x.amt else 0)+_
   rw[if_neg this];omega
theorem z8Z(v h a f:Int):∀ W:List Wt,(∀ u∈W,0<=ptN u.amt f)->z3I v h W - slN v a f W<=z3I v h (slW v a f W)/\0<=slN v a f W
 | [],_=>⟨Int.le_refl _,Int.le_refl _⟩
 | x :: W,hp=>by
  have b:=z8Z v h a f W fun u hu=>hp u (List.mem_cons_of_mem _ hu);have h1:=hp x List.mem_cons_self;have hs:=z4q v a f x
  show (if x.v=v/\h<x.hei then x.amt else 0)+z3I v h W - (slP v a f x+slN v a f W)<=(if (slX v a f x).v=v/\h<(slX v a f x).hei then (slX v a f x).amt else 0)+z3I v h (slW v a f W)/\0<=slP v a f x+slN v a f W
  rw[hs.1,hs.2.2.2.1]
  have h2:(slX v a f x).amt=x.amt - slP v a f x/\0<=slP v a f x:=by
   unfold slX slP
   by_cases q:q7I v a x=true
   ·rw[if_pos q,if_pos q];exact⟨rfl,h1⟩
   ·rw[if_neg q,if_neg q];exact⟨by omega,Int.le_refl _⟩
  rw[h2.1]
  split <;> omega
theorem z9i{v v':Int}(b:v'≠v)(h a f:Int):∀ W:List Wt,z3I v' h (slW v a f W)=z3I v' h W
 | []=>rfl
 | x :: W=>by
  have hs:=z4q v a f x
  show (if (slX v a f x).v=v'/\h<(slX v a f x).hei then (slX v a f x).amt else 0)+z3I v' h (slW v a f W)=(if x.v=v'/\h<x.hei then x.amt else 0)+z3I v' h W
  rw[hs.1,hs.2.2.2.1,z9i b h a f W]
  by_cases q:x.v=v'/\h<x.hei
  ·rw[if_pos q,if_pos q]
   have:¬ q7I v a x=true:=by
    unfold q7I;simp only[Bool.and_eq_true,decide_eq_true_eq];rintro⟨r,-⟩;exact b (q.1.symm.trans r)
   unfold slX;rw[if_neg this]
  ·rw[if_neg q,if_neg q]
theorem j5c{s:St}(d:z0k s=true){n:Nat}(g:n<6)(a h:Int):VM h s (z8x s n a):=by
 have f:=(z0h s).1 d
 have hp:∀ u∈s.W,0<=ptN u.amt 50:=fun u hu=>by
  have:=(z2N f.2.2.2.2.1 u hu).2.2.2.2.1;exact (j2i (by omega) (by omega)).2.1
 intro v i;unfold j3Z
 by_cases e:v=n
 ·subst e
  have b:(z8x s v a).V v={ z7l (s.V v) (ptN (s.V v).tok 50) (slN v a 50 s.W) with jail:=true,dead:=true }:=by
   unfold z8x z5m z1Y z1Q
   simp
  have c:(z8x s v a).W=slW v a 50 s.W:=rfl;rw[b,c];have:=(z8Z v h a 50 s.W hp).1
  show _<=(s.V v).tok - ptN (s.V v).tok 50+((s.V v).lost+(ptN (s.V v).tok 50+slN v a 50 s.W))+_
  omega
 ·have b:(z8x s n a).V v=s.V v:=by
   unfold z8x z5m z1Y z1Q
   simp[e]
  have c:(z8x s n a).W=slW n a 50 s.W:=rfl;rw[b,c,z9i (by omega)]
  exact Int.le_refl _
theorem j0w(s:St)(n:Nat)(j d:Bool)(h:Int):VM h s (z5m s n j d):=fun v _=>by
 have e:((z5m s n j d).V v).tok=(s.V v).tok/\((z5m s n j d).V v).lost=(s.V v).lost:=by
  unfold z5m z1Q;dsimp only
  split
  ·rename_i q;rw[q];exact⟨rfl,rfl⟩
  ·exact⟨rfl,rfl⟩
 unfold j3Z;rw[e.1,e.2];exact Int.le_refl _
theorem y2Q(s:St){W:List Wt}{h:Int}(a:∀ v:Nat,z3I v h W=z3I v h s.W):VM h s { s with W:=W }:=fun v _=>by
 unfold j3Z;rw[a v];exact Int.le_refl _
theorem j4Y(s:St)(c:Nat)(r h:Int):VM h s { s with W:=z4X c r s.W }:=y2Q s fun v=>q0i v h (fun u=>⟨(z3M c r u).2.1,(z3M c r u).1,(z3M c r u).2.2.1⟩) s.W
theorem j7S(s:St)(c:Nat)(a h:Int):VM h s { s with W:=s.W.map (z0V c a) }:=y2Q s fun v=>q0i v h (fun u=>by unfold z0V;(repeat' split) <;> exact⟨rfl,rfl,rfl⟩) s.W
theorem y0k(s:St)(now h:Int)(b:0<=h){i:Nat}(a:Hw i h s.W):VM h s (z5K s now):=fun v _=>by
 unfold j3Z z5K z1x;dsimp only;rw[q1M v h s.W fun u hu hm=>?_]
 ·exact Int.le_refl _
 ·have:=a u hu hm;unfold z5N;unfold z1M at this
  by_cases q:i=0
  ·rw[if_pos q]at this;rw[decide_eq_false (p:=u.h0=0/\u.h1=0) (by omega)]
   simp
  ·rw[if_neg q]at this;rw[decide_eq_false (p:=u.h0=0/\u.h1=0) (by omega)]
   simp
theorem j6V{p:Pr}(a:z0k p.s=true)(c:Nat){x:Pkt}(b:j5l x)(h:Int):VM h p.s (z1y p c x).1.s:=by
 unfold z1y
 split
 ·exact j4Y _ _ _ _
 ·split
  ·rename_i h4;have d:=b.2 (.inr h4)
   split
   ·exact VM.refl _ _
   ·exact j5c a (by omega) _ _
  ·split
   ·exact VM.refl _ _
   ·split
    ·exact VM.refl _ _
    ·exact j0w _ _ _ _ _
theorem q5c(h:Int):∀ (l:List (Int×Pkt)) (z:QS),(∀ a∈l,j5l a.2)->q8x z.p->VM h z.p.s (l.foldl z1n z).p.s
 | [],_,_,_=>VM.refl _ _
 | a :: l,z,ho,k=>by
  rw[List.foldl_cons]
  have h1:q8x (z1n z a).p/\VM h z.p.s (z1n z a).p.s:=by
   unfold z1n
   split
   ·exact⟨k,VM.refl _ _⟩
   ·split
    ·exact⟨q0H k _ (ho a List.mem_cons_self),j6V k.1 _ (ho a List.mem_cons_self) h⟩
    ·exact⟨k,VM.refl _ _⟩
  exact h1.2.trans (q5c h l _ (fun b hb=>ho b (List.mem_cons_of_mem _ hb)) h1.1)
theorem j9A{s:St}{B:Bk}{d n:Nat}{t m h:Int}(a:0<=t):VM h s (z8S { s with b:=B } d n t m):=fun v _=>by
 have e:(s.V v).tok<=((z8S { s with b:=B } d n t m).V v).tok/\((z8S { s with b:=B } d n t m).V v).lost=(s.V v).lost:=by
  unfold z8S z1Q;dsimp only
  split
  ·rename_i q;rw[q];exact⟨by dsimp only;omega,rfl⟩
  ·exact⟨Int.le_refl _,rfl⟩
 show (s.V v).tok+(s.V v).lost+z3I v h s.W<=_+_+z3I v h s.W
 rw[e.2];omega
theorem j4e(s:St)(d v n h:Int):VM h s (z0Q s d v n).1:=by
 unfold z0Q
 repeat' split
 all_goals first | exact VM.refl _ _ | skip
 rename_i q _ _;exact j9A (by simp only[Bool.and_eq_true,decide_eq_true_eq]at q;omega)
theorem q9B(s:St)(v h:Int):VM h s (z1s s v).1:=by
 unfold z1s
 repeat' split
 all_goals first | exact VM.refl _ _ | exact j0w _ _ _ _ _
theorem j2u(s:St)(d v n:Int)(y:Wt){h:Int}(a:h<y.hei):VM h s (z0N s d v n y).1:=by
 unfold z0N
 repeat' split
 all_goals first | exact VM.refl _ _ | skip
 rename_i hr _ _ _ _ _
 have c:0<=v/\v<6:=by
  unfold z0Z at hr
  split at hr
  ·rename_i q;exact (z3W q).2
  ·exact absurd hr ‹_›
 generalize woN (s.V v.toNat) n=wo;intro k f
 show (s.V k).tok+(s.V k).lost+z3I k h s.W<=((z8S { s with b:=_ } d.toNat v.toNat (-wo) (-n)).V k).tok+((z8S { s with b:=_ } d.toNat v.toNat (-wo) (-n)).V k).lost+z3I k h (s.W ++ [_])
 rw[q4D];unfold z8S z1Q;dsimp only
 by_cases e:k=v.toNat
 ·rw[if_pos e,if_pos ⟨by omega,a⟩,<- e]
  dsimp only;omega
 ·rw[if_neg e,if_neg (fun q=>e (by omega))]
  omega
theorem y1L(x:Wo)(d:Dd){h:Int}(a:z0k x.p.s=true)(b:h<=x.p.h):VM h x.p.s (atP x d).1.p.s:=by
 unfold atP
 split
 ·dsimp only;unfold z1T
  split
  ·exact j4e _ _ _ _ _
  ·exact VM.refl _ _
 ·split
  ·dsimp only;unfold z1f
   repeat' split
   all_goals first | exact VM.refl _ _ | exact j2u _ _ _ _ _ (by show h<x.p.h+1;omega)
  ·split
   ·exact q9B _ _ _
   ·dsimp only;unfold z3R
    repeat' split
    all_goals first | exact VM.refl _ _ | skip
    rename_i hv _ _;exact j5c a (by have:=z3p.1 hv;omega) _ _
theorem y0o{p:Pr}{now h:Int}(b:z0o p=true/\isT now=true/\p.t<=now)(c:0<=h){i:Nat}(d:Hw i h (goQ (z0y p now)).p.s.W):VM h p.s (endP p now).1.s:=by
 rw[(z3a b).s];exact (q5c h p.q ⟨z0y p now,fun _=>false,[]⟩ (fun a e=>(q0G b.1 a e).2) (z9Z b.1 now)).trans (y0k _ now h c d)
theorem j3N(x:Wo)(c h:Int):VM h x.p.s (z1X x c).1.p.s:=by
 unfold z1X
 split
 ·split
  ·dsimp only;unfold z0x
   repeat' split
   all_goals first | exact VM.refl _ _ | exact j7S _ _ _ _
  ·exact VM.refl _ _
 ·exact VM.refl _ _
theorem j7a(x:Wo)(j:Nat)(d:Dd)(h:Int):VM h x.p.s (z2c x j d).1.p.s:=by
 have hp:∀ (y:Wo) (b:Bool) (l:Ln.Line),(z1j y j b l).p.s=y.p.s:=fun y b l=>by cases b <;> rfl
 have a:∀ (b:Bool) (s:ByteArray),(z1B x j b s).1.p.s=x.p.s:=fun b s=>by
  cases b
  ·rfl
  ·show (z2z x.p j (Cd.bs s)).1.s=_
   rw[(z5i _ _ _).1]
 unfold z2c
 split
 ·dsimp only;unfold z3T
  split <;> exact VM.refl _ _
 ·split
  ·dsimp only;unfold z3H
   split <;> exact VM.refl _ _
  ·split
   ·unfold z7s
    split
    ·split
     ·dsimp only;rw[hp,a];exact VM.refl _ _
     ·dsimp only;rw[a];exact VM.refl _ _
    ·exact VM.refl _ _
   ·split
    ·dsimp only;unfold z6I
     split
     ·have q1:=hp x d.b (Ln.z4N (z0Y x j d.b) d.n (z5A x j d.b) (q2x x j d.b));generalize z1j x j d.b (Ln.z4N (z0Y x j d.b) d.n (z5A x j d.b) (q2x x j d.b))=y at *
      show VM h x.p.s (z0j y.p j).s
      rw[<- q1];unfold z0j
      split
      ·exact j4Y _ _ _ _
      ·exact VM.refl _ _
     ·exact VM.refl _ _
    ·dsimp only;unfold z9d
     split <;> exact VM.refl _ _
theorem y2w{x:Wo}{d:Dd}{h:Int}(b:Inv x)(l:HW x)(R:∀ i,i<2->(x.c i).on=true->RI x i)(h0:0<=h)(h1:h<=x.p.h)(hc:(doW x d).1.p.h=x.p.h∨∃ i,i<2/\(x.c i).on=true/\(x.c i).id<=h):VM h x.p.s (doW x d).1.p.s:=by
 have f:z0o x.p=true/\isT x.ck=true/\x.p.t<=x.ck:=⟨(z6o _).2 b.gp,(z9X _).2 ⟨b.k0,by have:=b.k1;omega⟩,b.pt⟩
 unfold doW at hc ⊢
 split
 ·exact VM.refl _ _
 ·rename_i hn;rw[if_neg hn]at hc;dsimp only at hc ⊢;unfold z2J at hc ⊢
  split
  ·exact y1L (z2n x) d b.gp.s h1
  ·rename_i q1;rw[if_neg q1]at hc
   split
   ·unfold z4z
    split <;> exact VM.refl _ _
   ·rename_i q2;rw[if_neg q2]at hc
    split
    ·rename_i q3;rw[if_pos q3]at hc;unfold z3F at hc ⊢
     split
     ·rename_i q4;rw[if_pos q4]at hc
      rcases hc with e | ⟨i,g,k,hid⟩
      ·have:=(z3a f).h;have o:(endP x.p x.ck).1.h=x.p.h:=e;omega
      ·exact y0o f h0 (Hw.up (q0a g x.p.q ⟨z0y x.p x.ck,fun _=>false,[]⟩ (fun a j=>⟨⟨(b.gp.q a j).c0,(b.gp.q a j).c1⟩,fun m n=>y2P (R i g k) j m n⟩) (l.held i g k)) hid)
     ·exact VM.refl _ _
    ·split
     ·exact j3N (z2n x) _ _
     ·split
      ·split
       ·exact j7a (z2n x) _ _ _
       ·exact VM.refl _ _
      ·exact VM.refl _ _
end Wd
namespace Wd
open Go.RowKit Pv Kc Go.Maps
theorem q1h(v h:Int):∀ (W:List Wt) (j:Nat) (u:Wt),W[j]?=some u->z3I v h (W.take (j+1))=z3I v h (W.take j)+if u.v=v/\h<u.hei then u.amt else 0
 | [],_,_,e=>by cases e
 | x :: W,0,u,e=>by
  cases e
  show _+z3I v h []=z3I v h [] + _
  exact Int.add_comm _ _
 | x :: W,j+1,u,e=>by
  show _+z3I v h (W.take (j+1))=_+z3I v h (W.take j)+_
  rw[q1h v h W j u e,Int.add_assoc]
theorem j1t(v h:Int):∀ (W:List Wt),(∀ u∈W,0<=u.amt/\u.amt<=1125899906842624)->0<=z3I v h W/\z3I v h W<=W.length * 1125899906842624
 | [],_=>⟨Int.le_refl _,Int.le_refl _⟩
 | x :: W,hp=>by
  have a:=j1t v h W fun u hu=>hp u (List.mem_cons_of_mem _ hu);have:=hp x List.mem_cons_self
  show 0<=(if _ then x.amt else 0)+_/\(if _ then x.amt else 0)+_<=((W.length+1:Nat):Int) * _
  split <;> omega
theorem j2r{w:World}{b:Nat}{p:Pr}{v:PrV}(h:CAt 58 w b (prC p v)){k:Nat}(a:k<6):w.cell? ⟨b,9+k * 5,none⟩=some (J I (p.s.V k).tok)/\w.cell? ⟨b,9+k * 5+2,none⟩=some (J I (p.s.V k).lost):=by
 rcases (show k=0∨k=1∨k=2∨k=3∨k=4∨k=5 by omega) with rfl | rfl | rfl | rfl | rfl | rfl <;> exact⟨h.cell _,h.cell _⟩
def TB(B g mb gp n:Nat)(D:DataW Value)(H:Int->Nat->Int)(h:Int)(w:World)(x:Wo)(vp:PrV)(wl:World):Prop:=PLk w.heap.size wl gp x.p vp/\BM mb n D H h wl/\StW B g x wl/\z5n (·=mb) w wl
theorem TB.over{B g mb gp n:Nat}{D:DataW Value}{H:Int->Nat->Int}{h:Int}{w:World}{x:Wo}{vp:PrV}{wl w':World}(t:TB B g mb gp n D H h w x vp wl)(hb:Bl wl w'):TB B g mb gp n D H h w x vp w':=⟨t.1.over hb,t.2.1.over hb,t.2.2.1.over hb,t.2.2.2.trans (z5n.of hb)⟩
def y1l(V:Nat->Vd):Nat->Nat->Int
 | 0=>fun _=>0
 | k+1=>fun v=>if v=k then (V k).lost else y1l V k v
theorem j3X{w:World}{b k:Nat}{f:Nat->Int}(h:CAt 39 w b (laC f))(a:k<6):w.cell? ⟨b,k,none⟩=some (J I (f k)):=by
 rcases (show k=0∨k=1∨k=2∨k=3∨k=4∨k=5 by omega) with rfl | rfl | rfl | rfl | rfl | rfl <;> exact h.cell _
theorem j3R{w:World}{b k:Nat}{V:Nat->Vd}(h:CAt 39 w b (laC (y1l V k)))(a:k<6):CAt 39 (w.setCell ⟨b,k,none⟩ (J I (V k).lost)) b (laC (y1l V (k+1))):=by
 have c:=h.set k (J I (V k).lost)
 rcases (show k=0∨k=1∨k=2∨k=3∨k=4∨k=5 by omega) with rfl | rfl | rfl | rfl | rfl | rfl <;> exact c
noncomputable def y3n:Code:=q3H [1,1,1] (f17.body.getD .skip)
attribute [local go_sem ↓] z0T z0F z2f z1J q1v
set_option maxRecDepth 1000000 in
theorem q7G(B g mb gp n:Nat)(D:DataW Value)(H:Int->Nat->Int)(x:Wo)(vp:PrV)(w wt:World)(HT:Hid (TB B g mb gp n D H x.p.h w x vp wt))(M:Nat)(f5:n<=M)(hi:∀ i,i<2->(x.c i).on=true->1<=(x.c i).id/\(x.c i).id<=x.p.h/\∀ y∈(x.c i).set,∃ v,v<6/\y.1=((v:Nat):Int)/\y.2 * 100<=(x.p.s.V v).tok+(x.p.s.V v).lost - H (x.c i).id v+z3I v (x.c i).id x.p.s.W)
  {v1 v2 v4 v5 v6 v7 v9 f6 f7 f8 f9 g0 g1 g2 g3 g5 g6 g8 g9 h4 h5 h6 h7 h8 h9 i5 i6 i7 i8 i9 j0 j1 j2 j3 j4 j5 j6 j7 j8 j9 k2 k3 k4 k5 k6 k7 k8 k9 l0 l1 l2 l3 l4 l5 l6 l7 l8 l9 m0 m1 m2 m3 m4 m5 m6 m7 m8 m9 n2 n3 n4 n5 n6 n7 n8 n9 o0 o1 o2 o3 o4 o5 o6 o7 o8 o9 p9 q4 q5 q6 q7 q8 q9 r0 r3 r4 r5 X Y Z a0 a7 a8 a9 b4 b6 b7 b8 c4 c6 c7 c8 c9 d8 d9 e0:Value}:Code.wp prog y3n (bodyPost prog f17 fun e w'=>e=.returned (J3 true)/\(∃ n' D',n'<=M/\BM mb n' D' H x.p.h w')/\StW B g x w'/\z5n (·=mb) w w') ⟨List.toArray ((J2 (some ⟨g,0,none⟩)) :: v1 :: v2 :: (J2 (some ⟨mb+1,0,none⟩)) :: v4 :: v5 :: v6 :: v7 :: (J2 (some ⟨gp,0,none⟩)) :: v9 :: f6 :: f7 :: f8 :: f9 :: g0 :: g1 :: g2 :: g3 :: g5 :: g6 :: g8 :: g9 :: h4 :: h5 :: h6 :: h7 :: h8 :: h9 :: i5 :: i6 :: i7 :: i8 :: i9 :: j0 :: j1 :: j2 :: j3 :: j4 :: j5 :: j6 :: j7 :: j8 :: j9 :: k2 :: k3 :: k4 :: k5 :: k6 :: k7 :: k8 :: k9 :: l0 :: l1 :: l2 :: l3 :: l4 :: l5 :: l6 :: l7 :: l8 :: l9 :: m0 :: m1 :: m2 :: m3 :: m4 :: m5 :: m6 :: m7 :: m8 :: m9 :: n2 :: n3 :: n4 :: n5 :: n6 :: n7 :: n8 :: n9 :: o0 :: o1 :: o2 :: o3 :: o4 :: o5 :: o6 :: o7 :: o8 :: o9 :: p9 :: q4 :: q5 :: q6 :: q7 :: q8 :: q9 :: r0 :: r3 :: r4 :: r5 :: X :: Y :: Z :: a0 :: a7 :: a8 :: a9 :: b4 :: b6 :: b7 :: b8 :: c4 :: c6 :: c7 :: c8 :: c9 :: d8 :: d9 :: e0 :: []),[]⟩ wt:=by
 conv=>arg 2;whnf
 have HI:=J6 hi;have s8:x.p.h<=1099511627775:=HT.out.2.2.1.inv.gp.h1;have L:=HT.out.2.2.1.inv.gp.s;have e2:∀ u∈x.p.s.W,0<=u.amt/\u.amt<=1125899906842624:=fun u hu=>(z2N ((z0h _).1 L).2.2.2.2.1 u hu).2.2.2.2.1;have s9:x.p.s.W.length<=60:=((z0h _).1 L).2.2.2.1;have HV:=J6 (show _/\_ from⟨((z0h _).1 L).2.2.2.2.2.1,e2⟩);clear hi L e2
 go_upto_region 12 with fail
 go_loopw [14] (fun i wl=>∃ (k:Nat),k<=2/\i=.int .i64 (k:Int)/\Hid (TB B g mb gp n D H x.p.h w x vp wl)) (fun i _=>2 - (intOf i).toNat)
 case atStart=>exact⟨0,by omega,rfl,HT⟩
 case round =>
  obtain⟨k,hk,rfl,t⟩:=hrel;clear HT
  by_cases R:k<2
  ·have t2:(k:Int)<2:=by omega
   have hk0:(0:Int)<=(k:Int):=by omega
   have e3:=J6 (z6e B g x wr k R t.out.2.2.1)
   go_upto_region 15 with (go_at_call 13;refine e3.out.mono ?_;rintro e w3⟨vc,rfl,I3,b3⟩;have s3:=z9L I3;unfold Z22 at s3;have e4:=b3.trans ((z8Y w3 (x.c k) vc).mono b3.size);have a:=J6 (show _/\_ from⟨t.out.over e4,CLk.mk (n:=w.heap.size) (j7p w3 (x.c k) vc) I3 (z8Y w3 (x.c k) vc) (by have:=t.out.2.2.2.size;omega) (by have:=t.out.2.2.2.size;have:=b3.size;omega)⟩);clear I3 b3 e4)
   clear s3 e3 t;generalize y1r w3 (x.c k) vc=w4 at *;generalize w3.heap.size=gx at *;have r6:=a.out.2.lt;have c0:w4.cell? ⟨gx,0,none⟩=some (J3 (x.c k).on):=a.out.2.1.cell 0;cases N:(x.c k).on
   ·rw[N]at c0;go_wp2;exact⟨⟨k+1,by omega,by go_num,J6 a.out.1⟩,by simp[intOf];omega⟩
   ·rw[N]at c0;obtain⟨i2,i3,i4⟩:=HI.out k R N;have r7:=J6 i4;clear i4 N;have e5:=J6 (fun (wx:World) (hb:Bl w4 wx)=>q8h a.out.2.2.1.set hb);obtain⟨A,C,eA,t3,-⟩:=e5.out w4 (Below.refl _ _);have c5:w4.cell? ⟨gx,5,none⟩=some vc.set:=a.out.2.1.cell 5;rw[eA]at c5
    go_upto_region 17 with fail
    clear c0 c5 r6
    go_loopw [61] (fun i wl=>∃ (m:Nat),m<=(x.c k).set.length/\i=.int .i64 (m:Int)/\Hid (Bl w4 wl)) (fun i _=>(x.c k).set.length - (intOf i).toNat)
    case atStart=>exact⟨0,Nat.zero_le _,rfl,Below.refl _ _⟩
    case round =>
     obtain⟨m,hm,rfl,HB⟩:=hrel
     by_cases F:m<(x.c k).set.length
     ·have r8:(m:Int)<((x.c k).set.length:Int):=by omega
      have t4:(0:Int)<=(m:Int):=by omega
      obtain⟨A',C',e6,-,f⟩:=e5.out wr HB.out;rw[eA]at e6;cases e6;obtain⟨bs,os,rfl,c0,c1⟩:=f m F;obtain⟨v,hv,e1,hy⟩:=r7.out ((x.c k).set.getD m (0,0)) (by rw[List.getD_eq_getElem?_getD,List.getElem?_eq_getElem F];exact List.getElem_mem F)
      have P:=z2R _ _ (a.out.1.2.2.1.inv.gc k R).set ((x.c k).set.getD m (0,0)) (by rw[List.getD_eq_getElem?_getD,List.getElem?_eq_getElem F];exact List.getElem_mem F)
      replace P:=P.2.2;rw[e1]at c0;clear e1 f eA;generalize ((x.c k).set.getD m (0,0)).2=y1 at *;have R9:CAt 65 (wr.alloc (J5 #[.int .i64 (v:Int),.int .i64 y1] 65)) wr.heap.size #[.int .i64 (v:Int),.int .i64 y1]:=CAt.new _ wr _;have b9:Bl wr (wr.alloc (J5 #[.int .i64 (v:Int),.int .i64 y1] 65)):=znw wr _;have o:=J6 (show _/\_ from⟨zbt HB.out b9,R9⟩);clear R9 b9
      go_upto_region 19 with fail
      clear c0 c1;generalize wr.alloc (J5 #[.int .i64 (v:Int),.int .i64 y1] 65)=w9 at *;generalize r9:wr.heap.size=gy at *;clear r9;have Q:=(z1O _).1 (HV.out.1 v hv).1;have S:=a.out.1.2.1.bd (x.c k).id v hv;refine j6u (mb+1) mb gp gx gy v (x.p.s.V v).tok (x.p.s.V v).lost (x.c k).id (H (x.c k).id) w9 hv Q.1 Q.2.2.1 S (fun wx hb=>?_) (fun wz hb=>?_)
      ·have T:=a.out.1.over (zbt o.out.1 hb);have T2:=a.out.2.over (zbt o.out.1 hb);have q:=j2r T.1.1 hv;exact⟨(o.out.2.over hb).cell 0,q.1,q.2,T.2.1.cm.cell 0,T2.1.cell 4,T.2.1.at i2 i3 (by omega)⟩
      simp only[Exit.then];apply_assumption;have z:=J6 (show _/\_/\_/\_ from⟨zbt o.out.1 hb,o.out.2.over hb,a.out.1.over (zbt o.out.1 hb),a.out.2.over (zbt o.out.1 hb)⟩);have HF:=J6 (show _/\_/\_/\_ from⟨Q,S,hy,P⟩);clear o hb HB Q S hy P;obtain⟨Aw,Cw,bw,ow,s0,Ws,-,-⟩:=z.out.2.2.1.1.2.1.ws.q0q;have e7:=J6 Ws;have e8:wz.cell? ⟨gp,63,none⟩=some vp.ws:=z.out.2.2.1.1.1.cell 63;rw[s0]at e8;have zp:=z.out.2.2.1.1.lt;clear Ws
      go_upto_region 21 with fail
      clear e8 zp;obtain⟨K,U⟩:∃ K,K=(x.p.s.V v).tok+(x.p.s.V v).lost - H (x.c k).id v:=⟨_,rfl⟩;rw[<- U];have e9:=J6 U;clear U
      go_loopw [92,18] (fun i y wl=>∃ (j:Nat),j<=x.p.s.W.length/\i=.int .i64 (j:Int)/\y=.int .i64 (K+z3I v (x.c k).id (x.p.s.W.take j))/\Hid (Bl wz wl)) (fun i _ _=>x.p.s.W.length - (intOf i).toNat)
      case atStart=>exact⟨0,Nat.zero_le _,rfl,by show _=Value.int .i64 (K+0);rw[Int.add_zero],Below.refl _ _⟩
      case round =>
       obtain⟨j,hj,rfl,rfl,G⟩:=hrel;have s2:=j1t v (x.c k).id (x.p.s.W.take j) fun u hu=>HV.out.2 u (List.mem_of_mem_take hu);have t5:(x.p.s.W.take j).length<=60:=by rw[List.length_take];omega
       have t6:-1125899906842624<=K/\K<=2251799813685248:=by have:=HF.out;have:=e9.out;omega
       by_cases s4:j<x.p.s.W.length
       ·have s5:(j:Int)<(x.p.s.W.length:Int):=by omega
        have t7:(0:Int)<=(j:Int):=by omega
        obtain⟨u,hu,-⟩:=drop_at s4;have l:=q1h v (x.c k).id _ _ _ hu;have t8:=HV.out.2 u (List.mem_of_getElem? hu);obtain⟨d0,d1,d2,d3,d4,d5,d6,d7⟩:=(e7.out.over G.out).cell j u hu;have s6:=e7.out.adr (by omega)
        subst s6;have R5:CAt 63 (wr.alloc (J5 #[.int .i64 u.num,.int .i64 u.d,.int .i64 u.v,.int .i64 u.amt,.int .i64 u.hei,.int .i64 u.due,.int .i64 u.h0,.int .i64 u.h1] 63)) wr.heap.size #[.int .i64 u.num,.int .i64 u.d,.int .i64 u.v,.int .i64 u.amt,.int .i64 u.hei,.int .i64 u.due,.int .i64 u.h0,.int .i64 u.h1]:=CAt.new _ wr _;have b5:Bl wr (wr.alloc (J5 #[.int .i64 u.num,.int .i64 u.d,.int .i64 u.v,.int .i64 u.amt,.int .i64 u.hei,.int .i64 u.due,.int .i64 u.h0,.int .i64 u.h1] 63)):=znw wr _;have b:=J6 (show _/\_ from⟨zbt G.out b5,R5⟩);clear R5 b5
        go_upto_region 23 with fail
        clear d0 d1 d2 d3 d4 d5 d6 d7;generalize wr.alloc (J5 #[.int .i64 u.num,.int .i64 u.d,.int .i64 u.v,.int .i64 u.amt,.int .i64 u.hei,.int .i64 u.due,.int .i64 u.h0,.int .i64 u.h1] 63)=w5 at *;generalize s7:wr.heap.size=gu at *;clear s7;have a2:w5.cell? ⟨gu,2,none⟩=some (.int .i64 u.v):=b.out.2.cell 2;have a3:w5.cell? ⟨gu,3,none⟩=some (.int .i64 u.amt):=b.out.2.cell 3;have a4:w5.cell? ⟨gu,4,none⟩=some (.int .i64 u.hei):=b.out.2.cell 4;have a5:w5.cell? ⟨gy,0,none⟩=some (.int .i64 (v:Int)):=(z.out.2.1.over b.out.1).cell 0;have a6:w5.cell? ⟨gx,4,none⟩=some (.int .i64 (x.c k).id):=(z.out.2.2.2.1.over b.out.1).cell 4;have z1:=b.out.2.lt;have z2:=(z.out.2.1.over b.out.1).lt;have z3:=(z.out.2.2.2.1.over b.out.1).lt;have E:=J6 b.out.1;clear b;generalize z3I v (x.c k).id (x.p.s.W.take j)=s1 at *
        by_cases q1:u.v=(v:Int)
        ·by_cases q2:(x.c k).id<u.hei
         ·rw[if_pos ⟨q1,q2⟩]at l;have r:=J6 l;rw[q1]at a2;have t9:IntKind.i64.wrap (K+s1+u.amt)=K+s1+u.amt:=z5z (by omega) (by omega)
          clear l;go_wp2
          first | exact⟨⟨j+1,by omega,by go_num,by rw[r.out,Int.add_assoc],E⟩,by simp[intOf];omega⟩ | ((repeat apply Exists.intro);exact⟨⟨j+1,by omega,by go_num,by rw[r.out,Int.add_assoc],E⟩,rfl⟩)
         ·rw[if_neg (fun q=>q2 q.2),Int.add_zero]at l;have r:=J6 l;rw[q1]at a2;clear l;go_wp2
          first | exact⟨⟨j+1,by omega,by go_num,by rw[r.out],E⟩,by simp[intOf];omega⟩ | ((repeat apply Exists.intro);exact⟨⟨j+1,by omega,by go_num,by rw[r.out],E⟩,rfl⟩)
        ·rw[if_neg (fun q=>q1 q.1),Int.add_zero]at l;have r:=J6 l;clear l;go_wp2
         first | exact⟨⟨j+1,by omega,by go_num,by rw[r.out],E⟩,by simp[intOf];omega⟩ | ((repeat apply Exists.intro);exact⟨⟨j+1,by omega,by go_num,by rw[r.out],E⟩,rfl⟩)
       ·have s5:¬ (j:Int)<(x.p.s.W.length:Int):=by omega
        rw[List.take_of_length_le (by omega)]at s2 ⊢
        have u0:y1 * 100<=K+z3I v (x.c k).id x.p.s.W:=by rw[e9.out];exact HF.out.2.2.1
        have a1:wr.cell? ⟨gy,1,none⟩=some (.int .i64 y1):=(z.out.2.1.over G.out).cell 1;have z1:=(z.out.2.1.over G.out).lt;have u3:IntKind.i64.wrap (y1 * 100)=y1 * 100:=z5z (by have:=HF.out.2.2.2;omega) (by have:=HF.out.2.2.2;omega)
        have hq:¬ K+z3I v (x.c k).id x.p.s.W<y1 * 100:=by omega
        have f4:=J6 (zbt z.out.1 G.out);generalize z3I v (x.c k).id x.p.s.W=s1 at *;go_wp2
        first | exact⟨⟨m+1,by omega,by go_num,f4⟩,by simp[intOf];omega⟩ | ((repeat apply Exists.intro);exact⟨⟨m+1,by omega,by go_num,f4⟩,rfl⟩)
     ·have r8:¬ (m:Int)<((x.c k).set.length:Int):=by omega
      have z:=J6 (a.out.1.over HB.out);go_wp2
      first | exact⟨⟨k+1,by omega,by go_num,z⟩,by simp[intOf];omega⟩ | ((repeat apply Exists.intro);exact⟨⟨k+1,by omega,by go_num,z⟩,rfl⟩)
  ·obtain rfl:k=2:=by omega
   go_wp2;go_ret;exact⟨rfl,⟨n,D,f5,t.out.2.1⟩,t.out.2.2⟩
set_option maxRecDepth 1000000 in
theorem q2o(B g mb n:Nat)(D:DataW Value)(x:Wo)(H:Int->Nat->Int)(hm:Int)(d:Dd)(rc Z:Int)(w:World)(h:StW B g x w)(hB:mb+1<B)(a4:g<w.heap.size)(hn:n<1000)(hM:BM mb n D H hm w)(hh:x.p.h=hm∨(hm<x.p.h/\(x.p.h<=hm+1∨x.p.h<=1)))(E:Int->Nat->Int)(eH:E=if x.p.h=hm then H else j8K H x.p.h (fun v=>(x.p.s.V v).lost))
  (hi:∀ i,i<2->(x.c i).on=true->1<=(x.c i).id/\(x.c i).id<=x.p.h/\∀ y∈(x.c i).set,∃ v,v<6/\y.1=((v:Nat):Int)/\y.2 * 100<=(x.p.s.V v).tok+(x.p.s.V v).lost - E (x.c i).id v+z3I v (x.c i).id x.p.s.W) :
  Calls prog 17 #[J2 (some ⟨g,0,none⟩),J4 (ddC d),J4 #[.int .i64 rc,.int .i64 Z],J2 (some ⟨mb+1,0,none⟩)] w fun e w'=>e=.returned (J3 true)/\(∃ n' D',n'<=n+1/\BM mb n' D' E x.p.h w')/\StW B g x w'/\z5n (·=mb) w w':=by
 have HP:=J6 (fun (Y:World) (hb:Bl w Y)=>z8g B g x Y (h.over hb));have N:=J6 h;have P:=J6 hM;have HI:=J6 hi;have a5:=h.le;have a7:0<=x.p.h/\x.p.h<=1099511627775:=⟨h.inv.gp.h0,h.inv.gp.h1⟩;have r:Hid (Bl w ((w.alloc (J5 (ddC d) 28)).alloc (J5 #[.int .i64 rc,.int .i64 Z] 31))):=(znw w _).alloc (by simp) _
 have a8:mb+1<w.heap.size:=by omega
 have F:=J6 eH;have HV:=J6 (fun v (hv:v<6)=>((z1O _).1 (((z0h _).1 h.inv.gp.s).2.2.2.2.2.1 v hv).1).2.2.1);clear h hM hi eH
 go_enter func17,ntmps17
 go_upto_region 1 with fail
 generalize (w.alloc (J5 (ddC d) 28)).alloc (J5 #[.int .i64 rc,.int .i64 Z] 31)=w0 at *
 go_upto_region 2 with (go_at_call 11;refine (HP.out _ r.out).mono ?_;rintro e w1⟨vp,rfl,I1,b1⟩;have s1:=z6G I1;have bb1:=b1.trans ((z5f w1 x.p vp).mono b1.size);have u:=zbt r.out bb1;have m:Hid (TB B g mb w1.heap.size n D H hm w x vp (j8J w1 x.p vp)):=⟨PLk.mk (q9x w1 x.p vp) I1 (z5f w1 x.p vp) (by have:=r.out.size;omega) (by have:=r.out.size;have:=b1.size;omega),P.out.over u,N.out.over u,z5n.of u⟩;clear I1 b1 bb1 u)
 clear s1 HP r P N;generalize j8J w1 x.p vp=w2 at *;generalize w1.heap.size=gp at *;have m0:w2.cell? ⟨mb+1,0,none⟩=some (.map (some mb)):=m.out.2.1.cm.cell 0;have p0:w2.cell? ⟨gp,0,none⟩=some (.int .i64 x.p.h):=m.out.1.1.cell 0;have zp:=m.out.1.lt;have zm:=m.out.2.1.cm.lt;obtain⟨f,z⟩:=m.out.2.1.look (k:=x.p.h) (by omega) (by omega) (by omega)
 unfold laC at z;have G:Bl w2 (w2.alloc (J5 (laC f) 39)):=znw w2 _;have q:=J6 (m.out.over G);unfold laC at q
 by_cases hc:x.p.h=hm
 ·rw[decide_eq_true hc]at z;have Q:Hid (TB B g mb gp n D E x.p.h w x vp (w2.alloc (J5 #[.int .i64 (f 0),.int .i64 (f 1),.int .i64 (f 2),.int .i64 (f 3),.int .i64 (f 4),.int .i64 (f 5)] 39))):=by rw[F.out,if_pos hc,hc];exact q
  clear m q hc hh G
  go_upto_region 3 with fail
  generalize w2.alloc (J5 #[.int .i64 (f 0),.int .i64 (f 1),.int .i64 (f 2),.int .i64 (f 3),.int .i64 (f 4),.int .i64 (f 5)] 39)=w3 at *;apply z3u (fun w'=>w'=w3)
  ·refine wp_region_noPanic ?_;go_wp2;exact NoPanic.normal ⟨rfl,rfl,rfl⟩
  rintro w' rfl;simp only[Exit.then];apply_assumption;refine wp_cond_false rfl ?_;refine wp_skip ?_;simp only[Exit.then];apply_assumption;exact q7G B g mb gp n D E x vp w w' Q (n+1) (by omega) HI.out
 ·rw[decide_eq_false hc]at z;have R:=hh.resolve_left hc;have S:=J6 (F.out.trans (if_neg hc));clear m hc hh G F
  go_upto_region 3 with fail
  generalize w2.alloc (J5 #[.int .i64 (f 0),.int .i64 (f 1),.int .i64 (f 2),.int .i64 (f 3),.int .i64 (f 4),.int .i64 (f 5)] 39)=w3 at *;clear m0 p0 zp zm z;have z9:Bl w3 (w3.alloc (J5 (laC fun _=>0) 39)):=znw w3 _;have R9:CAt 39 (w3.alloc (J5 (laC fun _=>0) 39)) w3.heap.size (laC fun _=>0):=CAt.new _ w3 _;have o:=J6 (show _/\_/\_ from⟨q.out.over z9,R9,z9⟩);unfold laC at o;clear z9 R9
  go_upto_region 5 with fail
  generalize w3.alloc (J5 #[.int .i64 0,.int .i64 0,.int .i64 0,.int .i64 0,.int .i64 0,.int .i64 0] 39)=w4 at *;obtain⟨gn,K⟩:∃ gn,gn=w3.heap.size:=⟨_,rfl⟩;rw[<- K]at o ⊢;have L:=J6 K;clear K;obtain⟨-,-,l2,-⟩:=j6d o.out.1.1.1;have a0:=o.out.1.1.lt
  go_upto_region 6 with fail
  clear l2 a0
  go_loopw [35] (fun i wl=>∃ (k:Nat),k<=6/\i=.int .i64 (k:Int)/\Hid (Below gn w3 wl/\CAt 39 wl gn (laC (y1l x.p.s.V k)))) (fun i _=>6 - (intOf i).toNat)
  case atStart=>exact⟨0,by omega,rfl,L.out ▸ o.out.2.2,o.out.2.1⟩
  case round =>
   obtain⟨k,hk,rfl,j⟩:=hrel;clear o
   by_cases M:k<6
   ·have a9:(k:Int)<6:=by omega
    have hk0:(0:Int)<=(k:Int):=by omega
    have a1:=fun Y=>ixV Y x.p.s.V k M
    go_upto_region 8 with fail
    have b4:Below gn w3 (wr.alloc (J5 #[.int .i64 (x.p.s.V k).tok,.int .i64 (x.p.s.V k).sh,.int .i64 (x.p.s.V k).lost,J3 (x.p.s.V k).jail,J3 (x.p.s.V k).dead] 37)):=j.out.1.alloc (Nat.le_trans (by rw[L.out];exact Nat.le_refl _) j.out.1.size) _
    have R4:CAt 37 (wr.alloc (J5 #[.int .i64 (x.p.s.V k).tok,.int .i64 (x.p.s.V k).sh,.int .i64 (x.p.s.V k).lost,J3 (x.p.s.V k).jail,J3 (x.p.s.V k).dead] 37)) wr.heap.size #[.int .i64 (x.p.s.V k).tok,.int .i64 (x.p.s.V k).sh,.int .i64 (x.p.s.V k).lost,J3 (x.p.s.V k).jail,J3 (x.p.s.V k).dead]:=CAt.new _ wr _;have Q4:=j.out.2.alloc (J5 #[.int .i64 (x.p.s.V k).tok,.int .i64 (x.p.s.V k).sh,.int .i64 (x.p.s.V k).lost,J3 (x.p.s.V k).jail,J3 (x.p.s.V k).dead] 37);have A:=J6 (show _/\_/\_ from⟨b4,R4,Q4⟩);clear b4 R4 Q4 j a1;generalize wr.alloc (J5 #[.int .i64 (x.p.s.V k).tok,.int .i64 (x.p.s.V k).sh,.int .i64 (x.p.s.V k).lost,J3 (x.p.s.V k).jail,J3 (x.p.s.V k).dead] 37)=w5 at *;generalize a2:wr.heap.size=gv at *;clear a2;have x2:w5.cell? ⟨gv,2,none⟩=some (.int .i64 (x.p.s.V k).lost):=A.out.2.1.cell 2;have zv:=A.out.2.1.lt;have zn:=A.out.2.2.lt;have fk:=A.out.2.2.free k;have ck:=j3X A.out.2.2 M;have Q:Hid (Below gn w3 (w5.setCell ⟨gn,k,none⟩ (.int .i64 (x.p.s.V k).lost))/\CAt 39 (w5.setCell ⟨gn,k,none⟩ (.int .i64 (x.p.s.V k).lost)) gn (laC (y1l x.p.s.V (k+1)))):=⟨A.out.1.setCell (Nat.le_refl _) _,j3R A.out.2.2 M⟩;clear A;go_wp2;exact⟨⟨k+1,by omega,by go_num,Q⟩,by simp[intOf];omega⟩
   ·obtain rfl:k=6:=by omega
    have l:=J6 (q.out.over (L.out ▸ j.out.1));have m0:wr.cell? ⟨mb+1,0,none⟩=some (.map (some mb)):=l.out.2.1.cm.cell 0;have p0:wr.cell? ⟨gp,0,none⟩=some (.int .i64 x.p.h):=l.out.1.1.cell 0;have zp:=l.out.1.lt;have zm:=l.out.2.1.cm.lt;have T:=J6 l.out.2.1.own;have U:=j4B (a:=x.p.h) (by omega)
    have r0:wr.cell? ⟨gn,0,none⟩=some (.int .i64 (x.p.s.V 0).lost):=j.out.2.cell 0;have r1:wr.cell? ⟨gn,0+1,none⟩=some (.int .i64 (x.p.s.V 1).lost):=j.out.2.cell 1;have r2:wr.cell? ⟨gn,0+2,none⟩=some (.int .i64 (x.p.s.V 2).lost):=j.out.2.cell 2;have r3:wr.cell? ⟨gn,0+3,none⟩=some (.int .i64 (x.p.s.V 3).lost):=j.out.2.cell 3;have r4:wr.cell? ⟨gn,0+4,none⟩=some (.int .i64 (x.p.s.V 4).lost):=j.out.2.cell 4;have r5:wr.cell? ⟨gn,0+5,none⟩=some (.int .i64 (x.p.s.V 5).lost):=j.out.2.cell 5;have zn:=j.out.2.lt;clear q j
    go_upto_region 10 with fail
    apply z3u (fun w'=>w'.ownsMap prog 3 rdM mb (n+1) (D.put (.int .i64 x.p.h) (.held (J4 (laC fun v=>(x.p.s.V v).lost))))/\Alt mb wr w')
    ·refine wp_region_noPanic ?_
     go_wp2_with (at_mapUpdate;refine wpList_mapUpdate_own _ rfl _ _ _ 88 rfl 3 39 (int_keyed underlying3) underlying88 rdM mb n D rfl T.out (by unfold maxLen;omega) _ _ (.int .i64 x.p.h) rfl rfl U (.held (J4 (laC fun v=>(x.p.s.V v).lost))) [] rfl ?_;intro w6 t C;have a3:=J6 (show _/\_ from⟨t,y2D C⟩);clear t C)
     exact NoPanic.normal ⟨rfl,rfl,a3.out⟩
    rintro w6⟨o6,X⟩;have Q:Hid (TB B g mb gp (n+1) (D.put (.int .i64 x.p.h) (.held (J4 (laC fun v=>(x.p.s.V v).lost)))) E x.p.h w x vp w6):=⟨l.out.1.alt X (by omega),by rw[S.out];exact l.out.2.1.put R.1 R.2 HV.out o6 X,l.out.2.2.1.keep fun b hb hl=>X.block b hl (by omega),l.out.2.2.2.trans (z5n.alt X rfl)⟩
    clear l o6 X T
    repeat (first | (simp only[Exit.then];done) | (simp only[Exit.then];apply_assumption))
    exact q7G B g mb gp (n+1) _ E x vp w w6 Q (n+1) (Nat.le_refl _) HI.out
end Wd
namespace Wd
open Go.RowKit Pv Kc
theorem z7p.j9L{w w':World}{A:Option Addr}{b off c:Nat}{l:List Dd}(h:z7p w A b off l)(e:Alt c w w')(hb:0<l.length->b≠c):z7p w' A b off l:=by
 refine⟨h.adr,h.len,fun i x d j v f=>?_⟩;have h0:0<l.length:=by have:=(List.getElem?_eq_some_iff.1 d).1;omega
 rw[<- h.cell i x d j v f];exact World.cell?_of_block (w:=w) (a:=⟨b,off+i * 7+j,none⟩) (e.block b (h.lt h0) (hb h0))
attribute [local go_sem ↓] z8i
theorem y3d(A:Option Addr)(C b off:Nat)(S:Array Value)(l:List Dd)(w:World)(o:Nat->Nat->Nat->World->Prop)(t:z7p w A b off l)
  (T:∀ B g k U,o B g k U->z7p U A b off l)
  (h0:∀ g w1 p,Bl w w1->StW w1.heap.size g z8y p->Bl w p->o w1.heap.size g 0 p)
  (V:∀ B g k d wr c j,k<120->o B g k wr->w.heap.size<=B->l[k]?=some d->StW B g (stW l k) wr->StW B g (stW l (k+1)) j->Alt g wr c->Bl c j ->
   Calls prog 17 (#[J2 (some ⟨g,0,none⟩),J4 (ddC d),J4 #[.int .i64 (doW (stW l k) d).2.1,.int .i64 (doW (stW l k) d).2.2]] ++ S) j fun e w'=>e=.returned (J3 true)/\StW B g (stW l (k+1)) w'/\o B g (k+1) w') :
  Calls prog 8 #[J1 A l.length C,.func (.func 17) #[] S] w fun e w'=>∃ B g k,e=.returned (.tuple #[J2 (some ⟨g,0,none⟩),J3 true])/\o B g k w':=by
 have W:=J6 (z6Y w);have D:=J6 (fun (h:0<l.length)=>t.lt h);have HD:=J6 T;have X:=J6 h0;have E:=J6 V;clear t T h0 V
 go_enter func8,ntmps8
 go_upto_region 3 with (go_at_call 22;refine W.out.mono ?_;rintro e w1⟨rfl,b1⟩;have m:=J6 b1;clear b1)
 have Y:=J6 (z4S w1)
 go_upto_region 4 with (go_at_call 7;refine Y.out.mono ?_;rintro e p⟨g,rfl,h2,b2⟩;have u:Hid (StW w1.heap.size g (stW l 0) p/\o w1.heap.size g 0 p):=⟨h2,X.out g w1 p m.out h2 (zbt m.out b2)⟩;have F:=m.out.size;have a0:=h2.le;clear h2 b2)
 go_upto_region 5 with fail
 clear Y W m X;generalize w1.heap.size=B at *
 go_loopw [7] (fun i wl=>∃ (k:Nat),k<=l.length/\k<=120/\i=.int .i64 (k:Int)/\Hid (StW B g (stW l k) wl/\o B g k wl)) (fun i _=>120 - (intOf i).toNat)
 case atStart=>exact⟨0,Nat.zero_le _,by omega,rfl,u⟩
 case round =>
  obtain⟨k,hk,a1,rfl,a⟩:=hrel;clear u
  by_cases G:k<l.length/\k<120
  ·obtain⟨h1,h2⟩:=G;have v:(k:Int)<(l.length:Int):=by omega
   have H:(k:Int)<120:=by omega
   have x:l[k]?=some l[k]:=List.getElem?_eq_getElem h1;have q:=z3f x;generalize l[k]=d at x q;have K:=J6 q;have y:=J6 (q0A B g (stW l k) d wr a.out.1);have n:=HD.out B g k wr a.out.2;have ld:=n.load x;have hA:A=some ⟨b,off,none⟩:=n.adr (by omega)
   have L:b≠g:=by have:=D.out (by omega);omega
   have Z:=J6 x;have M:=J6 n;subst hA;clear q x n
   go_upto_region 8 with (go_at_call 10;refine y.out.mono ?_;rintro e c⟨rfl,h3,a3⟩;have r:=J6 (show _/\_ from⟨h3,a3⟩);clear h3 a3)
   have N:=c.heap.size;have P:Bl c (c.alloc (J5 #[.int .i64 (doW (stW l k) d).2.1,.int .i64 (doW (stW l k) d).2.2] 31)):=znw c _;have R4:CAt 31 (c.alloc (J5 #[.int .i64 (doW (stW l k) d).2.1,.int .i64 (doW (stW l k) d).2.2] 31)) c.heap.size #[.int .i64 (doW (stW l k) d).2.1,.int .i64 (doW (stW l k) d).2.2]:=CAt.new _ c _;have Q:=r.out.1.over P;rw[<- K.out]at Q;have f:=J6 (show _/\_/\_ from⟨Q,P,R4⟩);clear Q R4 P ld;have z:=J6 (E.out B g k d wr c);generalize (doW (stW l k) d).2.1=rc at *;generalize (doW (stW l k) d).2.2=rn at *;generalize c.alloc (J5 #[.int .i64 rc,.int .i64 rn] 31)=j at *;have s:Bl j j.drew:=(Below.refl _ j).drew;have bd:=zbt f.out.2.1 s;have HT:=J6 (z.out j.drew h2 a.out.2 F Z.out a.out.1 (f.out.1.over s) r.out.2 bd);have a2:=((M.out.j9L r.out.2 (fun _=>L)).over bd (Nat.le_refl _)).load Z.out;have r0:j.cell? ⟨c.heap.size,0,none⟩=some (.int .i64 rc):=f.out.2.2.cell 0;have r1:j.cell? ⟨c.heap.size,1,none⟩=some (.int .i64 rn):=f.out.2.2.cell 1;have a4:=f.out.2.2.lt;clear s bd N z y
   go_region_with (go_at_call 17;refine HT.out.mono ?_;rintro e w5⟨rfl,S5,I5⟩;have R:=J6 (show _/\_ from⟨S5,I5⟩);clear S5 I5)
   all_goals (apply_assumption;go_wp2;exact⟨⟨k+1,by omega,by omega,by go_num,R⟩,by simp[intOf];omega⟩)
  ·by_cases h1:k<l.length
   ·obtain rfl:k=120:=by omega
    have v:((120:Nat):Int)<(l.length:Int):=by omega
    have H:(120:Int)<(l.length:Int):=by omega
    go_wp2;go_ret2
    first | exact⟨B,g,_,rfl,a.out.2⟩ | exact⟨B,g,rfl,_,a.out.2⟩
   ·have v:¬ (k:Int)<(l.length:Int):=by omega
    go_wp2;go_ret2
    first | exact⟨B,g,_,rfl,a.out.2⟩ | exact⟨B,g,rfl,_,a.out.2⟩
end Wd
namespace Wd
open Go.RowKit Pv Kc
theorem q0m(V:Nat->Vd):∀ k,∀ y∈z4Z V k,∃ v:Nat,v<k/\y=((v:Int),pwr (V v))
 | 0,_,h=>by cases h
 | k+1,y,h=>by
  unfold z4Z at h
  split at h
  ·rcases List.mem_append.1 h with h | h
   ·obtain⟨v,a,e⟩:=q0m V k y h;exact⟨v,by omega,e⟩
   ·exact⟨k,by omega,List.mem_singleton.1 h⟩
  ·obtain⟨v,a,e⟩:=q0m V k y h;exact⟨v,by omega,e⟩
theorem q3B{V:Nat->Vd}{y:Int×Int}(h:y∈z7C V):∃ v:Nat,v<6/\y=((v:Int),pwr (V v)):=by
 unfold z7C at h;have h1:=List.mem_of_mem_take ((z3e _ _).mem_iff.1 h);exact q0m V 6 y ((z3e _ _).mem_iff.1 h1)
def vlW(l:List Dd):Nat->Int->Nat->Int×Int
 | 0=>fun _ _=>(0,0)
 | k+1=>fun h v=>if h=(stW l (k+1)).p.h/\(k=0∨(stW l k).p.h≠(stW l (k+1)).p.h) then (((stW l (k+1)).p.s.V v).tok,((stW l (k+1)).p.s.V v).lost) else vlW l k h v
structure BI(l:List Dd)(k:Nat):Prop where
 val:∀ h,1<=h->h<=(stW l k).p.h->(h=(stW l k).p.h∨∃ i,i<2/\((stW l k).c i).on=true/\((stW l k).c i).id<=h)->∀ v,v<6->(vlW l k h v).1+(vlW l k h v).2<=j3Z (stW l k).p.s v h
 set:∀ h,1<=h->h<=(stW l k).p.h->∀ y∈hsW l k h,∃ v,v<6/\y.1=((v:Nat):Int)/\y.2 * 100<=(vlW l k h v).1
theorem q3O(v h:Int):∀ W:List Wt,(∀ u∈W,0<=u.amt)->0<=z3I v h W
 | [],_=>Int.le_refl _
 | x :: W,hp=>by
  have a:=q3O v h W fun u hu=>hp u (List.mem_cons_of_mem _ hu);have:=hp x List.mem_cons_self
  show 0<=(if _ then x.amt else 0)+_
  split <;> omega
theorem j7T{x y:Wo}{i:Nat}(t:Tr x y i)(h:y.p.h=x.p.h):y.p.set=x.p.set:=by
 cases t with
 | off _ b _=>exact b
 | same q=>exact q.set
 | q1J _ E _=>have:=E.h;omega
 | beg _ _ _ _ e _ _=>exact e
 | cons e _=>rw[e]
 | del n s q _ _ _ _ e _ _=>exact e
theorem q8G{x y:Wo}{i:Nat}(t:Tr x y i)(h:y.p.h=x.p.h+1):y.c i=x.c i/\y1A x.p y.p x.ck:=by
 cases t with
 | off a _ _=>omega
 | same q=>have:=q.h;omega
 | q1J e E _=>exact⟨e,E⟩
 | beg _ _ _ d _ _ _=>omega
 | cons e _=>rw[e]at h;omega
 | del n s q _ _ _ e _ _ _=>omega
theorem j4h{H:Int->Pws}{x y:Wo}{i:Nat}(t:Tr x y i)(T:(x.c i).on=true->TI H x i)(b:(y.c i).on=true):((x.c i).on=true/\(x.c i).id<=(y.c i).id)∨(y.c i).id=x.p.h:=by
 cases t with
 | off _ _ a=>rw[a]at b;cases b
 | same q=>exact .inl ⟨q.con.symm.trans b,by rw[q.id];exact Int.le_refl _⟩
 | q1J e _ _=>rw[e]at b ⊢;exact .inl ⟨b,Int.le_refl _⟩
 | beg _ _ _ _ _ _ e=>exact .inr (by rw[e];rfl)
 | cons _ e =>
  have d:=z4O { x.c i with h:=(x.c i).h+1,t:=x.ck }
  rw[<- e]at d;have f:=d.1.symm.trans b;refine .inl ⟨f,?_⟩;rw[d.2.2.1];exact (Ch.take (T f).ch).2
 | del _ _ _ _ _ _ _ _ _ e=>rw[e]at b ⊢;exact .inl ⟨b,Int.le_refl _⟩
theorem y0X(l:List Dd):∀ k,k<=l.length->k<=300->BI l k
 | 0,_,_=>⟨fun h h1 h2=>absurd h2 (by show ¬ h<=0;omega),fun h h1 h2=>absurd h2 (by show ¬ h<=0;omega)⟩
 | k+1,hl,h3=>by
  have B:=y0X l k (by omega) (by omega)
  have H:=List.getElem?_eq_getElem (by omega:k<l.length)
  have e:=z3f H;have t:=fun i=>j1U (z2S l k) l[k] i;rw[<- e]at t;have W:=q3l l k (by omega) (by omega)
  have R:=fun i o w=>j0N l k (by omega) (by omega) i o w
  have K:=j9F l k (by omega) (by omega)
  have L:k<l.length:=by omega
  have C:∀ h,0<=h->h<=(stW l k).p.h->((doW (stW l k) l[k]).1.p.h=(stW l k).p.h∨∃ i,i<2/\((stW l k).c i).on=true/\((stW l k).c i).id<=h)->VM h (stW l k).p.s (doW (stW l k) l[k]).1.p.s:=fun h h0 h1 hc=>y2w (d:=l[k]) (h:=h) (z2S l k) K R h0 h1 hc;rw[<- e]at C;have D:∀ h,hsW l (k+1) h=if h=(stW l (k+1)).p.h then (stW l (k+1)).p.set else hsW l k h:=fun _=>rfl
  rcases y1Z (t 0) with j | j
  ·
   have x:=j7T (t 0) j
   have G:∀ h,1<=h->h<=(stW l (k+1)).p.h->∀ v,vlW l (k+1) h v=vlW l k h v:=fun h h1 h2 v=>by
    show (if _ then _ else _)=_
    rw[if_neg];rintro⟨-,q | q⟩
    ·subst q;rw[j]at h2;have:(stW l 0).p.h=0:=rfl;omega
    ·exact q j.symm
   refine⟨fun h h1 h2 hc v z=>?_,fun h h1 h2 y g=>?_⟩
   ·rw[G h h1 h2 v];rw[j]at h2
    have m:h=(stW l k).p.h∨∃ i,i<2/\((stW l k).c i).on=true/\((stW l k).c i).id<=h:=by
     rcases hc with q | ⟨i,o,w,hid⟩
     ·exact .inl (q.trans j)
     ·rcases j4h (t i) (W.ti i o) w with⟨a,b⟩ | a
      ·exact .inr ⟨i,o,a,by omega⟩
      ·exact .inl (by omega)
    exact Int.le_trans (B.val h h1 h2 m v z) (C h (by omega) h2 (.inl j) v z)
   ·have F:y∈hsW l k h:=by
     rw[D]at g
     by_cases q:h=(stW l (k+1)).p.h
     ·rw[if_pos q,x]at g;rw[q,j,W.now];exact g
     ·rw[if_neg q]at g;exact g
    obtain⟨v,q1,q2,q3⟩:=B.set h h1 (by omega) y F
    exact⟨v,q1,q2,by rw[G h h1 h2 v];exact q3⟩
  ·
   have A:=fun i=>q8G (t i) j;have E:=(A 0).2
   have n:∀ v,vlW l (k+1) (stW l (k+1)).p.h v=(((stW l (k+1)).p.s.V v).tok,((stW l (k+1)).p.s.V v).lost):=fun v=>by
    show (if _ then _ else _)=_
    rw[if_pos ⟨rfl,.inr (by omega)⟩]
   have hold:∀ h,h<=(stW l k).p.h->∀ v,vlW l (k+1) h v=vlW l k h v:=fun h h2 v=>by
    show (if _ then _ else _)=_
    rw[if_neg (by rintro⟨q,-⟩;omega)]
   refine⟨fun h h1 h2 hc v z=>?_,fun h h1 h2 y g=>?_⟩
   ·by_cases q:h=(stW l (k+1)).p.h
    ·rw[q,n];unfold j3Z;have:=q3O v (stW l (k+1)).p.h (stW l (k+1)).p.s.W fun u hu=>(z2N ((z0h _).1 E.good).2.2.2.2.1 u hu).2.2.2.2.1.1;dsimp only;omega
    ·have f:h<=(stW l k).p.h:=by omega
     rw[hold h f v]
     have m:∃ i,i<2/\((stW l k).c i).on=true/\((stW l k).c i).id<=h:=by
      rcases hc with r | ⟨i,o,w,hid⟩
      ·exact absurd r q
      ·rw[(A i).1]at w hid;exact⟨i,o,w,hid⟩
     exact Int.le_trans (B.val h h1 f (.inr m) v z) (C h (by omega) f (.inr m) v z)
   ·by_cases q:h=(stW l (k+1)).p.h
    ·rw[D,if_pos q,E.set]at g;obtain⟨v,q1,q2⟩:=q3B g;refine⟨v,q1,by rw[q2],?_⟩
     rw[q,n,q2];dsimp only;have:=(y1s E.good q1).1;unfold pwr;omega
    ·have f:h<=(stW l k).p.h:=by omega
     rw[D,if_neg q]at g;obtain⟨v,q1,q2,q3⟩:=B.set h h1 f y g;exact⟨v,q1,q2,by rw[hold h f v];exact q3⟩
theorem backed{l:List Dd}{k:Nat}(h1:k<=l.length)(h2:k<=300){i:Nat}(a:i<2)(b:((stW l k).c i).on=true):1<=((stW l k).c i).id/\((stW l k).c i).id<=(stW l k).p.h/\∀ y∈((stW l k).c i).set,∃ v,v<6/\y.1=((v:Nat):Int)/\y.2 * 100<=((stW l k).p.s.V v).tok+((stW l k).p.s.V v).lost - (vlW l k ((stW l k).c i).id v).2+z3I v ((stW l k).c i).id (stW l k).p.s.W:=by
 have B:=y0X l k h1 h2;have hid:=(y0y l k h1 h2 i a).2 b;have hc:=Ch.head ((q3l l k h1 h2).ti i a b).ch;refine⟨hid.2,hc.2,fun y d=>?_⟩;rw[<- hc.1]at d;obtain⟨v,q1,q2,q3⟩:=B.set _ hid.2 hc.2 y d;have:=B.val _ hid.2 hc.2 (.inr ⟨i,a,b,Int.le_refl _⟩) v q1;unfold j3Z at this;exact⟨v,q1,q2,by omega⟩
end Wd
namespace Wd
open Go.RowKit Pv Kc Go.Maps
def hmW(l:List Dd)(k:Nat):Int:=if k=0 then -1 else (stW l k).p.h
def lvW(l:List Dd)(k:Nat)(h:Int)(v:Nat):Int:=(vlW l k h v).2
theorem j6F(l:List Dd)(k:Nat):lvW l (k+1)=if (stW l (k+1)).p.h=hmW l k then lvW l k else j8K (lvW l k) (stW l (k+1)).p.h fun v=>((stW l (k+1)).p.s.V v).lost:=by
 have h0:0<=(stW l (k+1)).p.h:=(z2S l (k+1)).gp.h0
 funext h v
 show (if _ then (_,_) else vlW l k h v).2=_
 unfold hmW
 by_cases a:k=0
 ·rw[if_pos a,if_neg (show ¬ (stW l (k+1)).p.h=-1 by omega)]
  unfold j8K
  by_cases e:h=(stW l (k+1)).p.h
  ·rw[if_pos ⟨e,.inl a⟩,if_pos e]
  ·rw[if_neg (fun q=>e q.1),if_neg e];rfl
 ·rw[if_neg a]
  by_cases q:(stW l (k+1)).p.h=(stW l k).p.h
  ·rw[if_pos q,if_neg (fun r=>r.2.elim a fun s=>s q.symm)];rfl
  ·rw[if_neg q];unfold j8K
   by_cases e:h=(stW l (k+1)).p.h
   ·rw[if_pos ⟨e,.inr fun s=>q s.symm⟩,if_pos e]
   ·rw[if_neg (fun q=>e q.1),if_neg e];rfl
theorem j5w(l:List Dd)(k:Nat)(a:k<l.length):(stW l (k+1)).p.h=hmW l k∨(hmW l k<(stW l (k+1)).p.h/\((stW l (k+1)).p.h<=hmW l k+1∨(stW l (k+1)).p.h<=1)):=by
 have h0:0<=(stW l (k+1)).p.h:=(z2S l (k+1)).gp.h0;have t:=j1U (z2S l k) l[k] 0;rw[<- z3f (List.getElem?_eq_getElem a)]at t;have:=y1Z t;unfold hmW
 by_cases q:k=0
 ·subst q;rw[if_pos rfl];have e:(stW l 0).p.h=0:=rfl;omega
 ·rw[if_neg q];omega
theorem q3r(A:Option Addr)(C b off mb:Nat)(l:List Dd)(w:World)(o:z7p w A b off l)(hb:0<l.length->b<mb)(hc:BM mb 0 (.map []) (fun _ _=>0) (-1) w)(H:mb+1<w.heap.size) :
  Calls prog 8 #[J1 A l.length C,.func (.func 17) #[] #[J2 (some ⟨mb+1,0,none⟩)]] w fun e w'=>∃ g,e=.returned (.tuple #[J2 (some ⟨g,0,none⟩),J3 true])/\Below mb w w':=by
 refine (y3d A C b off #[J2 (some ⟨mb+1,0,none⟩)] l w (fun _ g k j=>k<=l.length/\(∃ n D,n<=k/\BM mb n D (lvW l k) (hmW l k) j)/\z5n (·=mb) w j) o ?_ ?_ ?_).mono ?_
 ·rintro B g k j⟨-,-,c⟩;exact o.y2J c fun h=>by have:=hb h;omega
 ·intro g w1 K b1 S b2;exact⟨Nat.zero_le _,⟨0,_,Nat.le_refl _,hc.over b2⟩,z5n.of b2⟩
 ·rintro B g k d wr L s p⟨t,⟨n,D,M,hm⟩,c⟩ N u hs f q r;have a:k<l.length:=(List.getElem?_eq_some_iff.1 u).1;have P:=hs.le;refine (q2o B g mb n D (stW l (k+1)) (lvW l k) (hmW l k) d _ _ s f (by omega) f.lt (by omega) ((hm.alt q (by omega)).over r) (j5w l k a) (lvW l (k+1)) (j6F l k) (fun i v x=>backed a (by omega) v x)).mono ?_
  rintro e w'⟨rfl,⟨y,z,E,F⟩,m,G⟩;exact⟨rfl,m,a,⟨y,z,by omega,by unfold hmW;rw[if_neg (by omega)];exact F⟩,((c.also q (by omega)).trans (z5n.of r)).trans G⟩
 ·rintro e w'⟨B,g,k,rfl,-,-,c⟩;exact⟨g,rfl,c.below (fun k t h=>by omega) (by omega)⟩
noncomputable def q5K(w:World):World:=(w.alloc (.map #[] 0)).alloc (J5 #[.map (some w.heap.size)] 88)
theorem j4b(w:World):BM w.heap.size 0 (.map []) (fun _ _=>0) (-1) (q5K w)/\w.heap.size+1<(q5K w).heap.size/\Bl w (q5K w):=by
 have a:CAt 88 (q5K w) (w.heap.size+1) #[.map (some w.heap.size)]:=CAt.new2 _ w _ _;exact⟨⟨(World.ownsMap_made w prog 3 rdM).alloc _,fun k h1 h2=>absurd h2 (by omega),fun k _=>rfl,a,fun k v _=>by omega⟩,a.lt,(znw w _).alloc (by simp) _⟩
theorem q1A(A:Option Addr)(C b off:Nat)(l:List Dd)(w:World)(c:z7p w A b off l):Calls prog 5 #[J1 A l.length C] w fun e w'=>e=.returned (J3 true)/\Bl w w':=by
 obtain⟨d,a,b3⟩:=j4b w;have i:=J6 (q3r A C b off w.heap.size l _ (c.over b3 (Nat.le_refl _)) (fun h=>c.lt h) d a);have j:=J6 b3;have k:=@run_makeMap prog;clear c d a b3
 go_enter func5,ntmps5
 go_upto_region 2 with fail
 change Code.wp prog _ _ _ (q5K w);generalize q5K w=w5 at *
 go_wp2_with (go_at_call 8;refine i.out.mono ?_;rintro e w6⟨g,rfl,f⟩;have m:=J6 f;clear f)
 go_ret;exact⟨rfl,j.out.trans m.out⟩
end Wd
end Go.Proofs.YtddlhnoedldidaaGreat
