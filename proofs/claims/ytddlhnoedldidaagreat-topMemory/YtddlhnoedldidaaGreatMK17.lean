/- Parts of the proof. -/
import Derived.Test.YtddlhnoedldidaaGreatML
import Derived.Test.YtddlhnoedldidaaGreatMK22
import Derived.Test.YtddlhnoedldidaaGreatMK24
set_option maxRecDepth 100000
set_option maxHeartbeats 16000000
namespace Go.Proofs.YtddlhnoedldidaaGreat
open Go.Proofs.Tryz
open Value renaming int->J,slice->J1,pointer->J2,bool->J3,agg->J4
open IntKind renaming i64->I
open Obj renaming cells->J5
section
open Go.RowKit
def z6C(c:Nat)(h:Int)(x:Wt):Wt:=if c=0 then (if x.h0<=h then { x with h0:=0 } else x) else (if x.h1<=h then { x with h1:=0 } else x)
def z5f(c:Nat)(h:Int)(W:List Wt):List Wt:=W.map (z6C c h)
theorem z6K(F:Wt->Wt){W:List Wt}{k:Nat}{x:Wt}(a:W[k]?=some x):(W.take (k+1)).map F ++ W.drop (k+1)=((W.take k).map F ++ W.drop k).set k (F x)/\((W.take k).map F ++ W.drop k)[k]?=some x/\((W.take k).map F ++ W.drop k).length=W.length:=by
 obtain⟨c,d⟩:=List.getElem?_eq_some_iff.1 a;have b:((W.take k).map F).length=k:=by rw[List.length_map,List.length_take];omega
 have hd:W.drop k=x :: W.drop (k+1):=by rw[<- d];exact List.drop_eq_getElem_cons c
 refine⟨?_,?_,?_⟩
 ·rw[z1m a,hd,List.map_append,List.set_append_right _ _ (by omega),b,Nat.sub_self,List.append_assoc]
  rfl
 ·rw[List.getElem?_append_right (by omega),b,Nat.sub_self,hd]
  rfl
 ·rw[List.length_append,List.length_map,<- List.length_append,List.take_append_drop]
theorem q2O:∀ (W:List Wt) (k:Nat) (x a:Wt) (j:Nat) (v:Value),W[k]?=some x->j<8->wtL a=(wtL x).set j v->wsL (W.set k a)=(wsL W).set (k * 8+j) v
 | [],k,x,a,j,v,h,_,_=>by simp at h
 | z :: W,0,x,a,j,v,h,hj,he=>by
  simp at h
  subst h
  show wtL a ++ wsL W=(wtL z ++ wsL W).set _ _
  rw[List.set_append_left _ _ (by rw[z1P];omega),he]
  simp
 | z :: W,k+1,x,a,j,v,h,hj,he=>by
  have b:=q2O W k x a j v (by simpa using h) hj he
  show wtL z ++ wsL (W.set k _)=(wtL z ++ wsL W).set _ _
  rw[List.set_append_right _ _ (by rw[z1P];omega),z1P,b]
  congr 2
  omega
theorem z2d.put{B:Nat}{w:World}{g C:Nat}{W:List Wt}(h:z2d B w (some ⟨g,0,none⟩) C W){k:Nat}{x:Wt}(b:W[k]?=some x)(a:Wt)(j:Nat)(v:Value)(c:j<8)(d:wtL a=(wtL x).set j v):z2d B (w.setCell ⟨g,k * 8+j,none⟩ v) (some ⟨g,0,none⟩) C (W.set k a):=by
 have h1:=(World.ownsRow.stored h (k * 8+j) v).1;unfold z2d;rw[q2O W k x a j v b c d,List.length_set];exact h1
theorem z2d.holds{B:Nat}{w:World}{A:Option Addr}{C:Nat}{W:List Wt}(h:z2d B w A C W)(h0:0<W.length):∃ g,A=some ⟨g,0,none⟩/\B<=g/\g<w.heap.size/\∀ k x,W[k]?=some x->(w.cell? ⟨g,k * 8+6,none⟩=some (J I x.h0)/\w.cell? ⟨g,k * 8+7,none⟩=some (J I x.h1)/\w.frozen? ⟨g,k * 8+6,none⟩=false/\w.frozen? ⟨g,k * 8+7,none⟩=false):=by
 have a:=h
 rcases h.2 with⟨hv,hn⟩ | ⟨g,cap,cur,hv,hb,hg,hrest⟩
 ·omega
 ·cases hv;refine⟨g,rfl,hb,(Array.getElem?_eq_some_iff.1 hg).1,fun k x b=>?_⟩
  have c:∀ j v,(wtL x)[j]?=some v->j<8->w.cell? ⟨g,k * 8+j,none⟩=some v:=fun j v d e=>by
   have:=World.ownsRow.cells a (g:=g) rfl (k * 8+j) v ((z4h W k x j b e).trans d)
   rwa [Addr.add_lit,Nat.zero_add]at this
  exact⟨c 6 _ rfl (by omega),c 7 _ rfl (by omega),World.ownsRow.frozenAt a _,World.ownsRow.frozenAt a _⟩
end
section
structure Kp(s:St)(r:St×Int):Prop where
 good:z0m r.1=true
 bu:s.b.bu<=r.1.b.bu
 dead:∀ k,k<6->(s.V k).dead=true->(r.1.V k).dead=true
 lost:∀ k,k<6->(s.V k).lost<=(r.1.V k).lost
 no:r.2≠0->r.1=s
theorem Kp.same{s:St}(a:z0m s=true)(e:Int):Kp s (s,e):=⟨a,Int.le_refl _,fun _ _ h=>h,fun _ _=>Int.le_refl _,fun _=>rfl⟩
theorem j0v{s:St}(a:z0m s=true)(d v n:Int):Kp s (z0O s d v n):=by
 by_cases h:(z0O s d v n).2=0
 ·obtain⟨i,j,rfl,rfl,c,u,-,f,w,g,l,m,x⟩:=q5q h;obtain⟨y,o,p,q⟩:=q7O c m;have r:=z4c a j u;have C:=(z1T _).1 r.1;obtain⟨D,z,g2⟩:=j5n r.1 w g l;have E:=z0A.1 (z6t r.2 c);have A:=q9Q (t:=n) (n:=shN (s.V j) n) a c u y o p q (by omega) (by omega) z (fun _=>by omega)
  rw[x];refine⟨A,by show s.b.bu<=(z2n s.b i n).1.bu;omega,fun k B hd=>?_,fun k B=>?_,fun h=>absurd rfl h⟩
  ·show (z1Q s.V j _ k).dead=true
   unfold z1Q
   split
   ·rename_i e;subst e;exact hd
   ·exact hd
  ·show (s.V k).lost<=(z1Q s.V j _ k).lost
   unfold z1Q
   split
   ·rename_i e;subst e;exact Int.le_refl _
   ·exact Int.le_refl _
 ·have e:(z0O s d v n).1=s:=by
   unfold z0O at h ⊢
   repeat' split
   all_goals first | rfl | (simp_all;done)
  have:=Kp.same a (z0O s d v n).2;rw[show z0O s d v n=((z0O s d v n).1,(z0O s d v n).2) from rfl,e];exact this
theorem j7l{next next':Int}(a:next<=next'):∀ {W:List Wt} {last:Int},wOk next last W=true->wOk next' last W=true
 | [],_,_=>rfl
 | x :: W,last,h=>by
  simp only[wOk,q1b,Bool.and_eq_true,decide_eq_true_eq]at h ⊢;obtain⟨⟨⟨⟨⟨⟨⟨h1,h2⟩,h3⟩,b⟩,c⟩,d⟩,e⟩,f⟩:=h;exact⟨⟨⟨⟨⟨⟨⟨h1,by omega⟩,h3⟩,b⟩,c⟩,d⟩,e⟩,j7l a f⟩
theorem q3A{next:Int}(x:Wt)(a:q1b (next - 1) (next+1) { x with num:=next }=true)(e:x.num=next):∀ {W:List Wt} {last:Int},last<next->wOk next last W=true->wOk (next+1) last (W ++ [x])=true
 | [],last,hl,_=>by
  simp only[List.nil_append,wOk,q1b,Bool.and_eq_true,decide_eq_true_eq]at a ⊢;obtain⟨⟨⟨⟨⟨⟨h1,h2⟩,h3⟩,b⟩,c⟩,d⟩,f⟩:=a;exact⟨⟨⟨⟨⟨⟨⟨by omega,by omega⟩,h3⟩,b⟩,c⟩,d⟩,f⟩,trivial⟩
 | y :: W,last,hl,h=>by
  simp only[List.cons_append,wOk,q1b,Bool.and_eq_true,decide_eq_true_eq]at h ⊢;obtain⟨⟨⟨⟨⟨⟨⟨h1,h2⟩,h3⟩,b⟩,c⟩,d⟩,f⟩,g⟩:=h;exact⟨⟨⟨⟨⟨⟨⟨h1,by omega⟩,h3⟩,b⟩,c⟩,d⟩,f⟩,q3A x a e h2 g⟩
theorem j0I{s:St}(a:z0m s=true){i j:Nat}(q:i<4)(g:j<6)(n:Int)(y:Wt):Kp s (z0S s i j n y):=by
 have d:=z4U a q g
 by_cases h1:(decide (0<n) && inA n)=true/\0<=y.hei/\0<=y.due
 case neg=>rw[q2r d h1];exact Kp.same a _
 by_cases h2:n<=s.S (i:Int).toNat (j:Int).toNat
 case neg=>rw[q2j d h1 h2];exact Kp.same a _
 by_cases h3:s.W.length<60/\s.next<1125899906842624
 case neg=>rw[q1L d h1 h2 h3];exact Kp.same a _
 by_cases v:woE (s.V (j:Int).toNat) n=0
 case neg=>rw[q2n d h1 h2 h3 v];exact Kp.same a _
 by_cases w:(z0X s.b (woN (s.V (j:Int).toNat) n)).2=0
 case neg=>rw[q2g d h1 h2 h3 v w];exact Kp.same a _
 rw[q1x d h1 h2 h3 v w];simp only[Int.toNat_natCast]at *;have r:=z4c a j g;have x:=(z1T _).1 r.1;have hS:=z0A.1 (z6t r.2 q);have G:=(z0N s).1 a;have l:=(G.2.2.2.2.2.1 j g).2.2;have z:=j2Q r.2 q;rw[l]at z;obtain⟨H,K,L⟩:=h1;simp only[Bool.and_eq_true,decide_eq_true_eq,z0A]at H;obtain⟨w1,w2,-⟩:=j7A (k:=(s.V j).tok) r.1 H.1 (by omega) (by rw[Int.mul_comm];exact Int.mul_le_mul_of_nonneg_left (by omega) x.1.1)
 have m:woN (s.V j) n=mdN n (s.V j).tok (s.V j).sh:=by unfold woN;rw[if_pos w1]
 have M:=z4f n (s.V j).tok (s.V j).sh;obtain⟨N,P,m3,Q,R⟩:=q2C (b:=s.b) (f:=4) (t:=5) w;have o:=z9G (f:=4) (t:=5) (.inr (.inr (.inl ⟨rfl,rfl⟩))) N P Q;have u:(z0X s.b (woN (s.V j) n)).1=(s.b.put 4 (s.b.get 4 - woN (s.V j) n)).put 5 (s.b.get 5+woN (s.V j) n):=by unfold z0X;rw[R]
 rw[<- u]at o;have A:(z0X s.b (woN (s.V j) n)).1.bo=s.b.bo - woN (s.V j) n:=by rw[u];rfl
 have C:(z0X s.b (woN (s.V j) n)).1.wa=s.b.wa+woN (s.V j) n:=by rw[u];rfl
 have D:(z0X s.b (woN (s.V j) n)).1.bu=s.b.bu:=by rw[u];rfl
 generalize (z0X s.b (woN (s.V j) n)).1=B at *;have T:woN (s.V j) n<=(s.V j).tok/\0<=woN (s.V j) n/\woN (s.V j) n<=1125899906842624:=by rw[m];omega
 have U:(s.V j).sh - n=0->woN (s.V j) n=(s.V j).tok:=by
  intro h0;rw[m];have c1:¬ (n<0∨(s.V j).tok<0∨(s.V j).sh<1):=by omega
  have e:n=(s.V j).sh:=by omega
  unfold mdN;rw[if_neg c1,e,Int.mul_comm (s.V j).sh,Int.mul_ediv_cancel _ (by omega),if_pos (by omega)]
 -- the z1g without the wait,as if the tokens had gone: all but the waits
 generalize woN (s.V j) n=wo at *;obtain⟨g1,g2,g3,g4,X,E,g7,Y,Z⟩:=G;refine⟨?_,by show s.b.bu<=B.bu;omega,fun k p hd=>?_,fun k p=>?_,fun h=>absurd rfl h⟩
 ·rw[z0N];have F:z8f (z1Q s.V j { s.V j with tok:=(s.V j).tok + -wo,sh:=(s.V j).sh + -n }) 6=B.bo:=by rw[z6T _ _ _ g,g7,A];show s.b.bo+((s.V j).tok + -wo) - (s.V j).tok=_;omega
  refine⟨o.1,by show 1<=s.next+1;omega,by show s.next+1<=_;omega,?_,?_,fun k p=>?_,F,?_,?_⟩
  ·show (s.W ++ [_]).length<=60
   rw[List.length_append];simp only[List.length_cons,List.length_nil];omega
  ·show wOk (s.next+1) 0 (s.W ++ [_])=true
   refine q3A (next:=s.next) _ ?_ rfl (show (0:Int)<s.next by omega) X
   simp only[q1b,Bool.and_eq_true,decide_eq_true_eq,z4V,z2W,z0A];omega
  ·show vOk (z1Q s.V j _ k)=true/\z3f (z6a s.S i j _) k 4=true/\psh (z6a s.S i j _) k 4=(z1Q s.V j _ k).sh
   refine⟨?_,q0r _ _ _ _ _ (E k p).2.1 (z0A.2 ⟨by show 0<=s.S i j + -n;omega,by show s.S i j + -n<=_;omega⟩),?_⟩
   ·unfold z1Q
    split
    ·rw[z1T];exact⟨⟨by show 0<=(s.V j).tok + -wo;omega,by show (s.V j).tok + -wo<=_;omega⟩,⟨by show 0<=(s.V j).sh + -n;omega,by show (s.V j).sh + -n<=_;omega⟩,x.2.2.1,by show 0<(s.V j).tok + -wo->(s.V j).sh + -n≠0;omega,x.2.2.2.2⟩
    ·exact (E k p).1
   ·by_cases c:k=j
    ·subst c;rw[q6l _ _ _ _ q,l];simp only[z1Q,if_true];omega
    ·rw[q1p _ _ _ _ _ c,(E k p).2.2];simp only[z1Q,if_neg c]
  ·show z2t (s.W ++ [_])=B.wa
   rw[z2U,Y,C];simp only[z2t];omega
  ·show z3s (z1Q s.V j _) 6=B.bu
   rw[z5D _ _ _ g,Z,D];simp only;omega
 ·show (z1Q s.V j _ k).dead=true
  unfold z1Q
  split
  ·rename_i e;subst e;exact hd
  ·exact hd
 ·show (s.V k).lost<=(z1Q s.V j _ k).lost
  unfold z1Q
  split
  ·rename_i e;subst e;exact Int.le_refl _
  ·exact Int.le_refl _
theorem q3a{s:St}(a:z0m s=true){v:Nat}(c:v<6)(h:Int){f:Int}(d:0<=f/\f<=1000):Kp s (z1V s v h f,0):=by
 obtain⟨b0,b1,b2,b3,l⟩:=z6f a c h d;obtain⟨n1,m,n,o,p,q,r,t,u,g,i⟩:=z4t a c h d;refine⟨z5T a c h d,by show s.b.bu<=(z1V s v h f).b.bu;omega,fun k j hd=>?_,fun k j=>?_,fun h=>absurd rfl h⟩
 ·show (z1Q s.V v _ k).dead=true
  unfold z1Q
  split
  ·rename_i e;subst e;exact hd
  ·exact hd
 ·show (s.V k).lost<=(z1Q s.V v _ k).lost
  unfold z1Q
  split
  ·rename_i e;subst e;show _<=(s.V k).lost+_;omega
  ·exact Int.le_refl _
theorem z5m{s:St}(e:z0m s=true){v:Nat}(f:v<6){j d:Bool}(c:d=true->j=true):z0m (z5Q s v j d)=true:=by
 rw[z0N]at e ⊢;obtain⟨h1,h2,h3,i,l,m,n,o,p⟩:=e;refine⟨h1,h2,h3,i,l,fun k q=>?_,?_,o,?_⟩
 ·obtain⟨i1,g,h⟩:=m k q
  show vOk (z1Q s.V v _ k)=true/\z3f s.S k 4=true/\psh s.S k 4=(z1Q s.V v _ k).sh
  unfold z1Q
  by_cases a:k=v
  ·subst a;rw[if_pos rfl];rw[z1T]at i1;refine⟨?_,g,h⟩;rw[z1T];exact⟨i1.1,i1.2.1,i1.2.2.1,i1.2.2.2.1,c⟩
  ·rw[if_neg a];exact⟨i1,g,h⟩
 ·show z8f (z1Q s.V v _) 6=s.b.bo
  rw[z6T _ _ _ f,n];simp only;omega
 ·show z3s (z1Q s.V v _) 6=s.b.bu
  rw[z5D _ _ _ f,p];simp only;omega
theorem j2c{s:St}(a:z0m s=true)(t:Int):Kp s (z5J s t,0):=by
 obtain⟨d,e,f,g⟩:=q8d a t;exact⟨q2M a t,by show s.b.bu<=(z5J s t).b.bu;omega,fun k c h=>h,fun k c=>Int.le_refl _,fun h=>absurd rfl h⟩
theorem z8z(c:Nat)(h:Int)(x:Wt):(z6C c h x).num=x.num/\(z6C c h x).d=x.d/\(z6C c h x).v=x.v/\(z6C c h x).hei=x.hei/\(z6C c h x).due=x.due/\(z6C c h x).amt=x.amt:=by
 unfold z6C
 repeat' split
 all_goals exact⟨rfl,rfl,rfl,rfl,rfl,rfl⟩
theorem q8U{next h:Int}{c:Nat}:∀ {W:List Wt} {last:Int},wOk next last W=true->wOk next last (z5f c h W)=true
 | [],_,_=>rfl
 | x :: W,last,hw=>by
  obtain⟨k1,a,b,d,e,f⟩:=z8z c h x;simp only[wOk,Bool.and_eq_true]at hw;have g:=q8U (c:=c) (h:=h) hw.2;have h1:=hw.1;simp only[z5f,List.map_cons,wOk,q1b,Bool.and_eq_true,decide_eq_true_eq,k1,a,b,d,e,f]at h1 ⊢;exact⟨h1,g⟩
theorem q3c(c:Nat)(h:Int):∀ W:List Wt,z2t (z5f c h W)=z2t W
 | []=>rfl
 | x :: W=>by
  show (z6C c h x).amt+z2t (z5f c h W)=x.amt+z2t W
  rw[q3c c h W,(z8z c h x).2.2.2.2.2]
theorem j2m{s:St}(a:z0m s=true)(c:Nat)(h:Int):Kp s ({ s with W:=z5f c h s.W },0):=by
 refine⟨?_,Int.le_refl _,fun _ _ h=>h,fun _ _=>Int.le_refl _,fun h=>absurd rfl h⟩;rw[z0N]at a ⊢;obtain⟨h1,h2,h3,b,d,e,f,g,i⟩:=a;exact⟨h1,h2,h3,by show (z5f c h s.W).length<=60;unfold z5f;rw[List.length_map];exact b,q8U d,e,f,by show z2t (z5f c h s.W)=_;rw[q3c];exact g,i⟩
end
namespace Pv
open Go.RowKit
def isC(c:Int):Bool:=decide (0<=c) && decide (c<2)
def z1a(L:Nat->Lk)(c:Nat)(x:Lk):Nat->Lk:=fun i=>if i=c then x else L i
def z3B(p:Pr)(d v n:Int):Pr×Int:=if z0J p=true then ({ p with s:=(z0O p.s d v n).1 },(z0O p.s d v n).2) else (p,2)
def z2L(p:Pr)(c:Nat):Int:=if (p.L c).on=true then p.h+1 else 0
def z1x(L:Nat->Lk):Nat->Lk:=fun c=>if (L c).on=true then { L c with fresh:=true } else L c
def q0H(p:Pr)(now:Int):Wt:=⟨0,0,0,0,p.h+1,now+20,z2L p 0,z2L p 1⟩
def z2C(p:Pr)(d v n now:Int):Pr×Int:=
 if z0J p=true/\isT now=true then
  if (z0S p.s d v n (q0H p now)).2=0 then ({ p with s:=(z0S p.s d v n (q0H p now)).1,L:=z1x p.L },0) else (p,(z0S p.s d v n (q0H p now)).2)
 else (p,2)
def z1A(c:Nat)(h:Int)(x:Wt):Wt:=if x.hei=h then (if c=0 then { x with h0:=h } else { x with h1:=h }) else x
def q2m(p:Pr):Lk:=⟨true,false,p.h,p.set,p.s.W.any (fun x=>decide (x.hei=p.h+1)),[],⟨[],[],0,false⟩,0,0,0,0⟩
def z1R(p:Pr)(c:Int):Pr×Int:=
 if z0J p=true then
  if isC c=true then
   if (p.L c.toNat).gone=true then (p,11)
   else if (p.L c.toNat).on=true then (p,5)
   else if p.h=0∨p.set.length=0 then (p,13)
   else ({ p with s:={ p.s with W:=p.s.W.map (z1A c.toNat (p.h+1)) },L:=z1a p.L c.toNat (q2m p) },0)
  else (p,4)
 else (p,2)
def z4O(x:Lk):Lk:={ x with on:=false,gone:=true,fresh:=false,done:=[],out:={ x.out with cl:=true } }
def z9q(p:Pr)(c:Int):Bool:=isC c && (p.L c.toNat).on
def z0Q(p:Pr)(c:Int):Pr:=
 if z0J p=true/\z9q p c=true then { p with s:={ p.s with W:=z5f c.toNat 1099511627776 p.s.W },L:=z1a p.L c.toNat (z4O (p.L c.toNat)),q:=p.q.filter fun a=>decide (a.1≠c) } else p
def z4H(p:Pr)(c:Int)(l:List Int):Pr×Int:=
 if z0J p=true then
  if z9q p c=true then
   if Cd.z7Q l=0 then
    if (z3w l).k=1 then (p,3) else ({ p with q:=p.q ++ [(c,z3w l)] },0)
   else (p,Cd.z7Q l)
  else (p,4)
 else (p,2)
def q1H(s:St)(v:Nat)(h:Int):St:=z5Q (z1V s v h 50) v true true
def z6n(p:Pr)(v h:Int):Pr×Int:=
 if z0J p=true then
  if isV v=true then
   if 1<=h/\h<=p.h then
    if (p.s.V v.toNat).dead=true then (p,15) else ({ p with s:=q1H p.s v.toNat h },0)
   else (p,2)
  else (p,4)
 else (p,2)
def z2P(D:List Int)(v:Int):List Int:=((List.range 6).map Int.ofNat).filter fun u=>decide (u=v) || decide (u∈D)
def j3S(x:Vd):Int:=if x.tok / 100<1 then 1 else x.tok / 100
def j4e(a b:Int):Int:=if a<b then b else a
def z1L(p:Pr)(c:Nat)(x:Pkt):Pr×Bool:=
 if x.k=2 then ({ p with s:={ p.s with W:=z5f c x.i p.s.W } },true)
 else if x.k=4 then
  if (p.s.V x.v.toNat).dead=true then (p,true) else ({ p with s:=q1H p.s x.v.toNat (j4e x.i (p.L c).base) },true)
 else if (p.s.V x.v.toNat).jail=true then ({ p with L:=z1a p.L c { p.L c with done:=z2P (p.L c).done x.v } },true)
 else if p.ml<1 then (p,false)
 else ({ p with ml:=wrap64 (p.ml - j3S (p.s.V x.v.toNat)),s:=z5Q p.s x.v.toNat true (p.s.V x.v.toNat).dead,L:=z1a p.L c { p.L c with done:=z2P (p.L c).done x.v } },true)
structure QS where
 p:Pr
 wt:Nat->Bool
 left:List (Int×Pkt)
def z2r(z:QS)(a:Int×Pkt):QS:=
 if z.wt a.1.toNat=true then { z with left:=z.left ++ [a] }
 else if (z1L z.p a.1.toNat a.2).2=true then { z with p:=(z1L z.p a.1.toNat a.2).1 }
 else { z with wt:=fun i=>if i=a.1.toNat then true else z.wt i,left:=z.left ++ [a] }
def goQ(p:Pr):QS:=p.q.foldl z2r ⟨p,fun _=>false,[]⟩
def z0L(p:Pr):Pr:={ (goQ p).p with q:=(goQ p).left }
def z7D(p:Pr)(x:Lk):Bool:=!x.on || (decide (x.told=p.set) && !x.fresh && decide (x.done.length=0))
def z1H(p:Pr)(c:Nat):Pr:=
 if z7D p (p.L c)=true then p
 else if Cd.z0s 1 p.h 0 0 (Df.z6B (p.L c).told p.set) (p.L c).done=0 then
  if Ln.z6v (p.L c).out (p.t+40)=0 then { p with L:=z1a p.L c { p.L c with out:=Ln.z5K (p.L c).out (Cd.encS 1 p.h 0 0 (Df.z6B (p.L c).told p.set) (p.L c).done) (p.t+40),told:=p.set,fresh:=false,done:=[] } } else p
 else p
def z1k(p:Pr)(now:Int):Pr:={ p with h:=p.h+1,t:=now,ml:=if now<p.mn then p.ml else Mt.alw (Df.q4m p.set),mn:=if now<p.mn then p.mn else wrap64 (now+10) }
def z4n(p:Pr)(now:Int):Pr:={ p with s:=z5J p.s now,set:=z7M (z5J p.s now).V }
def endP(p:Pr)(now:Int):Pr×List Int×Int:=
 if z0J p=true/\isT now=true/\p.t<=now then
  (z1H (z1H (z4n (z0L (z1k p now)) now) 0) 1,z1W now (z0L (z1k p now)).s.W,0)
 else (p,[],2)
def newP:Pr:=⟨0,0,j6G,[],fun _=>⟨false,false,0,[],false,[],⟨[],[],0,false⟩,0,0,0,0⟩,1,10,[]⟩
theorem z3E(n:Int)(w:World):Calls prog 69 #[J I n] w fun e w'=>e=.returned (J3 (isT n))/\w=w':=by
 have b:isT n=(decide (0<=n) && decide (n<=1099511627776)):=rfl;generalize isT n=t at *;have a:=J6 b;clear b
 by_cases h:0<=n
 ·by_cases h2:n<=1099511627776
  ·have e:t=true:=by rw[a.out];simp[h,h2]
   subst e
   go_enter func69,ntmps69
   go_wp2;go_ret;exact⟨rfl,rfl⟩
  ·have e:t=false:=by rw[a.out];simp[h2]
   subst e
   go_enter func69,ntmps69
   go_wp2;go_ret;exact⟨rfl,rfl⟩
 ·have e:t=false:=by rw[a.out];simp[h]
  subst e
  go_enter func69,ntmps69
  go_wp2;go_ret;exact⟨rfl,rfl⟩
theorem z2F(n:Int)(w:World):Calls prog 81 #[J I n] w fun e w'=>e=.returned (J3 (isC n))/\w=w':=by
 have b:isC n=(decide (0<=n) && decide (n<2)):=rfl;generalize isC n=t at *;have a:=J6 b;clear b
 by_cases h:0<=n
 ·by_cases h2:n<2
  ·have e:t=true:=by rw[a.out];simp[h,h2]
   subst e
   go_enter func81,ntmps81
   go_wp2;go_ret;exact⟨rfl,rfl⟩
  ·have e:t=false:=by rw[a.out];simp[h2]
   subst e
   go_enter func81,ntmps81
   go_wp2;go_ret;exact⟨rfl,rfl⟩
 ·have e:t=false:=by rw[a.out];simp[h]
  subst e
  go_enter func81,ntmps81
  go_wp2;go_ret;exact⟨rfl,rfl⟩
theorem z3r(v:Int)(w:World):Calls prog 73 #[J I v] w fun e w'=>e=.returned (J3 (isV v))/\w=w':=by
 have b:isV v=decide (0<=v/\v<6):=rfl;generalize isV v=t at *;have a:=J6 b;clear b
 by_cases h:0<=v
 ·by_cases h2:v<6
  ·have e:t=true:=by rw[a.out];simp[h,h2]
   subst e
   go_enter func73,ntmps73
   go_wp2;go_ret;exact⟨rfl,rfl⟩
  ·have e:t=false:=by rw[a.out];simp[h2]
   subst e
   go_enter func73,ntmps73
   go_wp2;go_ret;exact⟨rfl,rfl⟩
 ·have e:t=false:=by rw[a.out];simp[h]
  subst e
  go_enter func73,ntmps73
  go_wp2;go_ret;exact⟨rfl,rfl⟩
theorem j8v{c:Nat}(hc:c<2):isC (c:Int)=true:=by unfold isC;simp;omega
theorem z9a{c:Int}(h:isC c=true):∃ k:Nat,c=(k:Int)/\k<2:=by
 unfold isC at h;simp only[Bool.and_eq_true,decide_eq_true_eq]at h;exact⟨c.toNat,by omega,by omega⟩
theorem j6a{c:Int}(h:isV c=true):∃ k:Nat,c=(k:Int)/\k<6:=by
 have:=z2W.1 h;exact⟨c.toNat,by omega,by omega⟩
theorem z7H(g:Nat)(p:Pr)(v:PrV)(w:World)(h:CAt 58 w g (prC p v))(h0:0<=p.h)(h1:p.h<=1099511627776):Calls prog 70 #[J2 (some ⟨g,0,none⟩)] w fun e w'=>e=.returned (J I (p.h+1))/\w=w':=by
 have c0:w.cell? ⟨g,0,none⟩=some (J I p.h):=h.cell 0;clear h
 go_enter func70,ntmps70
 go_wp2;go_ret;exact⟨rfl,rfl⟩
theorem z5s(g:Nat)(p:Pr)(v:PrV)(c:Int)(w:World)(h:CAt 58 w g (prC p v)):Calls prog 97 #[J2 (some ⟨g,0,none⟩),J I c] w fun e w'=>e=.returned (J3 (z9q p c))/\w=w':=by
 have a:z9q p c=(isC c && (p.L c.toNat).on):=rfl;generalize z9q p c=o at *
 by_cases hc:isC c=true
 ·obtain⟨k,rfl,b⟩:=z9a hc;rw[hc,Bool.true_and,Int.toNat_natCast]at a
  have c0:w.cell? ⟨g,66+k * 14,none⟩=some (J3 (p.L k).on):=by
   have:=z1s (p:=p) (v:=v) k b 0 (by omega)
   rw[Nat.add_zero]at this;exact (h.cell _).trans this
  have k0:(0:Int)<=(k:Int):=by omega
  have d:(k:Int)<2:=by omega
  subst a;generalize (p.L k).on=o at *;clear h
  go_enter func97,ntmps97
  go_wp2_with (go_at_call 81;refine (z2F _ _).mono ?_;rintro e w'⟨rfl,rfl⟩)
  go_ret;exact⟨rfl,rfl⟩
 ·have hc:isC c=false:=by simpa using hc
  rw[hc,Bool.false_and]at a;subst a;clear h
  go_enter func97,ntmps97
  go_wp2_with (go_at_call 81;refine (z2F _ _).mono ?_;rintro e w'⟨rfl,rfl⟩)
  go_ret;exact⟨rfl,rfl⟩
theorem z9n(l:List (Int×Int))(v:Value)(P:Nat->Prop)(w:World)(h:Rep P w v 2 16 (pwC l)):Calls prog 95 #[v] w fun e w'=>e=.returned (J3 (z3l (-1) l))/\Bl w w':=by
 obtain⟨A,C,rfl,F,-,hc,-⟩:=h.open (z0c _) (by decide)
 have H:=J6 hc;have u:l.length<=8796093022202:=by omega
 obtain⟨G,q⟩:∃ G,z3l (-1) l=G:=⟨_,rfl⟩;have y:=J6 q;rw[q];clear hc h F q
 go_enter func95,ntmps95
 go_upto_region 3 with fail
 go_loopw [3,8] (fun K i wl=>∃ (k:Nat) (last:Int),k<=l.length/\i=J I (k:Int)/\K=J I last/\-1<=last/\Hid (G=z3l last (l.drop k)/\Bl w wl)) (fun _ i _=>l.length - (intOf i).toNat)
 case atStart=>exact⟨0,-1,Nat.zero_le _,rfl,rfl,by omega,y.out.symm,Below.refl _ _⟩
 case round =>
  obtain⟨k,last,N,rfl,rfl,L,d⟩:=hrel
  by_cases g:k<l.length
  ·have M:(k:Int)<(l.length:Int):=by omega
   obtain⟨x,z,hd⟩:=z4u g;obtain⟨b,off,rfl,-,j,hcell⟩:=H.out (by omega)
   have B:l.getD k (0,0)=x:=by simp[List.getD,z]
   obtain⟨p0,p1⟩:=z1U l k g;rw[B]at p0 p1;have c0:wr.cell? ⟨b,off+k * 2,none⟩=some (J I x.1):=(d.out.2.cell (p:=⟨b,off+k * 2,none⟩) j).trans (hcell _ _ p0);have c1:wr.cell? ⟨b,off+k * 2+1,none⟩=some (J I x.2):=(d.out.2.cell (p:=⟨b,off+k * 2+1,none⟩) j).trans (hcell _ _ p1);have o:Hid (G=(z7Y last x && z3l x.1 (l.drop (k+1)))):=by have:=d.out.1;rw[hd]at this;exact this
   have r:=J6 (d.out.2.alloc d.out.2.size (J5 #[J I x.1,J I x.2] 65));have D:Hid (∀ last,z7Y last x=(decide (last<x.1) && decide (x.1<=5) && decide (1<=x.2) && decide (x.2<=1125899906842624))):=fun _=>rfl;have c:Hid (isV x.1=decide (0<=x.1/\x.1<6)):=rfl;clear d hd z B p0 p1 hcell;obtain⟨a,f⟩:=x;dsimp only at c0 c1 c
   by_cases h1:last<a/\a<=5/\1<=f/\f<=1125899906842624
   ·obtain⟨h1,h2,h3,E⟩:=h1;have e:G=z3l a (l.drop (k+1)):=by rw[o.out,D.out];simp[h1,h2,h3,E]
    have m:=J6 e;have n:isV a=true:=by rw[c.out];simp;omega
    clear e o
    go_wp2_with (go_at_call 73;refine (z3r _ _).mono ?_;rintro e w'⟨rfl,rfl⟩)
    first | exact⟨⟨k+1,a,by omega,by go_num,rfl,by omega,m.out,r.out⟩,by simp[intOf];omega⟩ | ((repeat apply Exists.intro);exact⟨⟨k+1,a,by omega,by go_num,rfl,by omega,m.out,r.out⟩,rfl⟩)
   ·have e:G=false:=by
     rw[o.out,D.out];simp only[Bool.and_eq_false_iff,decide_eq_false_iff_not]
     by_cases q1:last<a
     ·by_cases q2:a<=5
      ·by_cases q3:1<=f
       ·exact .inl (.inr fun s=>h1 ⟨q1,q2,q3,s⟩)
       ·exact .inl (.inl (.inr q3))
      ·exact .inl (.inl (.inl (.inr q2)))
     ·exact .inl (.inl (.inl (.inl q1)))
    subst e;clear o y
    have t:¬ last<a∨(last<a/\isV a=false)∨(last<a/\isV a=true/\¬ 1<=f)∨(last<a/\isV a=true/\1<=f/\¬ f<=1125899906842624):=by
     by_cases q1:last<a
     ·by_cases q2:a<=5
      ·have n:isV a=true:=by rw[c.out];simp;omega
       by_cases q3:1<=f
       ·exact .inr (.inr (.inr ⟨q1,n,q3,fun s=>h1 ⟨q1,q2,q3,s⟩⟩))
       ·exact .inr (.inr (.inl ⟨q1,n,q3⟩))
      ·have n:isV a=false:=by rw[c.out];simp;omega
       exact .inr (.inl ⟨q1,n⟩)
     ·exact .inl q1
    clear h1
    rcases t with h1 | ⟨h1,h2⟩ | ⟨h1,h2,h3⟩ | ⟨h1,h2,h3,E⟩
    all_goals
     go_wp2_with (go_at_call 73;refine (z3r _ _).mono ?_;rintro e w'⟨rfl,rfl⟩)
     go_ret;exact⟨rfl,r.out⟩
  ·obtain rfl:k=l.length:=by omega
   have e:G=true:=by have:=d.out.1;rw[List.drop_length]at this;exact this
   subst e;go_wp2;go_ret;exact⟨rfl,d.out.2⟩
theorem q5D(l:List Int)(v:Value)(P:Nat->Prop)(w:World)(h:Rep P w v 1 8 (inC l)):Calls prog 139 #[v] w fun e w'=>e=.returned (J3 (z2j (-1) l))/\w=w':=by
 obtain⟨A,C,rfl,s,-,hc,-⟩:=h.open (z0h _) (by decide)
 have t:=J6 hc;have n:l.length<=17592186044405:=by omega
 obtain⟨G,f⟩:∃ G,z2j (-1) l=G:=⟨_,rfl⟩;have o:=J6 f;rw[f];clear hc h s f
 go_enter func139,ntmps139
 go_upto_region 3 with fail
 go_loop [3,8] (fun u i=>∃ (k:Nat) (last:Int),k<=l.length/\i=J I (k:Int)/\u=J I last/\-1<=last/\Hid (G=z2j last (l.drop k))) (fun _ i=>l.length - (intOf i).toNat)
 case atStart=>exact⟨0,-1,Nat.zero_le _,rfl,rfl,by omega,o.out.symm⟩
 case round =>
  obtain⟨k,last,D,rfl,rfl,y,g⟩:=hrel
  by_cases a:k<l.length
  ·have z:(k:Int)<(l.length:Int):=by omega
   obtain⟨x,p,hd⟩:=z4u a;obtain⟨b,off,rfl,-,B,hcell⟩:=t.out (by omega)
   have q:l.getD k 0=x:=by simp[List.getD,p]
   have p0:=z3J l k a;rw[q]at p0;have c0:w.cell? ⟨b,off+k,none⟩=some (J I x):=hcell _ _ p0;have d:Hid (G=((decide (last<x) && decide (x<=5)) && z2j x (l.drop (k+1)))):=by have:=g.out;rw[hd]at this;exact this
   have c:Hid (isV x=decide (0<=x/\x<6)):=rfl;clear g hd p q p0 hcell
   by_cases h1:last<x/\x<=5
   ·obtain⟨h1,h2⟩:=h1;have e:G=z2j x (l.drop (k+1)):=by rw[d.out];simp[h1,h2]
    have j:=J6 e;have r:isV x=true:=by rw[c.out];simp;omega
    clear e d
    go_wp2_with (go_at_call 73;refine (z3r _ _).mono ?_;rintro e w'⟨rfl,rfl⟩)
    go_round
    case rel=>exact⟨k+1,x,by omega,by go_num,rfl,by omega,j⟩
    case measure=>simp[intOf];omega
   ·have e:G=false:=by
     rw[d.out]
     have:(decide (last<x) && decide (x<=5))=false:=by
      rw[Bool.eq_false_iff];intro h;simp only[Bool.and_eq_true,decide_eq_true_eq]at h;exact h1 h
     rw[this,Bool.false_and]
    subst e;clear d o
    have m:¬ last<x∨(last<x/\isV x=false):=by
     by_cases q1:last<x
     ·have r:isV x=false:=by rw[c.out];simp;omega
      exact .inr ⟨q1,r⟩
     ·exact .inl q1
    clear h1
    rcases m with h1 | ⟨h1,h2⟩
    all_goals
     go_wp2_with (go_at_call 73;refine (z3r _ _).mono ?_;rintro e w'⟨rfl,rfl⟩)
     go_ret;exact⟨rfl,rfl⟩
  ·obtain rfl:k=l.length:=by omega
   have e:G=true:=by have:=g.out;rw[List.drop_length]at this;exact this
   subst e;go_wp2;go_ret;exact⟨rfl,rfl⟩
end Pv
end Go.Proofs.YtddlhnoedldidaaGreat
