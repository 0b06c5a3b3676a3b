/- Parts of the proof. -/
import Derived.Test.YtjghbciepinofaaGreatPL
import Derived.Test.YtjghbciepinofaaGreatPK44
set_option maxRecDepth 100000
set_option maxHeartbeats 16000000
namespace Go.Proofs.YtjghbciepinofaaGreat
open Go.Proofs.Tryz
open Value renaming int->J,slice->J1,pointer->J2,bool->J3,agg->J4
open IntKind renaming i64->I
open Obj renaming cells->J5
section
open Go.RowKit
def z2c(c:Nat)(h:Int)(x:Wt):Wt:=if c=0 then (if x.h0<=h then { x with h0:=0 } else x) else (if x.h1<=h then { x with h1:=0 } else x)
def z5g(c:Nat)(h:Int)(W:List Wt):List Wt:=W.map (z2c c h)
theorem z5e(F:Wt->Wt){W:List Wt}{k:Nat}{x:Wt}(a:W[k]?=some x):(W.take (k+1)).map F ++ W.drop (k+1)=((W.take k).map F ++ W.drop k).set k (F x)/\((W.take k).map F ++ W.drop k)[k]?=some x/\((W.take k).map F ++ W.drop k).length=W.length:=by
 obtain⟨b,c⟩:=List.getElem?_eq_some_iff.1 a;have hl:((W.take k).map F).length=k:=by rw[List.length_map,List.length_take];omega
 have hd:W.drop k=x :: W.drop (k+1):=by rw[<- c];exact List.drop_eq_getElem_cons b
 refine⟨?_,?_,?_⟩
 ·rw[z0K a,hd,List.map_append,List.set_append_right _ _ (by omega),hl,Nat.sub_self,List.append_assoc]
  rfl
 ·rw[List.getElem?_append_right (by omega),hl,Nat.sub_self,hd]
  rfl
 ·rw[List.length_append,List.length_map,<- List.length_append,List.take_append_drop]
theorem z9G:∀ (W:List Wt) (k:Nat) (x a:Wt) (j:Nat) (v:Value),W[k]?=some x->j<8->wtL a=(wtL x).set j v->wsL (W.set k a)=(wsL W).set (k * 8+j) v
 | [],k,x,a,j,v,h,_,_=>by simp at h
 | z :: W,0,x,a,j,v,h,hj,he=>by
  simp at h
  subst h
  show wtL a ++ wsL W=(wtL z ++ wsL W).set _ _
  rw[List.set_append_left _ _ (by rw[z1y];omega),he]
  simp
 | z :: W,k+1,x,a,j,v,h,hj,he=>by
  have b:=z9G W k x a j v (by simpa using h) hj he
  show wtL z ++ wsL (W.set k _)=(wtL z ++ wsL W).set _ _
  rw[List.set_append_right _ _ (by rw[z1y];omega),z1y,b]
  congr 2
  omega
theorem z1k.put{B:Nat}{w:World}{g C:Nat}{W:List Wt}(h:z1k B w (some ⟨g,0,none⟩) C W){k:Nat}{x:Wt}(b:W[k]?=some x)(a:Wt)(j:Nat)(v:Value)(c:j<8)(d:wtL a=(wtL x).set j v):z1k B (w.setCell ⟨g,k * 8+j,none⟩ v) (some ⟨g,0,none⟩) C (W.set k a):=by
 have h1:=(World.ownsRow.stored h (k * 8+j) v).1;unfold z1k;rw[z9G W k x a j v b c d,List.length_set];exact h1
theorem z1k.holds{B:Nat}{w:World}{A:Option Addr}{C:Nat}{W:List Wt}(h:z1k B w A C W)(h0:0<W.length):∃ g,A=some ⟨g,0,none⟩/\B<=g/\g<w.heap.size/\∀ k x,W[k]?=some x->(w.cell? ⟨g,k * 8+6,none⟩=some (J I x.h0)/\w.cell? ⟨g,k * 8+7,none⟩=some (J I x.h1)/\w.frozen? ⟨g,k * 8+6,none⟩=false/\w.frozen? ⟨g,k * 8+7,none⟩=false):=by
 have a:=h
 rcases h.2 with⟨hv,hn⟩ | ⟨g,cap,cur,hv,hb,hg,hrest⟩
 ·omega
 ·cases hv;refine⟨g,rfl,hb,(Array.getElem?_eq_some_iff.1 hg).1,fun k x b=>?_⟩
  have c:∀ j v,(wtL x)[j]?=some v->j<8->w.cell? ⟨g,k * 8+j,none⟩=some v:=fun j v d hl=>by
   have:=World.ownsRow.cells a (g:=g) rfl (k * 8+j) v ((z4D W k x j b hl).trans d)
   rwa [Addr.add_lit,Nat.zero_add]at this
  exact⟨c 6 _ rfl (by omega),c 7 _ rfl (by omega),World.ownsRow.frozenAt a _,World.ownsRow.frozenAt a _⟩
end
section
structure Kp(s:St)(r:St×Int):Prop where
 good:z0j r.1=true
 bu:s.b.bu<=r.1.b.bu
 dead:∀ k,k<6->(s.V k).dead=true->(r.1.V k).dead=true
 lost:∀ k,k<6->(s.V k).lost<=(r.1.V k).lost
 no:r.2≠0->r.1=s
theorem q9E{next next':Int}(a:next<=next'):∀ {W:List Wt} {last:Int},wOk next last W=true->wOk next' last W=true
 | [],_,_=>rfl
 | x :: W,last,h=>by
  simp only[wOk,q1W,Bool.and_eq_true,decide_eq_true_eq]at h ⊢;obtain⟨⟨⟨⟨⟨⟨⟨h1,h2⟩,h3⟩,b⟩,c⟩,d⟩,e⟩,f⟩:=h;exact⟨⟨⟨⟨⟨⟨⟨h1,by omega⟩,h3⟩,b⟩,c⟩,d⟩,e⟩,q9E a f⟩
theorem z5i{s:St}(a:z0j s=true){v:Nat}(c:v<6)(h:Int){f:Int}(d:0<=f/\f<=1000):Kp s (z0Q s v h f,0):=by
 obtain⟨b0,b1,b2,b3,l⟩:=z3A a c h d;obtain⟨m,n,o,p,q,r,t,u,w,g,i⟩:=z2H a c h d;refine⟨z6L a c h d,by show s.b.bu<=(z0Q s v h f).b.bu;omega,fun k j hd=>?_,fun k j=>?_,fun h=>absurd rfl h⟩
 ·show (z2a s.V v _ k).dead=true
  unfold z2a
  split
  ·rename_i e;subst e;exact hd
  ·exact hd
 ·show (s.V k).lost<=(z2a s.V v _ k).lost
  unfold z2a
  split
  ·rename_i e;subst e;show _<=(s.V k).lost+_;omega
  ·exact Int.le_refl _
theorem z8c{s:St}(f:z0j s=true){v:Nat}(g:v<6){j d:Bool}(e:d=true->j=true):z0j (z2V s v j d)=true:=by
 rw[z0S]at f ⊢;obtain⟨h1,h2,h3,l,m,n,o,p,q⟩:=f;refine⟨h1,h2,h3,l,m,fun k r=>?_,?_,p,?_⟩
 ·obtain⟨a,h,i⟩:=n k r
  show vOk (z2a s.V v _ k)=true/\z2F s.S k 4=true/\psh s.S k 4=(z2a s.V v _ k).sh
  unfold z2a
  by_cases c:k=v
  ·subst c;rw[if_pos rfl];rw[z3a]at a;refine⟨?_,h,i⟩;rw[z3a];exact⟨a.1,a.2.1,a.2.2.1,a.2.2.2.1,e⟩
  ·rw[if_neg c];exact⟨a,h,i⟩
 ·show z5c (z2a s.V v _) 6=s.b.bo
  rw[q0j _ _ _ g,o];simp only;omega
 ·show z2l (z2a s.V v _) 6=s.b.bu
  rw[z7P _ _ _ g,q];simp only;omega
theorem q0a{s:St}(a:z0j s=true)(t:Int):Kp s (z3e s t,0):=by
 obtain⟨d,e,f,g⟩:=q2F a t;exact⟨z9S a t,by show s.b.bu<=(z3e s t).b.bu;omega,fun k c h=>h,fun k c=>Int.le_refl _,fun h=>absurd rfl h⟩
theorem z6B(c:Nat)(h:Int)(x:Wt):(z2c c h x).num=x.num/\(z2c c h x).d=x.d/\(z2c c h x).v=x.v/\(z2c c h x).hei=x.hei/\(z2c c h x).due=x.due/\(z2c c h x).amt=x.amt:=by
 unfold z2c
 repeat' split
 all_goals exact⟨rfl,rfl,rfl,rfl,rfl,rfl⟩
theorem q3l{next h:Int}{c:Nat}:∀ {W:List Wt} {last:Int},wOk next last W=true->wOk next last (z5g c h W)=true
 | [],_,_=>rfl
 | x :: W,last,hw=>by
  obtain⟨a,b,d,e,f,g⟩:=z6B c h x;simp only[wOk,Bool.and_eq_true]at hw;have i:=q3l (c:=c) (h:=h) hw.2;have h1:=hw.1;simp only[z5g,List.map_cons,wOk,q1W,Bool.and_eq_true,decide_eq_true_eq,a,b,d,e,f,g]at h1 ⊢;exact⟨h1,i⟩
theorem q0u(c:Nat)(h:Int):∀ W:List Wt,z1N (z5g c h W)=z1N W
 | []=>rfl
 | x :: W=>by
  show (z2c c h x).amt+z1N (z5g c h W)=x.amt+z1N W
  rw[q0u c h W,(z6B c h x).2.2.2.2.2]
theorem q8z{s:St}(a:z0j s=true)(c:Nat)(h:Int):Kp s ({ s with W:=z5g c h s.W },0):=by
 refine⟨?_,Int.le_refl _,fun _ _ h=>h,fun _ _=>Int.le_refl _,fun h=>absurd rfl h⟩;rw[z0S]at a ⊢;obtain⟨h1,h2,h3,b,d,e,f,g,i⟩:=a;exact⟨h1,h2,h3,by show (z5g c h s.W).length<=60;unfold z5g;rw[List.length_map];exact b,q3l d,e,f,by show z1N (z5g c h s.W)=_;rw[q0u];exact g,i⟩
end
namespace Pv
open Go.RowKit
def isC(c:Int):Bool:=decide (0<=c) && decide (c<2)
def z3d(L:Nat->Lk)(c:Nat)(x:Lk):Nat->Lk:=fun i=>if i=c then x else L i
def z4V(p:Pr)(d v n:Int):Pr×Int:=if z1s p=true then ({ p with s:=(z1u p.s d v n).1 },(z1u p.s d v n).2) else (p,2)
def q9T(p:Pr)(c:Int):Bool:=isC c && (p.L c.toNat).on
def q0k(s:St)(v:Nat)(h:Int):St:=z2V (z0Q s v h 50) v true true
def z1F(D:List Int)(v:Int):List Int:=((List.range 6).map Int.ofNat).filter fun u=>decide (u=v) || decide (u∈D)
def q4K(x:Vd):Int:=if x.tok / 100<1 then 1 else x.tok / 100
def q4J(a b:Int):Int:=if a<b then b else a
def z0y(p:Pr)(c:Nat)(x:Pkt):Pr×Bool:=
 if x.k=2 then ({ p with s:={ p.s with W:=z5g c x.i p.s.W } },true)
 else if x.k=4 then
  if (p.s.V x.v.toNat).dead=true then (p,true) else ({ p with s:=q0k p.s x.v.toNat (q4J x.i (p.L c).base) },true)
 else if (p.s.V x.v.toNat).jail=true then ({ p with L:=z3d p.L c { p.L c with done:=z1F (p.L c).done x.v } },true)
 else if p.ml<1 then (p,false)
 else ({ p with ml:=wrap64 (p.ml - q4K (p.s.V x.v.toNat)),s:=z2V p.s x.v.toNat true (p.s.V x.v.toNat).dead,L:=z3d p.L c { p.L c with done:=z1F (p.L c).done x.v } },true)
structure QS where
 p:Pr
 wt:Nat->Bool
 left:List (Int×Pkt)
def z1M(z:QS)(a:Int×Pkt):QS:=
 if z.wt a.1.toNat=true then { z with left:=z.left ++ [a] }
 else if (z0y z.p a.1.toNat a.2).2=true then { z with p:=(z0y z.p a.1.toNat a.2).1 }
 else { z with wt:=fun i=>if i=a.1.toNat then true else z.wt i,left:=z.left ++ [a] }
def goQ(p:Pr):QS:=p.q.foldl z1M ⟨p,fun _=>false,[]⟩
def z0H(p:Pr):Pr:={ (goQ p).p with q:=(goQ p).left }
def z3n(p:Pr)(x:Lk):Bool:=!x.on || (decide (x.told=p.set) && !x.fresh && decide (x.done.length=0))
def z1B(p:Pr)(c:Nat):Pr:=
 if z3n p (p.L c)=true then p
 else if Cd.z0o 1 p.h 0 0 (Df.z2x (p.L c).told p.set) (p.L c).done=0 then
  if Ln.z4M (p.L c).out (p.t+40)=0 then { p with L:=z3d p.L c { p.L c with out:=Ln.z5z (p.L c).out (Cd.encS 1 p.h 0 0 (Df.z2x (p.L c).told p.set) (p.L c).done) (p.t+40),told:=p.set,fresh:=false,done:=[] } } else p
 else p
def z0Z(p:Pr)(now:Int):Pr:={ p with h:=p.h+1,t:=now,ml:=if now<p.mn then p.ml else Mt.alw (Df.z6c p.set),mn:=if now<p.mn then p.mn else wrap64 (now+10) }
def z3X(p:Pr)(now:Int):Pr:={ p with s:=z3e p.s now,set:=z4Y (z3e p.s now).V }
def endP(p:Pr)(now:Int):Pr×List Int×Int:=
 if z1s p=true/\isT now=true/\p.t<=now then
  (z1B (z1B (z3X (z0H (z0Z p now)) now) 0) 1,z0D now (z0H (z0Z p now)).s.W,0)
 else (p,[],2)
def newP:Pr:=⟨0,0,q8x,[],fun _=>⟨false,false,0,[],false,[],⟨[],[],0,false⟩,0,0,0,0⟩,1,10,[]⟩
theorem z4b(n:Int)(w:World):Calls prog 27 #[J I n] w fun e w'=>e=.returned (J3 (isT n))/\w=w':=by
 have b:isT n=(decide (0<=n) && decide (n<=1099511627776)):=rfl;generalize isT n=t at *;have a:=J6 b;clear b
 by_cases h:0<=n
 ·by_cases h2:n<=1099511627776
  ·have e:t=true:=by rw[a.out];simp[h,h2]
   subst e
   go_enter func27,ntmps27
   go_wp2;go_ret;exact⟨rfl,rfl⟩
  ·have e:t=false:=by rw[a.out];simp[h2]
   subst e
   go_enter func27,ntmps27
   go_wp2;go_ret;exact⟨rfl,rfl⟩
 ·have e:t=false:=by rw[a.out];simp[h]
  subst e
  go_enter func27,ntmps27
  go_wp2;go_ret;exact⟨rfl,rfl⟩
theorem z8m(n:Int)(w:World):Calls prog 63 #[J I n] w fun e w'=>e=.returned (J3 (isC n))/\w=w':=by
 have b:isC n=(decide (0<=n) && decide (n<2)):=rfl;generalize isC n=t at *;have a:=J6 b;clear b
 by_cases h:0<=n
 ·by_cases h2:n<2
  ·have e:t=true:=by rw[a.out];simp[h,h2]
   subst e
   go_enter func63,ntmps63
   go_wp2;go_ret;exact⟨rfl,rfl⟩
  ·have e:t=false:=by rw[a.out];simp[h2]
   subst e
   go_enter func63,ntmps63
   go_wp2;go_ret;exact⟨rfl,rfl⟩
 ·have e:t=false:=by rw[a.out];simp[h]
  subst e
  go_enter func63,ntmps63
  go_wp2;go_ret;exact⟨rfl,rfl⟩
theorem z5j(v:Int)(w:World):Calls prog 79 #[J I v] w fun e w'=>e=.returned (J3 (isV v))/\w=w':=by
 have b:isV v=decide (0<=v/\v<6):=rfl;generalize isV v=t at *;have a:=J6 b;clear b
 by_cases h:0<=v
 ·by_cases h2:v<6
  ·have e:t=true:=by rw[a.out];simp[h,h2]
   subst e
   go_enter func79,ntmps79
   go_wp2;go_ret;exact⟨rfl,rfl⟩
  ·have e:t=false:=by rw[a.out];simp[h2]
   subst e
   go_enter func79,ntmps79
   go_wp2;go_ret;exact⟨rfl,rfl⟩
 ·have e:t=false:=by rw[a.out];simp[h]
  subst e
  go_enter func79,ntmps79
  go_wp2;go_ret;exact⟨rfl,rfl⟩
theorem j0V{c:Nat}(a:c<2):isC (c:Int)=true:=by unfold isC;simp;omega
theorem q9b{c:Int}(h:isC c=true):∃ k:Nat,c=(k:Int)/\k<2:=by
 unfold isC at h;simp only[Bool.and_eq_true,decide_eq_true_eq]at h;exact⟨c.toNat,by omega,by omega⟩
theorem q4E(g:Nat)(p:Pr)(v:PrV)(c:Int)(w:World)(h:CAt 47 w g (prC p v)):Calls prog 23 #[J2 (some ⟨g,0,none⟩),J I c] w fun e w'=>e=.returned (J3 (q9T p c))/\w=w':=by
 have b:q9T p c=(isC c && (p.L c.toNat).on):=rfl;generalize q9T p c=o at *
 by_cases a:isC c=true
 ·obtain⟨k,rfl,d⟩:=q9b a;rw[a,Bool.true_and,Int.toNat_natCast]at b
  have c0:w.cell? ⟨g,66+k * 14,none⟩=some (J3 (p.L k).on):=by
   have:=z2E (p:=p) (v:=v) k d 0 (by omega)
   rw[Nat.add_zero]at this;exact (h.cell _).trans this
  have f:(0:Int)<=(k:Int):=by omega
  have i:(k:Int)<2:=by omega
  subst b;generalize (p.L k).on=o at *;clear h
  go_enter func23,ntmps23
  go_wp2_with (go_at_call 63;refine (z8m _ _).mono ?_;rintro e w'⟨rfl,rfl⟩)
  go_ret;exact⟨rfl,rfl⟩
 ·have a:isC c=false:=by simpa using a
  rw[a,Bool.false_and]at b;subst b;clear h
  go_enter func23,ntmps23
  go_wp2_with (go_at_call 63;refine (z8m _ _).mono ?_;rintro e w'⟨rfl,rfl⟩)
  go_ret;exact⟨rfl,rfl⟩
theorem z7m(l:List (Int×Int))(v:Value)(P:Nat->Prop)(w:World)(h:Rep P w v 2 16 (pwC l)):Calls prog 34 #[v] w fun e w'=>e=.returned (J3 (z2h (-1) l))/\Bl w w':=by
 obtain⟨A,C,rfl,H,-,u,-⟩:=h.open (z0r _) (by decide)
 have K:=J6 u;have y:l.length<=8796093022202:=by omega
 obtain⟨G,q⟩:∃ G,z2h (-1) l=G:=⟨_,rfl⟩;have z:=J6 q;rw[q];clear u h H q
 go_enter func34,ntmps34
 go_upto_region 3 with fail
 go_loopw [3,8] (fun L i wl=>∃ (k:Nat) (last:Int),k<=l.length/\i=J I (k:Int)/\L=J I last/\-1<=last/\Hid (G=z2h last (l.drop k)/\Bl w wl)) (fun _ i _=>l.length - (intOf i).toNat)
 case atStart=>exact⟨0,-1,Nat.zero_le _,rfl,rfl,by omega,z.out.symm,Below.refl _ _⟩
 case round =>
  obtain⟨k,last,Q,rfl,rfl,M,d⟩:=hrel
  by_cases g:k<l.length
  ·have N:(k:Int)<(l.length:Int):=by omega
   obtain⟨x,B,hd⟩:=z5l g;obtain⟨b,off,rfl,-,j,hcell⟩:=K.out (by omega)
   have D:l.getD k (0,0)=x:=by simp[List.getD,B]
   obtain⟨p0,p1⟩:=z2t l k g;rw[D]at p0 p1;have c0:wr.cell? ⟨b,off+k * 2,none⟩=some (J I x.1):=(d.out.2.cell (p:=⟨b,off+k * 2,none⟩) j).trans (hcell _ _ p0);have c1:wr.cell? ⟨b,off+k * 2+1,none⟩=some (J I x.2):=(d.out.2.cell (p:=⟨b,off+k * 2+1,none⟩) j).trans (hcell _ _ p1);have o:Hid (G=(z8P last x && z2h x.1 (l.drop (k+1)))):=by have:=d.out.1;rw[hd]at this;exact this
   have r:=J6 (d.out.2.alloc d.out.2.size (J5 #[J I x.1,J I x.2] 74));have E:Hid (∀ last,z8P last x=(decide (last<x.1) && decide (x.1<=5) && decide (1<=x.2) && decide (x.2<=1125899906842624))):=fun _=>rfl;have c:Hid (isV x.1=decide (0<=x.1/\x.1<6)):=rfl;clear d hd B D p0 p1 hcell;obtain⟨a,f⟩:=x;dsimp only at c0 c1 c
   by_cases h1:last<a/\a<=5/\1<=f/\f<=1125899906842624
   ·obtain⟨h1,h2,h3,F⟩:=h1;have e:G=z2h a (l.drop (k+1)):=by rw[o.out,E.out];simp[h1,h2,h3,F]
    have m:=J6 e;have n:isV a=true:=by rw[c.out];simp;omega
    clear e o
    go_wp2_with (go_at_call 79;refine (z5j _ _).mono ?_;rintro e w'⟨rfl,rfl⟩)
    first | exact⟨⟨k+1,a,by omega,by go_num,rfl,by omega,m.out,r.out⟩,by simp[intOf];omega⟩ | ((repeat apply Exists.intro);exact⟨⟨k+1,a,by omega,by go_num,rfl,by omega,m.out,r.out⟩,rfl⟩)
   ·have e:G=false:=by
     rw[o.out,E.out];simp only[Bool.and_eq_false_iff,decide_eq_false_iff_not]
     by_cases q1:last<a
     ·by_cases q2:a<=5
      ·by_cases q3:1<=f
       ·exact .inl (.inr fun s=>h1 ⟨q1,q2,q3,s⟩)
       ·exact .inl (.inl (.inr q3))
      ·exact .inl (.inl (.inl (.inr q2)))
     ·exact .inl (.inl (.inl (.inl q1)))
    subst e;clear o z
    have t:¬ last<a∨(last<a/\isV a=false)∨(last<a/\isV a=true/\¬ 1<=f)∨(last<a/\isV a=true/\1<=f/\¬ f<=1125899906842624):=by
     by_cases q1:last<a
     ·by_cases q2:a<=5
      ·have n:isV a=true:=by rw[c.out];simp;omega
       by_cases q3:1<=f
       ·exact .inr (.inr (.inr ⟨q1,n,q3,fun s=>h1 ⟨q1,q2,q3,s⟩⟩))
       ·exact .inr (.inr (.inl ⟨q1,n,q3⟩))
      ·have n:isV a=false:=by rw[c.out];simp;omega
       exact .inr (.inl ⟨q1,n⟩)
     ·exact .inl q1
    clear h1
    rcases t with h1 | ⟨h1,h2⟩ | ⟨h1,h2,h3⟩ | ⟨h1,h2,h3,F⟩
    all_goals
     go_wp2_with (go_at_call 79;refine (z5j _ _).mono ?_;rintro e w'⟨rfl,rfl⟩)
     go_ret;exact⟨rfl,r.out⟩
  ·obtain rfl:k=l.length:=by omega
   have e:G=true:=by have:=d.out.1;rw[List.drop_length]at this;exact this
   subst e;go_wp2;go_ret;exact⟨rfl,d.out.2⟩
theorem q1q(l:List Int)(v:Value)(P:Nat->Prop)(w:World)(h:Rep P w v 1 8 (inC l)):Calls prog 80 #[v] w fun e w'=>e=.returned (J3 (z1v (-1) l))/\w=w':=by
 obtain⟨A,C,rfl,t,-,n,-⟩:=h.open (z0M _) (by decide)
 have u:=J6 n;have o:l.length<=17592186044405:=by omega
 obtain⟨G,f⟩:∃ G,z1v (-1) l=G:=⟨_,rfl⟩;have p:=J6 f;rw[f];clear n h t f
 go_enter func80,ntmps80
 go_upto_region 3 with fail
 go_loop [3,8] (fun y i=>∃ (k:Nat) (last:Int),k<=l.length/\i=J I (k:Int)/\y=J I last/\-1<=last/\Hid (G=z1v last (l.drop k))) (fun _ i=>l.length - (intOf i).toNat)
 case atStart=>exact⟨0,-1,Nat.zero_le _,rfl,rfl,by omega,p.out.symm⟩
 case round =>
  obtain⟨k,last,E,rfl,rfl,z,g⟩:=hrel
  by_cases a:k<l.length
  ·have B:(k:Int)<(l.length:Int):=by omega
   obtain⟨x,q,hd⟩:=z5l a;obtain⟨b,off,rfl,-,D,hcell⟩:=u.out (by omega)
   have r:l.getD k 0=x:=by simp[List.getD,q]
   have p0:=z3f l k a;rw[r]at p0;have c0:w.cell? ⟨b,off+k,none⟩=some (J I x):=hcell _ _ p0;have d:Hid (G=((decide (last<x) && decide (x<=5)) && z1v x (l.drop (k+1)))):=by have:=g.out;rw[hd]at this;exact this
   have c:Hid (isV x=decide (0<=x/\x<6)):=rfl;clear g hd q r p0 hcell
   by_cases h1:last<x/\x<=5
   ·obtain⟨h1,h2⟩:=h1;have e:G=z1v x (l.drop (k+1)):=by rw[d.out];simp[h1,h2]
    have j:=J6 e;have s:isV x=true:=by rw[c.out];simp;omega
    clear e d
    go_wp2_with (go_at_call 79;refine (z5j _ _).mono ?_;rintro e w'⟨rfl,rfl⟩)
    go_round
    case rel=>exact⟨k+1,x,by omega,by go_num,rfl,by omega,j⟩
    case measure=>simp[intOf];omega
   ·have e:G=false:=by
     rw[d.out]
     have:(decide (last<x) && decide (x<=5))=false:=by
      rw[Bool.eq_false_iff];intro h;simp only[Bool.and_eq_true,decide_eq_true_eq]at h;exact h1 h
     rw[this,Bool.false_and]
    subst e;clear d p
    have m:¬ last<x∨(last<x/\isV x=false):=by
     by_cases q1:last<x
     ·have s:isV x=false:=by rw[c.out];simp;omega
      exact .inr ⟨q1,s⟩
     ·exact .inl q1
    clear h1
    rcases m with h1 | ⟨h1,h2⟩
    all_goals
     go_wp2_with (go_at_call 79;refine (z5j _ _).mono ?_;rintro e w'⟨rfl,rfl⟩)
     go_ret;exact⟨rfl,rfl⟩
  ·obtain rfl:k=l.length:=by omega
   have e:G=true:=by have:=g.out;rw[List.drop_length]at this;exact this
   subst e;go_wp2;go_ret;exact⟨rfl,rfl⟩
end Pv
end Go.Proofs.YtjghbciepinofaaGreat
