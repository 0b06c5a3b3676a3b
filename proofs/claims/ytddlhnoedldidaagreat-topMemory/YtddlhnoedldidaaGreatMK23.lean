/- Parts of the proof. -/
import Derived.Test.YtddlhnoedldidaaGreatML
import Derived.Test.YtddlhnoedldidaaGreatMK43
set_option maxRecDepth 100000
set_option maxHeartbeats 16000000
namespace Go.Proofs.YtddlhnoedldidaaGreat
open Go.Proofs.Tryz
open Value renaming int->J,slice->J1,pointer->J2,bool->J3,agg->J4
open IntKind renaming i64->I
open Obj renaming cells->J5
namespace Pv
open Go.RowKit
theorem z0U:∀ (q:List (Int×Pkt)) (z:List (Value×Value)),z.length=q.length->(quL q z).length=q.length * 7
 | [],[],_=>rfl
 | x :: q,y :: z,h=>by
  have:=z0U q z (by simpa using h)
  show (akL x y ++ quL q z).length=_
  rw[List.length_append,this,List.length_cons]
  show 7+_=_
  omega
 | [],_ :: _,h=>by simp at h
 | _ :: _,[],h=>by simp at h
theorem q2A:∀ (q:List (Int×Pkt)) (z:List (Value×Value)) (x:Int×Pkt) (y:Value×Value),z.length=q.length->quL (q ++ [x]) (z ++ [y])=quL q z ++ akL x y
 | [],[],x,y,_=>by simp[quL]
 | a :: q,b :: z,x,y,h=>by
  show akL a b ++ quL (q ++ [x]) (z ++ [y])=(akL a b ++ quL q z) ++ _
  rw[q2A q z x y (by simpa using h),List.append_assoc]
 | [],_ :: _,_,_,h=>by simp at h
 | _ :: _,[],_,_,h=>by simp at h
theorem z4b:∀ (q:List (Int×Pkt)) (z:List (Value×Value)) (i:Nat) (x:Int×Pkt) (y:Value×Value) (j:Nat),q[i]?=some x->z[i]?=some y->j<7->(quL q z)[i * 7+j]?=(akL x y)[j]?
 | a :: q,b :: z,0,x,y,j,h1,h2,hj=>by
  simp at h1 h2
  subst h1 h2
  show (akL a b ++ quL q z)[0 * 7+j]?=_
  rw[Nat.zero_mul,Nat.zero_add,List.getElem?_append_left (by exact hj)]
 | a :: q,b :: z,i+1,x,y,j,h1,h2,hj=>by
  show (akL a b ++ quL q z)[(i+1) * 7+j]?=_
  rw[List.getElem?_append_right (by show 7<=_;omega)]
  rw[show (i+1) * 7+j - (akL a b).length=i * 7+j by show (i+1) * 7+j - 7=_;omega]
  exact z4b q z i x y j (by simpa using h1) (by simpa using h2) hj
 | [],_,i,_,_,_,h1,_,_=>by simp at h1
 | _ :: _,[],i,_,_,_,_,h2,_=>by simp at h2
theorem q7T:(prog.info? 70).map (fun i=>(i.zero,i.size,i.bytes))=some (some (J4 #[J I 0,J I 0,J I 0,J I 0,J I 0,J1 none 0 0,J1 none 0 0]),7,88):=by kernel_rfl
theorem z2E:(prog.info? 58).map (·.size)=some 97:=by kernel_rfl
theorem z0d:zeroCells58.size=97:=by kernel_rfl
theorem z6N{w:World}{b:Nat}{p:Pr}{v:PrV}(h:CAt 58 w b (prC p v)):w.rangeAt b 2 (stC p.s v.ws).toList:=h.part fun j x a=>by
 have c:j<63:=(List.getElem?_eq_some_iff.1 a).1;simp only[prC,List.getElem?_toArray];rw[show 2+j=j+2 by omega]
 show ((stC p.s v.ws).toList ++ _)[j]?=_
 rw[List.getElem?_append_left (by simpa [z0f] using c)]
 exact a
theorem j6c{p:Pr}{v:PrV}(u:Value):(prC p v).setIfInBounds 65 u=prC p { v with set:=u }:=rfl
theorem j8l{p:Pr}{v:PrV}(u:Value):(prC p v).setIfInBounds 96 u=prC p { v with q:=u }:=rfl
def PrV.upd(v:PrV)(k:Nat)(x:LkV):PrV:={ v with l:=fun i=>if i=k then x else v.l i }
theorem q9P(p:Pr)(v:PrV)(k:Nat)(b:k<2):∃ a c:List Value,a.length=66+k * 14/\prC p v=(a ++ (lkL (p.L k) (v.l k) ++ c)).toArray/\∀ x,prC p (v.upd k x)=(a ++ (lkL (p.L k) x ++ c)).toArray:=by
 have h0:([J I p.h,J I p.t] ++ ((stC p.s v.ws).toList ++ [v.set]):List Value).length=66:=by simp[z0f]
 match k,b with
 | 0,_ =>
  refine⟨[J I p.h,J I p.t] ++ ((stC p.s v.ws).toList ++ [v.set]),lkL (p.L 1) (v.l 1) ++ [J I p.ml,J I p.mn,v.q],h0,?_,fun x=>?_⟩
  ·simp[prC]
  ·simp[prC,PrV.upd]
 | 1,_ =>
  refine⟨[J I p.h,J I p.t] ++ ((stC p.s v.ws).toList ++ [v.set]) ++ lkL (p.L 0) (v.l 0),[J I p.ml,J I p.mn,v.q],?_,?_,fun x=>?_⟩
  ·rw[List.length_append,h0];rfl
  ·simp[prC]
  ·simp[prC,PrV.upd]
theorem z1s{p:Pr}{v:PrV}(k:Nat)(b:k<2)(j:Nat)(d:j<14):(prC p v)[66+k * 14+j]?=(lkL (p.L k) (v.l k))[j]?:=by
 obtain⟨a,c,e,h1,h2⟩:=q9P p v k b;rw[h1,List.getElem?_toArray,List.getElem?_append_right (by omega),e,Nat.add_sub_cancel_left,List.getElem?_append_left (by exact d)]
theorem Rep.one{P:Nat->Prop}{w:World}{v:Value}{sz bts:Nat}{cs:List Value}(h:Rep P w v sz bts cs):v.oneCell'=true:=by
 obtain⟨_,_,_,rfl,_⟩:=h;rfl
theorem q3I{P:Nat->Prop}{w:World}{x:Lk}{v:LkV}(h:z5g P w x v):∀ u∈lkL x v,u.oneCell'=true:=fun u hu=>by
 simp only[lkL,List.mem_cons,List.not_mem_nil,or_false]at hu
 rcases hu with rfl | rfl | rfl | rfl | rfl | rfl | rfl | rfl | rfl | rfl | rfl | rfl | rfl | rfl <;> first | rfl | exact h.told.one | exact h.done.one | exact h.said.one | exact h.due.one
theorem z0Y{P:Nat->Prop}{w:World}{p:Pr}{v:PrV}(h:PIn P w p v):(prC p v).all (·.oneCell')=true:=by
 obtain⟨A,n,C,e,_⟩:=h.ws;have a:(stC p.s v.ws).all (·.oneCell')=true:=by rw[e];exact z0y _ _ _ _
 rw[Array.all_eq_true_iff_forall_mem]at *;obtain⟨_,_,⟨b,nq,c,eq,_⟩,_⟩:=h.q;intro u hu;simp only[prC,List.mem_toArray,List.mem_append,List.mem_cons,List.not_mem_nil,or_false]at hu
 rcases hu with (rfl | rfl) | hu | rfl | hu | hu | rfl | rfl | rfl
 ·rfl
 ·rfl
 ·exact a u (by simpa using hu)
 ·exact h.set.one
 ·exact q3I (h.lk 0 (by omega)) u hu
 ·exact q3I (h.lk 1 (by omega)) u hu
 ·rfl
 ·rfl
 ·rw[eq];rfl
theorem take_one{α:Type}{l:List α}{k:Nat}{x:α}(h:l[k]?=some x):l.take k ++ [x]=l.take (k+1):=by
 have a:=(List.getElem?_eq_some_iff.1 h).1;rw[List.take_succ_eq_append_getElem a]
 congr 2
 exact ((List.getElem?_eq_some_iff.1 h).2).symm
end Pv
section
open Go.RowKit
def z8i(v:Value):Sem Value:=Instr.loadAt 43 v
theorem z1B(v:Value):Instr.loadAt 43 v=z8i v:=rfl
theorem SAt.z8i{w:World}{b:Nat}{cs:Array Value}(h:SAt w b cs)(a:cs.size=63):(z8i (J2 (some ⟨b,0,none⟩))).run prog w=.ok (J4 cs) w:=h.load a
end
namespace Pv
open Go.RowKit
def q3Q(v:Value):Sem Value:=Instr.loadAt 52 v
theorem q1i(v:Value):Instr.loadAt 52 v=q3Q v:=rfl
theorem z2a{w:World}{b:Nat}{p:Pr}{v:PrV}(h:CAt 58 w b (prC p v)):(z8i (J2 (some ⟨b,2,none⟩))).run prog w=.ok (J4 (stC p.s v.ws)) w:=by
 have:=run_loadAt_mid (P:=prog) w b 2 43 _ _ (z6N h) underlying43 rfl (by rw[z0x];rfl)
 change (Instr.loadAt 43 _).run prog w=_
 simpa using this
attribute [local go_sem ↓] q1i
end Pv
section
open Go.RowKit
theorem z5B{s:St}{d v n:Int}{y:Wt}(h:z0T s d v≠0):z0S s d v n y=(s,z0T s d v):=if_neg h
section
variable {s:St} {d v n:Int} {y:Wt} (h:z0T s d v=0)
include h
theorem q2r(h1:¬ ((decide (0<n) && inA n)=true/\0<=y.hei/\0<=y.due)):z0S s d v n y=(s,2):=by rw[z0S,if_pos h,if_neg h1]
theorem q2j(h1:(decide (0<n) && inA n)=true/\0<=y.hei/\0<=y.due)(h2:¬ n<=s.S d.toNat v.toNat):z0S s d v n y=(s,7):=by rw[z0S,if_pos h,if_pos h1,if_neg h2]
theorem q1L(h1:(decide (0<n) && inA n)=true/\0<=y.hei/\0<=y.due)(h2:n<=s.S d.toNat v.toNat)(h3:¬ (s.W.length<60/\s.next<1125899906842624)):z0S s d v n y=(s,6):=by rw[z0S,if_pos h,if_pos h1,if_pos h2,if_neg h3]
theorem q2n(h1:(decide (0<n) && inA n)=true/\0<=y.hei/\0<=y.due)(h2:n<=s.S d.toNat v.toNat)(h3:s.W.length<60/\s.next<1125899906842624)(a:woE (s.V v.toNat) n≠0):z0S s d v n y=(s,woE (s.V v.toNat) n):=by rw[z0S,if_pos h,if_pos h1,if_pos h2,if_pos h3,if_neg a]
theorem q2g(h1:(decide (0<n) && inA n)=true/\0<=y.hei/\0<=y.due)(h2:n<=s.S d.toNat v.toNat)(h3:s.W.length<60/\s.next<1125899906842624)(a:woE (s.V v.toNat) n=0)(c:(z0X s.b (woN (s.V v.toNat) n)).2≠0):z0S s d v n y=(s,(z0X s.b (woN (s.V v.toNat) n)).2):=by rw[z0S,if_pos h,if_pos h1,if_pos h2,if_pos h3,if_pos a,if_neg c]
theorem q1x(h1:(decide (0<n) && inA n)=true/\0<=y.hei/\0<=y.due)(h2:n<=s.S d.toNat v.toNat)(h3:s.W.length<60/\s.next<1125899906842624)(a:woE (s.V v.toNat) n=0)(c:(z0X s.b (woN (s.V v.toNat) n)).2=0):z0S s d v n y=(j2q s d.toNat v.toNat (woN (s.V v.toNat) n) n (z0X s.b (woN (s.V v.toNat) n)).1 { y with num:=s.next,d:=d,v:=v,amt:=woN (s.V v.toNat) n },0):=by rw[z0S,if_pos h,if_pos h1,if_pos h2,if_pos h3,if_pos a,if_pos c]
end
theorem q6Z(s:St)(ao:Option Addr)(sb so c:Nat)(d v n:Int)(y:Wt)(w:World)(hc:s.W.length<=c)(a:z2k w ao sb so s.W) :
  Calls prog 71 #[J4 (stC s (J1 ao s.W.length c)),J I d,J I v,J I n,J4 #[J I y.num,J I y.d,J I y.v,J I y.amt,J I y.hei,J I y.due,J I y.h0,J I y.h1]] w fun e w'=>z5y w.heap.size sb w (z0S s d v n y) e w':=by
 by_cases h:z0T s d v=0
 ·obtain⟨f,⟨v0,v1⟩,g,i⟩:=z9l h;obtain⟨v,rfl⟩:=Int.eq_ofNat_of_zero_le v0;obtain⟨d,rfl⟩:=Int.eq_ofNat_of_zero_le g;exact q6w s ao sb so c d v n y w hc a _ f (by omega) (by omega) _ _ _ _ rfl rfl (q5P s.b _) (q2r h) (q2j h) (q1L h) (q2n h) (q2g h) (q1x h)
 ·exact j1w s ao sb so c d v n y w hc a _ h (z5B h)
end
section
theorem j4j{b:Bk}{f t:Nat}{n:Int}(h:(mv b f t n).2≠0):(mv b f t n).1=b:=by
 unfold mv at *
 split
 ·rfl
 ·rename_i h1;rw[if_neg h1]at h
  split
  ·rfl
  ·rename_i h2;rw[if_neg h2]at h;exact absurd rfl h
theorem z9I{b:Bk}{f t:Nat}{n:Int}(a:b.good=true)(h0:0<=n)(h1:n<=1125899906842624)(h2:n<=b.get f):mv b f t n=((b.put f (b.get f - n)).put t (b.get t+n),0):=by
 unfold mv;rw[if_neg (by rw[a];simp[h0,h1]),if_neg (by omega)]
theorem q2C{b:Bk}{f t:Nat}{n:Int}(h:(mv b f t n).2=0):b.good=true/\0<=n/\n<=1125899906842624/\n<=b.get f/\mv b f t n=((b.put f (b.get f - n)).put t (b.get t+n),0):=by
 by_cases h1:b.good=false∨¬ (0<=n/\n<=1125899906842624)
 ·unfold mv at h;rw[if_pos h1]at h;exact absurd h (by simp)
 ·by_cases h2:b.get f<n
  ·unfold mv at h;rw[if_neg h1,if_pos h2]at h;exact absurd h (by simp)
  ·have c:b.good=true:=by
    cases hb:b.good with
    | true=>rfl
    | false=>exact absurd (.inl hb) h1
   have a:0<=n/\n<=1125899906842624:=Decidable.byContradiction fun a=>h1 (.inr a);exact⟨c,a.1,a.2,by omega,z9I c a.1 a.2 (by omega)⟩
def Goes(f t:Nat):Prop:=(f<4/\t=4)∨(f=5/\t<4)∨(f=4/\t=5)∨(f=4/\t=6)∨(f=5/\t=6)
theorem z5H(b:Bk):b.good=true↔(0<=b.f0/\b.f0<=400000)/\(0<=b.f1/\b.f1<=400000)/\(0<=b.f2/\b.f2<=400000)/\(0<=b.f3/\b.f3<=400000)/\(0<=b.bo/\b.bo<=400000)/\(0<=b.wa/\b.wa<=400000)/\(0<=b.bu/\b.bu<=400000)/\b.f0+b.f1+b.f2+b.f3+b.bo+b.wa+b.bu=400000:=by
 unfold Bk.good z1u;exact decide_eq_true_iff
theorem z9G{b:Bk}{f t:Nat}{n:Int}(a:Goes f t)(c:b.good=true)(h0:0<=n)(h2:n<=b.get f) :
  ((b.put f (b.get f - n)).put t (b.get t+n)).good=true/\b.bu<=((b.put f (b.get f - n)).put t (b.get t+n)).bu:=by
 rw[z5H]at *
 rcases a with⟨hf,rfl⟩ | ⟨rfl,ht⟩ | ⟨rfl,rfl⟩ | ⟨rfl,rfl⟩ | ⟨rfl,rfl⟩
 ·rcases (show f=0∨f=1∨f=2∨f=3 by omega) with rfl | rfl | rfl | rfl <;> simp only[Bk.get,Bk.put]at * <;> omega
 ·rcases (show t=0∨t=1∨t=2∨t=3 by omega) with rfl | rfl | rfl | rfl <;> simp only[Bk.get,Bk.put]at * <;> omega
 all_goals simp only[Bk.get,Bk.put]at * <;> omega
structure Kept(b:Bk)(r:Bk×Int):Prop where
 no:r.2≠0->r.1=b
 yes:r.2=0->b.good=true/\r.1.good=true/\b.bu<=r.1.bu
theorem q9o(b:Bk){f t:Nat}(n:Int)(a:Goes f t):Kept b (mv b f t n):=by
 refine⟨j4j,fun h=>?_⟩;obtain⟨h1,h2,h3,c,d⟩:=q2C h;rw[d];exact⟨h1,z9G a h1 h2 c⟩
theorem q5X(b:Bk)(d n:Int):Kept b (z2n b d n):=by
 unfold z2n
 split
 ·exact q9o b n (.inl ⟨by omega,rfl⟩)
 ·exact⟨fun _=>rfl,fun h=>absurd h (by simp)⟩
theorem j0V(b:Bk)(d n:Int):Kept b (z8c b d n):=by
 unfold z8c
 split
 ·exact q9o b n (.inr (.inl ⟨rfl,by omega⟩))
 ·exact⟨fun _=>rfl,fun h=>absurd h (by simp)⟩
end
section
theorem z0N(s:St):z0m s=true↔s.b.good=true/\1<=s.next/\s.next<=1125899906842624/\s.W.length<=60/\wOk s.next 0 s.W=true/\(∀ k,k<6->vOk (s.V k)=true/\z3f s.S k 4=true/\psh s.S k 4=(s.V k).sh)/\z8f s.V 6=s.b.bo/\z2t s.W=s.b.wa/\z3s s.V 6=s.b.bu:=by
 have hp:pvs s 6=true↔∀ k,k<6->vOk (s.V k)=true/\z3f s.S k 4=true/\psh s.S k 4=(s.V k).sh:=by
  constructor
  ·intro h k i;have:=q3C h i;simp only[j2z,q4S,Bool.and_eq_true,decide_eq_true_eq]at this;exact⟨this.1,this.2.1,this.2.2⟩
  ·intro h;simp only[pvs,j2z,q4S,Bool.and_eq_true,decide_eq_true_eq,true_and];exact⟨⟨⟨⟨⟨h 0 (by omega),h 1 (by omega)⟩,h 2 (by omega)⟩,h 3 (by omega)⟩,h 4 (by omega)⟩,h 5 (by omega)⟩
 unfold z0m bal;simp only[Bool.and_eq_true,decide_eq_true_eq,hp]
 constructor
 ·rintro⟨⟨⟨⟨⟨⟨h1,h2⟩,h3⟩,a⟩,c⟩,d⟩,⟨e,f⟩,g⟩;exact⟨h1,h2,h3,a,c,d,e,f,g⟩
 ·rintro⟨h1,h2,h3,a,c,d,e,f,g⟩;exact⟨⟨⟨⟨⟨⟨h1,h2⟩,h3⟩,a⟩,c⟩,d⟩,⟨e,f⟩,g⟩
theorem z1T(x:Vd):vOk x=true↔(0<=x.tok/\x.tok<=1125899906842624)/\(0<=x.sh/\x.sh<=1125899906842624)/\(0<=x.lost/\x.lost<=1125899906842624)/\(0<x.tok->x.sh≠0)/\(x.dead=true->x.jail=true):=by
 unfold vOk;simp only[Bool.and_eq_true,z0A,Bool.not_eq_true',Bool.and_eq_false_iff,decide_eq_false_iff_not,Bool.or_eq_true]
 constructor
 ·rintro⟨⟨⟨⟨h1,h2⟩,h3⟩,b⟩,a⟩;refine⟨h1,h2,h3,fun h=>b.resolve_left (fun c=>c h),fun h=>?_⟩
  rcases a with a | a
  ·exact a
  ·rw[h]at a;cases a
 ·rintro⟨h1,h2,h3,b,a⟩;refine⟨⟨⟨⟨h1,h2⟩,h3⟩,?_⟩,?_⟩
  ·by_cases h:0<x.tok
   ·exact .inr (b h)
   ·exact .inl h
  ·cases hd:x.dead
   ·exact .inr rfl
   ·exact .inl (a hd)
theorem six{v:Nat}(h:v<6):v=0∨v=1∨v=2∨v=3∨v=4∨v=5:=by omega
theorem four{v:Nat}(h:v<4):v=0∨v=1∨v=2∨v=3:=by omega
theorem z6T(V:Nat->Vd)(v:Nat)(x:Vd)(a:v<6):z8f (z1Q V v x) 6=z8f V 6+x.tok - (V v).tok:=by
 rcases six a with rfl | rfl | rfl | rfl | rfl | rfl <;> simp[z8f,z1Q] <;> omega
theorem z5D(V:Nat->Vd)(v:Nat)(x:Vd)(a:v<6):z3s (z1Q V v x) 6=z3s V 6+x.lost - (V v).lost:=by
 rcases six a with rfl | rfl | rfl | rfl | rfl | rfl <;> simp[z3s,z1Q] <;> omega
theorem q6l(S:Nat->Nat->Int)(d v:Nat)(y:Int)(hd:d<4):psh (z6a S d v y) v 4=psh S v 4+y - S d v:=by
 rcases four hd with rfl | rfl | rfl | rfl <;> simp[psh,z6a] <;> omega
theorem q1p(S:Nat->Nat->Int)(d v k:Nat)(y:Int)(a:k≠v):psh (z6a S d v y) k 4=psh S k 4:=by
 simp[psh,z6a,a]
theorem q0r(S:Nat->Nat->Int)(d v k:Nat)(y:Int)(h:z3f S k 4=true)(a:inA y=true):z3f (z6a S d v y) k 4=true:=by
 simp only[z3f,Bool.and_eq_true,true_and]at *;obtain⟨⟨⟨h0,h1⟩,h2⟩,h3⟩:=h;refine⟨⟨⟨?_,?_⟩,?_⟩,?_⟩ <;> unfold z6a <;> split <;> assumption
theorem q8D{V:Nat->Vd}(h:∀ k,k<6->0<=(V k).tok){v:Nat}(a:v<6):(V v).tok<=z8f V 6:=by
 have h0:=h 0 (by omega);have h1:=h 1 (by omega);have h2:=h 2 (by omega);have h3:=h 3 (by omega);have b:=h 4 (by omega);have c:=h 5 (by omega)
 simp only[z8f]
 rcases six a with rfl | rfl | rfl | rfl | rfl | rfl <;> omega
theorem j2Q{S:Nat->Nat->Int}{k:Nat}(h:z3f S k 4=true){d:Nat}(hd:d<4):S d k<=psh S k 4:=by
 have h0:=z0A.1 (z6t h (d:=0) (by omega));have h1:=z0A.1 (z6t h (d:=1) (by omega));have h2:=z0A.1 (z6t h (d:=2) (by omega));have h3:=z0A.1 (z6t h (d:=3) (by omega))
 simp only[psh]
 rcases four hd with rfl | rfl | rfl | rfl <;> omega
theorem q7O{b:Bk}{d:Nat}{n:Int}(hd:d<4)(h:(z2n b d n).2=0):(z2n b d n).1.good=true/\(z2n b d n).1.bo=b.bo+n/\(z2n b d n).1.wa=b.wa/\(z2n b d n).1.bu=b.bu:=by
 refine⟨((q5X b d n).yes h).2.1,?_⟩;unfold z2n at *;rw[if_pos (by omega)]at *
 obtain⟨-,-,-,-,a⟩:=q2C h;rw[a]
 rcases four hd with rfl | rfl | rfl | rfl <;> simp[Bk.put,Bk.get]
theorem q9Q{s:St}{B:Bk}{d v:Nat}{t n:Int}(z:z0m s=true)(hd:d<4)(l:v<6)(x:B.good=true)(m:B.bo=s.b.bo+t)(o:B.wa=s.b.wa)(p:B.bu=s.b.bu)
  (y:0<=(s.V v).tok+t) (q:0<=s.S d v+n) (A:(s.V v).sh+n<=1125899906842624) (e:0<(s.V v).tok+t->(s.V v).sh+n≠0):z0m (q3E { s with b:=B } d v t n)=true:=by
 rw[z0N]at *;obtain⟨h1,h2,h3,C,D,f,E,F,G⟩:=z;obtain⟨a,r,g⟩:=f v l;rw[z1T]at a;have H:=(z5H B).1 x;have h:z8f (z1Q s.V v { s.V v with tok:=(s.V v).tok+t,sh:=(s.V v).sh+n }) 6=B.bo:=by rw[z6T _ _ _ l,E,m];show s.b.bo+((s.V v).tok+t) - (s.V v).tok=_;omega
 have u:∀ k,k<6->0<=(z1Q s.V v { s.V v with tok:=(s.V v).tok+t,sh:=(s.V v).sh+n } k).tok:=fun k i=>by
  unfold z1Q
  split
  ·exact y
  ·exact ((z1T _).1 (f k i).1).1.1
 have j:=q8D u l;rw[h]at j;simp only[z1Q,if_true]at j;have w:=j2Q r hd;rw[g]at w;refine⟨x,h2,h3,C,D,fun k i=>?_,h,F.trans o.symm,?_⟩
 ·show vOk (z1Q s.V v _ k)=true/\z3f (z6a s.S d v _) k 4=true/\psh (z6a s.S d v _) k 4=(z1Q s.V v _ k).sh
  refine⟨?_,q0r _ _ _ _ _ (f k i).2.1 (z0A.2 ⟨q,by show s.S d v+n<=_;omega⟩),?_⟩
  ·unfold z1Q
   split
   ·rw[z1T];exact⟨⟨y,by show (s.V v).tok+t<=_;omega⟩,⟨by show 0<=(s.V v).sh+n;omega,A⟩,a.2.2.1,e,a.2.2.2.2⟩
   ·exact (f k i).1
  ·by_cases c:k=v
   ·subst c;rw[q6l _ _ _ _ hd,g];simp only[z1Q,if_true];omega
   ·rw[q1p _ _ _ _ _ c,(f k i).2.2];simp only[z1Q,if_neg c]
 ·show z3s (z1Q s.V v _) 6=B.bu
  rw[z5D _ _ _ l,G,p];simp only;omega
theorem q5q{s:St}{d v n:Int}(h:(z0O s d v n).2=0):∃ i j:Nat,d=i/\v=j/\i<4/\j<6/\z0m s=true/\(s.V j).dead=false/\0<n/\n<=1125899906842624/\shE (s.V j) n=0/\(z2n s.b i n).2=0/\z0O s d v n=(q3E { s with b:=(z2n s.b i n).1 } i j n (shN (s.V j) n),0):=by
 have a:z0T s d v=0:=Decidable.byContradiction fun a=>by rw[q0a a]at h;exact a h
 obtain⟨f,⟨v0,v1⟩,g,k⟩:=z9l a;obtain⟨j,rfl⟩:=Int.eq_ofNat_of_zero_le v0;obtain⟨i,rfl⟩:=Int.eq_ofNat_of_zero_le g;refine⟨i,j,rfl,rfl,by omega,by omega,f,?_⟩
 have h1:(s.V j).dead=false:=by
  cases hd:(s.V j).dead with
  | false=>rfl
  | true=>rw[z8s a hd]at h;cases h
 have h2:(decide (0<n) && inA n)=true:=by
  cases hd:(decide (0<n) && inA n) with
  | true=>rfl
  | false=>rw[z7w a h1 hd]at h;cases h
 have h3:shE (s.V j) n=0:=Decidable.byContradiction fun h3=>by rw[q0N a h1 h2 h3]at h;exact h3 h
 have e:(z2n s.b i n).2=0:=Decidable.byContradiction fun e=>by rw[z8S a h1 h2 h3 e]at h;exact e h
 have c:=h2;simp only[Bool.and_eq_true,decide_eq_true_eq,z0A]at c;exact⟨h1,c.1,c.2.2,h3,e,q2J a h1 h2 h3 e⟩
theorem j5n{x:Vd}{n:Int}(e:vOk x=true)(g:0<n)(i:n<=1125899906842624)(h:shE x n=0):0<shN x n/\x.sh+shN x n<=1125899906842624/\shN x n * x.tok<=n * x.sh:=by
 rw[z1T]at e;obtain⟨⟨t0,t1⟩,⟨f,j⟩,-,hp,-⟩:=e;unfold shE at h;unfold shN
 by_cases b:x.sh=0
 ·have a:x.tok=0:=by
   rcases Int.lt_or_le 0 x.tok with h1 | h1
   ·exact absurd b (hp h1)
   ·omega
  rw[if_pos b,b,a];refine⟨g,by omega,?_⟩
  simp
 ·rw[if_neg b]at h ⊢
  by_cases a:x.tok=0
  ·rw[if_pos a]at h;cases h
  ·rw[if_neg a]at h ⊢
   by_cases c:mdE n x.sh x.tok=0/\inA (x.sh+mdN n x.sh x.tok)=true
   ·rw[if_pos c]at h ⊢;have d:=z0A.1 c.2;have hb:=z4f n x.sh x.tok;refine⟨?_,d.2,?_⟩
    ·by_cases h0:mdN n x.sh x.tok=0
     ·rw[if_pos h0]at h;cases h
     ·omega
    ·unfold mdN
     split
     ·rw[Int.zero_mul];exact Int.mul_nonneg (by omega) f
     ·split
      ·exact Int.ediv_mul_le _ a
      ·rw[Int.zero_mul];exact Int.mul_nonneg (by omega) f
   ·rw[if_neg c]at h;cases h
theorem j7A{x:Vd}{g k:Int}(a:vOk x=true)(d:0<g)(b:g<=x.sh)(c:g * x.tok<=k * x.sh):mdE g x.tok x.sh=0/\mdN g x.tok x.sh<=x.tok/\mdN g x.tok x.sh<=k:=by
 rw[z1T]at a;obtain⟨⟨t0,t1⟩,⟨e,f⟩,-,-,-⟩:=a
 have q1:g * x.tok / x.sh<=x.tok:=by
  apply Int.ediv_le_of_le_mul (by omega)
  rw[Int.mul_comm x.tok];exact Int.mul_le_mul_of_nonneg_right b t0
 have q2:g * x.tok / x.sh<=k:=Int.ediv_le_of_le_mul (by omega) c
 have c1:¬ (g<0∨x.tok<0∨x.sh<1):=by omega
 have c2:g * x.tok / x.sh<=1125899906842624:=by omega
 unfold mdE mdN;simp only[if_neg c1,if_pos c2];exact⟨trivial,q1,q2⟩
end
section
def z6A(t:Int)(x:Wt):Bool:=decide (x.due<=t) && decide (x.h0=0/\x.h1=0)
def z1t(t:Int)(W:List Wt):List Wt:=W.filter fun x=>!z6A t x
def z6F(t:Int)(W:List Wt):List Wt:=W.filter (z6A t)
def z1W(t:Int)(W:List Wt):List Int:=(z6F t W).map (·.num)
def z4K(t:Int)(b:Bk)(W:List Wt):Bk:=W.foldl (fun b x=>if z6A t x=true then (z8c b x.d x.amt).1 else b) b
def z5J(s:St)(t:Int):St:={ s with b:=z4K t s.b s.W,W:=z1t t s.W }
theorem z1m{W:List Wt}{k:Nat}{x:Wt}(h:W[k]?=some x):W.take (k+1)=W.take k ++ [x]:=by
 rw[List.take_add_one,h];rfl
theorem z2U:∀ A B:List Wt,z2t (A ++ B)=z2t A+z2t B
 | [],B=>by simp[z2t]
 | x :: A,B=>by simp only[List.cons_append,z2t,z2U A B];omega
theorem z5V{next:Int}:∀ {W:List Wt} {last:Int},wOk next last W=true->∀ x∈W,last<x.num/\x.num<next/\(0<=x.d/\x.d<4)/\(0<=x.v/\x.v<6)/\(0<=x.amt/\x.amt<=1125899906842624)/\0<=x.hei/\0<=x.due
 | [],_,_,x,a=>by cases a
 | y :: W,last,h,x,a=>by
  simp only[wOk,q1b,Bool.and_eq_true,decide_eq_true_eq,z4V,z2W,z0A]at h;obtain⟨⟨⟨⟨⟨⟨⟨h1,h2⟩,h3⟩,b⟩,c⟩,e⟩,f⟩,g⟩:=h
  rcases List.mem_cons.1 a with rfl | a
  ·exact⟨h1,h2,h3,b,c,e,f⟩
  ·have:=z5V g x a;exact⟨by omega,this.2⟩
theorem q7p{next:Int}:∀ {W:List Wt} {last a:Int},wOk next last W=true->a<last->wOk next a W=true
 | [],_,_,_,_=>rfl
 | y :: W,last,a,h,hl=>by
  simp only[wOk,q1b,Bool.and_eq_true,decide_eq_true_eq]at h ⊢;obtain⟨⟨⟨⟨⟨⟨⟨h1,h2⟩,h3⟩,b⟩,c⟩,d⟩,e⟩,f⟩:=h;exact⟨⟨⟨⟨⟨⟨⟨by omega,h2⟩,h3⟩,b⟩,c⟩,d⟩,e⟩,f⟩
theorem z8n{next:Int}(p:Wt->Bool):∀ {W:List Wt} {last:Int},wOk next last W=true->wOk next last (W.filter p)=true
 | [],_,_=>rfl
 | y :: W,last,h=>by
  have b:=z5V h y (List.mem_cons_self ..);simp only[wOk,Bool.and_eq_true]at h;have a:=z8n p h.2;rw[List.filter_cons]
  split
  ·simp only[wOk,Bool.and_eq_true];exact⟨h.1,a⟩
  ·exact q7p a (by omega)
theorem z3O:∀ {W:List Wt},(∀ x∈W,0<=x.amt)->0<=z2t W
 | [],_=>Int.le_refl _
 | x :: W,h=>by
  have:=h x (List.mem_cons_self ..);have:=z3O (W:=W) fun y a=>h y (List.mem_cons_of_mem _ a);simp only[z2t];omega
theorem z5Z(p:Wt->Bool):∀ W:List Wt,z2t (W.filter p)+z2t (W.filter fun x=>!p x)=z2t W
 | []=>rfl
 | x :: W=>by
  have:=z5Z p W;rw[List.filter_cons,List.filter_cons];cases p x <;> simp[z2t] <;> omega
theorem z5E(t:Int)(W:List Wt)(x:Wt):z1t t (W ++ [x])=if z6A t x=true then z1t t W else z1t t W ++ [x]:=by
 unfold z1t;rw[List.filter_append];cases h:z6A t x <;> simp[h]
theorem z4j(t:Int)(W:List Wt)(x:Wt):z6F t (W ++ [x])=if z6A t x=true then z6F t W ++ [x] else z6F t W:=by
 unfold z6F;rw[List.filter_append];cases h:z6A t x <;> simp[h]
theorem z7y(t:Int)(b:Bk)(W:List Wt)(x:Wt):z4K t b (W ++ [x])=if z6A t x=true then (z8c (z4K t b W) x.d x.amt).1 else z4K t b W:=by
 unfold z4K;rw[List.foldl_append];rfl
theorem q3x{b:Bk}{d n:Int}(hd:0<=d/\d<4)(c:b.good=true)(h0:0<=n)(h1:n<=1125899906842624)(h2:n<=b.wa):(z8c b d n).2=0/\(z8c b d n).1.good=true/\(z8c b d n).1.bo=b.bo/\(z8c b d n).1.wa=b.wa - n/\(z8c b d n).1.bu=b.bu:=by
 have h:=z9I (f:=5) (t:=d.toNat) c h0 h1 h2;have a:=(j0V b d n).yes;unfold z8c at *;rw[if_pos hd]at *;rw[h]at a ⊢;refine⟨rfl,(a rfl).2.1,?_⟩;have e:d.toNat<4:=by omega
 generalize d.toNat=i at *
 rcases four e with rfl | rfl | rfl | rfl <;> simp[Bk.put,Bk.get]
theorem j2j{s:St}(c:z0m s=true)(t:Int){k:Nat}{x:Wt}(d:s.W[k]?=some x):x.amt<=s.b.wa - z2t (z6F t (s.W.take k)):=by
 obtain⟨h1,h2,h3,i,e,j,l,m,n⟩:=(z0N s).1 c;have hmem:=z5V e;obtain⟨f,g⟩:=List.getElem?_eq_some_iff.1 d;have h:s.W=s.W.take k ++ (x :: s.W.drop (k+1)):=by rw[<- g,<- List.drop_eq_getElem_cons f,List.take_append_drop]
 have o:z2t s.W=z2t (s.W.take k)+(x.amt+z2t (s.W.drop (k+1))):=by
  conv=>lhs;rw[h]
  rw[z2U];rfl
 have p:=z5Z (z6A t) (s.W.take k);have n1:=z3O (W:=(s.W.take k).filter fun x=>!z6A t x) fun y a=>(hmem y (List.mem_of_mem_take (List.mem_filter.1 a).1)).2.2.2.2.1.1;have q:=z3O (W:=s.W.drop (k+1)) fun y a=>(hmem y (List.mem_of_mem_drop a)).2.2.2.2.1.1;unfold z6F;omega
theorem q7Q{s:St}(d:z0m s=true)(t:Int):∀ k,k<=s.W.length->(z4K t s.b (s.W.take k)).good=true/\(z4K t s.b (s.W.take k)).bo=s.b.bo/\(z4K t s.b (s.W.take k)).bu=s.b.bu/\(z4K t s.b (s.W.take k)).wa=s.b.wa - z2t (z6F t (s.W.take k)):=by
 obtain⟨h1,h2,h3,o,h,p,q,r,u⟩:=(z0N s).1 d;intro k
 induction k with
 | zero=>intro _;refine⟨h1,rfl,rfl,?_⟩;simp[z6F,z4K,z2t]
 | succ k ih =>
  intro v;obtain⟨i1,e,f,a⟩:=ih (by omega)
  have g:s.W[k]?=some (s.W[k]'(by omega)):=List.getElem?_eq_getElem _
  have c:=z5V h _ (List.getElem_mem (show k<s.W.length by omega))
  rw[z1m g,z7y,z4j];have i:=j2j d t g;generalize s.W[k]'(by omega)=x at *
  split
  ·obtain⟨w,j,l,m,n⟩:=q3x c.2.2.1 i1 c.2.2.2.2.1.1 c.2.2.2.2.1.2 (by rw[a];omega)
   refine⟨j,by rw[l,e],by rw[n,f],?_⟩
   rw[m,a,z2U];simp only[z2t];omega
  ·exact⟨i1,e,f,a⟩
theorem q9V{s:St}(a:z0m s=true)(t:Int){k:Nat}{x:Wt}(c:s.W[k]?=some x)(hd:z6A t x=true):z8c (z4K t s.b (s.W.take k)) x.d x.amt=(z4K t s.b (s.W.take (k+1)),0):=by
 obtain⟨g,h⟩:=List.getElem?_eq_some_iff.1 c;obtain⟨i1,l,m,i⟩:=q7Q a t k (by omega)
 have e:=z5V ((z0N s).1 a).2.2.2.2.1 x (h ▸ List.getElem_mem g);have f:=j2j a t c;obtain⟨j,-⟩:=q3x e.2.2.1 i1 e.2.2.2.2.1.1 e.2.2.2.2.1.2 (by rw[i];exact f)
 rw[z1m c,z7y,if_pos hd,<- j]
theorem q8d{s:St}(a:z0m s=true)(t:Int):(z5J s t).b.good=true/\(z5J s t).b.bo=s.b.bo/\(z5J s t).b.bu=s.b.bu/\(z5J s t).b.wa=s.b.wa - z2t (z6F t s.W):=by
 have:=q7Q a t s.W.length (Nat.le_refl _)
 rwa [List.take_length]at this
theorem q2M{s:St}(a:z0m s=true)(t:Int):z0m (z5J s t)=true:=by
 obtain⟨b,c,d,e⟩:=q8d a t;rw[z0N]at a ⊢;obtain⟨h1,h2,h3,f,g,h,i,j,k⟩:=a;refine⟨b,h2,h3,?_,z8n _ g,h,i.trans c.symm,?_,k.trans d.symm⟩
 ·exact Nat.le_trans (List.length_filter_le _ _) f
 ·rw[e,<- j,<- z5Z (z6A t) s.W]
  show z2t (z1t t s.W)=_
  unfold z6F z1t;omega
end
section
def ptN(n f:Int):Int:=Ra.ptN n f
def ptE(n f:Int):Int:=Ra.ptE n f
theorem j3C{n f:Int}(a:0<=n/\n<=1125899906842624)(b:0<=f/\f<=1000):ptE n f=0/\0<=ptN n f/\ptN n f<=n:=by
 obtain⟨h1,h2⟩:=Ra.q7A (n:=n) (f:=f) ⟨Ra.q9k.2 a,b⟩;refine⟨h2,?_,?_⟩
 ·show 0<=Ra.ptN n f
  rw[h1];exact Int.ediv_nonneg (Int.mul_nonneg a.1 b.1) (by omega)
 ·show Ra.ptN n f<=n
  rw[h1];exact Int.ediv_le_of_le_mul (by omega) (Int.mul_le_mul_of_nonneg_left b.2 a.1)
def j2d(v h:Int)(x:Wt):Bool:=decide (x.v=v) && decide (h<=x.hei)
def slX(v h f:Int)(x:Wt):Wt:=if j2d v h x=true then { x with amt:=x.amt - ptN x.amt f } else x
def slW(v h f:Int)(W:List Wt):List Wt:=W.map (slX v h f)
def slP(v h f:Int)(x:Wt):Int:=if j2d v h x=true then ptN x.amt f else 0
def slN(v h f:Int):List Wt->Int
 | []=>0
 | x :: W=>slP v h f x+slN v h f W
theorem z8X(v h f:Int):∀ A B:List Wt,slN v h f (A ++ B)=slN v h f A+slN v h f B
 | [],B=>by simp[slN]
 | x :: A,B=>by simp only[List.cons_append,slN,z8X v h f A B];omega
theorem j2N{v h f:Int}{x:Wt}(a:0<=x.amt/\x.amt<=1125899906842624)(b:0<=f/\f<=1000):0<=slP v h f x/\slP v h f x<=x.amt:=by
 have:=j3C a b;unfold slP
 split <;> omega
theorem q6e{v h f:Int}(a:0<=f/\f<=1000):∀ {W:List Wt},(∀ x∈W,0<=x.amt/\x.amt<=1125899906842624)->0<=slN v h f W/\slN v h f W<=z2t W
 | [],_=>⟨Int.le_refl _,Int.le_refl _⟩
 | x :: W,h1=>by
  have:=j2N (v:=v) (h:=h) (h1 x (List.mem_cons_self ..)) a;have:=q6e (v:=v) (h:=h) a (W:=W) fun y b=>h1 y (List.mem_cons_of_mem _ b);simp only[slN,z2t];omega
theorem q6p(v h f:Int):∀ W:List Wt,z2t (slW v h f W)=z2t W - slN v h f W
 | []=>rfl
 | x :: W=>by
  have:=q6p v h f W;simp only[slW,List.map_cons,z2t,slN]at *
  have e:(slX v h f x).amt=x.amt - slP v h f x:=by
   unfold slX slP
   split
   ·rfl
   ·omega
  omega
theorem j3q(v h f:Int){W:List Wt}{k:Nat}{x:Wt}(a:W[k]?=some x):slW v h f (W.take (k+1)) ++ W.drop (k+1)=(slW v h f (W.take k) ++ W.drop k).set k (slX v h f x)/\(slW v h f (W.take k) ++ W.drop k)[k]?=some x/\slN v h f (W.take (k+1))=slN v h f (W.take k)+slP v h f x:=by
 obtain⟨c,d⟩:=List.getElem?_eq_some_iff.1 a;have b:(slW v h f (W.take k)).length=k:=by unfold slW;rw[List.length_map,List.length_take];omega
 have hd:W.drop k=x :: W.drop (k+1):=by rw[<- d];exact List.drop_eq_getElem_cons c
 refine⟨?_,?_,?_⟩
 ·rw[z1m a,hd];unfold slW at *;rw[List.map_append,List.set_append_right _ _ (by omega),b,Nat.sub_self,List.append_assoc]
  rfl
 ·rw[List.getElem?_append_right (by omega),b,Nat.sub_self,hd]
  rfl
 ·rw[z1m a,z8X]
  simp[slN]
theorem j4G{v h f:Int}{x:Wt}(a:j2d v h x=false):slX v h f x=x/\slP v h f x=0:=by
 unfold slX slP;rw[if_neg (by simp[a]),if_neg (by simp[a])]
 exact⟨rfl,rfl⟩
theorem j6T{v h f:Int}{x:Wt}(a:j2d v h x=true):slX v h f x={ x with amt:=x.amt - ptN x.amt f }/\slP v h f x=ptN x.amt f:=by
 unfold slX slP;rw[if_pos a,if_pos a];exact⟨rfl,rfl⟩
theorem z5u{W:List Wt}{k:Nat}{x:Wt}(h:W[k]?=some x):W.set k x=W:=by
 obtain⟨a,rfl⟩:=List.getElem?_eq_some_iff.1 h;exact List.set_getElem_self a
end
section
def z7a(x:Vd)(pb a:Int):Vd:={ x with tok:=x.tok - pb,lost:=x.lost+(pb+a) }
def z1V(s:St)(v:Nat)(h f:Int):St:={ s with b:=(z2w s.b (ptN (s.V v).tok f) (slN v h f s.W)).1,V:=z1Q s.V v (z7a (s.V v) (ptN (s.V v).tok f) (slN v h f s.W)),W:=slW v h f s.W }
theorem q8r{b:Bk}{x y:Int}(d:b.good=true)(a:0<=x/\x<=b.bo)(c:0<=y/\y<=b.wa):(z2w b x y).2=0/\(z2w b x y).1.good=true/\(z2w b x y).1.bo=b.bo - x/\(z2w b x y).1.wa=b.wa - y/\(z2w b x y).1.bu=b.bu+(x+y):=by
 have hb:=(z5H b).1 d;have h1:=z9I (f:=4) (t:=6) d a.1 (by omega) a.2
 have e:=(z9G (f:=4) (t:=6) (.inr (.inr (.inr (.inl ⟨rfl,rfl⟩)))) d a.1 a.2).1;have h2:=z9I (f:=5) (t:=6) e c.1 (by omega) (show y<=b.wa from c.2)
 have g2:=(z9G (f:=5) (t:=6) (.inr (.inr (.inr (.inr ⟨rfl,rfl⟩)))) e c.1 (show y<=b.wa from c.2)).1;unfold z2w;rw[h1];simp only[if_true];rw[h2];simp only[if_true];refine⟨trivial,g2,rfl,rfl,?_⟩
 show b.bu+x+y=_
 omega
theorem q7q(v h f:Int)(x:Wt):(slX v h f x).num=x.num/\(slX v h f x).d=x.d/\(slX v h f x).v=x.v/\(slX v h f x).hei=x.hei/\(slX v h f x).due=x.due/\(slX v h f x).amt=x.amt - slP v h f x:=by
 unfold slX slP
 split
 ·exact⟨rfl,rfl,rfl,rfl,rfl,rfl⟩
 ·exact⟨rfl,rfl,rfl,rfl,rfl,by omega⟩
theorem q0y{next v h f:Int}(a:0<=f/\f<=1000):∀ {W:List Wt} {last:Int},wOk next last W=true->wOk next last (slW v h f W)=true
 | [],_,_=>rfl
 | x :: W,last,hw=>by
  obtain⟨k1,b,c,d,e,g⟩:=q7q v h f x;simp only[wOk,q1b,Bool.and_eq_true,decide_eq_true_eq,z4V,z2W,z0A]at hw;obtain⟨⟨⟨⟨⟨⟨⟨h1,h2⟩,h3⟩,i⟩,j⟩,k⟩,l⟩,m⟩:=hw;have hp:=j2N (v:=v) (h:=h) j a;have n:=q0y (v:=v) (h:=h) a m;simp only[slW,List.map_cons,wOk,q1b,Bool.and_eq_true,decide_eq_true_eq,z4V,z2W,z0A,k1,b,c,d,e,g];exact⟨⟨⟨⟨⟨⟨⟨h1,h2⟩,h3⟩,i⟩,by omega⟩,k⟩,l⟩,n⟩
theorem j0Z{V:Nat->Vd}(h:∀ k,k<6->0<=(V k).lost){v:Nat}(a:v<6):(V v).lost<=z3s V 6:=by
 have h0:=h 0 (by omega);have h1:=h 1 (by omega);have h2:=h 2 (by omega);have h3:=h 3 (by omega);have b:=h 4 (by omega);have c:=h 5 (by omega)
 simp only[z3s]
 rcases six a with rfl | rfl | rfl | rfl | rfl | rfl <;> omega
theorem z4t{s:St}(n:z0m s=true){v:Nat}(c:v<6)(h:Int){f:Int}(g:0<=f/\f<=1000):ptE (s.V v).tok f=0/\(0<=ptN (s.V v).tok f/\ptN (s.V v).tok f<=(s.V v).tok)/\(0<=slN v h f s.W/\slN v h f s.W<=s.b.wa)/\(s.V v).tok<=s.b.bo/\(0<=(s.V v).lost/\(s.V v).lost<=s.b.bu)/\s.b.bo<=400000/\s.b.wa<=400000/\s.b.bu<=400000/\z2t s.W<=400000/\(∀ x∈s.W,0<=x.amt/\x.amt<=1125899906842624)/\s.W.length<=60:=by
 obtain⟨h1,h2,h3,o,p,d,q,r,t⟩:=(z0N s).1 n;have hb:=(z5H s.b).1 h1;have a:=(z1T _).1 (d v c).1;have i:∀ x∈s.W,0<=x.amt/\x.amt<=1125899906842624:=fun x a=>(z5V p x a).2.2.2.2.1;have hp:=j3C a.1 g;have j:=q6e (v:=v) (h:=h) g i;have l:=q8D (fun k e=>((z1T _).1 (d k e).1).1.1) c;have m:=j0Z (fun k e=>((z1T _).1 (d k e).1).2.2.1.1) c;rw[q]at l;rw[r]at j;rw[t]at m;exact⟨hp.1,hp.2,j,l,⟨a.2.2.1.1,m⟩,by omega,by omega,by omega,by omega,i,o⟩
theorem z6f{s:St}(a:z0m s=true){v:Nat}(d:v<6)(h:Int){f:Int}(e:0<=f/\f<=1000):(z2w s.b (ptN (s.V v).tok f) (slN v h f s.W)).2=0/\(z1V s v h f).b.good=true/\(z1V s v h f).b.bo=s.b.bo - ptN (s.V v).tok f/\(z1V s v h f).b.wa=s.b.wa - slN v h f s.W/\(z1V s v h f).b.bu=s.b.bu+(ptN (s.V v).tok f+slN v h f s.W):=by
 have c:=z4t a d h e;exact q8r ((z0N s).1 a).1 ⟨c.2.1.1,by omega⟩ c.2.2.1
theorem z5T{s:St}(b:z0m s=true){v:Nat}(c:v<6)(h:Int){f:Int}(d:0<=f/\f<=1000):z0m (z1V s v h f)=true:=by
 obtain⟨b0,b1,b2,b3,i⟩:=z6f b c h d;obtain⟨n1,u,w,x,y,z,A,B,C,j,l⟩:=z4t b c h d;rw[z0N]at b ⊢;obtain⟨h1,h2,h3,m,n,o,p,q,r⟩:=b;have D:=(z5H _).1 b1;refine⟨b1,h2,h3,?_,q0y d n,fun k t=>?_,?_,?_,?_⟩
 ·show (slW v h f s.W).length<=60
  unfold slW;rw[List.length_map];exact m
 ·obtain⟨i1,e,g⟩:=o k t
  show vOk (z1Q s.V v _ k)=true/\z3f s.S k 4=true/\psh s.S k 4=(z1Q s.V v _ k).sh
  unfold z1Q
  by_cases a:k=v
  ·subst a;rw[if_pos rfl];rw[z1T]at i1;refine⟨?_,e,g⟩;rw[z1T];refine⟨⟨?_,?_⟩,i1.2.1,⟨?_,?_⟩,?_,i1.2.2.2.2⟩ <;> simp only[z7a] <;> first | omega | (intro hp;exact i1.2.2.2.1 (by omega))
  ·rw[if_neg a];exact⟨i1,e,g⟩
 ·show z8f (z1Q s.V v _) 6=_
  rw[z6T _ _ _ c,p,b2];simp only[z7a];omega
 ·show z2t (slW v h f s.W)=_
  rw[q6p,q,b3]
 ·show z3s (z1Q s.V v _) 6=_
  rw[z5D _ _ _ c,r,i];simp only[z7a];omega
end
section
open Go.RowKit
def j6G:St:=⟨⟨100000,100000,100000,100000,0,0,0⟩,fun _=>⟨0,0,0,false,false⟩,fun _ _=>0,[],1⟩
theorem z8d{c:Func}{p:Tmp}(h:c.results=#[.cell p 43])(a:Array Value)(w:World)(g:Nat)(cs:Array Value)
  (hp:a.getD p undef=J2 (some ⟨g,0,none⟩)) (d:SAt w g cs) (b:cs.size=63) :
  (results c a).run prog w=.ok (J4 cs) w:=
 results_cell_row h _ _ g 43 cs (0,0) _ hp d underlying43 rfl (by rw[z0x,b])
theorem z4v(w:World):Calls prog 30 #[] w fun e w'=>e=.returned (J4 (stC j6G (J1 none 0 0)))/\Bl w w':=by
 have R0:=SAt.new w Z63;have a:Hid (Bl w (w.alloc (J5 Z63 43))):=znw w _;have c:=j4J
 go_enter func30,ntmps30
 go_upto_region 1 with fail
 change Code.wp prog _ _ _ (w.alloc (J5 Z63 43));generalize w.alloc (J5 Z63 43)=w0 at *;apply wp_region_lit
 go_step
 go_step
 refine (c _).mono ?_;rintro e w1⟨rfl,h1⟩;have d:=R0.later h1 R0.lt;have b:=J6 (zbt a.out h1);clear h1 R0 a c;dsimp only
 go_step
 go_step
 go_step
 go_step
 refine wpList_store_mid rfl 43 _ _ rfl _ 0 (stC j6G (J1 none 0 0)) rfl rfl (d.there 0 _ (by rw[z0q,z0f];omega)) (by rw[z0x];rfl) (z0y _ _ _ _) ?_
 go_wp2;have f:=d.z0t (ds:=stC j6G (J1 none 0 0)) (by rw[z0f];rfl)
 exact bodyPost_ret (v:=J4 (stC j6G (J1 none 0 0))) (z8d results30 _ _ _ _ rfl f rfl) rfl ⟨rfl,z0a (Nat.le_refl _) _ _ _ b.out⟩
end
namespace Kc
open Go.RowKit Pv
def z5C(x:Pkt):Bool:=decide (x.k=1) && decide (Cd.z0s x.k x.i x.v x.n x.S x.D=0)
def z7L(x:Int×Int):Bool:=decide (1<=x.1) && decide (x.1<=1099511627776) && decide (0<=x.2)
def z7U(c:Cs):Bool:=(!(c.on && c.gone) && decide (0<=c.h) && decide (c.h<1099511627776) && isT c.t && isT c.id) && (z3l (-1) c.set && c.pd.all z5C && c.rp.all z7L && Ln.z0Z c.out)
def z5t(c:Cs):Int:=if z7U c=true then (if c.on=true then 0 else 4) else 2
def z2G(set:List (Int×Int))(id now:Int):Cs:=⟨true,false,0,now,id,set,[],[],fun _=>false,⟨[],[],0,false⟩,0,0,0,0⟩
def z4F(c:Cs)(l:List Int):Cs×Int:=
 if z5t c=0 then
  if Cd.z7Q l=0 then
   if (z3w l).k=1 then ({ c with pd:=c.pd ++ [z3w l] },0) else (c,3)
  else (c,Cd.z7Q l)
 else (c,z5t c)
def z2A(c:Cs)(k i v n:Int)(now:Int):Cs×Int:=
 if Cd.z0s k i v n [] []=0 then ({ c with out:=Ln.z5K c.out (Cd.encS k i v n [] []) (now+40) },Ln.z6v c.out (now+40)) else (c,Cd.z0s k i v n [] [])
def z3Z(v:Int):List (Int×Int)->Int
 | []=>0
 | x :: l=>if x.1=v then x.2 else z3Z v l
def z4T(c:Cs)(v now:Int):Cs×Int:=
 if isT now=true then
  if z5t c=0 then
   if z3Z v c.set=0 then (c,4)
   else if c.fl v.toNat=true then (c,5)
   else if (z2A c 3 c.id v (z3Z v c.set) now).2=0 then ({ (z2A c 3 c.id v (z3Z v c.set) now).1 with fl:=j4Q c.fl v.toNat true },0)
   else (c,(z2A c 3 c.id v (z3Z v c.set) now).2)
  else (c,z5t c)
 else (c,2)
def j6V(a:Int):Int:=if a<1 then 1 else a
def z2f(c:Cs)(v id now:Int):Cs×Int:=
 if isT now=true then
  if z5t c=0 then
   if isV v=true then
    if 1<=id/\id<=c.id then z2A c 4 id v (j6V (z3Z v c.set)) now else (c,2)
   else (c,4)
  else (c,z5t c)
 else (c,2)
def z1S(c:Cs):Cs:=if c.on=true then { c with on:=false,gone:=true,out:={ c.out with cl:=true } } else c
def z3i(f:Nat->Bool)(l:List Int):Nat->Bool:=l.foldl (fun f v=>j4Q f v.toNat false) f
def takeC(c:Cs)(x:Pkt):Cs:={ c with set:=Df.z3W c.set x.S,id:=x.i,fl:=z3i c.fl x.D,rp:=c.rp ++ [(x.i,c.t+15)] }
def z2J(c:Cs):List (Int×Int)->Cs
 | []=>{ c with rp:=[] }
 | x :: l=>if x.2<=c.t then (if (z2A c 2 x.1 0 0 c.t).2=0 then z2J (z2A c 2 x.1 0 0 c.t).1 l else { c with rp:=x :: l }) else { c with rp:=x :: l }
def z2Z(c:Cs):Cs:=c.pd.foldl takeC c
def z6y(c:Cs):Cs:=z2J { z2Z c with pd:=[] } (z2Z c).rp
def q1r(c:Cs)(now:Int):Cs×Int:=
 if z5t c=0 then
  if isT now=true/\c.t<=now then (z6y { c with h:=c.h+1,t:=now },0) else (c,2)
 else (c,z5t c)
end Kc
end Go.Proofs.YtddlhnoedldidaaGreat
