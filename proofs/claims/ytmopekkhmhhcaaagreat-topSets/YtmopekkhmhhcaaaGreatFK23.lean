/- Parts of the proof. -/
import Derived.Test.YtmopekkhmhhcaaaGreatFL
import Derived.Test.YtmopekkhmhhcaaaGreatFK3
set_option maxRecDepth 100000
set_option maxHeartbeats 16000000
namespace Go.Proofs.YtmopekkhmhhcaaaGreat
open Go.Proofs.Tryz
namespace Pv
open Go.RowKit
theorem z2x:∀ (q:List (Int×Pkt)) (z:List (Value×Value)),z.length=q.length->(quL q z).length=q.length * 7
 | [],[],_=>rfl
 | x :: q,y :: z,h=>by
  have:=z2x q z (by simpa using h)
  show (akL x y ++ quL q z).length=_
  rw[List.length_append,this,List.length_cons]
  show 7+_=_
  omega
 | [],_ :: _,h=>by simp at h
 | _ :: _,[],h=>by simp at h
theorem q2C:∀ (q:List (Int×Pkt)) (z:List (Value×Value)) (x:Int×Pkt) (y:Value×Value),z.length=q.length->quL (q ++ [x]) (z ++ [y])=quL q z ++ akL x y
 | [],[],x,y,_=>by simp[quL]
 | a :: q,b :: z,x,y,h=>by
  show akL a b ++ quL (q ++ [x]) (z ++ [y])=(akL a b ++ quL q z) ++ _
  rw[q2C q z x y (by simpa using h),List.append_assoc]
 | [],_ :: _,_,_,h=>by simp at h
 | _ :: _,[],_,_,h=>by simp at h
theorem z6S:∀ (q:List (Int×Pkt)) (z:List (Value×Value)) (i:Nat) (x:Int×Pkt) (y:Value×Value) (j:Nat),q[i]?=some x->z[i]?=some y->j<7->(quL q z)[i * 7+j]?=(akL x y)[j]?
 | a :: q,b :: z,0,x,y,j,h1,h2,hj=>by
  simp at h1 h2
  subst h1 h2
  show (akL a b ++ quL q z)[0 * 7+j]?=_
  rw[Nat.zero_mul,Nat.zero_add,List.getElem?_append_left (by exact hj)]
 | a :: q,b :: z,i+1,x,y,j,h1,h2,hj=>by
  show (akL a b ++ quL q z)[(i+1) * 7+j]?=_
  rw[List.getElem?_append_right (by show 7<=_;omega)]
  rw[show (i+1) * 7+j - (akL a b).length=i * 7+j by show (i+1) * 7+j - 7=_;omega]
  exact z6S q z i x y j (by simpa using h1) (by simpa using h2) hj
 | [],_,i,_,_,_,h1,_,_=>by simp at h1
 | _ :: _,[],i,_,_,_,_,h2,_=>by simp at h2
theorem q9b:(prog.info? 85).map (fun i=>(i.zero,i.size,i.bytes))=some (some (.agg #[.int .i64 0,.int .i64 0,.int .i64 0,.int .i64 0,.int .i64 0,.slice none 0 0,.slice none 0 0]),7,88):=by kernel_rfl
theorem z3l:(prog.info? 57).map (·.size)=some 97:=by kernel_rfl
theorem z0e:zeroCells57.size=97:=by kernel_rfl
theorem z7q{w:World}{b:Nat}{p:Pr}{v:PrV}(h:CAt 57 w b (prC p v)):w.rangeAt b 2 (stC p.s v.ws).toList:=h.part fun j x hx=>by
 have hj:j<63:=(List.getElem?_eq_some_iff.1 hx).1;simp only[prC,List.getElem?_toArray];rw[show 2+j=j+2 by omega]
 show ((stC p.s v.ws).toList ++ _)[j]?=_
 rw[List.getElem?_append_left (by simpa [z0g] using hj)]
 exact hx
theorem j9M{p:Pr}{v:PrV}(u:Value):(prC p v).setIfInBounds 65 u=prC p { v with set:=u }:=rfl
theorem y0T{p:Pr}{v:PrV}(u:Value):(prC p v).setIfInBounds 96 u=prC p { v with q:=u }:=rfl
def PrV.upd(v:PrV)(k:Nat)(x:LkV):PrV:={ v with l:=fun i=>if i=k then x else v.l i }
theorem j1o(p:Pr)(v:PrV)(k:Nat)(hk:k<2):∃ a c:List Value,a.length=66+k * 14/\prC p v=(a ++ (lkL (p.L k) (v.l k) ++ c)).toArray/\∀ x,prC p (v.upd k x)=(a ++ (lkL (p.L k) x ++ c)).toArray:=by
 have h0:([.int .i64 p.h,.int .i64 p.t] ++ ((stC p.s v.ws).toList ++ [v.set]):List Value).length=66:=by simp[z0g]
 match k,hk with
 | 0,_ =>
  refine⟨[.int .i64 p.h,.int .i64 p.t] ++ ((stC p.s v.ws).toList ++ [v.set]),lkL (p.L 1) (v.l 1) ++ [.int .i64 p.ml,.int .i64 p.mn,v.q],h0,?_,fun x=>?_⟩
  ·simp[prC]
  ·simp[prC,PrV.upd]
 | 1,_ =>
  refine⟨[.int .i64 p.h,.int .i64 p.t] ++ ((stC p.s v.ws).toList ++ [v.set]) ++ lkL (p.L 0) (v.l 0),[.int .i64 p.ml,.int .i64 p.mn,v.q],?_,?_,fun x=>?_⟩
  ·rw[List.length_append,h0];rfl
  ·simp[prC]
  ·simp[prC,PrV.upd]
theorem z3I{p:Pr}{v:PrV}(k:Nat)(hk:k<2)(j:Nat)(hj:j<14):(prC p v)[66+k * 14+j]?=(lkL (p.L k) (v.l k))[j]?:=by
 obtain⟨a,c,ha,h1,h2⟩:=j1o p v k hk;rw[h1,List.getElem?_toArray,List.getElem?_append_right (by omega),ha,Nat.add_sub_cancel_left,List.getElem?_append_left (by exact hj)]
theorem Rep.one{P:Nat->Prop}{w:World}{v:Value}{sz bts:Nat}{cs:List Value}(h:Rep P w v sz bts cs):v.oneCell'=true:=by
 obtain⟨_,_,_,rfl,_⟩:=h;rfl
theorem j4m{P:Nat->Prop}{w:World}{x:Lk}{v:LkV}(h:z6c P w x v):∀ u∈lkL x v,u.oneCell'=true:=fun u hu=>by
 simp only[lkL,List.mem_cons,List.not_mem_nil,or_false]at hu
 rcases hu with rfl | rfl | rfl | rfl | rfl | rfl | rfl | rfl | rfl | rfl | rfl | rfl | rfl | rfl <;> first | rfl | exact h.told.one | exact h.done.one | exact h.said.one | exact h.due.one
theorem z1c{P:Nat->Prop}{w:World}{p:Pr}{v:PrV}(h:PIn P w p v):(prC p v).all (·.oneCell')=true:=by
 obtain⟨A,n,C,e,_⟩:=h.ws;have hs:(stC p.s v.ws).all (·.oneCell')=true:=by rw[e];exact z0C _ _ _ _
 rw[Array.all_eq_true_iff_forall_mem]at *;obtain⟨_,_,⟨Aq,nq,Cq,eq,_⟩,_⟩:=h.q;intro u hu;simp only[prC,List.mem_toArray,List.mem_append,List.mem_cons,List.not_mem_nil,or_false]at hu
 rcases hu with (rfl | rfl) | hu | rfl | hu | hu | rfl | rfl | rfl
 ·rfl
 ·rfl
 ·exact hs u (by simpa using hu)
 ·exact h.set.one
 ·exact j4m (h.lk 0 (by omega)) u hu
 ·exact j4m (h.lk 1 (by omega)) u hu
 ·rfl
 ·rfl
 ·rw[eq];rfl
theorem take_one{α:Type}{l:List α}{k:Nat}{x:α}(h:l[k]?=some x):l.take k ++ [x]=l.take (k+1):=by
 have hlt:=(List.getElem?_eq_some_iff.1 h).1;rw[List.take_succ_eq_append_getElem hlt]
 congr 2
 exact ((List.getElem?_eq_some_iff.1 h).2).symm
end Pv
section
open Go.RowKit
def z8M(v:Value):Sem Value:=Instr.loadAt 43 v
theorem z1K(v:Value):Instr.loadAt 43 v=z8M v:=rfl
theorem SAt.z8M{w:World}{b:Nat}{cs:Array Value}(h:SAt w b cs)(hs:cs.size=63):(z8M (.pointer (some ⟨b,0,none⟩))).run prog w=.ok (.agg cs) w:=h.load hs
end
namespace Pv
open Go.RowKit
def j9q(v:Value):Sem Value:=Instr.loadAt 51 v
theorem q1d(v:Value):Instr.loadAt 51 v=j9q v:=rfl
theorem z2p{w:World}{b:Nat}{p:Pr}{v:PrV}(h:CAt 57 w b (prC p v)):(z8M (.pointer (some ⟨b,2,none⟩))).run prog w=.ok (.agg (stC p.s v.ws)) w:=by
 have:=run_loadAt_mid (P:=prog) w b 2 43 _ _ (z7q h) underlying43 rfl (by rw[z0y];rfl)
 change (Instr.loadAt 43 _).run prog w=_
 simpa using this
attribute [local go_sem ↓] q1d
end Pv
section
open Go.RowKit
theorem z6j{s:St}{d v n:Int}{y:Wt}(h:z0U s d v≠0):z0V s d v n y=(s,z0U s d v):=if_neg h
section
variable {s:St} {d v n:Int} {y:Wt} (h:z0U s d v=0)
include h
theorem q3b(h1:¬ ((decide (0<n) && inA n)=true/\0<=y.hei/\0<=y.due)):z0V s d v n y=(s,2):=by rw[z0V,if_pos h,if_neg h1]
theorem q2L(h1:(decide (0<n) && inA n)=true/\0<=y.hei/\0<=y.due)(h2:¬ n<=s.S d.toNat v.toNat):z0V s d v n y=(s,7):=by rw[z0V,if_pos h,if_pos h1,if_neg h2]
theorem q2w(h1:(decide (0<n) && inA n)=true/\0<=y.hei/\0<=y.due)(h2:n<=s.S d.toNat v.toNat)(h3:¬ (s.W.length<60/\s.next<1125899906842624)):z0V s d v n y=(s,6):=by rw[z0V,if_pos h,if_pos h1,if_pos h2,if_neg h3]
theorem q2h(h1:(decide (0<n) && inA n)=true/\0<=y.hei/\0<=y.due)(h2:n<=s.S d.toNat v.toNat)(h3:s.W.length<60/\s.next<1125899906842624)(h4:woE (s.V v.toNat) n≠0):z0V s d v n y=(s,woE (s.V v.toNat) n):=by rw[z0V,if_pos h,if_pos h1,if_pos h2,if_pos h3,if_neg h4]
theorem q2d(h1:(decide (0<n) && inA n)=true/\0<=y.hei/\0<=y.due)(h2:n<=s.S d.toNat v.toNat)(h3:s.W.length<60/\s.next<1125899906842624)(h4:woE (s.V v.toNat) n=0)(h5:(z0W s.b (woN (s.V v.toNat) n)).2≠0):z0V s d v n y=(s,(z0W s.b (woN (s.V v.toNat) n)).2):=by rw[z0V,if_pos h,if_pos h1,if_pos h2,if_pos h3,if_pos h4,if_neg h5]
theorem q2Y(h1:(decide (0<n) && inA n)=true/\0<=y.hei/\0<=y.due)(h2:n<=s.S d.toNat v.toNat)(h3:s.W.length<60/\s.next<1125899906842624)(h4:woE (s.V v.toNat) n=0)(h5:(z0W s.b (woN (s.V v.toNat) n)).2=0):z0V s d v n y=(j4B s d.toNat v.toNat (woN (s.V v.toNat) n) n (z0W s.b (woN (s.V v.toNat) n)).1 { y with num:=s.next,d:=d,v:=v,amt:=woN (s.V v.toNat) n },0):=by rw[z0V,if_pos h,if_pos h1,if_pos h2,if_pos h3,if_pos h4,if_pos h5]
end
theorem q8m(s:St)(ao:Option Addr)(sb so c:Nat)(d v n:Int)(y:Wt)(w:World)(hc:s.W.length<=c)(hW:z2A w ao sb so s.W) :
  Calls prog 78 #[.agg (stC s (.slice ao s.W.length c)),.int .i64 d,.int .i64 v,.int .i64 n,.agg #[.int .i64 y.num,.int .i64 y.d,.int .i64 y.v,.int .i64 y.amt,.int .i64 y.hei,.int .i64 y.due,.int .i64 y.h0,.int .i64 y.h1]] w fun e w'=>z5W w.heap.size sb w (z0V s d v n y) e w':=by
 by_cases h:z0U s d v=0
 ·obtain⟨hg,⟨v0,v1⟩,d0,d1⟩:=z9X h;obtain⟨v,rfl⟩:=Int.eq_ofNat_of_zero_le v0;obtain⟨d,rfl⟩:=Int.eq_ofNat_of_zero_le d0;exact q9k s ao sb so c d v n y w hc hW _ hg (by omega) (by omega) _ _ _ _ rfl rfl (q6e s.b _) (q3b h) (q2L h) (q2w h) (q2h h) (q2d h) (q2Y h)
 ·exact j2q s ao sb so c d v n y w hc hW _ h (z6j h)
end
section
theorem j4S{b:Bk}{f t:Nat}{n:Int}(h:(mv b f t n).2≠0):(mv b f t n).1=b:=by
 unfold mv at *
 split
 ·rfl
 ·rename_i h1;rw[if_neg h1]at h
  split
  ·rfl
  ·rename_i h2;rw[if_neg h2]at h;exact absurd rfl h
theorem z9R{b:Bk}{f t:Nat}{n:Int}(hg:b.good=true)(h0:0<=n)(h1:n<=1125899906842624)(h2:n<=b.get f):mv b f t n=((b.put f (b.get f - n)).put t (b.get t+n),0):=by
 unfold mv;rw[if_neg (by rw[hg];simp[h0,h1]),if_neg (by omega)]
theorem q2R{b:Bk}{f t:Nat}{n:Int}(h:(mv b f t n).2=0):b.good=true/\0<=n/\n<=1125899906842624/\n<=b.get f/\mv b f t n=((b.put f (b.get f - n)).put t (b.get t+n),0):=by
 by_cases h1:b.good=false∨¬ (0<=n/\n<=1125899906842624)
 ·unfold mv at h;rw[if_pos h1]at h;exact absurd h (by simp)
 ·by_cases h2:b.get f<n
  ·unfold mv at h;rw[if_neg h1,if_pos h2]at h;exact absurd h (by simp)
  ·have hg:b.good=true:=by
    cases hb:b.good with
    | true=>rfl
    | false=>exact absurd (.inl hb) h1
   have hn:0<=n/\n<=1125899906842624:=Decidable.byContradiction fun hn=>h1 (.inr hn);exact⟨hg,hn.1,hn.2,by omega,z9R hg hn.1 hn.2 (by omega)⟩
def Goes(f t:Nat):Prop:=(f<4/\t=4)∨(f=5/\t<4)∨(f=4/\t=5)∨(f=4/\t=6)∨(f=5/\t=6)
theorem z5J(b:Bk):b.good=true↔(0<=b.f0/\b.f0<=400000)/\(0<=b.f1/\b.f1<=400000)/\(0<=b.f2/\b.f2<=400000)/\(0<=b.f3/\b.f3<=400000)/\(0<=b.bo/\b.bo<=400000)/\(0<=b.wa/\b.wa<=400000)/\(0<=b.bu/\b.bu<=400000)/\b.f0+b.f1+b.f2+b.f3+b.bo+b.wa+b.bu=400000:=by
 unfold Bk.good z1z;exact decide_eq_true_iff
theorem q0i{b:Bk}{f t:Nat}{n:Int}(hft:Goes f t)(hg:b.good=true)(h0:0<=n)(h2:n<=b.get f) :
  ((b.put f (b.get f - n)).put t (b.get t+n)).good=true/\b.bu<=((b.put f (b.get f - n)).put t (b.get t+n)).bu:=by
 rw[z5J]at *
 rcases hft with⟨hf,rfl⟩ | ⟨rfl,ht⟩ | ⟨rfl,rfl⟩ | ⟨rfl,rfl⟩ | ⟨rfl,rfl⟩
 ·rcases (show f=0∨f=1∨f=2∨f=3 by omega) with rfl | rfl | rfl | rfl <;> simp only[Bk.get,Bk.put]at * <;> omega
 ·rcases (show t=0∨t=1∨t=2∨t=3 by omega) with rfl | rfl | rfl | rfl <;> simp only[Bk.get,Bk.put]at * <;> omega
 all_goals simp only[Bk.get,Bk.put]at * <;> omega
structure Kept(b:Bk)(r:Bk×Int):Prop where
 no:r.2≠0->r.1=b
 yes:r.2=0->b.good=true/\r.1.good=true/\b.bu<=r.1.bu
theorem q7e(b:Bk){f t:Nat}(n:Int)(hft:Goes f t):Kept b (mv b f t n):=by
 refine⟨j4S,fun h=>?_⟩;obtain⟨h1,h2,h3,h4,h5⟩:=q2R h;rw[h5];exact⟨h1,q0i hft h1 h2 h4⟩
theorem q8N(b:Bk)(d n:Int):Kept b (z2B b d n):=by
 unfold z2B
 split
 ·exact q7e b n (.inl ⟨by omega,rfl⟩)
 ·exact⟨fun _=>rfl,fun h=>absurd h (by simp)⟩
theorem j1m(b:Bk)(d n:Int):Kept b (z8J b d n):=by
 unfold z8J
 split
 ·exact q7e b n (.inr (.inl ⟨rfl,by omega⟩))
 ·exact⟨fun _=>rfl,fun h=>absurd h (by simp)⟩
end
section
theorem z0O(s:St):z0i s=true↔s.b.good=true/\1<=s.next/\s.next<=1125899906842624/\s.W.length<=60/\wOk s.next 0 s.W=true/\(∀ k,k<6->vOk (s.V k)=true/\z3A s.S k 4=true/\psh s.S k 4=(s.V k).sh)/\z8G s.V 6=s.b.bo/\z2K s.W=s.b.wa/\z3K s.V 6=s.b.bu:=by
 have hp:pvs s 6=true↔∀ k,k<6->vOk (s.V k)=true/\z3A s.S k 4=true/\psh s.S k 4=(s.V k).sh:=by
  constructor
  ·intro h k hk;have:=q3I h hk;simp only[j4E,q6I,Bool.and_eq_true,decide_eq_true_eq]at this;exact⟨this.1,this.2.1,this.2.2⟩
  ·intro h;simp only[pvs,j4E,q6I,Bool.and_eq_true,decide_eq_true_eq,true_and];exact⟨⟨⟨⟨⟨h 0 (by omega),h 1 (by omega)⟩,h 2 (by omega)⟩,h 3 (by omega)⟩,h 4 (by omega)⟩,h 5 (by omega)⟩
 unfold z0i bal;simp only[Bool.and_eq_true,decide_eq_true_eq,hp]
 constructor
 ·rintro⟨⟨⟨⟨⟨⟨h1,h2⟩,h3⟩,h4⟩,h5⟩,h6⟩,⟨h7,h8⟩,h9⟩;exact⟨h1,h2,h3,h4,h5,h6,h7,h8,h9⟩
 ·rintro⟨h1,h2,h3,h4,h5,h6,h7,h8,h9⟩;exact⟨⟨⟨⟨⟨⟨h1,h2⟩,h3⟩,h4⟩,h5⟩,h6⟩,⟨h7,h8⟩,h9⟩
theorem z1U(x:Vd):vOk x=true↔(0<=x.tok/\x.tok<=1125899906842624)/\(0<=x.sh/\x.sh<=1125899906842624)/\(0<=x.lost/\x.lost<=1125899906842624)/\(0<x.tok->x.sh≠0)/\(x.dead=true->x.jail=true):=by
 unfold vOk;simp only[Bool.and_eq_true,z0D,Bool.not_eq_true',Bool.and_eq_false_iff,decide_eq_false_iff_not,Bool.or_eq_true]
 constructor
 ·rintro⟨⟨⟨⟨h1,h2⟩,h3⟩,h4⟩,h5⟩;refine⟨h1,h2,h3,fun h=>h4.resolve_left (fun h'=>h' h),fun h=>?_⟩
  rcases h5 with h5 | h5
  ·exact h5
  ·rw[h]at h5;cases h5
 ·rintro⟨h1,h2,h3,h4,h5⟩;refine⟨⟨⟨⟨h1,h2⟩,h3⟩,?_⟩,?_⟩
  ·by_cases h:0<x.tok
   ·exact .inr (h4 h)
   ·exact .inl h
  ·cases hd:x.dead
   ·exact .inr rfl
   ·exact .inl (h5 hd)
theorem six{v:Nat}(h:v<6):v=0∨v=1∨v=2∨v=3∨v=4∨v=5:=by omega
theorem four{v:Nat}(h:v<4):v=0∨v=1∨v=2∨v=3:=by omega
theorem z7s(V:Nat->Vd)(v:Nat)(x:Vd)(hv:v<6):z8G (z1P V v x) 6=z8G V 6+x.tok - (V v).tok:=by
 rcases six hv with rfl | rfl | rfl | rfl | rfl | rfl <;> simp[z8G,z1P] <;> omega
theorem z5I(V:Nat->Vd)(v:Nat)(x:Vd)(hv:v<6):z3K (z1P V v x) 6=z3K V 6+x.lost - (V v).lost:=by
 rcases six hv with rfl | rfl | rfl | rfl | rfl | rfl <;> simp[z3K,z1P] <;> omega
theorem q8T(S:Nat->Nat->Int)(d v:Nat)(y:Int)(hd:d<4):psh (z6q S d v y) v 4=psh S v 4+y - S d v:=by
 rcases four hd with rfl | rfl | rfl | rfl <;> simp[psh,z6q] <;> omega
theorem q1g(S:Nat->Nat->Int)(d v k:Nat)(y:Int)(hk:k≠v):psh (z6q S d v y) k 4=psh S k 4:=by
 simp[psh,z6q,hk]
theorem q0O(S:Nat->Nat->Int)(d v k:Nat)(y:Int)(h:z3A S k 4=true)(hy:inA y=true):z3A (z6q S d v y) k 4=true:=by
 simp only[z3A,Bool.and_eq_true,true_and]at *;obtain⟨⟨⟨h0,h1⟩,h2⟩,h3⟩:=h;refine⟨⟨⟨?_,?_⟩,?_⟩,?_⟩ <;> unfold z6q <;> split <;> assumption
theorem q9U{V:Nat->Vd}(h:∀ k,k<6->0<=(V k).tok){v:Nat}(hv:v<6):(V v).tok<=z8G V 6:=by
 have h0:=h 0 (by omega);have h1:=h 1 (by omega);have h2:=h 2 (by omega);have h3:=h 3 (by omega);have h4:=h 4 (by omega);have h5:=h 5 (by omega)
 simp only[z8G]
 rcases six hv with rfl | rfl | rfl | rfl | rfl | rfl <;> omega
theorem j4b{S:Nat->Nat->Int}{k:Nat}(h:z3A S k 4=true){d:Nat}(hd:d<4):S d k<=psh S k 4:=by
 have h0:=z0D.1 (z6X h (d:=0) (by omega));have h1:=z0D.1 (z6X h (d:=1) (by omega));have h2:=z0D.1 (z6X h (d:=2) (by omega));have h3:=z0D.1 (z6X h (d:=3) (by omega))
 simp only[psh]
 rcases four hd with rfl | rfl | rfl | rfl <;> omega
theorem q9e{b:Bk}{d:Nat}{n:Int}(hd:d<4)(h:(z2B b d n).2=0):(z2B b d n).1.good=true/\(z2B b d n).1.bo=b.bo+n/\(z2B b d n).1.wa=b.wa/\(z2B b d n).1.bu=b.bu:=by
 refine⟨((q8N b d n).yes h).2.1,?_⟩;unfold z2B at *;rw[if_pos (by omega)]at *
 obtain⟨-,-,-,-,h5⟩:=q2R h;rw[h5]
 rcases four hd with rfl | rfl | rfl | rfl <;> simp[Bk.put,Bk.get]
theorem j1l{s:St}{B:Bk}{d v:Nat}{t n:Int}(hg:z0i s=true)(hd:d<4)(hv:v<6)(hB:B.good=true)(hbo:B.bo=s.b.bo+t)(hwa:B.wa=s.b.wa)(hbu:B.bu=s.b.bu)
  (ht:0<=(s.V v).tok+t) (hn0:0<=s.S d v+n) (hn:(s.V v).sh+n<=1125899906842624) (hpos:0<(s.V v).tok+t->(s.V v).sh+n≠0):z0i (q3u { s with b:=B } d v t n)=true:=by
 rw[z0O]at *;obtain⟨h1,h2,h3,h4,h5,h6,h7,h8,h9⟩:=hg;obtain⟨hvv,hps,hpe⟩:=h6 v hv;rw[z1U]at hvv;have hB':=(z5J B).1 hB;have hpt:z8G (z1P s.V v { s.V v with tok:=(s.V v).tok+t,sh:=(s.V v).sh+n }) 6=B.bo:=by rw[z7s _ _ _ hv,h7,hbo];show s.b.bo+((s.V v).tok+t) - (s.V v).tok=_;omega
 have htk:∀ k,k<6->0<=(z1P s.V v { s.V v with tok:=(s.V v).tok+t,sh:=(s.V v).sh+n } k).tok:=fun k hk=>by
  unfold z1P
  split
  ·exact ht
  ·exact ((z1U _).1 (h6 k hk).1).1.1
 have hge:=q9U htk hv;rw[hpt]at hge;simp only[z1P,if_true]at hge;have hsd:=j4b hps hd;rw[hpe]at hsd;refine⟨hB,h2,h3,h4,h5,fun k hk=>?_,hpt,h8.trans hwa.symm,?_⟩
 ·show vOk (z1P s.V v _ k)=true/\z3A (z6q s.S d v _) k 4=true/\psh (z6q s.S d v _) k 4=(z1P s.V v _ k).sh
  refine⟨?_,q0O _ _ _ _ _ (h6 k hk).2.1 (z0D.2 ⟨hn0,by show s.S d v+n<=_;omega⟩),?_⟩
  ·unfold z1P
   split
   ·rw[z1U];exact⟨⟨ht,by show (s.V v).tok+t<=_;omega⟩,⟨by show 0<=(s.V v).sh+n;omega,hn⟩,hvv.2.2.1,hpos,hvv.2.2.2.2⟩
   ·exact (h6 k hk).1
  ·by_cases hkv:k=v
   ·subst hkv;rw[q8T _ _ _ _ hd,hpe];simp only[z1P,if_true];omega
   ·rw[q1g _ _ _ _ _ hkv,(h6 k hk).2.2];simp only[z1P,if_neg hkv]
 ·show z3K (z1P s.V v _) 6=B.bu
  rw[z5I _ _ _ hv,h9,hbu];simp only;omega
theorem q5X{s:St}{d v n:Int}(h:(z0R s d v n).2=0):∃ i j:Nat,d=i/\v=j/\i<4/\j<6/\z0i s=true/\(s.V j).dead=false/\0<n/\n<=1125899906842624/\shE (s.V j) n=0/\(z2B s.b i n).2=0/\z0R s d v n=(q3u { s with b:=(z2B s.b i n).1 } i j n (shN (s.V j) n),0):=by
 have hr:z0U s d v=0:=Decidable.byContradiction fun hr=>by rw[q1p hr]at h;exact hr h
 obtain⟨hg,⟨v0,v1⟩,d0,d1⟩:=z9X hr;obtain⟨j,rfl⟩:=Int.eq_ofNat_of_zero_le v0;obtain⟨i,rfl⟩:=Int.eq_ofNat_of_zero_le d0;refine⟨i,j,rfl,rfl,by omega,by omega,hg,?_⟩
 have h1:(s.V j).dead=false:=by
  cases hd:(s.V j).dead with
  | false=>rfl
  | true=>rw[z9f hr hd]at h;cases h
 have h2:(decide (0<n) && inA n)=true:=by
  cases hd:(decide (0<n) && inA n) with
  | true=>rfl
  | false=>rw[z7W hr h1 hd]at h;cases h
 have h3:shE (s.V j) n=0:=Decidable.byContradiction fun h3=>by rw[q1J hr h1 h2 h3]at h;exact h3 h
 have h4:(z2B s.b i n).2=0:=Decidable.byContradiction fun h4=>by rw[z9r hr h1 h2 h3 h4]at h;exact h4 h
 have h2':=h2;simp only[Bool.and_eq_true,decide_eq_true_eq,z0D]at h2';exact⟨h1,h2'.1,h2'.2.2,h3,h4,q3o hr h1 h2 h3 h4⟩
theorem j4N{x:Vd}{n:Int}(hx:vOk x=true)(hn:0<n)(hn1:n<=1125899906842624)(h:shE x n=0):0<shN x n/\x.sh+shN x n<=1125899906842624/\shN x n * x.tok<=n * x.sh:=by
 rw[z1U]at hx;obtain⟨⟨t0,t1⟩,⟨s0,s1⟩,-,hp,-⟩:=hx;unfold shE at h;unfold shN
 by_cases hs:x.sh=0
 ·have ht:x.tok=0:=by
   rcases Int.lt_or_le 0 x.tok with h1 | h1
   ·exact absurd hs (hp h1)
   ·omega
  rw[if_pos hs,hs,ht];refine⟨hn,by omega,?_⟩
  simp
 ·rw[if_neg hs]at h ⊢
  by_cases ht:x.tok=0
  ·rw[if_pos ht]at h;cases h
  ·rw[if_neg ht]at h ⊢
   by_cases hm:mdE n x.sh x.tok=0/\inA (x.sh+mdN n x.sh x.tok)=true
   ·rw[if_pos hm]at h ⊢;have hm2:=z0D.1 hm.2;have hb:=z4D n x.sh x.tok;refine⟨?_,hm2.2,?_⟩
    ·by_cases h0:mdN n x.sh x.tok=0
     ·rw[if_pos h0]at h;cases h
     ·omega
    ·unfold mdN
     split
     ·rw[Int.zero_mul];exact Int.mul_nonneg (by omega) s0
     ·split
      ·exact Int.ediv_mul_le _ ht
      ·rw[Int.zero_mul];exact Int.mul_nonneg (by omega) s0
   ·rw[if_neg hm]at h;cases h
theorem y0A{x:Vd}{g k:Int}(hx:vOk x=true)(hg:0<g)(hs:g<=x.sh)(hk:g * x.tok<=k * x.sh):mdE g x.tok x.sh=0/\mdN g x.tok x.sh<=x.tok/\mdN g x.tok x.sh<=k:=by
 rw[z1U]at hx;obtain⟨⟨t0,t1⟩,⟨s0,s1⟩,-,-,-⟩:=hx
 have q1:g * x.tok / x.sh<=x.tok:=by
  apply Int.ediv_le_of_le_mul (by omega)
  rw[Int.mul_comm x.tok];exact Int.mul_le_mul_of_nonneg_right hs t0
 have q2:g * x.tok / x.sh<=k:=Int.ediv_le_of_le_mul (by omega) hk
 have c1:¬ (g<0∨x.tok<0∨x.sh<1):=by omega
 have c2:g * x.tok / x.sh<=1125899906842624:=by omega
 unfold mdE mdN;simp only[if_neg c1,if_pos c2];exact⟨trivial,q1,q2⟩
end
section
def z7g(t:Int)(x:Wt):Bool:=decide (x.due<=t) && decide (x.h0=0/\x.h1=0)
def z1x(t:Int)(W:List Wt):List Wt:=W.filter fun x=>!z7g t x
def z7j(t:Int)(W:List Wt):List Wt:=W.filter (z7g t)
def z2m(t:Int)(W:List Wt):List Int:=(z7j t W).map (·.num)
def z5j(t:Int)(b:Bk)(W:List Wt):Bk:=W.foldl (fun b x=>if z7g t x=true then (z8J b x.d x.amt).1 else b) b
def z6k(s:St)(t:Int):St:={ s with b:=z5j t s.b s.W,W:=z1x t s.W }
theorem z1p{W:List Wt}{k:Nat}{x:Wt}(h:W[k]?=some x):W.take (k+1)=W.take k ++ [x]:=by
 rw[List.take_add_one,h];rfl
theorem z3n:∀ A B:List Wt,z2K (A ++ B)=z2K A+z2K B
 | [],B=>by simp[z2K]
 | x :: A,B=>by simp only[List.cons_append,z2K,z3n A B];omega
theorem z6J{next:Int}:∀ {W:List Wt} {last:Int},wOk next last W=true->∀ x∈W,last<x.num/\x.num<next/\(0<=x.d/\x.d<4)/\(0<=x.v/\x.v<6)/\(0<=x.amt/\x.amt<=1125899906842624)/\0<=x.hei/\0<=x.due
 | [],_,_,x,hx=>by cases hx
 | y :: W,last,h,x,hx=>by
  simp only[wOk,q0W,Bool.and_eq_true,decide_eq_true_eq,z5w,z3t,z0D]at h;obtain⟨⟨⟨⟨⟨⟨⟨h1,h2⟩,h3⟩,h4⟩,h5⟩,h6⟩,h7⟩,h8⟩:=h
  rcases List.mem_cons.1 hx with rfl | hx
  ·exact⟨h1,h2,h3,h4,h5,h6,h7⟩
  ·have:=z6J h8 x hx;exact⟨by omega,this.2⟩
theorem q8a{next:Int}:∀ {W:List Wt} {last last':Int},wOk next last W=true->last'<last->wOk next last' W=true
 | [],_,_,_,_=>rfl
 | y :: W,last,last',h,hl=>by
  simp only[wOk,q0W,Bool.and_eq_true,decide_eq_true_eq]at h ⊢;obtain⟨⟨⟨⟨⟨⟨⟨h1,h2⟩,h3⟩,h4⟩,h5⟩,h6⟩,h7⟩,h8⟩:=h;exact⟨⟨⟨⟨⟨⟨⟨by omega,h2⟩,h3⟩,h4⟩,h5⟩,h6⟩,h7⟩,h8⟩
theorem z9x{next:Int}(p:Wt->Bool):∀ {W:List Wt} {last:Int},wOk next last W=true->wOk next last (W.filter p)=true
 | [],_,_=>rfl
 | y :: W,last,h=>by
  have hy:=z6J h y (List.mem_cons_self ..);simp only[wOk,Bool.and_eq_true]at h;have ih:=z9x p h.2;rw[List.filter_cons]
  split
  ·simp only[wOk,Bool.and_eq_true];exact⟨h.1,ih⟩
  ·exact q8a ih (by omega)
theorem z4e:∀ {W:List Wt},(∀ x∈W,0<=x.amt)->0<=z2K W
 | [],_=>Int.le_refl _
 | x :: W,h=>by
  have:=h x (List.mem_cons_self ..);have:=z4e (W:=W) fun y hy=>h y (List.mem_cons_of_mem _ hy);simp only[z2K];omega
theorem z6M(p:Wt->Bool):∀ W:List Wt,z2K (W.filter p)+z2K (W.filter fun x=>!p x)=z2K W
 | []=>rfl
 | x :: W=>by
  have:=z6M p W;rw[List.filter_cons,List.filter_cons];cases p x <;> simp[z2K] <;> omega
theorem z5Y(t:Int)(W:List Wt)(x:Wt):z1x t (W ++ [x])=if z7g t x=true then z1x t W else z1x t W ++ [x]:=by
 unfold z1x;rw[List.filter_append];cases h:z7g t x <;> simp[h]
theorem z4I(t:Int)(W:List Wt)(x:Wt):z7j t (W ++ [x])=if z7g t x=true then z7j t W ++ [x] else z7j t W:=by
 unfold z7j;rw[List.filter_append];cases h:z7g t x <;> simp[h]
theorem z7H(t:Int)(b:Bk)(W:List Wt)(x:Wt):z5j t b (W ++ [x])=if z7g t x=true then (z8J (z5j t b W) x.d x.amt).1 else z5j t b W:=by
 unfold z5j;rw[List.foldl_append];rfl
theorem q4G{b:Bk}{d n:Int}(hd:0<=d/\d<4)(hg:b.good=true)(h0:0<=n)(h1:n<=1125899906842624)(h2:n<=b.wa):(z8J b d n).2=0/\(z8J b d n).1.good=true/\(z8J b d n).1.bo=b.bo/\(z8J b d n).1.wa=b.wa - n/\(z8J b d n).1.bu=b.bu:=by
 have h:=z9R (f:=5) (t:=d.toNat) hg h0 h1 h2;have hk:=(j1m b d n).yes;unfold z8J at *;rw[if_pos hd]at *;rw[h]at hk ⊢;refine⟨rfl,(hk rfl).2.1,?_⟩;have h4:d.toNat<4:=by omega
 generalize d.toNat=i at *
 rcases four h4 with rfl | rfl | rfl | rfl <;> simp[Bk.put,Bk.get]
theorem j4y{s:St}(hg:z0i s=true)(t:Int){k:Nat}{x:Wt}(hx:s.W[k]?=some x):x.amt<=s.b.wa - z2K (z7j t (s.W.take k)):=by
 obtain⟨h1,h2,h3,h4,h5,h6,h7,h8,h9⟩:=(z0O s).1 hg;have hmem:=z6J h5;obtain⟨hk,he⟩:=List.getElem?_eq_some_iff.1 hx;have e1:s.W=s.W.take k ++ (x :: s.W.drop (k+1)):=by rw[← he,← List.drop_eq_getElem_cons hk,List.take_append_drop]
 have e2:z2K s.W=z2K (s.W.take k)+(x.amt+z2K (s.W.drop (k+1))):=by
  conv=>lhs;rw[e1]
  rw[z3n];rfl
 have e3:=z6M (z7g t) (s.W.take k);have n1:=z4e (W:=(s.W.take k).filter fun x=>!z7g t x) fun y hy=>(hmem y (List.mem_of_mem_take (List.mem_filter.1 hy).1)).2.2.2.2.1.1;have n2:=z4e (W:=s.W.drop (k+1)) fun y hy=>(hmem y (List.mem_of_mem_drop hy)).2.2.2.2.1.1;unfold z7j;omega
theorem q7k{s:St}(hg:z0i s=true)(t:Int):∀ k,k<=s.W.length->(z5j t s.b (s.W.take k)).good=true/\(z5j t s.b (s.W.take k)).bo=s.b.bo/\(z5j t s.b (s.W.take k)).bu=s.b.bu/\(z5j t s.b (s.W.take k)).wa=s.b.wa - z2K (z7j t (s.W.take k)):=by
 obtain⟨h1,h2,h3,h4,h5,h6,h7,h8,h9⟩:=(z0O s).1 hg;intro k
 induction k with
 | zero=>intro _;refine⟨h1,rfl,rfl,?_⟩;simp[z7j,z5j,z2K]
 | succ k ih =>
  intro hk;obtain⟨i1,i2,i3,i4⟩:=ih (by omega)
  have hx:s.W[k]?=some (s.W[k]'(by omega)):=List.getElem?_eq_getElem _
  have hm:=z6J h5 _ (List.getElem_mem (show k<s.W.length by omega))
  rw[z1p hx,z7H,z4I];have hle:=j4y hg t hx;generalize s.W[k]'(by omega)=x at *
  split
  ·obtain⟨j1,j2,j3,j4,j5⟩:=q4G hm.2.2.1 i1 hm.2.2.2.2.1.1 hm.2.2.2.2.1.2 (by rw[i4];omega)
   refine⟨j2,by rw[j3,i2],by rw[j5,i3],?_⟩
   rw[j4,i4,z3n];simp only[z2K];omega
  ·exact⟨i1,i2,i3,i4⟩
theorem j3s{s:St}(hg:z0i s=true)(t:Int){k:Nat}{x:Wt}(hx:s.W[k]?=some x)(hd:z7g t x=true):z8J (z5j t s.b (s.W.take k)) x.d x.amt=(z5j t s.b (s.W.take (k+1)),0):=by
 obtain⟨hk,he⟩:=List.getElem?_eq_some_iff.1 hx;obtain⟨i1,i2,i3,i4⟩:=q7k hg t k (by omega)
 have hm:=z6J ((z0O s).1 hg).2.2.2.2.1 x (he ▸ List.getElem_mem hk);have hle:=j4y hg t hx;obtain⟨j1,-⟩:=q4G hm.2.2.1 i1 hm.2.2.2.2.1.1 hm.2.2.2.2.1.2 (by rw[i4];exact hle)
 rw[z1p hx,z7H,if_pos hd,← j1]
theorem j0Q{s:St}(hg:z0i s=true)(t:Int):(z6k s t).b.good=true/\(z6k s t).b.bo=s.b.bo/\(z6k s t).b.bu=s.b.bu/\(z6k s t).b.wa=s.b.wa - z2K (z7j t s.W):=by
 have:=q7k hg t s.W.length (Nat.le_refl _)
 rwa [List.take_length]at this
theorem q4E{s:St}(hg:z0i s=true)(t:Int):z0i (z6k s t)=true:=by
 obtain⟨a1,a2,a3,a4⟩:=j0Q hg t;rw[z0O]at hg ⊢;obtain⟨h1,h2,h3,h4,h5,h6,h7,h8,h9⟩:=hg;refine⟨a1,h2,h3,?_,z9x _ h5,h6,h7.trans a2.symm,?_,h9.trans a3.symm⟩
 ·exact Nat.le_trans (List.length_filter_le _ _) h4
 ·rw[a4,← h8,← z6M (z7g t) s.W]
  show z2K (z1x t s.W)=_
  unfold z7j z1x;omega
end
section
def ptN(n f:Int):Int:=Ra.ptN n f
def ptE(n f:Int):Int:=Ra.ptE n f
theorem j7C{n f:Int}(hn:0<=n/\n<=1125899906842624)(hf:0<=f/\f<=1000):ptE n f=0/\0<=ptN n f/\ptN n f<=n:=by
 obtain⟨h1,h2⟩:=Ra.j0h (n:=n) (f:=f) ⟨Ra.q7d.2 hn,hf⟩;refine⟨h2,?_,?_⟩
 ·show 0<=Ra.ptN n f
  rw[h1];exact Int.ediv_nonneg (Int.mul_nonneg hn.1 hf.1) (by omega)
 ·show Ra.ptN n f<=n
  rw[h1];exact Int.ediv_le_of_le_mul (by omega) (Int.mul_le_mul_of_nonneg_left hf.2 hn.1)
def j4o(v h:Int)(x:Wt):Bool:=decide (x.v=v) && decide (h<=x.hei)
def slX(v h f:Int)(x:Wt):Wt:=if j4o v h x=true then { x with amt:=x.amt - ptN x.amt f } else x
def slW(v h f:Int)(W:List Wt):List Wt:=W.map (slX v h f)
def slP(v h f:Int)(x:Wt):Int:=if j4o v h x=true then ptN x.amt f else 0
def slN(v h f:Int):List Wt->Int
 | []=>0
 | x :: W=>slP v h f x+slN v h f W
theorem z9k(v h f:Int):∀ A B:List Wt,slN v h f (A ++ B)=slN v h f A+slN v h f B
 | [],B=>by simp[slN]
 | x :: A,B=>by simp only[List.cons_append,slN,z9k v h f A B];omega
theorem j4u{v h f:Int}{x:Wt}(hx:0<=x.amt/\x.amt<=1125899906842624)(hf:0<=f/\f<=1000):0<=slP v h f x/\slP v h f x<=x.amt:=by
 have:=j7C hx hf;unfold slP
 split <;> omega
theorem q9m{v h f:Int}(hf:0<=f/\f<=1000):∀ {W:List Wt},(∀ x∈W,0<=x.amt/\x.amt<=1125899906842624)->0<=slN v h f W/\slN v h f W<=z2K W
 | [],_=>⟨Int.le_refl _,Int.le_refl _⟩
 | x :: W,h1=>by
  have:=j4u (v:=v) (h:=h) (h1 x (List.mem_cons_self ..)) hf;have:=q9m (v:=v) (h:=h) hf (W:=W) fun y hy=>h1 y (List.mem_cons_of_mem _ hy);simp only[slN,z2K];omega
theorem q7L(v h f:Int):∀ W:List Wt,z2K (slW v h f W)=z2K W - slN v h f W
 | []=>rfl
 | x :: W=>by
  have:=q7L v h f W;simp only[slW,List.map_cons,z2K,slN]at *
  have e:(slX v h f x).amt=x.amt - slP v h f x:=by
   unfold slX slP
   split
   ·rfl
   ·omega
  omega
theorem j6h(v h f:Int){W:List Wt}{k:Nat}{x:Wt}(hx:W[k]?=some x):slW v h f (W.take (k+1)) ++ W.drop (k+1)=(slW v h f (W.take k) ++ W.drop k).set k (slX v h f x)/\(slW v h f (W.take k) ++ W.drop k)[k]?=some x/\slN v h f (W.take (k+1))=slN v h f (W.take k)+slP v h f x:=by
 obtain⟨hk,he⟩:=List.getElem?_eq_some_iff.1 hx;have hl:(slW v h f (W.take k)).length=k:=by unfold slW;rw[List.length_map,List.length_take];omega
 have hd:W.drop k=x :: W.drop (k+1):=by rw[← he];exact List.drop_eq_getElem_cons hk
 refine⟨?_,?_,?_⟩
 ·rw[z1p hx,hd];unfold slW at *;rw[List.map_append,List.set_append_right _ _ (by omega),hl,Nat.sub_self,List.append_assoc]
  rfl
 ·rw[List.getElem?_append_right (by omega),hl,Nat.sub_self,hd]
  rfl
 ·rw[z1p hx,z9k]
  simp[slN]
theorem j4W{v h f:Int}{x:Wt}(hx:j4o v h x=false):slX v h f x=x/\slP v h f x=0:=by
 unfold slX slP;rw[if_neg (by simp[hx]),if_neg (by simp[hx])]
 exact⟨rfl,rfl⟩
theorem j8T{v h f:Int}{x:Wt}(hx:j4o v h x=true):slX v h f x={ x with amt:=x.amt - ptN x.amt f }/\slP v h f x=ptN x.amt f:=by
 unfold slX slP;rw[if_pos hx,if_pos hx];exact⟨rfl,rfl⟩
theorem z5L{W:List Wt}{k:Nat}{x:Wt}(h:W[k]?=some x):W.set k x=W:=by
 obtain⟨hk,rfl⟩:=List.getElem?_eq_some_iff.1 h;exact List.set_getElem_self hk
end
section
def z8r(x:Vd)(pb pw:Int):Vd:={ x with tok:=x.tok - pb,lost:=x.lost+(pb+pw) }
def z2f(s:St)(v:Nat)(h f:Int):St:={ s with b:=(z2U s.b (ptN (s.V v).tok f) (slN v h f s.W)).1,V:=z1P s.V v (z8r (s.V v) (ptN (s.V v).tok f) (slN v h f s.W)),W:=slW v h f s.W }
theorem j0q{b:Bk}{x y:Int}(hg:b.good=true)(hx:0<=x/\x<=b.bo)(hy:0<=y/\y<=b.wa):(z2U b x y).2=0/\(z2U b x y).1.good=true/\(z2U b x y).1.bo=b.bo - x/\(z2U b x y).1.wa=b.wa - y/\(z2U b x y).1.bu=b.bu+(x+y):=by
 have hb:=(z5J b).1 hg;have h1:=z9R (f:=4) (t:=6) hg hx.1 (by omega) hx.2
 have g1:=(q0i (f:=4) (t:=6) (.inr (.inr (.inr (.inl ⟨rfl,rfl⟩)))) hg hx.1 hx.2).1;have h2:=z9R (f:=5) (t:=6) g1 hy.1 (by omega) (show y<=b.wa from hy.2)
 have g2:=(q0i (f:=5) (t:=6) (.inr (.inr (.inr (.inr ⟨rfl,rfl⟩)))) g1 hy.1 (show y<=b.wa from hy.2)).1;unfold z2U;rw[h1];simp only[if_true];rw[h2];simp only[if_true];refine⟨trivial,g2,rfl,rfl,?_⟩
 show b.bu+x+y=_
 omega
theorem q8u(v h f:Int)(x:Wt):(slX v h f x).num=x.num/\(slX v h f x).d=x.d/\(slX v h f x).v=x.v/\(slX v h f x).hei=x.hei/\(slX v h f x).due=x.due/\(slX v h f x).amt=x.amt - slP v h f x:=by
 unfold slX slP
 split
 ·exact⟨rfl,rfl,rfl,rfl,rfl,rfl⟩
 ·exact⟨rfl,rfl,rfl,rfl,rfl,by omega⟩
theorem q1B{next v h f:Int}(hf:0<=f/\f<=1000):∀ {W:List Wt} {last:Int},wOk next last W=true->wOk next last (slW v h f W)=true
 | [],_,_=>rfl
 | x :: W,last,hw=>by
  obtain⟨k1,k2,k3,k4,k5,k6⟩:=q8u v h f x;simp only[wOk,q0W,Bool.and_eq_true,decide_eq_true_eq,z5w,z3t,z0D]at hw;obtain⟨⟨⟨⟨⟨⟨⟨h1,h2⟩,h3⟩,h4⟩,h5⟩,h6⟩,h7⟩,h8⟩:=hw;have hp:=j4u (v:=v) (h:=h) h5 hf;have ih:=q1B (v:=v) (h:=h) hf h8;simp only[slW,List.map_cons,wOk,q0W,Bool.and_eq_true,decide_eq_true_eq,z5w,z3t,z0D,k1,k2,k3,k4,k5,k6];exact⟨⟨⟨⟨⟨⟨⟨h1,h2⟩,h3⟩,h4⟩,by omega⟩,h6⟩,h7⟩,ih⟩
theorem j2y{V:Nat->Vd}(h:∀ k,k<6->0<=(V k).lost){v:Nat}(hv:v<6):(V v).lost<=z3K V 6:=by
 have h0:=h 0 (by omega);have h1:=h 1 (by omega);have h2:=h 2 (by omega);have h3:=h 3 (by omega);have h4:=h 4 (by omega);have h5:=h 5 (by omega)
 simp only[z3K]
 rcases six hv with rfl | rfl | rfl | rfl | rfl | rfl <;> omega
theorem z4M{s:St}(hg:z0i s=true){v:Nat}(hv:v<6)(h:Int){f:Int}(hf:0<=f/\f<=1000):ptE (s.V v).tok f=0/\(0<=ptN (s.V v).tok f/\ptN (s.V v).tok f<=(s.V v).tok)/\(0<=slN v h f s.W/\slN v h f s.W<=s.b.wa)/\(s.V v).tok<=s.b.bo/\(0<=(s.V v).lost/\(s.V v).lost<=s.b.bu)/\s.b.bo<=400000/\s.b.wa<=400000/\s.b.bu<=400000/\z2K s.W<=400000/\(∀ x∈s.W,0<=x.amt/\x.amt<=1125899906842624)/\s.W.length<=60:=by
 obtain⟨h1,h2,h3,h4,h5,h6,h7,h8,h9⟩:=(z0O s).1 hg;have hb:=(z5J s.b).1 h1;have hx:=(z1U _).1 (h6 v hv).1;have hA:∀ x∈s.W,0<=x.amt/\x.amt<=1125899906842624:=fun x hx=>(z6J h5 x hx).2.2.2.2.1;have hp:=j7C hx.1 hf;have hn:=q9m (v:=v) (h:=h) hf hA;have ht:=q9U (fun k hk=>((z1U _).1 (h6 k hk).1).1.1) hv;have hl:=j2y (fun k hk=>((z1U _).1 (h6 k hk).1).2.2.1.1) hv;rw[h7]at ht;rw[h8]at hn;rw[h9]at hl;exact⟨hp.1,hp.2,hn,ht,⟨hx.2.2.1.1,hl⟩,by omega,by omega,by omega,by omega,hA,h4⟩
theorem z6v{s:St}(hg:z0i s=true){v:Nat}(hv:v<6)(h:Int){f:Int}(hf:0<=f/\f<=1000):(z2U s.b (ptN (s.V v).tok f) (slN v h f s.W)).2=0/\(z2f s v h f).b.good=true/\(z2f s v h f).b.bo=s.b.bo - ptN (s.V v).tok f/\(z2f s v h f).b.wa=s.b.wa - slN v h f s.W/\(z2f s v h f).b.bu=s.b.bu+(ptN (s.V v).tok f+slN v h f s.W):=by
 have hs:=z4M hg hv h hf;exact j0q ((z0O s).1 hg).1 ⟨hs.2.1.1,by omega⟩ hs.2.2.1
theorem z6Q{s:St}(hg:z0i s=true){v:Nat}(hv:v<6)(h:Int){f:Int}(hf:0<=f/\f<=1000):z0i (z2f s v h f)=true:=by
 obtain⟨b0,b1,b2,b3,b4⟩:=z6v hg hv h hf;obtain⟨n1,n2,n3,n4,n5,n6,n7,n8,n9,n10,n11⟩:=z4M hg hv h hf;rw[z0O]at hg ⊢;obtain⟨h1,h2,h3,h4,h5,h6,h7,h8,h9⟩:=hg;have hB:=(z5J _).1 b1;refine⟨b1,h2,h3,?_,q1B hf h5,fun k hk=>?_,?_,?_,?_⟩
 ·show (slW v h f s.W).length<=60
  unfold slW;rw[List.length_map];exact h4
 ·obtain⟨i1,i2,i3⟩:=h6 k hk
  show vOk (z1P s.V v _ k)=true/\z3A s.S k 4=true/\psh s.S k 4=(z1P s.V v _ k).sh
  unfold z1P
  by_cases hkv:k=v
  ·subst hkv;rw[if_pos rfl];rw[z1U]at i1;refine⟨?_,i2,i3⟩;rw[z1U];refine⟨⟨?_,?_⟩,i1.2.1,⟨?_,?_⟩,?_,i1.2.2.2.2⟩ <;> simp only[z8r] <;> first | omega | (intro hp;exact i1.2.2.2.1 (by omega))
  ·rw[if_neg hkv];exact⟨i1,i2,i3⟩
 ·show z8G (z1P s.V v _) 6=_
  rw[z7s _ _ _ hv,h7,b2];simp only[z8r];omega
 ·show z2K (slW v h f s.W)=_
  rw[q7L,h8,b3]
 ·show z3K (z1P s.V v _) 6=_
  rw[z5I _ _ _ hv,h9,b4];simp only[z8r];omega
end
section
open Go.RowKit
def j8w:St:=⟨⟨100000,100000,100000,100000,0,0,0⟩,fun _=>⟨0,0,0,false,false⟩,fun _ _=>0,[],1⟩
theorem z8L{fn:Func}{p:Tmp}(h:fn.results=#[.cell p 43])(tmps:Array Value)(w:World)(g:Nat)(cs:Array Value)
  (hp:tmps.getD p undef=.pointer (some ⟨g,0,none⟩)) (hg:SAt w g cs) (hsz:cs.size=63) :
  (results fn tmps).run prog w=.ok (.agg cs) w:=
 results_cell_row h _ _ g 43 cs (0,0) _ hp hg underlying43 rfl (by rw[z0y,hsz])
theorem z4h(w:World):Calls prog 35 #[] w fun e w'=>e=.returned (.agg (stC j8w (.slice none 0 0)))/\Below w.heap.size w w':=by
 have R0:=SAt.new w Z63;have HB0:Hid (Below w.heap.size w (w.alloc (.cells Z63 43))):=znw w _;have hN:=j6o
 go_enter func35,ntmps35
 go_upto_region 1 with fail
 change Code.wp prog _ _ _ (w.alloc (.cells Z63 43));generalize w.alloc (.cells Z63 43)=w0 at *;apply wp_region_lit
 go_step
 go_step
 refine (hN _).mono ?_;rintro e w1⟨rfl,h1⟩;have R1:=R0.later h1 R0.lt;have HB1:=hide (zbt HB0.out h1);clear h1 R0 HB0 hN;dsimp only
 go_step
 go_step
 go_step
 go_step
 refine wpList_store_mid rfl 43 _ _ rfl _ 0 (stC j8w (.slice none 0 0)) rfl rfl (R1.there 0 _ (by rw[z0s,z0g];omega)) (by rw[z0y];rfl) (z0C _ _ _ _) ?_
 go_wp2;have R3:=R1.z0H (ds:=stC j8w (.slice none 0 0)) (by rw[z0g];rfl)
 exact bodyPost_ret (v:=.agg (stC j8w (.slice none 0 0))) (z8L results35 _ _ _ _ rfl R3 rfl) rfl ⟨rfl,z0b (Nat.le_refl _) _ _ _ HB1.out⟩
end
namespace Kc
open Go.RowKit Pv
def z5E(x:Pkt):Bool:=decide (x.k=1) && decide (Cd.z0m x.k x.i x.v x.n x.S x.D=0)
def z7U(x:Int×Int):Bool:=decide (1<=x.1) && decide (x.1<=1099511627776) && decide (0<=x.2)
def z8P(c:Cs):Bool:=(!(c.on && c.gone) && decide (0<=c.h) && decide (c.h<1099511627776) && isT c.t && isT c.id) && (z2N (-1) c.set && c.pd.all z5E && c.rp.all z7U && Ln.z0T c.out)
def z5p(c:Cs):Int:=if z8P c=true then (if c.on=true then 0 else 4) else 2
def z2M(set:List (Int×Int))(id now:Int):Cs:=⟨true,false,0,now,id,set,[],[],fun _=>false,⟨[],[],0,false⟩,0,0,0,0⟩
def z3d(c:Cs)(l:List Int):Cs×Int:=
 if z5p c=0 then
  if Cd.z6l l=0 then
   if (z2i l).k=1 then ({ c with pd:=c.pd ++ [z2i l] },0) else (c,3)
  else (c,Cd.z6l l)
 else (c,z5p c)
def z2u(c:Cs)(k i v n:Int)(now:Int):Cs×Int:=
 if Cd.z0m k i v n [] []=0 then ({ c with out:=Ln.z5i c.out (Cd.encS k i v n [] []) (now+40) },Ln.z5C c.out (now+40)) else (c,Cd.z0m k i v n [] [])
def z4w(v:Int):List (Int×Int)->Int
 | []=>0
 | x :: l=>if x.1=v then x.2 else z4w v l
def z3z(c:Cs)(v now:Int):Cs×Int:=
 if isT now=true then
  if z5p c=0 then
   if z4w v c.set=0 then (c,4)
   else if c.fl v.toNat=true then (c,5)
   else if (z2u c 3 c.id v (z4w v c.set) now).2=0 then ({ (z2u c 3 c.id v (z4w v c.set) now).1 with fl:=j5y c.fl v.toNat true },0)
   else (c,(z2u c 3 c.id v (z4w v c.set) now).2)
  else (c,z5p c)
 else (c,2)
def j8n(a:Int):Int:=if a<1 then 1 else a
def z1d(c:Cs)(v id now:Int):Cs×Int:=
 if isT now=true then
  if z5p c=0 then
   if isV v=true then
    if 1<=id/\id<=c.id then z2u c 4 id v (j8n (z4w v c.set)) now else (c,2)
   else (c,4)
  else (c,z5p c)
 else (c,2)
def z1o(c:Cs):Cs:=if c.on=true then { c with on:=false,gone:=true,out:={ c.out with cl:=true } } else c
def z3D(f:Nat->Bool)(l:List Int):Nat->Bool:=l.foldl (fun f v=>j5y f v.toNat false) f
def takeC(c:Cs)(x:Pkt):Cs:={ c with set:=Df.z1L c.set x.S,id:=x.i,fl:=z3D c.fl x.D,rp:=c.rp ++ [(x.i,c.t+15)] }
def z2l(c:Cs):List (Int×Int)->Cs
 | []=>{ c with rp:=[] }
 | x :: l=>if x.2<=c.t then (if (z2u c 2 x.1 0 0 c.t).2=0 then z2l (z2u c 2 x.1 0 0 c.t).1 l else { c with rp:=x :: l }) else { c with rp:=x :: l }
def z2v(c:Cs):Cs:=c.pd.foldl takeC c
def z4d(c:Cs):Cs:=z2l { z2v c with pd:=[] } (z2v c).rp
def z9J(c:Cs)(now:Int):Cs×Int:=
 if z5p c=0 then
  if isT now=true/\c.t<=now then (z4d { c with h:=c.h+1,t:=now },0) else (c,2)
 else (c,z5p c)
end Kc
end Go.Proofs.YtmopekkhmhhcaaaGreat
