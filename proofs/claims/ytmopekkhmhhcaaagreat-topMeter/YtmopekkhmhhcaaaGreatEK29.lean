/- Parts of the proof. -/
import Derived.Test.YtmopekkhmhhcaaaGreatEL
import Derived.Test.YtmopekkhmhhcaaaGreatEK5
set_option maxRecDepth 100000
set_option maxHeartbeats 16000000
namespace Go.Proofs.YtmopekkhmhhcaaaGreat
open Go.Proofs.Tryz
namespace Pv
open Go.RowKit
theorem z2i:∀ (q:List (Int×Pkt)) (z:List (Value×Value)),z.length=q.length->(quL q z).length=q.length * 7
 | [],[],_=>rfl
 | x :: q,y :: z,h=>by
  have:=z2i q z (by simpa using h)
  show (akL x y ++ quL q z).length=_
  rw[List.length_append,this,List.length_cons]
  show 7+_=_
  omega
 | [],_ :: _,h=>by simp at h
 | _ :: _,[],h=>by simp at h
theorem q2b:∀ (q:List (Int×Pkt)) (z:List (Value×Value)) (x:Int×Pkt) (y:Value×Value),z.length=q.length->quL (q ++ [x]) (z ++ [y])=quL q z ++ akL x y
 | [],[],x,y,_=>by simp[quL]
 | a :: q,b :: z,x,y,h=>by
  show akL a b ++ quL (q ++ [x]) (z ++ [y])=(akL a b ++ quL q z) ++ _
  rw[q2b q z x y (by simpa using h),List.append_assoc]
 | [],_ :: _,_,_,h=>by simp at h
 | _ :: _,[],_,_,h=>by simp at h
theorem z6e:∀ (q:List (Int×Pkt)) (z:List (Value×Value)) (i:Nat) (x:Int×Pkt) (y:Value×Value) (j:Nat),q[i]?=some x->z[i]?=some y->j<7->(quL q z)[i * 7+j]?=(akL x y)[j]?
 | a :: q,b :: z,0,x,y,j,h1,h2,hj=>by
  simp at h1 h2
  subst h1 h2
  show (akL a b ++ quL q z)[0 * 7+j]?=_
  rw[Nat.zero_mul,Nat.zero_add,List.getElem?_append_left (by exact hj)]
 | a :: q,b :: z,i+1,x,y,j,h1,h2,hj=>by
  show (akL a b ++ quL q z)[(i+1) * 7+j]?=_
  rw[List.getElem?_append_right (by show 7<=_;omega)]
  rw[show (i+1) * 7+j - (akL a b).length=i * 7+j by show (i+1) * 7+j - 7=_;omega]
  exact z6e q z i x y j (by simpa using h1) (by simpa using h2) hj
 | [],_,i,_,_,_,h1,_,_=>by simp at h1
 | _ :: _,[],i,_,_,_,_,h2,_=>by simp at h2
theorem q6d:(prog.info? 85).map (fun i=>(i.zero,i.size,i.bytes))=some (some (.agg #[.int .i64 0,.int .i64 0,.int .i64 0,.int .i64 0,.int .i64 0,.slice none 0 0,.slice none 0 0]),7,88):=by kernel_rfl
end Pv
section
open Go.RowKit
def z7O(v:Value):Sem Value:=Instr.loadAt 43 v
theorem z1C(v:Value):Instr.loadAt 43 v=z7O v:=rfl
theorem SAt.z7O{w:World}{b:Nat}{cs:Array Value}(h:SAt w b cs)(hs:cs.size=63):(z7O (.pointer (some ⟨b,0,none⟩))).run prog w=.ok (.agg cs) w:=h.load hs
end
section
open Go.RowKit
theorem z5c{s:St}{d v n:Int}{y:Wt}(h:z0S s d v≠0):z0O s d v n y=(s,z0S s d v):=if_neg h
section
variable {s:St} {d v n:Int} {y:Wt} (h:z0S s d v=0)
include h
theorem q1i(h1:¬ ((decide (0<n) && inA n)=true/\0<=y.hei/\0<=y.due)):z0O s d v n y=(s,2):=by rw[z0O,if_pos h,if_neg h1]
theorem q1w(h1:(decide (0<n) && inA n)=true/\0<=y.hei/\0<=y.due)(h2:¬ n<=s.S d.toNat v.toNat):z0O s d v n y=(s,7):=by rw[z0O,if_pos h,if_pos h1,if_neg h2]
theorem q1x(h1:(decide (0<n) && inA n)=true/\0<=y.hei/\0<=y.due)(h2:n<=s.S d.toNat v.toNat)(h3:¬ (s.W.length<60/\s.next<1125899906842624)):z0O s d v n y=(s,6):=by rw[z0O,if_pos h,if_pos h1,if_pos h2,if_neg h3]
theorem q1j(h1:(decide (0<n) && inA n)=true/\0<=y.hei/\0<=y.due)(h2:n<=s.S d.toNat v.toNat)(h3:s.W.length<60/\s.next<1125899906842624)(h4:woE (s.V v.toNat) n≠0):z0O s d v n y=(s,woE (s.V v.toNat) n):=by rw[z0O,if_pos h,if_pos h1,if_pos h2,if_pos h3,if_neg h4]
theorem q1I(h1:(decide (0<n) && inA n)=true/\0<=y.hei/\0<=y.due)(h2:n<=s.S d.toNat v.toNat)(h3:s.W.length<60/\s.next<1125899906842624)(h4:woE (s.V v.toNat) n=0)(h5:(z0U s.b (woN (s.V v.toNat) n)).2≠0):z0O s d v n y=(s,(z0U s.b (woN (s.V v.toNat) n)).2):=by rw[z0O,if_pos h,if_pos h1,if_pos h2,if_pos h3,if_pos h4,if_neg h5]
theorem q1l(h1:(decide (0<n) && inA n)=true/\0<=y.hei/\0<=y.due)(h2:n<=s.S d.toNat v.toNat)(h3:s.W.length<60/\s.next<1125899906842624)(h4:woE (s.V v.toNat) n=0)(h5:(z0U s.b (woN (s.V v.toNat) n)).2=0):z0O s d v n y=(j2Z s d.toNat v.toNat (woN (s.V v.toNat) n) n (z0U s.b (woN (s.V v.toNat) n)).1 { y with num:=s.next,d:=d,v:=v,amt:=woN (s.V v.toNat) n },0):=by rw[z0O,if_pos h,if_pos h1,if_pos h2,if_pos h3,if_pos h4,if_pos h5]
end
theorem q6u(s:St)(ao:Option Addr)(sb so c:Nat)(d v n:Int)(y:Wt)(w:World)(hc:s.W.length<=c)(hW:z2n w ao sb so s.W) :
  Calls prog 78 #[.agg (stC s (.slice ao s.W.length c)),.int .i64 d,.int .i64 v,.int .i64 n,.agg #[.int .i64 y.num,.int .i64 y.d,.int .i64 y.v,.int .i64 y.amt,.int .i64 y.hei,.int .i64 y.due,.int .i64 y.h0,.int .i64 y.h1]] w fun e w'=>z5w w.heap.size sb w (z0O s d v n y) e w':=by
 by_cases h:z0S s d v=0
 ·obtain ⟨hg,⟨v0,v1⟩,d0,d1⟩:=z9l h;obtain ⟨v,rfl⟩:=Int.eq_ofNat_of_zero_le v0;obtain ⟨d,rfl⟩:=Int.eq_ofNat_of_zero_le d0;exact q6E s ao sb so c d v n y w hc hW _ hg (by omega) (by omega) _ _ _ _ rfl rfl (q5D s.b _) (q1i h) (q1w h) (q1x h) (q1j h) (q1I h) (q1l h)
 ·exact j0v s ao sb so c d v n y w hc hW _ h (z5c h)
end
section
theorem j5a{b:Bk}{f t:Nat}{n:Int}(h:(mv b f t n).2≠0):(mv b f t n).1=b:=by
 unfold mv at *
 split
 ·rfl
 ·rename_i h1;rw[if_neg h1]at h
  split
  ·rfl
  ·rename_i h2;rw[if_neg h2]at h;exact absurd rfl h
theorem z9m{b:Bk}{f t:Nat}{n:Int}(hg:b.good=true)(h0:0<=n)(h1:n<=1125899906842624)(h2:n<=b.get f):mv b f t n=((b.put f (b.get f - n)).put t (b.get t+n),0):=by
 unfold mv;rw[if_neg (by rw[hg];simp[h0,h1]),if_neg (by omega)]
theorem q1r{b:Bk}{f t:Nat}{n:Int}(h:(mv b f t n).2=0):b.good=true/\0<=n/\n<=1125899906842624/\n<=b.get f/\mv b f t n=((b.put f (b.get f - n)).put t (b.get t+n),0):=by
 by_cases h1:b.good=false∨¬ (0<=n/\n<=1125899906842624)
 ·unfold mv at h;rw[if_pos h1]at h;exact absurd h (by simp)
 ·by_cases h2:b.get f<n
  ·unfold mv at h;rw[if_neg h1,if_pos h2]at h;exact absurd h (by simp)
  ·have hg:b.good=true:=by
    cases hb:b.good with
    | true=>rfl
    | false=>exact absurd (.inl hb) h1
   have hn:0<=n/\n<=1125899906842624:=Decidable.byContradiction fun hn=>h1 (.inr hn);exact ⟨hg,hn.1,hn.2,by omega,z9m hg hn.1 hn.2 (by omega)⟩
def Goes(f t:Nat):Prop:=(f<4/\t=4)∨(f=5/\t<4)∨(f=4/\t=5)∨(f=4/\t=6)∨(f=5/\t=6)
theorem z5g(b:Bk):b.good=true↔(0<=b.f0/\b.f0<=400000)/\(0<=b.f1/\b.f1<=400000)/\(0<=b.f2/\b.f2<=400000)/\(0<=b.f3/\b.f3<=400000)/\(0<=b.bo/\b.bo<=400000)/\(0<=b.wa/\b.wa<=400000)/\(0<=b.bu/\b.bu<=400000)/\b.f0+b.f1+b.f2+b.f3+b.bo+b.wa+b.bu=400000:=by
 unfold Bk.good z1s;exact decide_eq_true_iff
theorem z9q{b:Bk}{f t:Nat}{n:Int}(hft:Goes f t)(hg:b.good=true)(h0:0<=n)(h2:n<=b.get f) :
  ((b.put f (b.get f - n)).put t (b.get t+n)).good=true/\b.bu<=((b.put f (b.get f - n)).put t (b.get t+n)).bu:=by
 rw[z5g]at *
 rcases hft with ⟨hf,rfl⟩ | ⟨rfl,ht⟩ | ⟨rfl,rfl⟩ | ⟨rfl,rfl⟩ | ⟨rfl,rfl⟩
 ·rcases (show f=0∨f=1∨f=2∨f=3 by omega) with rfl | rfl | rfl | rfl <;> simp only[Bk.get,Bk.put]at * <;> omega
 ·rcases (show t=0∨t=1∨t=2∨t=3 by omega) with rfl | rfl | rfl | rfl <;> simp only[Bk.get,Bk.put]at * <;> omega
 all_goals simp only[Bk.get,Bk.put]at * <;> omega
structure Kept(b:Bk)(r:Bk×Int):Prop where
 no:r.2≠0->r.1=b
 yes:r.2=0->b.good=true/\r.1.good=true/\b.bu<=r.1.bu
theorem q8X(b:Bk){f t:Nat}(n:Int)(hft:Goes f t):Kept b (mv b f t n):=by
 refine ⟨j5a,fun h=>?_⟩;obtain ⟨h1,h2,h3,h4,h5⟩:=q1r h;rw[h5];exact ⟨h1,z9q hft h1 h2 h4⟩
theorem q8p(b:Bk)(d n:Int):Kept b (z2s b d n):=by
 unfold z2s
 split
 ·exact q8X b n (.inl ⟨by omega,rfl⟩)
 ·exact ⟨fun _=>rfl,fun h=>absurd h (by simp)⟩
theorem j0L(b:Bk)(d n:Int):Kept b (z7W b d n):=by
 unfold z7W
 split
 ·exact q8X b n (.inr (.inl ⟨rfl,by omega⟩))
 ·exact ⟨fun _=>rfl,fun h=>absurd h (by simp)⟩
end
section
theorem z0K(s:St):z0h s=true↔s.b.good=true/\1<=s.next/\s.next<=1125899906842624/\s.W.length<=60/\wOk s.next 0 s.W=true/\(∀ k,k<6->vOk (s.V k)=true/\z3f s.S k 4=true/\psh s.S k 4=(s.V k).sh)/\z7I s.V 6=s.b.bo/\z2u s.W=s.b.wa/\z3p s.V 6=s.b.bu:=by
 have hp:pvs s 6=true↔∀ k,k<6->vOk (s.V k)=true/\z3f s.S k 4=true/\psh s.S k 4=(s.V k).sh:=by
  constructor
  ·intro h k hk;have:=q2S h hk;simp only[j3d,q4s,Bool.and_eq_true,decide_eq_true_eq]at this;exact ⟨this.1,this.2.1,this.2.2⟩
  ·intro h;simp only[pvs,j3d,q4s,Bool.and_eq_true,decide_eq_true_eq,true_and];exact ⟨⟨⟨⟨⟨h 0 (by omega),h 1 (by omega)⟩,h 2 (by omega)⟩,h 3 (by omega)⟩,h 4 (by omega)⟩,h 5 (by omega)⟩
 unfold z0h bal;simp only[Bool.and_eq_true,decide_eq_true_eq,hp]
 constructor
 ·rintro ⟨⟨⟨⟨⟨⟨h1,h2⟩,h3⟩,h4⟩,h5⟩,h6⟩,⟨h7,h8⟩,h9⟩;exact ⟨h1,h2,h3,h4,h5,h6,h7,h8,h9⟩
 ·rintro ⟨h1,h2,h3,h4,h5,h6,h7,h8,h9⟩;exact ⟨⟨⟨⟨⟨⟨h1,h2⟩,h3⟩,h4⟩,h5⟩,h6⟩,⟨h7,h8⟩,h9⟩
theorem z1L(x:Vd):vOk x=true↔(0<=x.tok/\x.tok<=1125899906842624)/\(0<=x.sh/\x.sh<=1125899906842624)/\(0<=x.lost/\x.lost<=1125899906842624)/\(0<x.tok->x.sh≠0)/\(x.dead=true->x.jail=true):=by
 unfold vOk;simp only[Bool.and_eq_true,z0z,Bool.not_eq_true',Bool.and_eq_false_iff,decide_eq_false_iff_not,Bool.or_eq_true]
 constructor
 ·rintro ⟨⟨⟨⟨h1,h2⟩,h3⟩,h4⟩,h5⟩;refine ⟨h1,h2,h3,fun h=>h4.resolve_left (fun h'=>h' h),fun h=>?_⟩
  rcases h5 with h5 | h5
  ·exact h5
  ·rw[h]at h5;cases h5
 ·rintro ⟨h1,h2,h3,h4,h5⟩;refine ⟨⟨⟨⟨h1,h2⟩,h3⟩,?_⟩,?_⟩
  ·by_cases h:0<x.tok
   ·exact .inr (h4 h)
   ·exact .inl h
  ·cases hd:x.dead
   ·exact .inr rfl
   ·exact .inl (h5 hd)
theorem six{v:Nat}(h:v<6):v=0∨v=1∨v=2∨v=3∨v=4∨v=5:=by omega
theorem four{v:Nat}(h:v<4):v=0∨v=1∨v=2∨v=3:=by omega
theorem z6E(V:Nat->Vd)(v:Nat)(x:Vd)(hv:v<6):z7I (z1E V v x) 6=z7I V 6+x.tok - (V v).tok:=by
 rcases six hv with rfl | rfl | rfl | rfl | rfl | rfl <;> simp[z7I,z1E] <;> omega
theorem z5x(V:Nat->Vd)(v:Nat)(x:Vd)(hv:v<6):z3p (z1E V v x) 6=z3p V 6+x.lost - (V v).lost:=by
 rcases six hv with rfl | rfl | rfl | rfl | rfl | rfl <;> simp[z3p,z1E] <;> omega
theorem q6T(S:Nat->Nat->Int)(d v:Nat)(y:Int)(hd:d<4):psh (z5N S d v y) v 4=psh S v 4+y - S d v:=by
 rcases four hd with rfl | rfl | rfl | rfl <;> simp[psh,z5N] <;> omega
theorem q0W(S:Nat->Nat->Int)(d v k:Nat)(y:Int)(hk:k≠v):psh (z5N S d v y) k 4=psh S k 4:=by
 simp[psh,z5N,hk]
theorem z9K(S:Nat->Nat->Int)(d v k:Nat)(y:Int)(h:z3f S k 4=true)(hy:inA y=true):z3f (z5N S d v y) k 4=true:=by
 simp only[z3f,Bool.and_eq_true,true_and]at *;obtain ⟨⟨⟨h0,h1⟩,h2⟩,h3⟩:=h;refine ⟨⟨⟨?_,?_⟩,?_⟩,?_⟩ <;> unfold z5N <;> split <;> assumption
theorem q9n{V:Nat->Vd}(h:∀ k,k<6->0<=(V k).tok){v:Nat}(hv:v<6):(V v).tok<=z7I V 6:=by
 have h0:=h 0 (by omega);have h1:=h 1 (by omega);have h2:=h 2 (by omega);have h3:=h 3 (by omega);have h4:=h 4 (by omega);have h5:=h 5 (by omega)
 simp only[z7I]
 rcases six hv with rfl | rfl | rfl | rfl | rfl | rfl <;> omega
theorem j2k{S:Nat->Nat->Int}{k:Nat}(h:z3f S k 4=true){d:Nat}(hd:d<4):S d k<=psh S k 4:=by
 have h0:=z0z.1 (z6j h (d:=0) (by omega));have h1:=z0z.1 (z6j h (d:=1) (by omega));have h2:=z0z.1 (z6j h (d:=2) (by omega));have h3:=z0z.1 (z6j h (d:=3) (by omega))
 simp only[psh]
 rcases four hd with rfl | rfl | rfl | rfl <;> omega
theorem q6x{b:Bk}{d:Nat}{n:Int}(hd:d<4)(h:(z2s b d n).2=0):(z2s b d n).1.good=true/\(z2s b d n).1.bo=b.bo+n/\(z2s b d n).1.wa=b.wa/\(z2s b d n).1.bu=b.bu:=by
 refine ⟨((q8p b d n).yes h).2.1,?_⟩;unfold z2s at *;rw[if_pos (by omega)]at *
 obtain ⟨-,-,-,-,h5⟩:=q1r h;rw[h5]
 rcases four hd with rfl | rfl | rfl | rfl <;> simp[Bk.put,Bk.get]
theorem j0X{s:St}{B:Bk}{d v:Nat}{t n:Int}(hg:z0h s=true)(hd:d<4)(hv:v<6)(hB:B.good=true)(hbo:B.bo=s.b.bo+t)(hwa:B.wa=s.b.wa)(hbu:B.bu=s.b.bu)
  (ht:0<=(s.V v).tok+t) (hn0:0<=s.S d v+n) (hn:(s.V v).sh+n<=1125899906842624) (hpos:0<(s.V v).tok+t->(s.V v).sh+n≠0):z0h (q2N { s with b:=B } d v t n)=true:=by
 rw[z0K]at *;obtain ⟨h1,h2,h3,h4,h5,h6,h7,h8,h9⟩:=hg;obtain ⟨hvv,hps,hpe⟩:=h6 v hv;rw[z1L]at hvv;have hB':=(z5g B).1 hB;have hpt:z7I (z1E s.V v { s.V v with tok:=(s.V v).tok+t,sh:=(s.V v).sh+n }) 6=B.bo:=by rw[z6E _ _ _ hv,h7,hbo];show s.b.bo+((s.V v).tok+t) - (s.V v).tok=_;omega
 have htk:∀ k,k<6->0<=(z1E s.V v { s.V v with tok:=(s.V v).tok+t,sh:=(s.V v).sh+n } k).tok:=fun k hk=>by
  unfold z1E
  split
  ·exact ht
  ·exact ((z1L _).1 (h6 k hk).1).1.1
 have hge:=q9n htk hv;rw[hpt]at hge;simp only[z1E,if_true]at hge;have hsd:=j2k hps hd;rw[hpe]at hsd;refine ⟨hB,h2,h3,h4,h5,fun k hk=>?_,hpt,h8.trans hwa.symm,?_⟩
 ·show vOk (z1E s.V v _ k)=true/\z3f (z5N s.S d v _) k 4=true/\psh (z5N s.S d v _) k 4=(z1E s.V v _ k).sh
  refine ⟨?_,z9K _ _ _ _ _ (h6 k hk).2.1 (z0z.2 ⟨hn0,by show s.S d v+n<=_;omega⟩),?_⟩
  ·unfold z1E
   split
   ·rw[z1L];exact ⟨⟨ht,by show (s.V v).tok+t<=_;omega⟩,⟨by show 0<=(s.V v).sh+n;omega,hn⟩,hvv.2.2.1,hpos,hvv.2.2.2.2⟩
   ·exact (h6 k hk).1
  ·by_cases hkv:k=v
   ·subst hkv;rw[q6T _ _ _ _ hd,hpe];simp only[z1E,if_true];omega
   ·rw[q0W _ _ _ _ _ hkv,(h6 k hk).2.2];simp only[z1E,if_neg hkv]
 ·show z3p (z1E s.V v _) 6=B.bu
  rw[z5x _ _ _ hv,h9,hbu];simp only;omega
theorem q4O{s:St}{d v n:Int}(h:(z0N s d v n).2=0):∃ i j:Nat,d=i/\v=j/\i<4/\j<6/\z0h s=true/\(s.V j).dead=false/\0<n/\n<=1125899906842624/\shE (s.V j) n=0/\(z2s s.b i n).2=0/\z0N s d v n=(q2N { s with b:=(z2s s.b i n).1 } i j n (shN (s.V j) n),0):=by
 have hr:z0S s d v=0:=Decidable.byContradiction fun hr=>by rw[z9R hr]at h;exact hr h
 obtain ⟨hg,⟨v0,v1⟩,d0,d1⟩:=z9l hr;obtain ⟨j,rfl⟩:=Int.eq_ofNat_of_zero_le v0;obtain ⟨i,rfl⟩:=Int.eq_ofNat_of_zero_le d0;refine ⟨i,j,rfl,rfl,by omega,by omega,hg,?_⟩
 have h1:(s.V j).dead=false:=by
  cases hd:(s.V j).dead with
  | false=>rfl
  | true=>rw[z8o hr hd]at h;cases h
 have h2:(decide (0<n) && inA n)=true:=by
  cases hd:(decide (0<n) && inA n) with
  | true=>rfl
  | false=>rw[z7r hr h1 hd]at h;cases h
 have h3:shE (s.V j) n=0:=Decidable.byContradiction fun h3=>by rw[q0k hr h1 h2 h3]at h;exact h3 h
 have h4:(z2s s.b i n).2=0:=Decidable.byContradiction fun h4=>by rw[z8N hr h1 h2 h3 h4]at h;exact h4 h
 have h2':=h2;simp only[Bool.and_eq_true,decide_eq_true_eq,z0z]at h2';exact ⟨h1,h2'.1,h2'.2.2,h3,h4,q3g hr h1 h2 h3 h4⟩
theorem j4v{x:Vd}{n:Int}(hx:vOk x=true)(hn:0<n)(hn1:n<=1125899906842624)(h:shE x n=0):0<shN x n/\x.sh+shN x n<=1125899906842624/\shN x n * x.tok<=n * x.sh:=by
 rw[z1L]at hx;obtain ⟨⟨t0,t1⟩,⟨s0,s1⟩,-,hp,-⟩:=hx;unfold shE at h;unfold shN
 by_cases hs:x.sh=0
 ·have ht:x.tok=0:=by
   rcases Int.lt_or_le 0 x.tok with h1 | h1
   ·exact absurd hs (hp h1)
   ·omega
  rw[if_pos hs,hs,ht];refine ⟨hn,by omega,?_⟩
  simp
 ·rw[if_neg hs]at h ⊢
  by_cases ht:x.tok=0
  ·rw[if_pos ht]at h;cases h
  ·rw[if_neg ht]at h ⊢
   by_cases hm:mdE n x.sh x.tok=0/\inA (x.sh+mdN n x.sh x.tok)=true
   ·rw[if_pos hm]at h ⊢;have hm2:=z0z.1 hm.2;have hb:=z4e n x.sh x.tok;refine ⟨?_,hm2.2,?_⟩
    ·by_cases h0:mdN n x.sh x.tok=0
     ·rw[if_pos h0]at h;cases h
     ·omega
    ·unfold mdN
     split
     ·rw[Int.zero_mul];exact Int.mul_nonneg (by omega) s0
     ·split
      ·exact Int.ediv_mul_le _ ht
      ·rw[Int.zero_mul];exact Int.mul_nonneg (by omega) s0
   ·rw[if_neg hm]at h;cases h
theorem j8l{x:Vd}{g k:Int}(hx:vOk x=true)(hg:0<g)(hs:g<=x.sh)(hk:g * x.tok<=k * x.sh):mdE g x.tok x.sh=0/\mdN g x.tok x.sh<=x.tok/\mdN g x.tok x.sh<=k:=by
 rw[z1L]at hx;obtain ⟨⟨t0,t1⟩,⟨s0,s1⟩,-,-,-⟩:=hx
 have q1:g * x.tok / x.sh<=x.tok:=by
  apply Int.ediv_le_of_le_mul (by omega)
  rw[Int.mul_comm x.tok];exact Int.mul_le_mul_of_nonneg_right hs t0
 have q2:g * x.tok / x.sh<=k:=Int.ediv_le_of_le_mul (by omega) hk
 have c1:¬ (g<0∨x.tok<0∨x.sh<1):=by omega
 have c2:g * x.tok / x.sh<=1125899906842624:=by omega
 unfold mdE mdN;simp only[if_neg c1,if_pos c2];exact ⟨trivial,q1,q2⟩
end
section
def z6x(t:Int)(x:Wt):Bool:=decide (x.due<=t) && decide (x.h0=0/\x.h1=0)
def z1q(t:Int)(W:List Wt):List Wt:=W.filter fun x=>!z6x t x
def z6y(t:Int)(W:List Wt):List Wt:=W.filter (z6x t)
def z1X(t:Int)(W:List Wt):List Int:=(z6y t W).map (·.num)
def z4F(t:Int)(b:Bk)(W:List Wt):Bk:=W.foldl (fun b x=>if z6x t x=true then (z7W b x.d x.amt).1 else b) b
def z5G(s:St)(t:Int):St:={ s with b:=z4F t s.b s.W,W:=z1q t s.W }
theorem z1i{W:List Wt}{k:Nat}{x:Wt}(h:W[k]?=some x):W.take (k+1)=W.take k ++ [x]:=by
 rw[List.take_add_one,h];rfl
theorem z3d:∀ A B:List Wt,z2u (A ++ B)=z2u A+z2u B
 | [],B=>by simp[z2u]
 | x :: A,B=>by simp only[List.cons_append,z2u,z3d A B];omega
theorem z4K{next:Int}:∀ {W:List Wt} {last:Int},wOk next last W=true->∀ x∈W,last<x.num/\x.num<next/\(0<=x.d/\x.d<4)/\(0<=x.v/\x.v<6)/\(0<=x.amt/\x.amt<=1125899906842624)/\0<=x.hei/\0<=x.due
 | [],_,_,x,hx=>by cases hx
 | y :: W,last,h,x,hx=>by
  simp only[wOk,q0p,Bool.and_eq_true,decide_eq_true_eq,z4I,z2N,z0z]at h;obtain ⟨⟨⟨⟨⟨⟨⟨h1,h2⟩,h3⟩,h4⟩,h5⟩,h6⟩,h7⟩,h8⟩:=h
  rcases List.mem_cons.1 hx with rfl | hx
  ·exact ⟨h1,h2,h3,h4,h5,h6,h7⟩
  ·have:=z4K h8 x hx;exact ⟨by omega,this.2⟩
theorem q6P{next:Int}:∀ {W:List Wt} {last last':Int},wOk next last W=true->last'<last->wOk next last' W=true
 | [],_,_,_,_=>rfl
 | y :: W,last,last',h,hl=>by
  simp only[wOk,q0p,Bool.and_eq_true,decide_eq_true_eq]at h ⊢;obtain ⟨⟨⟨⟨⟨⟨⟨h1,h2⟩,h3⟩,h4⟩,h5⟩,h6⟩,h7⟩,h8⟩:=h;exact ⟨⟨⟨⟨⟨⟨⟨by omega,h2⟩,h3⟩,h4⟩,h5⟩,h6⟩,h7⟩,h8⟩
theorem z8s{next:Int}(p:Wt->Bool):∀ {W:List Wt} {last:Int},wOk next last W=true->wOk next last (W.filter p)=true
 | [],_,_=>rfl
 | y :: W,last,h=>by
  have hy:=z4K h y (List.mem_cons_self ..);simp only[wOk,Bool.and_eq_true]at h;have ih:=z8s p h.2;rw[List.filter_cons]
  split
  ·simp only[wOk,Bool.and_eq_true];exact ⟨h.1,ih⟩
  ·exact q6P ih (by omega)
theorem z3S:∀ {W:List Wt},(∀ x∈W,0<=x.amt)->0<=z2u W
 | [],_=>Int.le_refl _
 | x :: W,h=>by
  have:=h x (List.mem_cons_self ..);have:=z3S (W:=W) fun y hy=>h y (List.mem_cons_of_mem _ hy);simp only[z2u];omega
theorem z6f(p:Wt->Bool):∀ W:List Wt,z2u (W.filter p)+z2u (W.filter fun x=>!p x)=z2u W
 | []=>rfl
 | x :: W=>by
  have:=z6f p W;rw[List.filter_cons,List.filter_cons];cases p x <;> simp[z2u] <;> omega
theorem z5t(t:Int)(W:List Wt)(x:Wt):z1q t (W ++ [x])=if z6x t x=true then z1q t W else z1q t W ++ [x]:=by
 unfold z1q;rw[List.filter_append];cases h:z6x t x <;> simp[h]
theorem z4i(t:Int)(W:List Wt)(x:Wt):z6y t (W ++ [x])=if z6x t x=true then z6y t W ++ [x] else z6y t W:=by
 unfold z6y;rw[List.filter_append];cases h:z6x t x <;> simp[h]
theorem z7D(t:Int)(b:Bk)(W:List Wt)(x:Wt):z4F t b (W ++ [x])=if z6x t x=true then (z7W (z4F t b W) x.d x.amt).1 else z4F t b W:=by
 unfold z4F;rw[List.foldl_append];rfl
theorem q2D{b:Bk}{d n:Int}(hd:0<=d/\d<4)(hg:b.good=true)(h0:0<=n)(h1:n<=1125899906842624)(h2:n<=b.wa):(z7W b d n).2=0/\(z7W b d n).1.good=true/\(z7W b d n).1.bo=b.bo/\(z7W b d n).1.wa=b.wa - n/\(z7W b d n).1.bu=b.bu:=by
 have h:=z9m (f:=5) (t:=d.toNat) hg h0 h1 h2;have hk:=(j0L b d n).yes;unfold z7W at *;rw[if_pos hd]at *;rw[h]at hk ⊢;refine ⟨rfl,(hk rfl).2.1,?_⟩;have h4:d.toNat<4:=by omega
 generalize d.toNat=i at *
 rcases four h4 with rfl | rfl | rfl | rfl <;> simp[Bk.put,Bk.get]
theorem j2n{s:St}(hg:z0h s=true)(t:Int){k:Nat}{x:Wt}(hx:s.W[k]?=some x):x.amt<=s.b.wa - z2u (z6y t (s.W.take k)):=by
 obtain ⟨h1,h2,h3,h4,h5,h6,h7,h8,h9⟩:=(z0K s).1 hg;have hmem:=z4K h5;obtain ⟨hk,he⟩:=List.getElem?_eq_some_iff.1 hx;have e1:s.W=s.W.take k ++ (x :: s.W.drop (k+1)):=by rw[← he,← List.drop_eq_getElem_cons hk,List.take_append_drop]
 have e2:z2u s.W=z2u (s.W.take k)+(x.amt+z2u (s.W.drop (k+1))):=by
  conv=>lhs;rw[e1]
  rw[z3d];rfl
 have e3:=z6f (z6x t) (s.W.take k);have n1:=z3S (W:=(s.W.take k).filter fun x=>!z6x t x) fun y hy=>(hmem y (List.mem_of_mem_take (List.mem_filter.1 hy).1)).2.2.2.2.1.1;have n2:=z3S (W:=s.W.drop (k+1)) fun y hy=>(hmem y (List.mem_of_mem_drop hy)).2.2.2.2.1.1;unfold z6y;omega
theorem q5S{s:St}(hg:z0h s=true)(t:Int):∀ k,k<=s.W.length->(z4F t s.b (s.W.take k)).good=true/\(z4F t s.b (s.W.take k)).bo=s.b.bo/\(z4F t s.b (s.W.take k)).bu=s.b.bu/\(z4F t s.b (s.W.take k)).wa=s.b.wa - z2u (z6y t (s.W.take k)):=by
 obtain ⟨h1,h2,h3,h4,h5,h6,h7,h8,h9⟩:=(z0K s).1 hg;intro k
 induction k with
 | zero=>intro _;refine ⟨h1,rfl,rfl,?_⟩;simp[z6y,z4F,z2u]
 | succ k ih =>
  intro hk;obtain ⟨i1,i2,i3,i4⟩:=ih (by omega)
  have hx:s.W[k]?=some (s.W[k]'(by omega)):=List.getElem?_eq_getElem _
  have hm:=z4K h5 _ (List.getElem_mem (show k<s.W.length by omega))
  rw[z1i hx,z7D,z4i];have hle:=j2n hg t hx;generalize s.W[k]'(by omega)=x at *
  split
  ·obtain ⟨j1,j2,j3,j4,j5⟩:=q2D hm.2.2.1 i1 hm.2.2.2.2.1.1 hm.2.2.2.2.1.2 (by rw[i4];omega)
   refine ⟨j2,by rw[j3,i2],by rw[j5,i3],?_⟩
   rw[j4,i4,z3d];simp only[z2u];omega
  ·exact ⟨i1,i2,i3,i4⟩
theorem j1f{s:St}(hg:z0h s=true)(t:Int){k:Nat}{x:Wt}(hx:s.W[k]?=some x)(hd:z6x t x=true):z7W (z4F t s.b (s.W.take k)) x.d x.amt=(z4F t s.b (s.W.take (k+1)),0):=by
 obtain ⟨hk,he⟩:=List.getElem?_eq_some_iff.1 hx;obtain ⟨i1,i2,i3,i4⟩:=q5S hg t k (by omega)
 have hm:=z4K ((z0K s).1 hg).2.2.2.2.1 x (he ▸ List.getElem_mem hk);have hle:=j2n hg t hx;obtain ⟨j1,-⟩:=q2D hm.2.2.1 i1 hm.2.2.2.2.1.1 hm.2.2.2.2.1.2 (by rw[i4];exact hle)
 rw[z1i hx,z7D,if_pos hd,← j1]
theorem q6U{s:St}(hg:z0h s=true)(t:Int):(z5G s t).b.good=true/\(z5G s t).b.bo=s.b.bo/\(z5G s t).b.bu=s.b.bu/\(z5G s t).b.wa=s.b.wa - z2u (z6y t s.W):=by
 have:=q5S hg t s.W.length (Nat.le_refl _)
 rwa [List.take_length]at this
theorem q2q{s:St}(hg:z0h s=true)(t:Int):z0h (z5G s t)=true:=by
 obtain ⟨a1,a2,a3,a4⟩:=q6U hg t;rw[z0K]at hg ⊢;obtain ⟨h1,h2,h3,h4,h5,h6,h7,h8,h9⟩:=hg;refine ⟨a1,h2,h3,?_,z8s _ h5,h6,h7.trans a2.symm,?_,h9.trans a3.symm⟩
 ·exact Nat.le_trans (List.length_filter_le _ _) h4
 ·rw[a4,← h8,← z6f (z6x t) s.W]
  show z2u (z1q t s.W)=_
  unfold z6y z1q;omega
end
section
def ptN(n f:Int):Int:=Ra.ptN n f
def ptE(n f:Int):Int:=Ra.ptE n f
theorem j1D{n f:Int}(hn:0<=n/\n<=1125899906842624)(hf:0<=f/\f<=1000):ptE n f=0/\0<=ptN n f/\ptN n f<=n:=by
 obtain ⟨h1,h2⟩:=Ra.q6D (n:=n) (f:=f) ⟨Ra.q7G.2 hn,hf⟩;refine ⟨h2,?_,?_⟩
 ·show 0<=Ra.ptN n f
  rw[h1];exact Int.ediv_nonneg (Int.mul_nonneg hn.1 hf.1) (by omega)
 ·show Ra.ptN n f<=n
  rw[h1];exact Int.ediv_le_of_le_mul (by omega) (Int.mul_le_mul_of_nonneg_left hf.2 hn.1)
def j2U(v h:Int)(x:Wt):Bool:=decide (x.v=v) && decide (h<=x.hei)
def slX(v h f:Int)(x:Wt):Wt:=if j2U v h x=true then { x with amt:=x.amt - ptN x.amt f } else x
def slW(v h f:Int)(W:List Wt):List Wt:=W.map (slX v h f)
def slP(v h f:Int)(x:Wt):Int:=if j2U v h x=true then ptN x.amt f else 0
def slN(v h f:Int):List Wt->Int
 | []=>0
 | x :: W=>slP v h f x+slN v h f W
theorem z8r(v h f:Int):∀ A B:List Wt,slN v h f (A ++ B)=slN v h f A+slN v h f B
 | [],B=>by simp[slN]
 | x :: A,B=>by simp only[List.cons_append,slN,z8r v h f A B];omega
theorem j2u{v h f:Int}{x:Wt}(hx:0<=x.amt/\x.amt<=1125899906842624)(hf:0<=f/\f<=1000):0<=slP v h f x/\slP v h f x<=x.amt:=by
 have:=j1D hx hf;unfold slP
 split <;> omega
theorem q2I{v h f:Int}(hf:0<=f/\f<=1000):∀ {W:List Wt},(∀ x∈W,0<=x.amt/\x.amt<=1125899906842624)->0<=slN v h f W/\slN v h f W<=z2u W
 | [],_=>⟨Int.le_refl _,Int.le_refl _⟩
 | x :: W,h1=>by
  have:=j2u (v:=v) (h:=h) (h1 x (List.mem_cons_self ..)) hf;have:=q2I (v:=v) (h:=h) hf (W:=W) fun y hy=>h1 y (List.mem_cons_of_mem _ hy);simp only[slN,z2u];omega
theorem q7s(v h f:Int):∀ W:List Wt,z2u (slW v h f W)=z2u W - slN v h f W
 | []=>rfl
 | x :: W=>by
  have:=q7s v h f W;simp only[slW,List.map_cons,z2u,slN]at *
  have e:(slX v h f x).amt=x.amt - slP v h f x:=by
   unfold slX slP
   split
   ·rfl
   ·omega
  omega
theorem j4t(v h f:Int){W:List Wt}{k:Nat}{x:Wt}(hx:W[k]?=some x):slW v h f (W.take (k+1)) ++ W.drop (k+1)=(slW v h f (W.take k) ++ W.drop k).set k (slX v h f x)/\(slW v h f (W.take k) ++ W.drop k)[k]?=some x/\slN v h f (W.take (k+1))=slN v h f (W.take k)+slP v h f x:=by
 obtain ⟨hk,he⟩:=List.getElem?_eq_some_iff.1 hx;have hl:(slW v h f (W.take k)).length=k:=by unfold slW;rw[List.length_map,List.length_take];omega
 have hd:W.drop k=x :: W.drop (k+1):=by rw[← he];exact List.drop_eq_getElem_cons hk
 refine ⟨?_,?_,?_⟩
 ·rw[z1i hx,hd];unfold slW at *;rw[List.map_append,List.set_append_right _ _ (by omega),hl,Nat.sub_self,List.append_assoc]
  rfl
 ·rw[List.getElem?_append_right (by omega),hl,Nat.sub_self,hd]
  rfl
 ·rw[z1i hx,z8r]
  simp[slN]
theorem j5x{v h f:Int}{x:Wt}(hx:j2U v h x=false):slX v h f x=x/\slP v h f x=0:=by
 unfold slX slP;rw[if_neg (by simp[hx]),if_neg (by simp[hx])]
 exact ⟨rfl,rfl⟩
theorem j6l{v h f:Int}{x:Wt}(hx:j2U v h x=true):slX v h f x={ x with amt:=x.amt - ptN x.amt f }/\slP v h f x=ptN x.amt f:=by
 unfold slX slP;rw[if_pos hx,if_pos hx];exact ⟨rfl,rfl⟩
theorem z5f{W:List Wt}{k:Nat}{x:Wt}(h:W[k]?=some x):W.set k x=W:=by
 obtain ⟨hk,rfl⟩:=List.getElem?_eq_some_iff.1 h;exact List.set_getElem_self hk
end
section
open Go.RowKit
def z5r(s:St)(v:Nat)(j d:Bool):St:={ s with V:=z1E s.V v { s.V v with jail:=j,dead:=d } }
theorem j5E(s:St)(sl:Value)(v:Nat)(hv:v<6)(x:Bool):(stC s sl).setIfInBounds (7+v * 5+3) (.bool x)=stC (z5r s v x (s.V v).dead) sl:=j2a s sl v hv x
theorem j8h(s:St)(sl:Value)(v:Nat)(hv:v<6)(j d x:Bool):(stC (z5r s v j d) sl).setIfInBounds (7+v * 5+4) (.bool x)=stC (z5r s v j x) sl:=by
 rw[j1Z _ sl v hv x];unfold z5r;simp only[q0n,z5Z]
def z9r(s:St)(v:Int):St×Int:=
 if z5J s v=0 then if (s.V v.toNat).jail=true then (s,14) else (z5r s v.toNat true (s.V v.toNat).dead,0) else (s,z5J s v)
def z1l(s:St)(v:Int):St×Int:=
 if z5J s v=0 then if (s.V v.toNat).dead=true then (s,15) else if (s.V v.toNat).jail=true then (z5r s v.toNat false false,0) else (s,4) else (s,z5J s v)
def z7X(s:St)(v:Int):St×Int:=
 if z5J s v=0 then if (s.V v.toNat).dead=true then (s,15) else (z5r s v.toNat true true,0) else (s,z5J s v)
theorem z4n{s:St}{v:Int}(h:z5J s v=0):z0h s=true/\(0<=v/\v<6):=by
 unfold z5J at h
 repeat' split at h
 all_goals first | (simp_all [z2N];done) | omega
theorem z3y{s:St}{v:Nat}(hg:z0h s=true)(hv:v<6):z5J s v=0:=by
 unfold z5J;rw[hg,z2N.2 (show (0:Int)<=v/\(v:Int)<6 by omega)]
 rfl
theorem j1a(s:St)(ao:Option Addr)(sb so c:Nat)(v:Int)(w:World)(hW:z2n w ao sb so s.W)(r:St×Int)(h0:z5J s v≠0)(hr:r=(s,z5J s v)) :
  Calls prog 177 #[.agg (stC s (.slice ao s.W.length c)),.int .i64 v] w fun e w'=>e=.returned (.tuple #[.agg (stC r.1 (.slice ao s.W.length c)),.int .i64 r.2])/\Below w.heap.size w w':=by
 have SS:=(SAt.new w (stC s (.slice ao s.W.length c))).alloc (.cells Z63 43);have RR:=SAt.new2 w (.cells (stC s (.slice ao s.W.length c)) 43) Z63;have HB:Hid (Below w.heap.size w ((w.alloc (.cells (stC s (.slice ao s.W.length c)) 43)).alloc (.cells Z63 43))):=(znw w _).alloc (by simp) _
 have HW:=hide hW;have HR:=hide hr;clear hW hr
 go_enter func177,ntmps177
 go_upto_region 1 with fail
 change Code.wp prog _ _ _ ((w.alloc (.cells (stC s (.slice ao s.W.length c)) 43)).alloc (.cells Z63 43));generalize (w.alloc (.cells (stC s (.slice ao s.W.length c)) 43)).alloc (.cells Z63 43)=w0 at *
 go_upto_region 2 with (go_at_call 79;refine (z1F s ao sb so c w.heap.size v _ SS (by exact HW.out.over HB.out)).mono ?_;rintro e w1 ⟨rfl,h1⟩)
 have HB1:=hide (zbt HB.out h1);have S1:=SS.later h1 SS.lt;have R1:=RR.later h1 RR.lt;clear SS RR h1 HB
 go_upto_region 3 with fail
 apply wp_region_lit;refine wpList_load_mid rfl 43 _ rfl _ 0 rfl _ _ S1.range underlying43 rfl (by rw[z0t];rfl) ?_
 refine z1K rfl _ rfl ?_;refine wpList_store_mid rfl 43 _ _ rfl _ 0 (stC s (.slice ao s.W.length c)) rfl rfl (R1.there 0 _ (by rw[z0o,z0f];omega)) (by rw[z0t];rfl) (z0x _ _ _ _) ?_
 go_wp2;exact z0H results177 R1 rfl HB1.out (by omega) s _ _ r HR.out _ rfl rfl rfl
theorem q7Z(s:St)(ao:Option Addr)(sb so c v:Nat)(w:World)(hW:z2n w ao sb so s.W)(r:St×Int)(hg:z0h s=true)(hv:v<6)(h1:(s.V v).jail=true->r=(s,14))(h2:(s.V v).jail=false->r=((z5r s v true (s.V v).dead),0)) :
  Calls prog 177 #[.agg (stC s (.slice ao s.W.length c)),.int .i64 (v:Int)] w fun e w'=>e=.returned (.tuple #[.agg (stC r.1 (.slice ao s.W.length c)),.int .i64 r.2])/\Below w.heap.size w w':=by
 have SS:=(SAt.new w (stC s (.slice ao s.W.length c))).alloc (.cells Z63 43);have RR:=SAt.new2 w (.cells (stC s (.slice ao s.W.length c)) 43) Z63;have HB:Hid (Below w.heap.size w ((w.alloc (.cells (stC s (.slice ao s.W.length c)) 43)).alloc (.cells Z63 43))):=(znw w _).alloc (by simp) _
 have HW:=hide hW;have Hh1:=hide h1;have Hh2:=hide h2;have hRf:=z3y hg hv;have hv':(v:Int)<6:=by omega
 have hv0:(0:Int)<=(v:Int):=by omega
 clear hW h1 h2
 go_enter func177,ntmps177
 go_upto_region 1 with fail
 change Code.wp prog _ _ _ ((w.alloc (.cells (stC s (.slice ao s.W.length c)) 43)).alloc (.cells Z63 43));generalize (w.alloc (.cells (stC s (.slice ao s.W.length c)) 43)).alloc (.cells Z63 43)=w0 at *
 go_upto_region 2 with (go_at_call 79;refine (z1F s ao sb so c w.heap.size v _ SS (by exact HW.out.over HB.out)).mono ?_;rintro e w1 ⟨rfl,h1⟩)
 have HB1:=hide (zbt HB.out h1);have S1:=SS.later h1 SS.lt;have R1:=RR.later h1 RR.lt;clear SS RR h1 HB;obtain ⟨c0,c1,c2,c3,c4⟩:=S1.val v hv;have hz1:w.heap.size+1<w1.heap.size:=R1.lt;clear c0 c1 c2
 go_upto_region 7 with (first | ((fail_if_success (go_not_at_region 6));apply wp_region_lit;refine wpList_load_mid rfl 43 _ rfl _ 0 rfl _ _ S1.range underlying43 rfl (by rw[z0t];rfl) ?_;refine wpList_store_mid rfl 43 _ _ rfl _ 0 (stC s (.slice ao s.W.length c)) rfl rfl (R1.there 0 _ (by rw[z0o,z0f];omega)) (by rw[z0t];rfl) (z0x _ _ _ _) ?_))
 ·exact z0H results177 R1 rfl HB1.out (by omega) s _ _ r (Hh1.out ‹(s.V v).jail=true›) _ rfl rfl rfl
 ·have HR:=hide (Hh2.out ‹(s.V v).jail=false›);have f0:=S1.free (7+v * 5+3);have S2:=S1.set (7+v * 5+3) (.bool true);rw[j5E _ _ v hv]at S2;have RZ:SAt (w1.setCell ⟨w.heap.size,7+v * 5+3,none⟩ (.bool true)) (w.heap.size+1) Z63:=(R1.other (by omega) (.bool true):SAt _ _ _)
  have HZ:=hide (HB1.out.setCell (p:=⟨w.heap.size,7+v * 5+3,none⟩) (Nat.le_refl _) (.bool true));clear S1 R1 HB1
  go_upto_region 8 with fail
  generalize (w1.setCell ⟨w.heap.size,7+v * 5+3,none⟩ (.bool true))=w9 at *;apply wp_region_lit;refine wpList_load_mid rfl 43 _ rfl _ 0 rfl _ _ S2.range underlying43 rfl (by rw[z0t];rfl) ?_
  refine wpList_store_mid rfl 43 _ _ rfl _ 0 (stC (z5r s v true (s.V v).dead) (.slice ao s.W.length c)) rfl rfl (RZ.there 0 _ (by rw[z0o,z0f];omega)) (by rw[z0t];rfl) (z0x _ _ _ _) ?_
  go_wp2;exact z0H results177 RZ rfl HZ.out (by omega) (z5r s v true (s.V v).dead) (.slice ao s.W.length c) 0 r HR.out _ rfl rfl rfl
theorem q8R(s:St)(ao:Option Addr)(sb so c:Nat)(v:Int)(w:World)(hW:z2n w ao sb so s.W) :
  Calls prog 177 #[.agg (stC s (.slice ao s.W.length c)),.int .i64 v] w fun e w'=>e=.returned (.tuple #[.agg (stC (z9r s v).1 (.slice ao s.W.length c)),.int .i64 (z9r s v).2])/\Below w.heap.size w w':=by
 by_cases h:z5J s v=0
 ·obtain ⟨hg,v0,v1⟩:=z4n h;obtain ⟨v,rfl⟩:=Int.eq_ofNat_of_zero_le v0;exact q7Z s ao sb so c v w hW _ hg (by omega) (fun h1=>by rw[z9r,if_pos h];exact if_pos h1) (fun h1=>by rw[z9r,if_pos h];exact if_neg (by simp[h1]))
 ·exact j1a s ao sb so c v w hW _ h (by unfold z9r;exact if_neg h)
theorem q5o(s:St)(ao:Option Addr)(sb so c:Nat)(v:Int)(w:World)(hW:z2n w ao sb so s.W)(r:St×Int)(h0:z5J s v≠0)(hr:r=(s,z5J s v)) :
  Calls prog 64 #[.agg (stC s (.slice ao s.W.length c)),.int .i64 v] w fun e w'=>e=.returned (.tuple #[.agg (stC r.1 (.slice ao s.W.length c)),.int .i64 r.2])/\Below w.heap.size w w':=by
 have SS:=(SAt.new w (stC s (.slice ao s.W.length c))).alloc (.cells Z63 43);have RR:=SAt.new2 w (.cells (stC s (.slice ao s.W.length c)) 43) Z63;have HB:Hid (Below w.heap.size w ((w.alloc (.cells (stC s (.slice ao s.W.length c)) 43)).alloc (.cells Z63 43))):=(znw w _).alloc (by simp) _
 have HW:=hide hW;have HR:=hide hr;clear hW hr
 go_enter func64,ntmps64
 go_upto_region 1 with fail
 change Code.wp prog _ _ _ ((w.alloc (.cells (stC s (.slice ao s.W.length c)) 43)).alloc (.cells Z63 43));generalize (w.alloc (.cells (stC s (.slice ao s.W.length c)) 43)).alloc (.cells Z63 43)=w0 at *
 go_upto_region 2 with (go_at_call 79;refine (z1F s ao sb so c w.heap.size v _ SS (by exact HW.out.over HB.out)).mono ?_;rintro e w1 ⟨rfl,h1⟩)
 have HB1:=hide (zbt HB.out h1);have S1:=SS.later h1 SS.lt;have R1:=RR.later h1 RR.lt;clear SS RR h1 HB
 go_upto_region 3 with fail
 apply wp_region_lit;refine wpList_load_mid rfl 43 _ rfl _ 0 rfl _ _ S1.range underlying43 rfl (by rw[z0t];rfl) ?_
 refine z1K rfl _ rfl ?_;refine wpList_store_mid rfl 43 _ _ rfl _ 0 (stC s (.slice ao s.W.length c)) rfl rfl (R1.there 0 _ (by rw[z0o,z0f];omega)) (by rw[z0t];rfl) (z0x _ _ _ _) ?_
 go_wp2;exact z0H results64 R1 rfl HB1.out (by omega) s _ _ r HR.out _ rfl rfl rfl
theorem q1o(s:St)(ao:Option Addr)(sb so c v:Nat)(w:World)(hW:z2n w ao sb so s.W)(r:St×Int)(hg:z0h s=true)(hv:v<6)(h1:(s.V v).dead=true->r=(s,15))(h2:(s.V v).dead=false->(s.V v).jail=false->r=(s,4))(h3:(s.V v).dead=false->(s.V v).jail=true->r=((z5r s v false false),0)) :
  Calls prog 64 #[.agg (stC s (.slice ao s.W.length c)),.int .i64 (v:Int)] w fun e w'=>e=.returned (.tuple #[.agg (stC r.1 (.slice ao s.W.length c)),.int .i64 r.2])/\Below w.heap.size w w':=by
 have SS:=(SAt.new w (stC s (.slice ao s.W.length c))).alloc (.cells Z63 43);have RR:=SAt.new2 w (.cells (stC s (.slice ao s.W.length c)) 43) Z63;have HB:Hid (Below w.heap.size w ((w.alloc (.cells (stC s (.slice ao s.W.length c)) 43)).alloc (.cells Z63 43))):=(znw w _).alloc (by simp) _
 have HW:=hide hW;have Hh1:=hide h1;have Hh2:=hide h2;have Hh3:=hide h3;have hRf:=z3y hg hv;have hv':(v:Int)<6:=by omega
 have hv0:(0:Int)<=(v:Int):=by omega
 clear hW h1 h2 h3
 go_enter func64,ntmps64
 go_upto_region 1 with fail
 change Code.wp prog _ _ _ ((w.alloc (.cells (stC s (.slice ao s.W.length c)) 43)).alloc (.cells Z63 43));generalize (w.alloc (.cells (stC s (.slice ao s.W.length c)) 43)).alloc (.cells Z63 43)=w0 at *
 go_upto_region 2 with (go_at_call 79;refine (z1F s ao sb so c w.heap.size v _ SS (by exact HW.out.over HB.out)).mono ?_;rintro e w1 ⟨rfl,h1⟩)
 have HB1:=hide (zbt HB.out h1);have S1:=SS.later h1 SS.lt;have R1:=RR.later h1 RR.lt;clear SS RR h1 HB;obtain ⟨c0,c1,c2,c3,c4⟩:=S1.val v hv;have hz1:w.heap.size+1<w1.heap.size:=R1.lt;clear c0 c1 c2
 go_upto_region 9 with (first | ((fail_if_success (go_not_at_region 6));apply wp_region_lit;refine wpList_load_mid rfl 43 _ rfl _ 0 rfl _ _ S1.range underlying43 rfl (by rw[z0t];rfl) ?_;refine wpList_store_mid rfl 43 _ _ rfl _ 0 (stC s (.slice ao s.W.length c)) rfl rfl (R1.there 0 _ (by rw[z0o,z0f];omega)) (by rw[z0t];rfl) (z0x _ _ _ _) ?_) | ((fail_if_success (go_not_at_region 8));apply wp_region_lit;refine wpList_load_mid rfl 43 _ rfl _ 0 rfl _ _ S1.range underlying43 rfl (by rw[z0t];rfl) ?_;refine wpList_store_mid rfl 43 _ _ rfl _ 0 (stC s (.slice ao s.W.length c)) rfl rfl (R1.there 0 _ (by rw[z0o,z0f];omega)) (by rw[z0t];rfl) (z0x _ _ _ _) ?_))
 ·exact z0H results64 R1 rfl HB1.out (by omega) s _ _ r (Hh1.out ‹(s.V v).dead=true›) _ rfl rfl rfl
 ·exact z0H results64 R1 rfl HB1.out (by omega) s _ _ r (Hh2.out ‹(s.V v).dead=false› (by simpa using ‹(!(s.V v).jail)=true›)) _ rfl rfl rfl
 ·have HR:=hide (Hh3.out ‹(s.V v).dead=false› (by simpa using ‹(!(s.V v).jail)=false›))
  have f0:=S1.free (7+v * 5+3);have S2:=S1.set (7+v * 5+3) (.bool false);rw[j5E _ _ v hv,‹(s.V v).dead=false›]at S2;have RZ:SAt (w1.setCell ⟨w.heap.size,7+v * 5+3,none⟩ (.bool false)) (w.heap.size+1) Z63:=(R1.other (by omega) (.bool false):SAt _ _ _)
  have HZ:=hide (HB1.out.setCell (p:=⟨w.heap.size,7+v * 5+3,none⟩) (Nat.le_refl _) (.bool false));clear S1 R1 HB1
  go_upto_region 10 with fail
  generalize (w1.setCell ⟨w.heap.size,7+v * 5+3,none⟩ (.bool false))=w9 at *;apply wp_region_lit;refine wpList_load_mid rfl 43 _ rfl _ 0 rfl _ _ S2.range underlying43 rfl (by rw[z0t];rfl) ?_
  refine wpList_store_mid rfl 43 _ _ rfl _ 0 (stC (z5r s v false false) (.slice ao s.W.length c)) rfl rfl (RZ.there 0 _ (by rw[z0o,z0f];omega)) (by rw[z0t];rfl) (z0x _ _ _ _) ?_
  go_wp2;exact z0H results64 RZ rfl HZ.out (by omega) (z5r s v false false) (.slice ao s.W.length c) 0 r HR.out _ rfl rfl rfl
theorem q1J(s:St)(ao:Option Addr)(sb so c:Nat)(v:Int)(w:World)(hW:z2n w ao sb so s.W) :
  Calls prog 64 #[.agg (stC s (.slice ao s.W.length c)),.int .i64 v] w fun e w'=>e=.returned (.tuple #[.agg (stC (z1l s v).1 (.slice ao s.W.length c)),.int .i64 (z1l s v).2])/\Below w.heap.size w w':=by
 by_cases h:z5J s v=0
 ·obtain ⟨hg,v0,v1⟩:=z4n h;obtain ⟨v,rfl⟩:=Int.eq_ofNat_of_zero_le v0;exact q1o s ao sb so c v w hW _ hg (by omega) (fun h1=>by rw[z1l,if_pos h];exact if_pos h1) (fun h1 h2=>by rw[z1l,if_pos h,if_neg (by simp[h1])];exact if_neg (by simp[h2])) (fun h1 h2=>by rw[z1l,if_pos h,if_neg (by simp[h1])];exact if_pos h2)
 ·exact q5o s ao sb so c v w hW _ h (by unfold z1l;exact if_neg h)
theorem j0M(s:St)(ao:Option Addr)(sb so c:Nat)(v:Int)(w:World)(hW:z2n w ao sb so s.W)(r:St×Int)(h0:z5J s v≠0)(hr:r=(s,z5J s v)) :
  Calls prog 113 #[.agg (stC s (.slice ao s.W.length c)),.int .i64 v] w fun e w'=>e=.returned (.tuple #[.agg (stC r.1 (.slice ao s.W.length c)),.int .i64 r.2])/\Below w.heap.size w w':=by
 have SS:=(SAt.new w (stC s (.slice ao s.W.length c))).alloc (.cells Z63 43);have RR:=SAt.new2 w (.cells (stC s (.slice ao s.W.length c)) 43) Z63;have HB:Hid (Below w.heap.size w ((w.alloc (.cells (stC s (.slice ao s.W.length c)) 43)).alloc (.cells Z63 43))):=(znw w _).alloc (by simp) _
 have HW:=hide hW;have HR:=hide hr;clear hW hr
 go_enter func113,ntmps113
 go_upto_region 1 with fail
 change Code.wp prog _ _ _ ((w.alloc (.cells (stC s (.slice ao s.W.length c)) 43)).alloc (.cells Z63 43));generalize (w.alloc (.cells (stC s (.slice ao s.W.length c)) 43)).alloc (.cells Z63 43)=w0 at *
 go_upto_region 2 with (go_at_call 79;refine (z1F s ao sb so c w.heap.size v _ SS (by exact HW.out.over HB.out)).mono ?_;rintro e w1 ⟨rfl,h1⟩)
 have HB1:=hide (zbt HB.out h1);have S1:=SS.later h1 SS.lt;have R1:=RR.later h1 RR.lt;clear SS RR h1 HB
 go_upto_region 3 with fail
 apply wp_region_lit;refine wpList_load_mid rfl 43 _ rfl _ 0 rfl _ _ S1.range underlying43 rfl (by rw[z0t];rfl) ?_
 refine z1K rfl _ rfl ?_;refine wpList_store_mid rfl 43 _ _ rfl _ 0 (stC s (.slice ao s.W.length c)) rfl rfl (R1.there 0 _ (by rw[z0o,z0f];omega)) (by rw[z0t];rfl) (z0x _ _ _ _) ?_
 go_wp2;exact z0H results113 R1 rfl HB1.out (by omega) s _ _ r HR.out _ rfl rfl rfl
theorem q9y(s:St)(ao:Option Addr)(sb so c v:Nat)(w:World)(hW:z2n w ao sb so s.W)(r:St×Int)(hg:z0h s=true)(hv:v<6)(h1:(s.V v).dead=true->r=(s,15))(h2:(s.V v).dead=false->r=((z5r s v true true),0)) :
  Calls prog 113 #[.agg (stC s (.slice ao s.W.length c)),.int .i64 (v:Int)] w fun e w'=>e=.returned (.tuple #[.agg (stC r.1 (.slice ao s.W.length c)),.int .i64 r.2])/\Below w.heap.size w w':=by
 have SS:=(SAt.new w (stC s (.slice ao s.W.length c))).alloc (.cells Z63 43);have RR:=SAt.new2 w (.cells (stC s (.slice ao s.W.length c)) 43) Z63;have HB:Hid (Below w.heap.size w ((w.alloc (.cells (stC s (.slice ao s.W.length c)) 43)).alloc (.cells Z63 43))):=(znw w _).alloc (by simp) _
 have HW:=hide hW;have Hh1:=hide h1;have Hh2:=hide h2;have hRf:=z3y hg hv;have hv':(v:Int)<6:=by omega
 have hv0:(0:Int)<=(v:Int):=by omega
 clear hW h1 h2
 go_enter func113,ntmps113
 go_upto_region 1 with fail
 change Code.wp prog _ _ _ ((w.alloc (.cells (stC s (.slice ao s.W.length c)) 43)).alloc (.cells Z63 43));generalize (w.alloc (.cells (stC s (.slice ao s.W.length c)) 43)).alloc (.cells Z63 43)=w0 at *
 go_upto_region 2 with (go_at_call 79;refine (z1F s ao sb so c w.heap.size v _ SS (by exact HW.out.over HB.out)).mono ?_;rintro e w1 ⟨rfl,h1⟩)
 have HB1:=hide (zbt HB.out h1);have S1:=SS.later h1 SS.lt;have R1:=RR.later h1 RR.lt;clear SS RR h1 HB;obtain ⟨c0,c1,c2,c3,c4⟩:=S1.val v hv;have hz1:w.heap.size+1<w1.heap.size:=R1.lt;clear c0 c1 c2
 go_upto_region 7 with (first | ((fail_if_success (go_not_at_region 6));apply wp_region_lit;refine wpList_load_mid rfl 43 _ rfl _ 0 rfl _ _ S1.range underlying43 rfl (by rw[z0t];rfl) ?_;refine wpList_store_mid rfl 43 _ _ rfl _ 0 (stC s (.slice ao s.W.length c)) rfl rfl (R1.there 0 _ (by rw[z0o,z0f];omega)) (by rw[z0t];rfl) (z0x _ _ _ _) ?_))
 ·exact z0H results113 R1 rfl HB1.out (by omega) s _ _ r (Hh1.out ‹(s.V v).dead=true›) _ rfl rfl rfl
 ·have HR:=hide (Hh2.out ‹(s.V v).dead=false›);have f0:=S1.free (7+v * 5+3);have f1:=S1.free (7+v * 5+4);have S2:=S1.set (7+v * 5+3) (.bool true);rw[j5E _ _ v hv]at S2;have S3:=S2.set (7+v * 5+4) (.bool true);rw[j8h _ _ v hv]at S3;have RZ:SAt ((w1.setCell ⟨w.heap.size,7+v * 5+3,none⟩ (.bool true)).setCell ⟨w.heap.size,7+v * 5+4,none⟩ (.bool true)) (w.heap.size+1) Z63:=((R1.other (by omega) (.bool true):SAt _ _ _).other (by omega) (.bool true):SAt _ _ _)
  have HZ:=hide ((HB1.out.setCell (p:=⟨w.heap.size,7+v * 5+3,none⟩) (Nat.le_refl _) (.bool true)).setCell (p:=⟨w.heap.size,7+v * 5+4,none⟩) (Nat.le_refl _) (.bool true));clear S1 R1 HB1
  go_upto_region 8 with fail
  generalize ((w1.setCell ⟨w.heap.size,7+v * 5+3,none⟩ (.bool true)).setCell ⟨w.heap.size,7+v * 5+4,none⟩ (.bool true))=w9 at *;apply wp_region_lit;refine wpList_load_mid rfl 43 _ rfl _ 0 rfl _ _ S3.range underlying43 rfl (by rw[z0t];rfl) ?_
  refine wpList_store_mid rfl 43 _ _ rfl _ 0 (stC (z5r s v true true) (.slice ao s.W.length c)) rfl rfl (RZ.there 0 _ (by rw[z0o,z0f];omega)) (by rw[z0t];rfl) (z0x _ _ _ _) ?_
  go_wp2;exact z0H results113 RZ rfl HZ.out (by omega) (z5r s v true true) (.slice ao s.W.length c) 0 r HR.out _ rfl rfl rfl
theorem q6W(s:St)(ao:Option Addr)(sb so c:Nat)(v:Int)(w:World)(hW:z2n w ao sb so s.W) :
  Calls prog 113 #[.agg (stC s (.slice ao s.W.length c)),.int .i64 v] w fun e w'=>e=.returned (.tuple #[.agg (stC (z7X s v).1 (.slice ao s.W.length c)),.int .i64 (z7X s v).2])/\Below w.heap.size w w':=by
 by_cases h:z5J s v=0
 ·obtain ⟨hg,v0,v1⟩:=z4n h;obtain ⟨v,rfl⟩:=Int.eq_ofNat_of_zero_le v0;exact q9y s ao sb so c v w hW _ hg (by omega) (fun h1=>by rw[z7X,if_pos h];exact if_pos h1) (fun h1=>by rw[z7X,if_pos h];exact if_neg (by simp[h1]))
 ·exact j0M s ao sb so c v w hW _ h (by unfold z7X;exact if_neg h)
def j7z:St:=⟨⟨100000,100000,100000,100000,0,0,0⟩,fun _=>⟨0,0,0,false,false⟩,fun _ _=>0,[],1⟩
theorem z7M{fn:Func}{p:Tmp}(h:fn.results=#[.cell p 43])(tmps:Array Value)(w:World)(g:Nat)(cs:Array Value)
  (hp:tmps.getD p undef=.pointer (some ⟨g,0,none⟩)) (hg:SAt w g cs) (hsz:cs.size=63) :
  (results fn tmps).run prog w=.ok (.agg cs) w:=
 results_cell_row h _ _ g 43 cs (0,0) _ hp hg underlying43 rfl (by rw[z0t,hsz])
theorem z5q(w:World):Calls prog 35 #[] w fun e w'=>e=.returned (.agg (stC j7z (.slice none 0 0)))/\Below w.heap.size w w':=by
 have R0:=SAt.new w Z63;have HB0:Hid (Below w.heap.size w (w.alloc (.cells Z63 43))):=znw w _;have hN:=j5C
 go_enter func35,ntmps35
 go_upto_region 1 with fail
 change Code.wp prog _ _ _ (w.alloc (.cells Z63 43));generalize w.alloc (.cells Z63 43)=w0 at *;apply wp_region_lit
 go_step
 go_step
 refine (hN _).mono ?_;rintro e w1 ⟨rfl,h1⟩;have R1:=R0.later h1 R0.lt;have HB1:=hide (zbt HB0.out h1);clear h1 R0 HB0 hN;dsimp only
 go_step
 go_step
 go_step
 go_step
 refine wpList_store_mid rfl 43 _ _ rfl _ 0 (stC j7z (.slice none 0 0)) rfl rfl (R1.there 0 _ (by rw[z0o,z0f];omega)) (by rw[z0t];rfl) (z0x _ _ _ _) ?_
 go_wp2;have R3:=R1.z0G (ds:=stC j7z (.slice none 0 0)) (by rw[z0f];rfl)
 exact bodyPost_ret (v:=.agg (stC j7z (.slice none 0 0))) (z7M results35 _ _ _ _ rfl R3 rfl) rfl ⟨rfl,z0b (Nat.le_refl _) _ _ _ HB1.out⟩
end
end Go.Proofs.YtmopekkhmhhcaaaGreat
