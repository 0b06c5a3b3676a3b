/- Parts of the proof. -/
import Derived.Test.YtmopekkhmhhcaaaGreatFL
import Derived.Test.YtmopekkhmhhcaaaGreatFK22
import Derived.Test.YtmopekkhmhhcaaaGreatFK24
set_option maxRecDepth 100000
set_option maxHeartbeats 16000000
namespace Go.Proofs.YtmopekkhmhhcaaaGreat
open Go.Proofs.Tryz
section
open Go.RowKit
def z7i(c:Nat)(h:Int)(x:Wt):Wt:=if c=0 then (if x.h0<=h then { x with h0:=0 } else x) else (if x.h1<=h then { x with h1:=0 } else x)
def z5D(c:Nat)(h:Int)(W:List Wt):List Wt:=W.map (z7i c h)
theorem z7l(F:Wt->Wt){W:List Wt}{k:Nat}{x:Wt}(hx:W[k]?=some x):(W.take (k+1)).map F ++ W.drop (k+1)=((W.take k).map F ++ W.drop k).set k (F x)/\((W.take k).map F ++ W.drop k)[k]?=some x/\((W.take k).map F ++ W.drop k).length=W.length:=by
 obtain⟨hk,he⟩:=List.getElem?_eq_some_iff.1 hx;have hl:((W.take k).map F).length=k:=by rw[List.length_map,List.length_take];omega
 have hd:W.drop k=x :: W.drop (k+1):=by rw[← he];exact List.drop_eq_getElem_cons hk
 refine⟨?_,?_,?_⟩
 ·rw[z1p hx,hd,List.map_append,List.set_append_right _ _ (by omega),hl,Nat.sub_self,List.append_assoc]
  rfl
 ·rw[List.getElem?_append_right (by omega),hl,Nat.sub_self,hd]
  rfl
 ·rw[List.length_append,List.length_map,← List.length_append,List.take_append_drop]
theorem q3J:∀ (W:List Wt) (k:Nat) (x x':Wt) (j:Nat) (v:Value),W[k]?=some x->j<8->wtL x'=(wtL x).set j v->wsL (W.set k x')=(wsL W).set (k * 8+j) v
 | [],k,x,x',j,v,h,_,_=>by simp at h
 | z :: W,0,x,x',j,v,h,hj,he=>by
  simp at h
  subst h
  show wtL x' ++ wsL W=(wtL z ++ wsL W).set _ _
  rw[List.set_append_left _ _ (by rw[z1Z];omega),he]
  simp
 | z :: W,k+1,x,x',j,v,h,hj,he=>by
  have ih:=q3J W k x x' j v (by simpa using h) hj he
  show wtL z ++ wsL (W.set k _)=(wtL z ++ wsL W).set _ _
  rw[List.set_append_right _ _ (by rw[z1Z];omega),z1Z,ih]
  congr 2
  omega
theorem z2y.put{B:Nat}{w:World}{g C:Nat}{W:List Wt}(h:z2y B w (some ⟨g,0,none⟩) C W){k:Nat}{x:Wt}(hx:W[k]?=some x)(x':Wt)(j:Nat)(v:Value)(hj:j<8)(he:wtL x'=(wtL x).set j v):z2y B (w.setCell ⟨g,k * 8+j,none⟩ v) (some ⟨g,0,none⟩) C (W.set k x'):=by
 have h1:=(World.ownsRow.stored h (k * 8+j) v).1;unfold z2y;rw[q3J W k x x' j v hx hj he,List.length_set];exact h1
theorem z2y.holds{B:Nat}{w:World}{A:Option Addr}{C:Nat}{W:List Wt}(h:z2y B w A C W)(h0:0<W.length):∃ g,A=some ⟨g,0,none⟩/\B<=g/\g<w.heap.size/\∀ k x,W[k]?=some x->(w.cell? ⟨g,k * 8+6,none⟩=some (.int .i64 x.h0)/\w.cell? ⟨g,k * 8+7,none⟩=some (.int .i64 x.h1)/\w.frozen? ⟨g,k * 8+6,none⟩=false/\w.frozen? ⟨g,k * 8+7,none⟩=false):=by
 have h':=h
 rcases h.2 with⟨hv,hn⟩ | ⟨g,cap,cur,hv,hb,hg,hrest⟩
 ·omega
 ·cases hv;refine⟨g,rfl,hb,(Array.getElem?_eq_some_iff.1 hg).1,fun k x hx=>?_⟩
  have c:∀ j v,(wtL x)[j]?=some v->j<8->w.cell? ⟨g,k * 8+j,none⟩=some v:=fun j v hj hl=>by
   have:=World.ownsRow.cells h' (g:=g) rfl (k * 8+j) v ((z4B W k x j hx hl).trans hj)
   rwa [Addr.add_lit,Nat.zero_add]at this
  exact⟨c 6 _ rfl (by omega),c 7 _ rfl (by omega),World.ownsRow.frozenAt h' _,World.ownsRow.frozenAt h' _⟩
end
section
structure Kp(s:St)(r:St×Int):Prop where
 good:z0i r.1=true
 bu:s.b.bu<=r.1.b.bu
 dead:∀ k,k<6->(s.V k).dead=true->(r.1.V k).dead=true
 lost:∀ k,k<6->(s.V k).lost<=(r.1.V k).lost
 no:r.2≠0->r.1=s
theorem Kp.same{s:St}(hg:z0i s=true)(e:Int):Kp s (s,e):=⟨hg,Int.le_refl _,fun _ _ h=>h,fun _ _=>Int.le_refl _,fun _=>rfl⟩
theorem j1J{s:St}(hg:z0i s=true)(d v n:Int):Kp s (z0R s d v n):=by
 by_cases h:(z0R s d v n).2=0
 ·obtain⟨i,j,rfl,rfl,hi,hj,-,hdead,hn,hn1,hsh,hbo,hD⟩:=q5X h;obtain⟨hB,hb1,hb2,hb3⟩:=q9e hi hbo;have hv:=z4A hg j hj;have hx:=(z1U _).1 hv.1;obtain⟨g0,g1,g2⟩:=j4N hv.1 hn hn1 hsh;have hS:=z0D.1 (z6X hv.2 hi);have gA:=j1l (t:=n) (n:=shN (s.V j) n) hg hi hj hB hb1 hb2 hb3 (by omega) (by omega) g1 (fun _=>by omega)
  rw[hD];refine⟨gA,by show s.b.bu<=(z2B s.b i n).1.bu;omega,fun k hk hd=>?_,fun k hk=>?_,fun h=>absurd rfl h⟩
  ·show (z1P s.V j _ k).dead=true
   unfold z1P
   split
   ·rename_i e;subst e;exact hd
   ·exact hd
  ·show (s.V k).lost<=(z1P s.V j _ k).lost
   unfold z1P
   split
   ·rename_i e;subst e;exact Int.le_refl _
   ·exact Int.le_refl _
 ·have e:(z0R s d v n).1=s:=by
   unfold z0R at h ⊢
   repeat' split
   all_goals first | rfl | (simp_all;done)
  have:=Kp.same hg (z0R s d v n).2;rw[show z0R s d v n=((z0R s d v n).1,(z0R s d v n).2) from rfl,e];exact this
theorem j9j{next next':Int}(hn:next<=next'):∀ {W:List Wt} {last:Int},wOk next last W=true->wOk next' last W=true
 | [],_,_=>rfl
 | x :: W,last,h=>by
  simp only[wOk,q0W,Bool.and_eq_true,decide_eq_true_eq]at h ⊢;obtain⟨⟨⟨⟨⟨⟨⟨h1,h2⟩,h3⟩,h4⟩,h5⟩,h6⟩,h7⟩,h8⟩:=h;exact⟨⟨⟨⟨⟨⟨⟨h1,by omega⟩,h3⟩,h4⟩,h5⟩,h6⟩,h7⟩,j9j hn h8⟩
theorem q4u{next:Int}(x:Wt)(hx:q0W (next - 1) (next+1) { x with num:=next }=true)(e:x.num=next):∀ {W:List Wt} {last:Int},last<next->wOk next last W=true->wOk (next+1) last (W ++ [x])=true
 | [],last,hl,_=>by
  simp only[List.nil_append,wOk,q0W,Bool.and_eq_true,decide_eq_true_eq]at hx ⊢;obtain⟨⟨⟨⟨⟨⟨h1,h2⟩,h3⟩,h4⟩,h5⟩,h6⟩,h7⟩:=hx;exact⟨⟨⟨⟨⟨⟨⟨by omega,by omega⟩,h3⟩,h4⟩,h5⟩,h6⟩,h7⟩,trivial⟩
 | y :: W,last,hl,h=>by
  simp only[List.cons_append,wOk,q0W,Bool.and_eq_true,decide_eq_true_eq]at h ⊢;obtain⟨⟨⟨⟨⟨⟨⟨h1,h2⟩,h3⟩,h4⟩,h5⟩,h6⟩,h7⟩,h8⟩:=h;exact⟨⟨⟨⟨⟨⟨⟨h1,by omega⟩,h3⟩,h4⟩,h5⟩,h6⟩,h7⟩,q4u x hx e h2 h8⟩
theorem j3h{s:St}(hg:z0i s=true){i j:Nat}(hi:i<4)(hj:j<6)(n:Int)(y:Wt):Kp s (z0V s i j n y):=by
 have hr:=z5A hg hi hj
 by_cases h1:(decide (0<n) && inA n)=true/\0<=y.hei/\0<=y.due
 case neg=>rw[q3b hr h1];exact Kp.same hg _
 by_cases h2:n<=s.S (i:Int).toNat (j:Int).toNat
 case neg=>rw[q2L hr h1 h2];exact Kp.same hg _
 by_cases h3:s.W.length<60/\s.next<1125899906842624
 case neg=>rw[q2w hr h1 h2 h3];exact Kp.same hg _
 by_cases h4:woE (s.V (j:Int).toNat) n=0
 case neg=>rw[q2h hr h1 h2 h3 h4];exact Kp.same hg _
 by_cases h5:(z0W s.b (woN (s.V (j:Int).toNat) n)).2=0
 case neg=>rw[q2d hr h1 h2 h3 h4 h5];exact Kp.same hg _
 rw[q2Y hr h1 h2 h3 h4 h5];simp only[Int.toNat_natCast]at *;have hv:=z4A hg j hj;have hx:=(z1U _).1 hv.1;have hS:=z0D.1 (z6X hv.2 hi);have hG:=(z0O s).1 hg;have hpe:=(hG.2.2.2.2.2.1 j hj).2.2;have hge:=j4b hv.2 hi;rw[hpe]at hge;obtain⟨hn,hy0,hy1⟩:=h1;simp only[Bool.and_eq_true,decide_eq_true_eq,z0D]at hn;obtain⟨w1,w2,-⟩:=y0A (k:=(s.V j).tok) hv.1 hn.1 (by omega) (by rw[Int.mul_comm];exact Int.mul_le_mul_of_nonneg_left (by omega) hx.1.1)
 have hwN:woN (s.V j) n=mdN n (s.V j).tok (s.V j).sh:=by unfold woN;rw[if_pos w1]
 have hmb:=z4D n (s.V j).tok (s.V j).sh;obtain⟨m1,m2,m3,m4,m5⟩:=q2R (b:=s.b) (f:=4) (t:=5) h5;have hgm:=q0i (f:=4) (t:=5) (.inr (.inr (.inl ⟨rfl,rfl⟩))) m1 m2 m4;have hB:(z0W s.b (woN (s.V j) n)).1=(s.b.put 4 (s.b.get 4 - woN (s.V j) n)).put 5 (s.b.get 5+woN (s.V j) n):=by unfold z0W;rw[m5]
 rw[← hB]at hgm;have hbo:(z0W s.b (woN (s.V j) n)).1.bo=s.b.bo - woN (s.V j) n:=by rw[hB];rfl
 have hwa:(z0W s.b (woN (s.V j) n)).1.wa=s.b.wa+woN (s.V j) n:=by rw[hB];rfl
 have hbu:(z0W s.b (woN (s.V j) n)).1.bu=s.b.bu:=by rw[hB];rfl
 generalize (z0W s.b (woN (s.V j) n)).1=B at *;have hwo:woN (s.V j) n<=(s.V j).tok/\0<=woN (s.V j) n/\woN (s.V j) n<=1125899906842624:=by rw[hwN];omega
 have hsm:(s.V j).sh - n=0->woN (s.V j) n=(s.V j).tok:=by
  intro h0;rw[hwN];have c1:¬ (n<0∨(s.V j).tok<0∨(s.V j).sh<1):=by omega
  have e:n=(s.V j).sh:=by omega
  unfold mdN;rw[if_neg c1,e,Int.mul_comm (s.V j).sh,Int.mul_ediv_cancel _ (by omega),if_pos (by omega)]
 -- the z1l without the wait,as if the tokens had gone: all but the waits
 generalize woN (s.V j) n=wo at *;obtain⟨g1,g2,g3,g4,g5,g6,g7,g8,g9⟩:=hG;refine⟨?_,by show s.b.bu<=B.bu;omega,fun k hk hd=>?_,fun k hk=>?_,fun h=>absurd rfl h⟩
 ·rw[z0O];have htk:z8G (z1P s.V j { s.V j with tok:=(s.V j).tok + -wo,sh:=(s.V j).sh + -n }) 6=B.bo:=by rw[z7s _ _ _ hj,g7,hbo];show s.b.bo+((s.V j).tok + -wo) - (s.V j).tok=_;omega
  refine⟨hgm.1,by show 1<=s.next+1;omega,by show s.next+1<=_;omega,?_,?_,fun k hk=>?_,htk,?_,?_⟩
  ·show (s.W ++ [_]).length<=60
   rw[List.length_append];simp only[List.length_cons,List.length_nil];omega
  ·show wOk (s.next+1) 0 (s.W ++ [_])=true
   refine q4u (next:=s.next) _ ?_ rfl (show (0:Int)<s.next by omega) g5
   simp only[q0W,Bool.and_eq_true,decide_eq_true_eq,z5w,z3t,z0D];omega
  ·show vOk (z1P s.V j _ k)=true/\z3A (z6q s.S i j _) k 4=true/\psh (z6q s.S i j _) k 4=(z1P s.V j _ k).sh
   refine⟨?_,q0O _ _ _ _ _ (g6 k hk).2.1 (z0D.2 ⟨by show 0<=s.S i j + -n;omega,by show s.S i j + -n<=_;omega⟩),?_⟩
   ·unfold z1P
    split
    ·rw[z1U];exact⟨⟨by show 0<=(s.V j).tok + -wo;omega,by show (s.V j).tok + -wo<=_;omega⟩,⟨by show 0<=(s.V j).sh + -n;omega,by show (s.V j).sh + -n<=_;omega⟩,hx.2.2.1,by show 0<(s.V j).tok + -wo->(s.V j).sh + -n≠0;omega,hx.2.2.2.2⟩
    ·exact (g6 k hk).1
   ·by_cases hkv:k=j
    ·subst hkv;rw[q8T _ _ _ _ hi,hpe];simp only[z1P,if_true];omega
    ·rw[q1g _ _ _ _ _ hkv,(g6 k hk).2.2];simp only[z1P,if_neg hkv]
  ·show z2K (s.W ++ [_])=B.wa
   rw[z3n,g8,hwa];simp only[z2K];omega
  ·show z3K (z1P s.V j _) 6=B.bu
   rw[z5I _ _ _ hj,g9,hbu];simp only;omega
 ·show (z1P s.V j _ k).dead=true
  unfold z1P
  split
  ·rename_i e;subst e;exact hd
  ·exact hd
 ·show (s.V k).lost<=(z1P s.V j _ k).lost
  unfold z1P
  split
  ·rename_i e;subst e;exact Int.le_refl _
  ·exact Int.le_refl _
theorem q3w{s:St}(hg:z0i s=true){v:Nat}(hv:v<6)(h:Int){f:Int}(hf:0<=f/\f<=1000):Kp s (z2f s v h f,0):=by
 obtain⟨b0,b1,b2,b3,b4⟩:=z6v hg hv h hf;obtain⟨n1,n2,n3,n4,n5,n6,n7,n8,n9,n10,n11⟩:=z4M hg hv h hf;refine⟨z6Q hg hv h hf,by show s.b.bu<=(z2f s v h f).b.bu;omega,fun k hk hd=>?_,fun k hk=>?_,fun h=>absurd rfl h⟩
 ·show (z1P s.V v _ k).dead=true
  unfold z1P
  split
  ·rename_i e;subst e;exact hd
  ·exact hd
 ·show (s.V k).lost<=(z1P s.V v _ k).lost
  unfold z1P
  split
  ·rename_i e;subst e;show _<=(s.V k).lost+_;omega
  ·exact Int.le_refl _
theorem z5M{s:St}(hg:z0i s=true){v:Nat}(hv:v<6){j d:Bool}(hjd:d=true->j=true):z0i (z4y s v j d)=true:=by
 rw[z0O]at hg ⊢;obtain⟨h1,h2,h3,h4,h5,h6,h7,h8,h9⟩:=hg;refine⟨h1,h2,h3,h4,h5,fun k hk=>?_,?_,h8,?_⟩
 ·obtain⟨i1,i2,i3⟩:=h6 k hk
  show vOk (z1P s.V v _ k)=true/\z3A s.S k 4=true/\psh s.S k 4=(z1P s.V v _ k).sh
  unfold z1P
  by_cases hkv:k=v
  ·subst hkv;rw[if_pos rfl];rw[z1U]at i1;refine⟨?_,i2,i3⟩;rw[z1U];exact⟨i1.1,i1.2.1,i1.2.2.1,i1.2.2.2.1,hjd⟩
  ·rw[if_neg hkv];exact⟨i1,i2,i3⟩
 ·show z8G (z1P s.V v _) 6=s.b.bo
  rw[z7s _ _ _ hv,h7];simp only;omega
 ·show z3K (z1P s.V v _) 6=s.b.bu
  rw[z5I _ _ _ hv,h9];simp only;omega
theorem j3Z{s:St}(hg:z0i s=true)(t:Int):Kp s (z6k s t,0):=by
 obtain⟨a1,a2,a3,a4⟩:=j0Q hg t;exact⟨q4E hg t,by show s.b.bu<=(z6k s t).b.bu;omega,fun k hk h=>h,fun k hk=>Int.le_refl _,fun h=>absurd rfl h⟩
theorem z9v(c:Nat)(h:Int)(x:Wt):(z7i c h x).num=x.num/\(z7i c h x).d=x.d/\(z7i c h x).v=x.v/\(z7i c h x).hei=x.hei/\(z7i c h x).due=x.due/\(z7i c h x).amt=x.amt:=by
 unfold z7i
 repeat' split
 all_goals exact⟨rfl,rfl,rfl,rfl,rfl,rfl⟩
theorem j0E{next h:Int}{c:Nat}:∀ {W:List Wt} {last:Int},wOk next last W=true->wOk next last (z5D c h W)=true
 | [],_,_=>rfl
 | x :: W,last,hw=>by
  obtain⟨k1,k2,k3,k4,k5,k6⟩:=z9v c h x;simp only[wOk,Bool.and_eq_true]at hw;have ih:=j0E (c:=c) (h:=h) hw.2;have h1:=hw.1;simp only[z5D,List.map_cons,wOk,q0W,Bool.and_eq_true,decide_eq_true_eq,k1,k2,k3,k4,k5,k6]at h1 ⊢;exact⟨h1,ih⟩
theorem q3r(c:Nat)(h:Int):∀ W:List Wt,z2K (z5D c h W)=z2K W
 | []=>rfl
 | x :: W=>by
  show (z7i c h x).amt+z2K (z5D c h W)=x.amt+z2K W
  rw[q3r c h W,(z9v c h x).2.2.2.2.2]
theorem j4c{s:St}(hg:z0i s=true)(c:Nat)(h:Int):Kp s ({ s with W:=z5D c h s.W },0):=by
 refine⟨?_,Int.le_refl _,fun _ _ h=>h,fun _ _=>Int.le_refl _,fun h=>absurd rfl h⟩;rw[z0O]at hg ⊢;obtain⟨h1,h2,h3,h4,h5,h6,h7,h8,h9⟩:=hg;exact⟨h1,h2,h3,by show (z5D c h s.W).length<=60;unfold z5D;rw[List.length_map];exact h4,j0E h5,h6,h7,by show z2K (z5D c h s.W)=_;rw[q3r];exact h8,h9⟩
end
namespace Pv
open Go.RowKit
def isC(c:Int):Bool:=decide (0<=c) && decide (c<2)
def z0Q(L:Nat->Lk)(c:Nat)(x:Lk):Nat->Lk:=fun i=>if i=c then x else L i
def z2O(p:Pr)(d v n:Int):Pr×Int:=if z0x p=true then ({ p with s:=(z0R p.s d v n).1 },(z0R p.s d v n).2) else (p,2)
def z3e(p:Pr)(c:Nat):Int:=if (p.L c).on=true then p.h+1 else 0
def z1q(L:Nat->Lk):Nat->Lk:=fun c=>if (L c).on=true then { L c with fresh:=true } else L c
def q1m(p:Pr)(now:Int):Wt:=⟨0,0,0,0,p.h+1,now+20,z3e p 0,z3e p 1⟩
def z1J(p:Pr)(d v n now:Int):Pr×Int:=
 if z0x p=true/\isT now=true then
  if (z0V p.s d v n (q1m p now)).2=0 then ({ p with s:=(z0V p.s d v n (q1m p now)).1,L:=z1q p.L },0) else (p,(z0V p.s d v n (q1m p now)).2)
 else (p,2)
def z1A(c:Nat)(h:Int)(x:Wt):Wt:=if x.hei=h then (if c=0 then { x with h0:=h } else { x with h1:=h }) else x
def z7w(p:Pr):Lk:=⟨true,false,p.h,p.set,p.s.W.any (fun x=>decide (x.hei=p.h+1)),[],⟨[],[],0,false⟩,0,0,0,0⟩
def z0X(p:Pr)(c:Int):Pr×Int:=
 if z0x p=true then
  if isC c=true then
   if (p.L c.toNat).gone=true then (p,11)
   else if (p.L c.toNat).on=true then (p,5)
   else if p.h=0∨p.set.length=0 then (p,13)
   else ({ p with s:={ p.s with W:=p.s.W.map (z1A c.toNat (p.h+1)) },L:=z0Q p.L c.toNat (z7w p) },0)
  else (p,4)
 else (p,2)
def z4s(x:Lk):Lk:={ x with on:=false,gone:=true,fresh:=false,done:=[],out:={ x.out with cl:=true } }
def z9A(p:Pr)(c:Int):Bool:=isC c && (p.L c.toNat).on
def z0u(p:Pr)(c:Int):Pr:=
 if z0x p=true/\z9A p c=true then { p with s:={ p.s with W:=z5D c.toNat 1099511627776 p.s.W },L:=z0Q p.L c.toNat (z4s (p.L c.toNat)),q:=p.q.filter fun a=>decide (a.1≠c) } else p
def z3L(p:Pr)(c:Int)(l:List Int):Pr×Int:=
 if z0x p=true then
  if z9A p c=true then
   if Cd.z6l l=0 then
    if (z2i l).k=1 then (p,3) else ({ p with q:=p.q ++ [(c,z2i l)] },0)
   else (p,Cd.z6l l)
  else (p,4)
 else (p,2)
def z7o(s:St)(v:Nat)(h:Int):St:=z4y (z2f s v h 50) v true true
def z4u(p:Pr)(v h:Int):Pr×Int:=
 if z0x p=true then
  if isV v=true then
   if 1<=h/\h<=p.h then
    if (p.s.V v.toNat).dead=true then (p,15) else ({ p with s:=z7o p.s v.toNat h },0)
   else (p,2)
  else (p,4)
 else (p,2)
def z3h(D:List Int)(v:Int):List Int:=((List.range 6).map Int.ofNat).filter fun u=>decide (u=v) || decide (u∈D)
def z9F(x:Vd):Int:=if x.tok / 100<1 then 1 else x.tok / 100
def q1V(a b:Int):Int:=if a<b then b else a
def z1F(p:Pr)(c:Nat)(x:Pkt):Pr×Bool:=
 if x.k=2 then ({ p with s:={ p.s with W:=z5D c x.i p.s.W } },true)
 else if x.k=4 then
  if (p.s.V x.v.toNat).dead=true then (p,true) else ({ p with s:=z7o p.s x.v.toNat (q1V x.i (p.L c).base) },true)
 else if (p.s.V x.v.toNat).jail=true then ({ p with L:=z0Q p.L c { p.L c with done:=z3h (p.L c).done x.v } },true)
 else if p.ml<1 then (p,false)
 else ({ p with ml:=wrap64 (p.ml - z9F (p.s.V x.v.toNat)),s:=z4y p.s x.v.toNat true (p.s.V x.v.toNat).dead,L:=z0Q p.L c { p.L c with done:=z3h (p.L c).done x.v } },true)
structure QS where
 p:Pr
 wt:Nat->Bool
 left:List (Int×Pkt)
def z2e(z:QS)(a:Int×Pkt):QS:=
 if z.wt a.1.toNat=true then { z with left:=z.left ++ [a] }
 else if (z1F z.p a.1.toNat a.2).2=true then { z with p:=(z1F z.p a.1.toNat a.2).1 }
 else { z with wt:=fun i=>if i=a.1.toNat then true else z.wt i,left:=z.left ++ [a] }
def goQ(p:Pr):QS:=p.q.foldl z2e ⟨p,fun _=>false,[]⟩
def z0n(p:Pr):Pr:={ (goQ p).p with q:=(goQ p).left }
def z5k(p:Pr)(x:Lk):Bool:=!x.on || (decide (x.told=p.set) && !x.fresh && decide (x.done.length=0))
def z1g(p:Pr)(c:Nat):Pr:=
 if z5k p (p.L c)=true then p
 else if Cd.z0m 1 p.h 0 0 (Df.z3x (p.L c).told p.set) (p.L c).done=0 then
  if Ln.z5C (p.L c).out (p.t+40)=0 then { p with L:=z0Q p.L c { p.L c with out:=Ln.z5i (p.L c).out (Cd.encS 1 p.h 0 0 (Df.z3x (p.L c).told p.set) (p.L c).done) (p.t+40),told:=p.set,fresh:=false,done:=[] } } else p
 else p
def z0j(p:Pr)(now:Int):Pr:={ p with h:=p.h+1,t:=now,ml:=if now<p.mn then p.ml else Mt.alw (Df.z8x p.set),mn:=if now<p.mn then p.mn else wrap64 (now+10) }
def z2J(p:Pr)(now:Int):Pr:={ p with s:=z6k p.s now,set:=z8v (z6k p.s now).V }
def endP(p:Pr)(now:Int):Pr×List Int×Int:=
 if z0x p=true/\isT now=true/\p.t<=now then
  (z1g (z1g (z2J (z0n (z0j p now)) now) 0) 1,z2m now (z0n (z0j p now)).s.W,0)
 else (p,[],2)
def newP:Pr:=⟨0,0,j8w,[],fun _=>⟨false,false,0,[],false,[],⟨[],[],0,false⟩,0,0,0,0⟩,1,10,[]⟩
theorem z3V(n:Int)(w:World):Calls prog 76 #[.int .i64 n] w fun e w'=>e=.returned (.bool (isT n))/\w=w':=by
 have hT:isT n=(decide (0<=n) && decide (n<=1099511627776)):=rfl;generalize isT n=t at *;have HT:=hide hT;clear hT
 by_cases h:0<=n
 ·by_cases h2:n<=1099511627776
  ·have e:t=true:=by rw[HT.out];simp[h,h2]
   subst e
   go_enter func76,ntmps76
   go_wp2;go_ret;exact⟨rfl,rfl⟩
  ·have e:t=false:=by rw[HT.out];simp[h2]
   subst e
   go_enter func76,ntmps76
   go_wp2;go_ret;exact⟨rfl,rfl⟩
 ·have e:t=false:=by rw[HT.out];simp[h]
  subst e
  go_enter func76,ntmps76
  go_wp2;go_ret;exact⟨rfl,rfl⟩
theorem z3a(n:Int)(w:World):Calls prog 87 #[.int .i64 n] w fun e w'=>e=.returned (.bool (isC n))/\w=w':=by
 have hT:isC n=(decide (0<=n) && decide (n<2)):=rfl;generalize isC n=t at *;have HT:=hide hT;clear hT
 by_cases h:0<=n
 ·by_cases h2:n<2
  ·have e:t=true:=by rw[HT.out];simp[h,h2]
   subst e
   go_enter func87,ntmps87
   go_wp2;go_ret;exact⟨rfl,rfl⟩
  ·have e:t=false:=by rw[HT.out];simp[h2]
   subst e
   go_enter func87,ntmps87
   go_wp2;go_ret;exact⟨rfl,rfl⟩
 ·have e:t=false:=by rw[HT.out];simp[h]
  subst e
  go_enter func87,ntmps87
  go_wp2;go_ret;exact⟨rfl,rfl⟩
theorem z3G(v:Int)(w:World):Calls prog 80 #[.int .i64 v] w fun e w'=>e=.returned (.bool (isV v))/\w=w':=by
 have hT:isV v=decide (0<=v/\v<6):=rfl;generalize isV v=t at *;have HT:=hide hT;clear hT
 by_cases h:0<=v
 ·by_cases h2:v<6
  ·have e:t=true:=by rw[HT.out];simp[h,h2]
   subst e
   go_enter func80,ntmps80
   go_wp2;go_ret;exact⟨rfl,rfl⟩
  ·have e:t=false:=by rw[HT.out];simp[h2]
   subst e
   go_enter func80,ntmps80
   go_wp2;go_ret;exact⟨rfl,rfl⟩
 ·have e:t=false:=by rw[HT.out];simp[h]
  subst e
  go_enter func80,ntmps80
  go_wp2;go_ret;exact⟨rfl,rfl⟩
theorem y1f{c:Nat}(hc:c<2):isC (c:Int)=true:=by unfold isC;simp;omega
theorem z9B{c:Int}(h:isC c=true):∃ k:Nat,c=(k:Int)/\k<2:=by
 unfold isC at h;simp only[Bool.and_eq_true,decide_eq_true_eq]at h;exact⟨c.toNat,by omega,by omega⟩
theorem j9E{c:Int}(h:isV c=true):∃ k:Nat,c=(k:Int)/\k<6:=by
 have:=z3t.1 h;exact⟨c.toNat,by omega,by omega⟩
theorem z7Q(g:Nat)(p:Pr)(v:PrV)(w:World)(h:CAt 57 w g (prC p v))(h0:0<=p.h)(h1:p.h<=1099511627776):Calls prog 77 #[.pointer (some ⟨g,0,none⟩)] w fun e w'=>e=.returned (.int .i64 (p.h+1))/\w=w':=by
 have c0:w.cell? ⟨g,0,none⟩=some (.int .i64 p.h):=h.cell 0;clear h
 go_enter func77,ntmps77
 go_wp2;go_ret;exact⟨rfl,rfl⟩
theorem z6d(g:Nat)(p:Pr)(v:PrV)(c:Int)(w:World)(h:CAt 57 w g (prC p v)):Calls prog 103 #[.pointer (some ⟨g,0,none⟩),.int .i64 c] w fun e w'=>e=.returned (.bool (z9A p c))/\w=w':=by
 have hO:z9A p c=(isC c && (p.L c.toNat).on):=rfl;generalize z9A p c=o at *
 by_cases hc:isC c=true
 ·obtain⟨k,rfl,hk⟩:=z9B hc;rw[hc,Bool.true_and,Int.toNat_natCast]at hO
  have c0:w.cell? ⟨g,66+k * 14,none⟩=some (.bool (p.L k).on):=by
   have:=z3I (p:=p) (v:=v) k hk 0 (by omega)
   rw[Nat.add_zero]at this;exact (h.cell _).trans this
  have k0:(0:Int)<=(k:Int):=by omega
  have k2:(k:Int)<2:=by omega
  subst hO;generalize (p.L k).on=o at *;clear h
  go_enter func103,ntmps103
  go_wp2_with (go_at_call 87;refine (z3a _ _).mono ?_;rintro e w'⟨rfl,rfl⟩)
  go_ret;exact⟨rfl,rfl⟩
 ·have hc:isC c=false:=by simpa using hc
  rw[hc,Bool.false_and]at hO;subst hO;clear h
  go_enter func103,ntmps103
  go_wp2_with (go_at_call 87;refine (z3a _ _).mono ?_;rintro e w'⟨rfl,rfl⟩)
  go_ret;exact⟨rfl,rfl⟩
theorem z9M(l:List (Int×Int))(v:Value)(P:Nat->Prop)(w:World)(h:Rep P w v 2 16 (pwC l)):Calls prog 101 #[v] w fun e w'=>e=.returned (.bool (z2N (-1) l))/\Below w.heap.size w w':=by
 obtain⟨A,C,rfl,hs,-,hc,-⟩:=h.open (z0c _) (by decide)
 have HC:=hide hc;have hlen:l.length<=8796093022202:=by omega
 obtain⟨G,hG⟩:∃ G,z2N (-1) l=G:=⟨_,rfl⟩;have HG:=hide hG;rw[hG];clear hc h hs hG
 go_enter func101,ntmps101
 go_upto_region 3 with fail
 go_loopw [3,8] (fun s3 i wl=>∃ (k:Nat) (last:Int),k<=l.length/\i=.int .i64 (k:Int)/\s3=.int .i64 last/\-1<=last/\Hid (G=z2N last (l.drop k)/\Below w.heap.size w wl)) (fun _ i _=>l.length - (intOf i).toNat)
 case atStart=>exact⟨0,-1,Nat.zero_le _,rfl,rfl,by omega,HG.out.symm,Below.refl _ _⟩
 case round =>
  obtain⟨k,last,hk,rfl,rfl,hla,HR⟩:=hrel
  by_cases hlt:k<l.length
  ·have hkI:(k:Int)<(l.length:Int):=by omega
   obtain⟨x,hx,hd⟩:=z3H hlt;obtain⟨b,off,rfl,-,hbl,hcell⟩:=HC.out (by omega)
   have gx:l.getD k (0,0)=x:=by simp[List.getD,hx]
   obtain⟨p0,p1⟩:=z2h l k hlt;rw[gx]at p0 p1;have c0:wr.cell? ⟨b,off+k * 2,none⟩=some (.int .i64 x.1):=(HR.out.2.cell (p:=⟨b,off+k * 2,none⟩) hbl).trans (hcell _ _ p0);have c1:wr.cell? ⟨b,off+k * 2+1,none⟩=some (.int .i64 x.2):=(HR.out.2.cell (p:=⟨b,off+k * 2+1,none⟩) hbl).trans (hcell _ _ p1);have HE:Hid (G=(z8E last x && z2N x.1 (l.drop (k+1)))):=by have:=HR.out.1;rw[hd]at this;exact this
   have HB:=hide (HR.out.2.alloc HR.out.2.size (.cells #[.int .i64 x.1,.int .i64 x.2] 68));have HO:Hid (∀ last,z8E last x=(decide (last<x.1) && decide (x.1<=5) && decide (1<=x.2) && decide (x.2<=1125899906842624))):=fun _=>rfl;have hvI:Hid (isV x.1=decide (0<=x.1/\x.1<6)):=rfl;clear HR hd hx gx p0 p1 hcell;obtain⟨x1,x2⟩:=x;dsimp only at c0 c1 hvI
   by_cases h1:last<x1/\x1<=5/\1<=x2/\x2<=1125899906842624
   ·obtain⟨h1,h2,h3,h4⟩:=h1;have e:G=z2N x1 (l.drop (k+1)):=by rw[HE.out,HO.out];simp[h1,h2,h3,h4]
    have HE2:=hide e;have hv:isV x1=true:=by rw[hvI.out];simp;omega
    clear e HE
    go_wp2_with (go_at_call 80;refine (z3G _ _).mono ?_;rintro e w'⟨rfl,rfl⟩)
    first | exact⟨⟨k+1,x1,by omega,by go_num,rfl,by omega,HE2.out,HB.out⟩,by simp[intOf];omega⟩ | ((repeat apply Exists.intro);exact⟨⟨k+1,x1,by omega,by go_num,rfl,by omega,HE2.out,HB.out⟩,rfl⟩)
   ·have e:G=false:=by
     rw[HE.out,HO.out];simp only[Bool.and_eq_false_iff,decide_eq_false_iff_not]
     by_cases q1:last<x1
     ·by_cases q2:x1<=5
      ·by_cases q3:1<=x2
       ·exact .inl (.inr fun q4=>h1 ⟨q1,q2,q3,q4⟩)
       ·exact .inl (.inl (.inr q3))
      ·exact .inl (.inl (.inl (.inr q2)))
     ·exact .inl (.inl (.inl (.inl q1)))
    subst e;clear HE HG
    have hcs:¬ last<x1∨(last<x1/\isV x1=false)∨(last<x1/\isV x1=true/\¬ 1<=x2)∨(last<x1/\isV x1=true/\1<=x2/\¬ x2<=1125899906842624):=by
     by_cases q1:last<x1
     ·by_cases q2:x1<=5
      ·have hv:isV x1=true:=by rw[hvI.out];simp;omega
       by_cases q3:1<=x2
       ·exact .inr (.inr (.inr ⟨q1,hv,q3,fun q4=>h1 ⟨q1,q2,q3,q4⟩⟩))
       ·exact .inr (.inr (.inl ⟨q1,hv,q3⟩))
      ·have hv:isV x1=false:=by rw[hvI.out];simp;omega
       exact .inr (.inl ⟨q1,hv⟩)
     ·exact .inl q1
    clear h1
    rcases hcs with h1 | ⟨h1,h2⟩ | ⟨h1,h2,h3⟩ | ⟨h1,h2,h3,h4⟩
    all_goals
     go_wp2_with (go_at_call 80;refine (z3G _ _).mono ?_;rintro e w'⟨rfl,rfl⟩)
     go_ret;exact⟨rfl,HB.out⟩
  ·obtain rfl:k=l.length:=by omega
   have e:G=true:=by have:=HR.out.1;rw[List.drop_length]at this;exact this
   subst e;go_wp2;go_ret;exact⟨rfl,HR.out.2⟩
theorem q4P(l:List Int)(v:Value)(P:Nat->Prop)(w:World)(h:Rep P w v 1 8 (inC l)):Calls prog 144 #[v] w fun e w'=>e=.returned (.bool (z2g (-1) l))/\w=w':=by
 obtain⟨A,C,rfl,hs,-,hc,-⟩:=h.open (z0r _) (by decide)
 have HC:=hide hc;have hlen:l.length<=17592186044405:=by omega
 obtain⟨G,hG⟩:∃ G,z2g (-1) l=G:=⟨_,rfl⟩;have HG:=hide hG;rw[hG];clear hc h hs hG
 go_enter func144,ntmps144
 go_upto_region 3 with fail
 go_loop [3,8] (fun s3 i=>∃ (k:Nat) (last:Int),k<=l.length/\i=.int .i64 (k:Int)/\s3=.int .i64 last/\-1<=last/\Hid (G=z2g last (l.drop k))) (fun _ i=>l.length - (intOf i).toNat)
 case atStart=>exact⟨0,-1,Nat.zero_le _,rfl,rfl,by omega,HG.out.symm⟩
 case round =>
  obtain⟨k,last,hk,rfl,rfl,hla,HR⟩:=hrel
  by_cases hlt:k<l.length
  ·have hkI:(k:Int)<(l.length:Int):=by omega
   obtain⟨x,hx,hd⟩:=z3H hlt;obtain⟨b,off,rfl,-,hbl,hcell⟩:=HC.out (by omega)
   have gx:l.getD k 0=x:=by simp[List.getD,hx]
   have p0:=z4J l k hlt;rw[gx]at p0;have c0:w.cell? ⟨b,off+k,none⟩=some (.int .i64 x):=hcell _ _ p0;have HE:Hid (G=((decide (last<x) && decide (x<=5)) && z2g x (l.drop (k+1)))):=by have:=HR.out;rw[hd]at this;exact this
   have hvI:Hid (isV x=decide (0<=x/\x<6)):=rfl;clear HR hd hx gx p0 hcell
   by_cases h1:last<x/\x<=5
   ·obtain⟨h1,h2⟩:=h1;have e:G=z2g x (l.drop (k+1)):=by rw[HE.out];simp[h1,h2]
    have HE2:=hide e;have hv:isV x=true:=by rw[hvI.out];simp;omega
    clear e HE
    go_wp2_with (go_at_call 80;refine (z3G _ _).mono ?_;rintro e w'⟨rfl,rfl⟩)
    go_round
    case rel=>exact⟨k+1,x,by omega,by go_num,rfl,by omega,HE2⟩
    case measure=>simp[intOf];omega
   ·have e:G=false:=by
     rw[HE.out]
     have:(decide (last<x) && decide (x<=5))=false:=by
      rw[Bool.eq_false_iff];intro h;simp only[Bool.and_eq_true,decide_eq_true_eq]at h;exact h1 h
     rw[this,Bool.false_and]
    subst e;clear HE HG
    have hcs:¬ last<x∨(last<x/\isV x=false):=by
     by_cases q1:last<x
     ·have hv:isV x=false:=by rw[hvI.out];simp;omega
      exact .inr ⟨q1,hv⟩
     ·exact .inl q1
    clear h1
    rcases hcs with h1 | ⟨h1,h2⟩
    all_goals
     go_wp2_with (go_at_call 80;refine (z3G _ _).mono ?_;rintro e w'⟨rfl,rfl⟩)
     go_ret;exact⟨rfl,rfl⟩
  ·obtain rfl:k=l.length:=by omega
   have e:G=true:=by have:=HR.out;rw[List.drop_length]at this;exact this
   subst e;go_wp2;go_ret;exact⟨rfl,rfl⟩
end Pv
end Go.Proofs.YtmopekkhmhhcaaaGreat
