/- Parts of the proof. -/
import Derived.Test.YtmopekkhmhhcaaaGreatEL
import Derived.Test.YtmopekkhmhhcaaaGreatEK27
import Derived.Test.YtmopekkhmhhcaaaGreatEK40
import Derived.Deep.AppendLies
import Derived.ChangeAlike
set_option maxRecDepth 100000
set_option maxHeartbeats 16000000
namespace Go.Proofs.YtmopekkhmhhcaaaGreat
open Go.Proofs.Tryz
namespace Cd
open Go.RowKit
def z2B(w:World)(b:Nat)(k i v n s d:Value):Prop:=w.heap[b]?=some (.cells #[k,i,v,n,s,d] 70)
theorem z2B.cells{w:World}{b:Nat}{k i v n s d:Value}(h:z2B w b k i v n s d):w.cell? ⟨b,0,none⟩=some k/\w.cell? ⟨b,1,none⟩=some i/\w.cell? ⟨b,2,none⟩=some v/\w.cell? ⟨b,3,none⟩=some n/\w.cell? ⟨b,4,none⟩=some s/\w.cell? ⟨b,5,none⟩=some d/\(∀ o,w.frozen? ⟨b,o,none⟩=false):=by
 unfold z2B at h
 simp[World.cell?,World.frozen?,h]
theorem z2B.set{w:World}{b:Nat}{k i v n s d:Value}(h:z2B w b k i v n s d)(u:Value) :
  z2B (w.setCell ⟨b,0,none⟩ u) b u i v n s d/\z2B (w.setCell ⟨b,1,none⟩ u) b k u v n s d/\z2B (w.setCell ⟨b,2,none⟩ u) b k i u n s d/\z2B (w.setCell ⟨b,3,none⟩ u) b k i v u s d/\z2B (w.setCell ⟨b,4,none⟩ u) b k i v n u d/\z2B (w.setCell ⟨b,5,none⟩ u) b k i v n s u:=by
 unfold z2B at *
 simp[World.setCell,Array.getElem?_modify,h]
theorem z2B.lt{w:World}{b:Nat}{k i v n s d:Value}(h:z2B w b k i v n s d):b<w.heap.size:=(Array.getElem?_eq_some_iff.1 h).1
theorem z2B.keep{w w':World}{b:Nat}{k i v n s d:Value}{r:Option Nat}(h:z2B w b k i v n s d)(hg:w.grownBy w' r)(hne:some b≠r):z2B w' b k i v n s d:=(hg.block b h.lt hne).trans h
theorem TS.lt{w:World}{b:Nat}{st:List Int×Bool}(h:TS w b st):b<w.heap.size:=by obtain ⟨r,h,_⟩:=h;exact (Array.getElem?_eq_some_iff.1 h).1
theorem TS.keep{w w':World}{b:Nat}{st:List Int×Bool}{r:Option Nat}(h:TS w b st)(hg:w.grownBy w' r)(hne:some b≠r):TS w' b st:=by
 have hlt:=h.lt;obtain ⟨x,h,h2⟩:=h;exact ⟨x,(hg.block b hlt hne).trans h,h2⟩
def q0Z(w:World)(B:Nat)(v:Value)(l:List (Int×Int)):Prop:=w.ownsRow B 68 2 v l.length (l.flatMap fun p=>[Value.int .i64 p.1,Value.int .i64 p.2])
def Row1(w:World)(B:Nat)(v:Value)(l:List Int):Prop:=w.ownsRow B 3 1 v l.length (l.map (Value.int .i64))
def tkP:Nat->List Int×Bool->List (Int×Int)×(List Int×Bool)
 | 0,st=>([],st)
 | m+1,st=>(((tk 1 st).1,(tk 7 (tk 1 st).2).1) :: (tkP m (tk 7 (tk 1 st).2).2).1,(tkP m (tk 7 (tk 1 st).2).2).2)
def tkD:Nat->List Int×Bool->List Int×(List Int×Bool)
 | 0,st=>([],st)
 | m+1,st=>((tk 1 st).1 :: (tkD m (tk 1 st).2).1,(tkD m (tk 1 st).2).2)
theorem z2q(b:Nat)(st st':List Int×Bool)(x mi:Int)(m:Nat)(w:World)(hT:TS w b st)(hmi:mi=(m:Int))(hm:m<=7)(he:tk m st=(x,st')) :
  Calls prog 49 #[.pointer (some ⟨b,0,none⟩),.int .i64 mi] w fun e w'=>e=.returned (.int .i64 x)/\TS w' b st'/\w.grownBy w' (some b):=by
 subst hmi;have:=q5f b st m w hT hm;rw[he]at this;exact this
theorem z9Y{w w1 w2:World}{r:Option Nat}(h:w.grownBy w1 r)(k:∀ i,i<w.heap.size->some i≠r->w2.heap[i]?=w1.heap[i]?)(ho:w2.os=w1.os)(ht:w2.tape=w1.tape)(hu:w2.output=w1.output)(hs:w1.heap.size<=w2.heap.size):w.grownBy w2 r:=
 ⟨ho.trans h.os,ht.trans h.tape,hu.trans h.output,Nat.le_trans h.size hs,fun i hi hne=>(k i hi hne).trans (h.block i hi hne)⟩
theorem z2V{w w1:World}{r:Option Nat}{b o:Nat}{u:Value}(h:w.grownBy w1 r)(hb:w.heap.size<=b):w.grownBy (w1.setCell ⟨b,o,none⟩ u) r:=
 z9Y h (fun i hi _=>Below.heap_setCell _ _ _ _ (by simp;omega)) rfl rfl rfl (by simp[World.setCell])
structure PSt(w wl:World)(b:Nat)(st:List Int×Bool)(k i v n s d:Value):Prop where
 T:TS wl b st
 Bx:z2B wl (w.heap.size+1) k i v n s d
 Rs:z2B wl w.heap.size (.int .i64 0) (.int .i64 0) (.int .i64 0) (.int .i64 0) (.slice none 0 0) (.slice none 0 0)
 G:w.grownBy wl (some b)
 hb:b<w.heap.size
theorem PSt.num{w wl wl':World}{b:Nat}{st st':List Int×Bool}{k i v n s d:Value}(h:PSt w wl b st k i v n s d)(T':TS wl' b st')(g:wl.grownBy wl' (some b)):PSt w wl' b st' k i v n s d:=
 ⟨T',h.Bx.keep g (by intro e;cases e;have:=h.hb;omega),h.Rs.keep g (by intro e;cases e;have:=h.hb;omega),z4C h.G g,h.hb⟩
theorem TS.other{w:World}{b:Nat}{st:List Int×Bool}(h:TS w b st){c o:Nat}{u:Value}(hc:b≠c):TS (w.setCell ⟨c,o,none⟩ u) b st:=by
 obtain ⟨x,h,h2⟩:=h;exact ⟨x,(Below.heap_setCell _ _ _ _ hc).trans h,h2⟩
theorem PSt.set{w wl:World}{b:Nat}{st:List Int×Bool}{k i v n s d:Value}(h:PSt w wl b st k i v n s d)(u:Value) :
  PSt w (wl.setCell ⟨w.heap.size+1,0,none⟩ u) b st u i v n s d/\PSt w (wl.setCell ⟨w.heap.size+1,1,none⟩ u) b st k u v n s d/\PSt w (wl.setCell ⟨w.heap.size+1,2,none⟩ u) b st k i u n s d /\
  PSt w (wl.setCell ⟨w.heap.size+1,3,none⟩ u) b st k i v u s d/\PSt w (wl.setCell ⟨w.heap.size+1,4,none⟩ u) b st k i v n u d/\PSt w (wl.setCell ⟨w.heap.size+1,5,none⟩ u) b st k i v n s u:=by
 have hb:=h.hb;obtain ⟨x0,x1,x2,x3,x4,x5⟩:=h.Bx.set u;have hr:∀ o,z2B (wl.setCell ⟨w.heap.size+1,o,none⟩ u) w.heap.size (.int .i64 0) (.int .i64 0) (.int .i64 0) (.int .i64 0) (.slice none 0 0) (.slice none 0 0):=fun o=>(Below.heap_setCell _ _ _ _ (by simp)).trans h.Rs
 have ht:∀ o,TS (wl.setCell ⟨w.heap.size+1,o,none⟩ u) b st:=fun o=>h.T.other (by omega)
 have hg:∀ o,w.grownBy (wl.setCell ⟨w.heap.size+1,o,none⟩ u) (some b):=fun o=>z2V h.G (Nat.le_succ _);exact ⟨⟨ht _,x0,hr _,hg _,hb⟩,⟨ht _,x1,hr _,hg _,hb⟩,⟨ht _,x2,hr _,hg _,hb⟩,⟨ht _,x3,hr _,hg _,hb⟩,⟨ht _,x4,hr _,hg _,hb⟩,⟨ht _,x5,hr _,hg _,hb⟩⟩
theorem PSt.alloc{w wl:World}{b:Nat}{st:List Int×Bool}{k i v n s d:Value}(h:PSt w wl b st k i v n s d)(o:Obj):PSt w (wl.alloc o) b st k i v n s d:=
 have g:=World.grownBy_alloc wl o none
 ⟨h.T.keep g (by simp),h.Bx.keep g (by simp),h.Rs.keep g (by simp),z4C h.G (World.grownBy_alloc wl o _),h.hb⟩
theorem PSt.own{w wl wl':World}{b:Nat}{st:List Int×Bool}{k i v n s d:Value}{r:Option Nat}(h:PSt w wl b st k i v n s d)(g:wl.grownBy wl' r)(hr:∀ j,r=some j->w.heap.size+2<=j):PSt w wl' b st k i v n s d:=by
 have hb:=h.hb;have ne:∀ c,c<w.heap.size+2->some c≠r:=fun c hc e=>by have:=hr c e.symm;omega
 exact ⟨h.T.keep g (ne _ (by omega)),h.Bx.keep g (ne _ (by omega)),h.Rs.keep g (ne _ (by omega)),z9Y h.G (fun j hj _=>g.block j (Nat.lt_of_lt_of_le hj h.G.size) (ne j (by omega))) g.os g.tape g.output g.size,h.hb⟩
theorem PSt.big{w wl:World}{b:Nat}{st:List Int×Bool}{k i v n s d:Value}(h:PSt w wl b st k i v n s d):w.heap.size+2<=wl.heap.size:=h.Bx.lt
theorem z6U{w wl wl':World}{b e size m:Nat}{v:Value}{xs:List Value}(h:wl.ownsRow (w.heap.size+2) e size v m xs)(g:wl.grownBy wl' (some b))(hb:b<w.heap.size):wl'.ownsRow (w.heap.size+2) e size v m xs:=
 h.kept g (by
  cases hv:v.ownBlock with
  | none=>exact .inl rfl
  | some g=>right;intro e;cases e;have:=(h.lt _ hv).1;omega)
theorem z3L{w wl:World}{c o e size m:Nat}{v u:Value}{xs:List Value}(h:wl.ownsRow (w.heap.size+2) e size v m xs)(hc:c<w.heap.size+2):(wl.setCell ⟨c,o,none⟩ u).ownsRow (w.heap.size+2) e size v m xs:=
 h.kept (z3x _ _ _ _) (by
  cases hv:v.ownBlock with
  | none=>exact .inl rfl
  | some g=>right;intro e;cases e;have:=(h.lt _ hv).1;omega)
theorem z3h{w:World}{base e size n:Nat}{v:Value}{xs:List Value}(h:w.ownsRow base e size v n xs):∃ a c,v=.slice a n c:=by
 rcases h.2 with ⟨rfl,rfl⟩ | ⟨g,cap,_,rfl,_⟩
 ·exact ⟨_,_,rfl⟩
 ·exact ⟨_,_,rfl⟩
theorem z0C{ops:Array Oper}{o:Oper}{a:Act}{w:World}{K:Act->World->Prop}{Q:Exit->Act->World->Prop}{E:Prop}(hg:o.guard=none)(h:Oper.wp prog o a w K Q) :
  if Region.wanted o (yielded ops a.tmps)=true then Oper.wp prog o a w K Q else E:=by
 have hw:Region.wanted o (yielded ops a.tmps)=true:=by simp[Region.wanted,hg]
 rw[if_pos hw];exact h
theorem PSt.drew{w wl:World}{b:Nat}{st:List Int×Bool}{k i v n s d:Value}(h:PSt w wl b st k i v n s d):PSt w wl.drew b st k i v n s d:=
 ⟨h.T,h.Bx,h.Rs,⟨h.G.os,h.G.tape,h.G.output,h.G.size,h.G.block⟩,h.hb⟩
theorem q3n{wl:World}{base e size m:Nat}{v:Value}{xs:List Value}(h:wl.ownsRow base e size v m xs):wl.drew.ownsRow base e size v m xs:=h
theorem q3l{w wl:World}{c e size m:Nat}{v:Value}{xs:List Value}(v0 v1 v2 v3 v4 v5:Value)(h:wl.ownsRow (w.heap.size+2) e size v m xs)(hc:c<w.heap.size+2):(z3t wl c v0 v1 v2 v3 v4 v5).ownsRow (w.heap.size+2) e size v m xs:=
 z3L (z3L (z3L (z3L (z3L (z3L h hc) hc) hc) hc) hc) hc
theorem q4e{w wl:World}{c:Nat}{r:Option Nat}(v0 v1 v2 v3 v4 v5:Value)(h:w.grownBy wl r)(hc:w.heap.size<=c):w.grownBy (z3t wl c v0 v1 v2 v3 v4 v5) r:=
 z2V (z2V (z2V (z2V (z2V (z2V h hc) hc) hc) hc) hc) hc
theorem TS.z3t{w:World}{b c:Nat}{st:List Int×Bool}(v0 v1 v2 v3 v4 v5:Value)(h:TS w b st)(hc:b≠c):TS (z3t w c v0 v1 v2 v3 v4 v5) b st:=
 (((((h.other hc).other hc).other hc).other hc).other hc).other hc
theorem j5s(w:World)(x y:Value)(t:TypeId):∀ j u,[x,y][j]?=some u->(w.alloc (.cells #[x,y] t)).cell? ((⟨w.heap.size,0,none⟩:Addr).add j)=some u:=
 World.news_of_block (heap_alloc_new w (.cells #[x,y] t))
theorem q5J(b:Nat)(st s1 s2 s3 s4 s5 s6 s7 s8:List Int×Bool)(k i v n:Int)(cn dn:Nat)(Ps:List (Int×Int))(Ds:List Int)(w:World)(hT:TS w b st)
  (h1:tk 1 st=(k,s1)) (h2:tk 6 s1=(i,s2)) (h3:tk 1 s2=(v,s3)) (h4:tk 7 s3=(n,s4)) (h5:tk 1 s4=((cn:Int),s5)) (h6:tkP cn s5=(Ps,s6)) (h7:tk 1 s6=((dn:Int),s7)) (h8:tkD dn s7=(Ds,s8)) (hcn:cn<=255) (hdn:dn<=255) :
  Calls prog 33 #[.pointer (some ⟨b,0,none⟩)] w fun e w'=>∃ u d,e=.returned (.agg #[.int .i64 k,.int .i64 i,.int .i64 v,.int .i64 n,u,d])/\q0Z w' (w.heap.size+2) u Ps/\Row1 w' (w.heap.size+2) d Ds/\TS w' b s8/\w.grownBy w' (some b):=by
 obtain ⟨i0,hi,hz0,hz1,hz2⟩:=info_parts j7m;obtain ⟨j0,hj,jz0,jz1,jz2⟩:=info_parts info3;have hblt:=hT.lt;have X:Hid (tk 1 st=(k,s1)/\tk 6 s1=(i,s2)/\tk 1 s2=(v,s3)/\tk 7 s3=(n,s4)/\tk 1 s4=((cn:Int),s5)/\tkP cn s5=(Ps,s6)/\tk 1 s6=((dn:Int),s7)/\tkD dn s7=(Ds,s8)):=⟨h1,h2,h3,h4,h5,h6,h7,h8⟩;clear h1 h2 h3 h4 h5 h6 h7 h8
 have P0:PSt w ((w.alloc (.cells #[.int .i64 0,.int .i64 0,.int .i64 0,.int .i64 0,.slice none 0 0,.slice none 0 0] 70)).alloc (.cells #[.int .i64 0,.int .i64 0,.int .i64 0,.int .i64 0,.slice none 0 0,.slice none 0 0] 70)) b st (.int .i64 0) (.int .i64 0) (.int .i64 0) (.int .i64 0) (.slice none 0 0) (.slice none 0 0):=by
  have g1:=World.grownBy_alloc w (.cells #[.int .i64 0,.int .i64 0,.int .i64 0,.int .i64 0,.slice none 0 0,.slice none 0 0] 70) none;have g2:=World.grownBy_alloc (w.alloc (.cells #[.int .i64 0,.int .i64 0,.int .i64 0,.int .i64 0,.slice none 0 0,.slice none 0 0] 70)) (.cells #[.int .i64 0,.int .i64 0,.int .i64 0,.int .i64 0,.slice none 0 0,.slice none 0 0] 70) none;refine ⟨(hT.keep g1 (by simp)).keep g2 (by simp),?_,?_,z4C (World.grownBy_alloc _ _ _) (World.grownBy_alloc _ _ _),hblt⟩
  ·unfold z2B;have e:w.heap.size+1=(w.alloc (.cells #[.int .i64 0,.int .i64 0,.int .i64 0,.int .i64 0,.slice none 0 0,.slice none 0 0] 70)).heap.size:=by simp
   rw[e];exact heap_alloc_new _ _
  ·exact (Below.heap_alloc _ _ _ (by simp)).trans (heap_alloc_new _ _)
 clear hT
 go_enter func33,ntmps33
 go_wp2_with fail
 refine (z2q b st s1 k _ 1 _ P0.T rfl (by omega) X.out.1).mono ?_
 rintro e w1 ⟨rfl,hT1,hg1⟩;have P1:=P0.num hT1 hg1;clear hT1 hg1 P0;obtain ⟨c0,c1,c2,c3,c4,c5,cf⟩:=P1.Bx.cells
 go_wp2_with fail
 clear c0 c1 c2 c3 c4 c5 cf;have P1':=(P1.set (.int .i64 k)).1;refine (z2q b s1 s2 i _ 6 _ P1'.T rfl (by omega) X.out.2.1).mono ?_
 rintro e w2 ⟨rfl,hT2,hg2⟩;have P2:=P1'.num hT2 hg2;clear hT2 hg2 P1 P1';obtain ⟨c0,c1,c2,c3,c4,c5,cf⟩:=P2.Bx.cells
 go_wp2_with fail
 clear c0 c1 c2 c3 c4 c5 cf;have P2':=(P2.set (.int .i64 i)).2.1;refine (z2q b s2 s3 v _ 1 _ P2'.T rfl (by omega) X.out.2.2.1).mono ?_
 rintro e w3 ⟨rfl,hT3,hg3⟩;have P3:=P2'.num hT3 hg3;clear hT3 hg3 P2 P2';obtain ⟨c0,c1,c2,c3,c4,c5,cf⟩:=P3.Bx.cells
 go_wp2_with fail
 clear c0 c1 c2 c3 c4 c5 cf;have P3':=(P3.set (.int .i64 v)).2.2.1;refine (z2q b s3 s4 n _ 7 _ P3'.T rfl (by omega) X.out.2.2.2.1).mono ?_
 rintro e w4 ⟨rfl,hT4,hg4⟩;have P4:=P3'.num hT4 hg4;clear hT4 hg4 P3 P3';obtain ⟨c0,c1,c2,c3,c4,c5,cf⟩:=P4.Bx.cells
 go_wp2_with fail
 clear c0 c1 c2 c3 c4 c5 cf;have P4':=(P4.set (.int .i64 n)).2.2.2.1;refine (z2q b s4 s5 (cn:Int) _ 1 _ P4'.T rfl (by omega) X.out.2.2.2.2.1).mono ?_
 rintro e w5 ⟨rfl,hT5,hg5⟩;have P5:=P4'.num hT5 hg5;clear hT5 hg5 P4 P4'
 go_wp2_with fail
 go_loopw [20] (fun j wl=>∃ (m:Nat) (Pj:List (Int×Int)) (sj:List Int×Bool) (u:Value),m<=cn/\j=.int .i64 m/\PSt w wl b sj (.int .i64 k) (.int .i64 i) (.int .i64 v) (.int .i64 n) u (.slice none 0 0)/\q0Z wl (w.heap.size+2) u Pj/\Hid (Pj.length=m/\Pj ++ (tkP (cn - m) sj).1=Ps/\(tkP (cn - m) sj).2=s6)) (fun j _=>cn - (intOf j).toNat)
 case atStart =>
  refine ⟨0,[],s5,_,Nat.zero_le _,rfl,P5,World.ownsRow_nil _ _ _ _,rfl,?_,?_⟩
  ·have h6:=X.out.2.2.2.2.2.1
   simp[h6]
  ·have h6:=X.out.2.2.2.2.2.1
   simp[h6]
 case round =>
  obtain ⟨m,Pj,sj,u,hm,rfl,P6,hrow,HE⟩:=hrel;clear P5
  by_cases hlt:m<cn
  ·obtain ⟨f,hf⟩:∃ f,cn - m=f+1:=⟨cn - m - 1,by omega⟩
   have HE':=HE.out;rw[hf,tkP]at HE';obtain ⟨y,sa,hy⟩:∃ y sa,tk 1 sj=(y,sa):=⟨_,_,rfl⟩;obtain ⟨z,sc,hz⟩:∃ z sc,tk 7 sa=(z,sc):=⟨_,_,rfl⟩;rw[hy]at HE';dsimp only at HE';rw[hz]at HE';dsimp only at HE';have HT:Hid _:=HE';have HYZ:Hid (tk 1 sj=(y,sa)/\tk 7 sa=(z,sc)):=⟨hy,hz⟩;have hfc:f=cn - (m+1):=by omega
   have HFC:Hid (f=cn - (m+1)):=hfc;have hPl:Pj.length<=255:=by have:=HE.out.1;omega
   have HPm:Hid (Pj.length=m):=HE.out.1;clear HE HE' hy hz hf hfc
   go_wp2_with fail
   refine (z2q b sj sa y _ 1 _ P6.T rfl (by omega) HYZ.out.1).mono ?_
   rintro e wa ⟨rfl,hTa,hga⟩;have Pa:=P6.num hTa hga;have hra:q0Z wa (w.heap.size+2) u Pj:=z6U hrow hga hblt;clear hTa hga hrow P6
   go_wp2_with fail
   refine (z2q b sa sc z _ 7 _ Pa.T rfl (by omega) HYZ.out.2).mono ?_
   rintro e wb ⟨rfl,hTb,hgb⟩;have Pb:=Pa.num hTb hgb;have hrb:q0Z wb (w.heap.size+2) u Pj:=z6U hra hgb hblt;clear hTb hgb hra Pa;obtain ⟨c0,c1,c2,c3,c4,c5,cf⟩:=Pb.Bx.cells;obtain ⟨ua,uc,rfl⟩:=z3h hrb;have hbig:=Pb.big
   go_wp2_with (at_builtin;refine wpList_append_lies _ rfl _ _ 44 rfl (w.heap.size+2) 68 i0 (.agg #[.int .i64 0,.int .i64 0]) 2 16 underlying44 hi hz0 hz1 hz2 rfl (by decide) _ _ _ rfl (World.ownsRow.alloc hrb _) ⟨wb.heap.size,0,none⟩ 1 1 [.int .i64 y,.int .i64 z] rfl rfl ?_ ?_ (by decide) (by unfold maxLen;omega) (by omega) (by simp;omega) _ rfl ?_)
   ·exact j5s _ _ _ _
   ·intro u hu;simp at hu;rcases hu with rfl | rfl <;> rfl
   ·intro g cap wd hown hgrow _ _;have Pd:=(Pb.alloc (Obj.cells #[Value.int IntKind.i64 y,Value.int IntKind.i64 z] 68)).own hgrow (fun j hj=>(World.ownsRow.lt hrb j hj).1);have hrd:q0Z wd (w.heap.size+2) (.slice (some ⟨g,0,none⟩) (Pj.length+1) cap) (Pj ++ [(y,z)]):=by simpa [q0Z] using hown
    clear hown hgrow hrb c0 c1 c2 c3 c4 c5 cf Pb;obtain ⟨c0,c1,c2,c3,c4,c5,cf⟩:=Pd.Bx.cells;have HP:Hid _:=(Pd.set (.slice (some ⟨g,0,none⟩) (Pj.length+1) cap)).2.2.2.2.1;have HR:Hid _:=z3L (c:=w.heap.size+1) (o:=4) (u:=.slice (some ⟨g,0,none⟩) (Pj.length+1) cap) hrd (by omega)
    clear hrd Pd;go_wp2;clear c0 c1 c2 c3 c4 c5 cf;go_roundw
    case rel =>
     refine ⟨m+1,Pj ++ [(y,z)],sc,_,by omega,by go_num,HP.out,HR.out,by rw[List.length_append,HPm.out];rfl,?_,?_⟩
     ·rw[← HFC.out,List.append_assoc];exact HT.out.2.1
     ·rw[← HFC.out];exact HT.out.2.2
    case measure=>simp[intOf];omega
  ·have hmc:m=cn:=by omega
   subst hmc;have HE':=HE.out;rw[Nat.sub_self,tkP,List.append_nil]at HE';obtain ⟨hPm,rfl,rfl⟩:=HE';clear HE hPm
   go_wp2_with fail
   refine (z2q b sj s7 (dn:Int) _ 1 _ P6.T rfl (by omega) X.out.2.2.2.2.2.2.1).mono ?_
   rintro e w7 ⟨rfl,hT7,hg7⟩;have P7:=P6.num hT7 hg7;have hrow7:q0Z w7 (w.heap.size+2) u Pj:=z6U hrow hg7 hblt;clear hT7 hg7 P6 hrow;obtain ⟨ua,uc,rfl⟩:=z3h hrow7
   go_wp2_with fail
   go_loopw [37] (fun j wl=>∃ (q:Nat) (Dj:List Int) (sj:List Int×Bool) (d:Value),q<=dn/\j=.int .i64 q/\PSt w wl b sj (.int .i64 k) (.int .i64 i) (.int .i64 v) (.int .i64 n) (.slice ua Pj.length uc) d/\q0Z wl (w.heap.size+2) (.slice ua Pj.length uc) Pj/\Row1 wl (w.heap.size+2) d Dj /\
     Hid ((Value.slice ua Pj.length uc).ownBlock=none∨(Value.slice ua Pj.length uc).ownBlock≠d.ownBlock)/\Hid (Dj.length=q/\Dj ++ (tkD (dn - q) sj).1=Ds/\(tkD (dn - q) sj).2=s8)) (fun j _=>dn - (intOf j).toNat)
   case atStart =>
    have h8:=X.out.2.2.2.2.2.2.2;refine ⟨0,[],s7,_,Nat.zero_le _,rfl,P7,hrow7,World.ownsRow_nil _ _ _ _,?_,rfl,?_,?_⟩
    ·cases ua with
     | none=>exact .inl rfl
     | some x=>exact .inr (by simp[Value.ownBlock])
    ·simp[h8]
    ·simp[h8]
   case round =>
    obtain ⟨q,Dj,sj',d,hq,rfl,P8,hrow2,hrow1,HN,HE⟩:=hrel;clear P7 hrow7
    by_cases hlt:q<dn
    ·obtain ⟨f,hf⟩:∃ f,dn - q=f+1:=⟨dn - q - 1,by omega⟩
     have HE':=HE.out;rw[hf,tkD]at HE';obtain ⟨y,sa,hy⟩:∃ y sa,tk 1 sj'=(y,sa):=⟨_,_,rfl⟩;rw[hy]at HE';dsimp only at HE';have HT:Hid _:=HE';have HY:Hid (tk 1 sj'=(y,sa)):=hy;have hfc:f=dn - (q+1):=by omega
     have HFC:Hid (f=dn - (q+1)):=hfc;have hDl:Dj.length<=255:=by have:=HE.out.1;omega
     have HDm:Hid (Dj.length=q):=HE.out.1;clear HE HE' hy hf hfc;obtain ⟨c0,c1,c2,c3,c4,c5,cf⟩:=P8.Bx.cells;obtain ⟨xa,xc,rfl⟩:=z3h hrow1
     go_wp2_with fail
     have P8d:=P8.drew;have hr2d:q0Z wr.drew (w.heap.size+2) (.slice ua Pj.length uc) Pj:=q3n hrow2;have hr1d:Row1 wr.drew (w.heap.size+2) (.slice xa Dj.length xc) Dj:=q3n hrow1;clear P8 hrow2 hrow1
     go_region_law (first
      | (refine z0C rfl ?_;go_simp;go_at_call 49;refine (z2q b sj' sa y _ 1 _ P8d.T rfl (by omega) HY.out).mono ?_;rintro e we ⟨rfl,hTe,hge⟩;have Pe:=P8d.num hTe hge;have hr2e:q0Z we (w.heap.size+2) (.slice ua Pj.length uc) Pj:=z6U hr2d hge hblt;have hr1e:Row1 we (w.heap.size+2) (.slice xa Dj.length xc) Dj:=z6U hr1d hge hblt;have hce:=Pe.Bx.cells;have hbig:=Pe.big;have hbig1:w.heap.size+1<we.heap.size:=Pe.big;clear hTe hge)
      | (refine step_append_lies _ rfl _ _ 45 rfl (w.heap.size+2) 3 j0 (.int .i64 0) 1 8 underlying45 hj jz0 jz1 jz2 rfl (by decide) _ _ _ rfl (World.ownsRow.alloc hr1e _) ⟨we.heap.size,0,none⟩ 1 1 [.int .i64 y] rfl rfl (cell_one_new _ _ _) (by intro u hu;simp at hu;subst hu;rfl) (by decide) (by unfold maxLen;omega) (by omega) (by simp;omega) _ rfl ?_;intro g cap wf hown hgrow hat hglt;have Pf:=(Pe.alloc (Obj.cells #[Value.int IntKind.i64 y] 3)).own hgrow (fun j hj=>(World.ownsRow.lt hr1e j hj).1);have hcf:=Pf.Bx.cells))
     all_goals
      have hr2f:q0Z wf (w.heap.size+2) (.slice ua Pj.length uc) Pj:=World.ownsRow.kept (World.ownsRow.alloc hr2e _) hgrow HN.out;have hr1f:Row1 wf (w.heap.size+2) (.slice (some ⟨g,0,none⟩) (Dj.length+1) cap) (Dj ++ [y]):=by simpa [Row1] using hown
      have hNf:(Value.slice ua Pj.length uc).ownBlock=none∨(Value.slice ua Pj.length uc).ownBlock≠(Value.slice (some ⟨g,0,none⟩) (Dj.length+1) cap).ownBlock:=by
       rcases hat with h | h
       ·have e:(Value.slice (some ⟨g,0,none⟩) (Dj.length+1) cap).ownBlock=(Value.slice xa Dj.length xc).ownBlock:=h.symm;rw[e];exact HN.out
       ·right
        intro e;have e2:(Value.slice ua Pj.length uc).ownBlock=some g:=e;have:=(World.ownsRow.lt hr2e _ e2).2
        simp at h
        omega
      have HP:Hid _:=(Pf.set (.slice (some ⟨g,0,none⟩) (Dj.length+1) cap)).2.2.2.2.2;have HR2:Hid _:=z3L (c:=w.heap.size+1) (o:=5) (u:=.slice (some ⟨g,0,none⟩) (Dj.length+1) cap) hr2f (by omega)
      have HR1:Hid _:=z3L (c:=w.heap.size+1) (o:=5) (u:=.slice (some ⟨g,0,none⟩) (Dj.length+1) cap) hr1f (by omega)
      have HNf:Hid _:=hNf;clear hown hgrow hat hr2f hr1f hr2e hr1e hce hcf Pe Pf hNf hr2d hr1d P8d c0 c1 c2 c3 c4 c5 cf;go_wp2;go_roundw
      case rel =>
       refine ⟨q+1,Dj ++ [y],sa,_,by omega,by go_num,HP.out,HR2.out,HR1.out,HNf,by rw[List.length_append,HDm.out];rfl,?_,?_⟩
       ·rw[← HFC.out,List.append_assoc];exact HT.out.2.1
       ·rw[← HFC.out];exact HT.out.2.2
      case measure=>simp[intOf];omega
    ·have hqd:q=dn:=by omega
     subst hqd;have HE':=HE.out;rw[Nat.sub_self,tkD,List.append_nil]at HE';obtain ⟨hDm,rfl,rfl⟩:=HE';clear HE hDm;obtain ⟨xa,xc,rfl⟩:=z3h hrow1;obtain ⟨c0,c1,c2,c3,c4,c5,cf⟩:=P8.Bx.cells;obtain ⟨d0,d1,d2,d3,d4,d5,df⟩:=P8.Rs.cells
     have hex:∀ o,o<6->∃ u,wr.cell? ⟨w.heap.size,o,none⟩=some u:=fun o ho=>by
      match o,ho with
      | 0,_=>exact ⟨_,d0⟩
      | 1,_=>exact ⟨_,d1⟩
      | 2,_=>exact ⟨_,d2⟩
      | 3,_=>exact ⟨_,d3⟩
      | 4,_=>exact ⟨_,d4⟩
      | 5,_=>exact ⟨_,d5⟩
     have HEX:Hid _:=hex;clear hex;have HF:Hid (q0Z wr (w.heap.size+2) (.slice ua Pj.length uc) Pj/\Row1 wr (w.heap.size+2) (.slice xa Dj.length xc) Dj/\TS wr b sj'/\w.grownBy wr (some b)):=⟨hrow2,hrow1,P8.T,P8.G⟩;clear hrow2 hrow1 P8;go_wp2
     show bodyPost prog f33 _ Exit.ret _ (z3t wr w.heap.size (.int .i64 k) (.int .i64 i) (.int .i64 v) (.int .i64 n) (.slice ua Pj.length uc) (.slice xa Dj.length xc))
     obtain ⟨e0,e1,e2,e3,e4,e5⟩:=z4s (w:=wr) (b:=w.heap.size) (.int .i64 k) (.int .i64 i) (.int .i64 v) (.int .i64 n) (.slice ua Pj.length uc) (.slice xa Dj.length xc) HEX.out;have q2:q0Z (z3t wr w.heap.size (.int .i64 k) (.int .i64 i) (.int .i64 v) (.int .i64 n) (.slice ua Pj.length uc) (.slice xa Dj.length xc)) (w.heap.size+2) (.slice ua Pj.length uc) Pj:=q3l _ _ _ _ _ _ HF.out.1 (by omega)
     have q1:Row1 (z3t wr w.heap.size (.int .i64 k) (.int .i64 i) (.int .i64 v) (.int .i64 n) (.slice ua Pj.length uc) (.slice xa Dj.length xc)) (w.heap.size+2) (.slice xa Dj.length xc) Dj:=q3l _ _ _ _ _ _ HF.out.2.1 (by omega)
     have q3:=TS.z3t (c:=w.heap.size) (.int .i64 k) (.int .i64 i) (.int .i64 v) (.int .i64 n) (.slice ua Pj.length uc) (.slice xa Dj.length xc) HF.out.2.2.1 (by omega)
     have q4:=q4e (c:=w.heap.size) (.int .i64 k) (.int .i64 i) (.int .i64 v) (.int .i64 n) (.slice ua Pj.length uc) (.slice xa Dj.length xc) HF.out.2.2.2 (Nat.le_refl _);generalize z3t wr w.heap.size (.int .i64 k) (.int .i64 i) (.int .i64 v) (.int .i64 n) (.slice ua Pj.length uc) (.slice xa Dj.length xc)=w9 at *;exact bodyPost_ret (v:=.agg #[.int .i64 k,.int .i64 i,.int .i64 v,.int .i64 n,.slice ua Pj.length uc,.slice xa Dj.length xc]) (by simp[results,results33,go_sem,e0,e1,e2,e3,e4,e5]) rfl ⟨_,_,rfl,q2,q1,q3,q4⟩
end Cd
section
open Go.RowKit
theorem q9C:(prog.info? 82).map (fun i=>(i.zero,i.size,i.bytes))=some (some (.agg #[.int .i64 0,.int .i64 0,.int .i64 0,.int .i64 0,.int .i64 0,.int .i64 0,.int .i64 0,.int .i64 0]),8,64):=by kernel_rfl
def pwL:List Pw->List Value
 | []=>[]
 | x :: r=>.int .i64 x.1 :: .int .i64 x.2 :: pwL r
theorem z8p:∀ (a b:List Pw),pwL (a ++ b)=pwL a ++ pwL b
 | [],_=>rfl
 | x :: r,b=>by simp only[List.cons_append,pwL,z8p r b]
theorem q8N:∀ (l:List Pw) (i:Nat) (x:Pw),l[i]?=some x->(pwL l)[i * 2]?=some (.int .i64 x.1)/\(pwL l)[i * 2+1]?=some (.int .i64 x.2)
 | [],i,x,h=>by simp at h
 | y :: r,0,x,h=>by simp at h;subst h;exact ⟨rfl,rfl⟩
 | y :: r,i+1,x,h=>by
  have:=q8N r i x (by simpa using h)
  rw[show (i+1) * 2=i * 2+1+1 by omega]
  simpa [pwL] using this
theorem q8O:(prog.info? 68).map (fun i=>(i.zero,i.size,i.bytes))=some (some (.agg #[.int .i64 0,.int .i64 0]),2,16):=by kernel_rfl
def z5a(w:World)(B:Nat)(v:Value)(l:List Pw):Prop:=w.ownsRow B 68 2 v l.length (pwL l)
theorem z5a.nil(w:World)(B:Nat):z5a w B (.slice none 0 0) []:=⟨rfl,.inl ⟨rfl,rfl⟩⟩
theorem z5a.row{w:World}{B:Nat}{v:Value}{l:List Pw}(h:z5a w B v l):(v=.slice none 0 0/\l=[])∨∃ g cap,v=.slice (some ⟨g,0,none⟩) l.length cap/\B<=g/\z1M w g l/\l.length<=cap/\cap<=maxLen:=by
 obtain ⟨_,h⟩:=h
 rcases h with ⟨h1,h2⟩ | ⟨g,cap,cur,h1,h2,h3,h4,h5,h6,h7⟩
 ·exact .inl ⟨h1,List.length_eq_zero_iff.1 h2⟩
 ·refine .inr ⟨g,cap,h1,h2,⟨cur,h3,fun i x hx=>?_⟩,h4,h5⟩;obtain ⟨g1,g2⟩:=q8N l i x hx;have hi:=(List.getElem?_eq_some_iff.1 hx).1;rw[← h7,List.getElem?_take_of_lt (by omega)]at g1 g2
  exact ⟨by simpa using g1,by simpa using g2⟩
def j8V(w:World)(B:Nat)(v:Value)(l:List Pw):Prop:=(v=.slice none 0 0/\l=[])∨∃ g cap,v=.slice (some ⟨g,0,none⟩) l.length cap/\B<=g/\z1M w g l/\l.length<=cap/\cap<=maxLen
theorem q2f(w:World)(a b:Int)(t:TypeId):∀ j u,([.int .i64 a,.int .i64 b]:List Value)[j]?=some u->(w.alloc (.cells #[.int .i64 a,.int .i64 b] t)).cell? ((⟨w.heap.size,0,none⟩:Addr).add j)=some u:=by
 intro j u hj
 rcases j with _ | _ | j
 ·simp at hj;subst hj;simp[Addr.add]
 ·simp at hj;subst hj;simp[Addr.add]
 ·simp at hj
theorem z5a.append{w:World}{B:Nat}{v:Value}{l:List Pw}{x:Pw}{n:Nat}(h:w.ownsRow B 68 2 v n (pwL l ++ [.int .i64 x.1,.int .i64 x.2]))(hn:n=l.length+1):z5a w B v (l ++ [x]):=by
 unfold z5a;rw[List.length_append,z8p];subst hn;exact h
theorem z5a.own{w:World}{B:Nat}{v:Value}{l:List Pw}(h:z5a w B v l):∀ k,v.ownBlock=some k->B<=k:=by
 intro k hk
 rcases h.row with ⟨rfl,_⟩ | ⟨g,cap,rfl,hg,_⟩
 ·simp[Value.ownBlock]at hk
 ·simp[Value.ownBlock]at hk;omega
theorem z5a.grow{w w1:World}{B C:Nat}{v:Value}{l:List Pw}{a:World}{o:Obj}(h:z5a w B v l)(hb:Below C a w)(hg:(w.alloc o).grownBy w1 v.ownBlock)(hB:C<=B)(hs:B<=w.heap.size):Below C a w1:=
 (hb.alloc (Nat.le_trans hB hs) o).grown hg (by simp;omega) (fun k hk=>Nat.le_trans hB (h.own k hk))
theorem q1V(fv:Value)(w:World):Calls prog 179 #[.slice none 0 0,.int .i64 0,.int .i64 0,fv] w fun e w'=>e=.returned (.tuple #[])/\w=w':=by
 go_enter func179,ntmps179
 go_wp2
 go_loop [8] (fun i=>i=.int .i64 1) (fun _=>0)
 case atStart=>rfl
 case round =>
  subst hrel;go_wp2;go_end0;exact ⟨rfl,rfl⟩
theorem q4p(fv:Value)(w:World):Calls prog 117 #[.slice none 0 0,fv] w fun e w'=>e=.returned (.tuple #[])/\w=w':=by
 have hL:=q0m 0 (by omega) w
 have hP:∀ k,Calls prog 158 #[.slice none 0 0,.int .i64 0,.int .i64 0,.int .i64 k,fv] w fun e w'=>e=.returned (.tuple #[])/\w=w':=by
  intro k;have hI:=q1V fv w
  go_enter func158,ntmps158
  go_wp2_with fail
  go_loopw [1,2] (fun a b wl=>a=.int .i64 0/\b=.int .i64 0/\Hid (wl=w)) (fun _ _ _=>0)
  case atStart=>exact ⟨rfl,rfl,rfl⟩
  case round =>
   obtain ⟨rfl,rfl,HW⟩:=hrel;have e:=HW.out;subst e;clear HW
   go_wp2_with (go_at_call 179;refine hI.mono ?_;rintro e w1 ⟨rfl,h1⟩;have H1:=hide h1;clear h1)
   exact bodyPost_ret (v:=.tuple #[]) (by simp[results,results158]) rfl ⟨rfl,H1.out⟩
 go_enter func117,ntmps117
 go_wp2_with (first
  | (go_at_call 159;refine hL.mono ?_;rintro e w1 ⟨⟨k,rfl⟩,rfl⟩)
  | (go_at_call 158;refine (hP _).mono ?_;rintro e w2 ⟨rfl,h1⟩;have H1:=hide h1;clear h1))
 go_end0;exact ⟨rfl,H1.out⟩
end
namespace Df
open Go.RowKit
def QAt(w:World)(b:Nat)(P:Nat->Int):Prop:=w.heap[b]?=some (.cells #[.int .i64 (P 0),.int .i64 (P 1),.int .i64 (P 2),.int .i64 (P 3),.int .i64 (P 4),.int .i64 (P 5)] 39)
section
variable {w w':World} {b B:Nat} {P:Nat->Int}
theorem QAt.later(h:QAt w b P)(hb:Below B w w')(hB:b<B):QAt w' b P:=(hb.block b hB).trans h
theorem QAt.new(w:World)(P:Nat->Int):QAt (w.alloc (.cells #[.int .i64 (P 0),.int .i64 (P 1),.int .i64 (P 2),.int .i64 (P 3),.int .i64 (P 4),.int .i64 (P 5)] 39)) w.heap.size P:=heap_alloc_new _ _
theorem QAt.lt(h:QAt w b P):b<w.heap.size:=(Array.getElem?_eq_some_iff.1 h).1
theorem QAt.alloc(h:QAt w b P)(o:Obj):QAt (w.alloc o) b P:=(Below.heap_alloc _ _ _ h.lt).trans h
theorem QAt.facts(h:QAt w b P):(w.cell? ⟨b,0,none⟩=some (.int .i64 (P 0))/\w.cell? ⟨b,1,none⟩=some (.int .i64 (P 1))/\w.cell? ⟨b,2,none⟩=some (.int .i64 (P 2))/\w.cell? ⟨b,3,none⟩=some (.int .i64 (P 3))/\w.cell? ⟨b,4,none⟩=some (.int .i64 (P 4))/\w.cell? ⟨b,5,none⟩=some (.int .i64 (P 5)))/\(∀ k,w.frozen? ⟨b,k,none⟩=false):=by
 unfold QAt at h
 simp[World.cell?,World.frozen?,h]
theorem QAt.one(h:QAt w b P){k:Nat}(hk:k<6):w.cell? ⟨b,k,none⟩=some (.int .i64 (P k)):=by
 obtain ⟨⟨h0,h1,h2,h3,h4,h5⟩,-⟩:=h.facts
 rcases (show k=0∨k=1∨k=2∨k=3∨k=4∨k=5 by omega) with rfl | rfl | rfl | rfl | rfl | rfl <;> assumption
theorem QAt.put(h:QAt w b P){k:Nat}(hk:k<6)(n:Int):QAt (w.setCell ⟨b,k,none⟩ (.int .i64 n)) b (q5M P ((k:Int),n)):=by
 unfold QAt at *;simp only[z4m hk]
 rcases (show k=0∨k=1∨k=2∨k=3∨k=4∨k=5 by omega) with rfl | rfl | rfl | rfl | rfl | rfl <;> simp[World.setCell,Array.getElem?_modify,h]
end
theorem z3x(w:World)(b k:Nat)(u:Value)(o:Obj):w.grownBy ((w.setCell ⟨b,k,none⟩ u).alloc o).drew (some b):=
 have h:=(Below.refl 0 w).setCell (p:=⟨b,k,none⟩) (Nat.zero_le _) u
 ⟨h.os,h.tape,h.output,by show w.heap.size<=((w.setCell ⟨b,k,none⟩ u).alloc o).heap.size;simp,fun j hj hne=>(Below.heap_alloc (w.setCell ⟨b,k,none⟩ u) o j (by simpa using hj)).trans (Below.heap_setCell _ _ _ _ (fun e=>hne (by rw[e])))⟩
theorem z4J{w w1:World}{b:Nat}(h:w.grownBy w1 (some b)){B:Nat}(hB:B<=b)(hz:B<=w.heap.size):Below B w w1:=(Below.refl B w).grown h hz (fun k hk=>by cases hk;exact hB)
theorem z6Z(b:Nat)(v n:Int)(P:Nat->Int)(w:World)(h:QAt w b P) :
  Calls prog 32 #[.pointer (some ⟨b,0,none⟩),.agg #[.int .i64 v,.int .i64 n]] w fun e w'=>e=.returned (.tuple #[])/\QAt w' b (q5M P (v,n))/\w.grownBy w' (some b):=by
 have hV:=z6N v;have h1:=h.alloc (.cells #[.int .i64 v,.int .i64 n] 68);have hg1:=World.grownBy_alloc w (.cells #[.int .i64 v,.int .i64 n] 68) (some b);have hlt:=h.lt
 by_cases hv:0<=v/\v<6
 ·obtain ⟨k,rfl⟩:=Int.eq_ofNat_of_zero_le hv.1;have hk:k<6:=by omega
  have hkI:(k:Int)<6:=by omega
  rw[show isV (k:Int)=true from z2N.2 hv]at hV;have hc:=h.one hk;have hf:=h.facts.2 k;have HQ:=hide (show _/\_ from ⟨(h.put hk n).alloc (.cells #[.int .i64 (k:Int),.int .i64 n] 68),z3x w b k (.int .i64 n) (.cells #[.int .i64 (k:Int),.int .i64 n] 68)⟩);clear h1 hg1 hv h
  go_enter func32,ntmps32
  go_upto_region 2 with (go_at_call 48;refine (hV _).mono ?_;rintro e w1 ⟨rfl,rfl⟩)
  go_region
  all_goals go_end0
  all_goals exact ⟨rfl,HQ.out.1,HQ.out.2⟩
 ·rw[show isV v=false by simpa [isV] using hv]at hV
  have hp:q5M P (v,n)=P:=by unfold q5M;rw[if_neg hv]
  rw[hp]
  go_enter func32,ntmps32
  go_wp2_with (go_at_call 48;refine (hV _).mono ?_;rintro e w1 ⟨rfl,rfl⟩)
  go_end0;exact ⟨rfl,h1,hg1⟩
structure PIn(w:World)(l:List Pw)(ao:Option Addr)(b off:Nat):Prop where
 len:l.length<=8796093022202
 adr:0<l.length->ao=some ⟨b,off,none⟩
 cells:∀ i,i<l.length->w.cell? ⟨b,off+i * 2,none⟩=some (.int .i64 (l.getD i (0,0)).1)/\w.cell? ⟨b,off+i * 2+1,none⟩=some (.int .i64 (l.getD i (0,0)).2)
theorem PIn.ltB{w:World}{l:List Pw}{ao:Option Addr}{b off:Nat}(h:PIn w l ao b off)(h0:0<l.length):b<w.heap.size:=World.block_lt_of_cell? w _ (h.cells 0 h0).1
theorem PIn.later{B:Nat}{w w':World}{l:List Pw}{ao:Option Addr}{b off:Nat}(h:PIn w l ao b off)(hb:Below B w w')(hB:0<l.length->b<B):PIn w' l ao b off:=
 ⟨h.len,h.adr,fun i hi=>⟨(hb.cell (p:=⟨b,off+i * 2,none⟩) (hB (by omega))).trans (h.cells i hi).1,(hb.cell (p:=⟨b,off+i * 2+1,none⟩) (hB (by omega))).trans (h.cells i hi).2⟩⟩
theorem PIn.over{w w':World}{l:List Pw}{ao:Option Addr}{b off:Nat}(h:PIn w l ao b off)(hb:Below w.heap.size w w'):PIn w' l ao b off:=h.later hb h.ltB
def z3t(w:World)(b:Nat)(v0 v1 v2 v3 v4 v5:Value):World:=(((((w.setCell ⟨b,0,none⟩ v0).setCell ⟨b,1,none⟩ v1).setCell ⟨b,2,none⟩ v2).setCell ⟨b,3,none⟩ v3).setCell ⟨b,4,none⟩ v4).setCell ⟨b,5,none⟩ v5
theorem j3k{w:World}{b:Nat}{R:Nat->Int}(h:QAt w b R)(P:Nat->Int):QAt (z3t w b (.int .i64 (P 0)) (.int .i64 (P 1)) (.int .i64 (P 2)) (.int .i64 (P 3)) (.int .i64 (P 4)) (.int .i64 (P 5))) b P:=by
 unfold QAt z3t at *
 simp[World.setCell,Array.getElem?_modify,h]
theorem z3v{B:Nat}{w0 w:World}{b:Nat}(v0 v1 v2 v3 v4 v5:Value)(h:Below B w0 w)(hB:B<=b):Below B w0 (z3t w b v0 v1 v2 v3 v4 v5):=(((((h.setCell hB _).setCell hB _).setCell hB _).setCell hB _).setCell hB _).setCell hB _
theorem q0I(l:List Pw)(ao:Option Addr)(c b off:Nat)(w:World)(hl:PIn w l ao b off) :
  Calls prog 161 #[.slice ao l.length c] w fun e w'=>e=.returned (.agg #[.int .i64 (z2v l 0),.int .i64 (z2v l 1),.int .i64 (z2v l 2),.int .i64 (z2v l 3),.int .i64 (z2v l 4),.int .i64 (z2v l 5)])/\Below w.heap.size w w':=by
 have hlen:=hl.len;have HL:=hide hl;have Q1:=(QAt.new w z3F).alloc (.cells #[.int .i64 0,.int .i64 0,.int .i64 0,.int .i64 0,.int .i64 0,.int .i64 0] 39);have Q2:=QAt.new (w.alloc (.cells #[.int .i64 0,.int .i64 0,.int .i64 0,.int .i64 0,.int .i64 0,.int .i64 0] 39)) z3F;rw[show (w.alloc (.cells #[.int .i64 0,.int .i64 0,.int .i64 0,.int .i64 0,.int .i64 0,.int .i64 0] 39)).heap.size=w.heap.size+1 by simp]at Q2
 have BW:Below w.heap.size w ((w.alloc (.cells #[.int .i64 0,.int .i64 0,.int .i64 0,.int .i64 0,.int .i64 0,.int .i64 0] 39)).alloc (.cells #[.int .i64 0,.int .i64 0,.int .i64 0,.int .i64 0,.int .i64 0,.int .i64 0] 39)):=(znw w _).alloc (by simp) _
 dsimp only [z3F]at Q1 Q2;clear hl
 go_enter func161,ntmps161
 go_upto_region 2 with fail
 generalize ((w.alloc (.cells #[.int .i64 0,.int .i64 0,.int .i64 0,.int .i64 0,.int .i64 0,.int .i64 0] 39)).alloc (.cells #[.int .i64 0,.int .i64 0,.int .i64 0,.int .i64 0,.int .i64 0,.int .i64 0] 39))=w0 at *;have HX:=hide (show _/\_/\_ from ⟨Q1,Q2,BW⟩);clear Q1 Q2 BW
 go_upto_region 3 with fail
 go_loopw [4] (fun i wl=>∃ k:Nat,k<=l.length/\i=.int .i64 ((k:Int) - 1)/\Hid (QAt wl w.heap.size (fun _=>0)/\QAt wl (w.heap.size+1) (z2v (l.drop k))/\Below w.heap.size w wl)) (fun i _=>(intOf i+1).toNat)
 case atStart=>exact ⟨l.length,Nat.le_refl _,rfl,HX.out.1,by rw[List.drop_length];exact HX.out.2.1,HX.out.2.2⟩
 case round =>
  obtain ⟨k,hk,rfl,HR⟩:=hrel;clear HX
  by_cases h0:0<k
  ·obtain ⟨j,rfl⟩:∃ j,k=j+1:=⟨k - 1,by omega⟩
   have hj:j<l.length:=by omega
   have hjI:(j:Int)<(l.length:Int):=by omega
   obtain ⟨c0,c1⟩:=(HL.out.later HR.out.2.2 HL.out.ltB).cells j hj;have HS:=hide (q4C l j hj);have eao:=HL.out.adr (by omega)
   subst eao;generalize l.getD j (0,0)=x at *;obtain ⟨v,n⟩:=x;dsimp only at c0 c1;have ej:(((j+1:Nat):Int) - 1)=(j:Int):=by omega
   rw[ej]
   go_wp2_with (go_at_call 32;refine (z6Z (w.heap.size+1) v n _ _ HR.out.2.1).mono ?_;rintro e w1 ⟨rfl,hq,hg⟩;have HQ:=hide hq;have HG:=hide hg;clear hq hg)
   refine ⟨⟨j,by omega,rfl,(HG.out.block _ HR.out.1.lt (by simp)).trans HR.out.1,by rw[HS.out];exact HQ.out,HR.out.2.2.trans (z4J HG.out (by omega) HR.out.2.2.size)⟩,by simp[intOf]⟩
  ·obtain rfl:k=0:=by omega
   have hF:z2v (l.drop 0)=z2v l:=by rw[List.drop_zero]
   rw[hF]at HR;obtain ⟨F,hFl⟩:∃ F,z2v l=F:=⟨_,rfl⟩;rw[hFl]at HR;have HFL:=hide hFl;clear hF hFl;obtain ⟨⟨c0,c1,c2,c3,c4,c5⟩,-⟩:=HR.out.2.1.facts;obtain ⟨⟨d0,d1,d2,d3,d4,d5⟩,hfr⟩:=HR.out.1.facts;go_wp2;have HQ:=j3k HR.out.1 F;have HB:=z3v (b:=w.heap.size) (.int .i64 (F 0)) (.int .i64 (F 1)) (.int .i64 (F 2)) (.int .i64 (F 3)) (.int .i64 (F 4)) (.int .i64 (F 5)) HR.out.2.2 (Nat.le_refl _)
   show bodyPost prog f161 _ Exit.ret _ (z3t wr w.heap.size (.int .i64 (F 0)) (.int .i64 (F 1)) (.int .i64 (F 2)) (.int .i64 (F 3)) (.int .i64 (F 4)) (.int .i64 (F 5)))
   generalize z3t wr w.heap.size (.int .i64 (F 0)) (.int .i64 (F 1)) (.int .i64 (F 2)) (.int .i64 (F 3)) (.int .i64 (F 4)) (.int .i64 (F 5))=w9 at *;obtain ⟨⟨z0,z1,z2,z3,z4,z5⟩,-⟩:=HQ.facts;exact bodyPost_ret (v:=.agg #[.int .i64 (F 0),.int .i64 (F 1),.int .i64 (F 2),.int .i64 (F 3),.int .i64 (F 4),.int .i64 (F 5)]) (by simp[results,results161,go_sem,z0,z1,z2,z3,z4,z5]) rfl ⟨by rw[HFL.out],HB⟩
end Df
end Go.Proofs.YtmopekkhmhhcaaaGreat
