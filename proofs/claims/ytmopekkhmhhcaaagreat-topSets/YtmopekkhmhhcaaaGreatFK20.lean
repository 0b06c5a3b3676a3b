/- Parts of the proof. -/
import Derived.Test.YtmopekkhmhhcaaaGreatFL
import Derived.Test.YtmopekkhmhhcaaaGreatFK27
set_option maxRecDepth 100000
set_option maxHeartbeats 16000000
namespace Go.Proofs.YtmopekkhmhhcaaaGreat
open Go.Proofs.Tryz
namespace Cd
open Go.RowKit
def z2R(w:World)(b:Nat)(k i v n s d:Value):Prop:=w.heap[b]?=some (.cells #[k,i,v,n,s,d] 70)
theorem z2R.cells{w:World}{b:Nat}{k i v n s d:Value}(h:z2R w b k i v n s d):w.cell? ⟨b,0,none⟩=some k/\w.cell? ⟨b,1,none⟩=some i/\w.cell? ⟨b,2,none⟩=some v/\w.cell? ⟨b,3,none⟩=some n/\w.cell? ⟨b,4,none⟩=some s/\w.cell? ⟨b,5,none⟩=some d/\(∀ o,w.frozen? ⟨b,o,none⟩=false):=by
 unfold z2R at h
 simp[World.cell?,World.frozen?,h]
theorem z2R.set{w:World}{b:Nat}{k i v n s d:Value}(h:z2R w b k i v n s d)(u:Value) :
  z2R (w.setCell ⟨b,0,none⟩ u) b u i v n s d/\z2R (w.setCell ⟨b,1,none⟩ u) b k u v n s d/\z2R (w.setCell ⟨b,2,none⟩ u) b k i u n s d/\z2R (w.setCell ⟨b,3,none⟩ u) b k i v u s d/\z2R (w.setCell ⟨b,4,none⟩ u) b k i v n u d/\z2R (w.setCell ⟨b,5,none⟩ u) b k i v n s u:=by
 unfold z2R at *
 simp[World.setCell,Array.getElem?_modify,h]
theorem z2R.lt{w:World}{b:Nat}{k i v n s d:Value}(h:z2R w b k i v n s d):b<w.heap.size:=(Array.getElem?_eq_some_iff.1 h).1
theorem z2R.keep{w w':World}{b:Nat}{k i v n s d:Value}{r:Option Nat}(h:z2R w b k i v n s d)(hg:w.grownBy w' r)(hne:some b≠r):z2R w' b k i v n s d:=(hg.block b h.lt hne).trans h
theorem TS.lt{w:World}{b:Nat}{st:List Int×Bool}(h:TS w b st):b<w.heap.size:=by obtain⟨r,h,_⟩:=h;exact (Array.getElem?_eq_some_iff.1 h).1
theorem TS.keep{w w':World}{b:Nat}{st:List Int×Bool}{r:Option Nat}(h:TS w b st)(hg:w.grownBy w' r)(hne:some b≠r):TS w' b st:=by
 have hlt:=h.lt;obtain⟨x,h,h2⟩:=h;exact⟨x,(hg.block b hlt hne).trans h,h2⟩
def q1X(w:World)(B:Nat)(v:Value)(l:List (Int×Int)):Prop:=w.ownsRow B 68 2 v l.length (l.flatMap fun p=>[Value.int .i64 p.1,Value.int .i64 p.2])
def Row1(w:World)(B:Nat)(v:Value)(l:List Int):Prop:=w.ownsRow B 3 1 v l.length (l.map (Value.int .i64))
def tkP:Nat->List Int×Bool->List (Int×Int)×(List Int×Bool)
 | 0,st=>([],st)
 | m+1,st=>(((tk 1 st).1,(tk 7 (tk 1 st).2).1) :: (tkP m (tk 7 (tk 1 st).2).2).1,(tkP m (tk 7 (tk 1 st).2).2).2)
def tkD:Nat->List Int×Bool->List Int×(List Int×Bool)
 | 0,st=>([],st)
 | m+1,st=>((tk 1 st).1 :: (tkD m (tk 1 st).2).1,(tkD m (tk 1 st).2).2)
theorem z2H(b:Nat)(st st':List Int×Bool)(x mi:Int)(m:Nat)(w:World)(hT:TS w b st)(hmi:mi=(m:Int))(hm:m<=7)(he:tk m st=(x,st')) :
  Calls prog 49 #[.pointer (some ⟨b,0,none⟩),.int .i64 mi] w fun e w'=>e=.returned (.int .i64 x)/\TS w' b st'/\w.grownBy w' (some b):=by
 subst hmi;have:=q5h b st m w hT hm;rw[he]at this;exact this
theorem q1S{w w1 w2:World}{r:Option Nat}(h:w.grownBy w1 r)(k:∀ i,i<w.heap.size->some i≠r->w2.heap[i]?=w1.heap[i]?)(ho:w2.os=w1.os)(ht:w2.tape=w1.tape)(hu:w2.output=w1.output)(hs:w1.heap.size<=w2.heap.size):w.grownBy w2 r:=
 ⟨ho.trans h.os,ht.trans h.tape,hu.trans h.output,Nat.le_trans h.size hs,fun i hi hne=>(k i hi hne).trans (h.block i hi hne)⟩
theorem z3w{w w1:World}{r:Option Nat}{b o:Nat}{u:Value}(h:w.grownBy w1 r)(hb:w.heap.size<=b):w.grownBy (w1.setCell ⟨b,o,none⟩ u) r:=
 q1S h (fun i hi _=>Below.heap_setCell _ _ _ _ (by simp;omega)) rfl rfl rfl (by simp[World.setCell])
structure PSt(w wl:World)(b:Nat)(st:List Int×Bool)(k i v n s d:Value):Prop where
 T:TS wl b st
 Bx:z2R wl (w.heap.size+1) k i v n s d
 Rs:z2R wl w.heap.size (.int .i64 0) (.int .i64 0) (.int .i64 0) (.int .i64 0) (.slice none 0 0) (.slice none 0 0)
 G:w.grownBy wl (some b)
 hb:b<w.heap.size
theorem PSt.num{w wl wl':World}{b:Nat}{st st':List Int×Bool}{k i v n s d:Value}(h:PSt w wl b st k i v n s d)(T':TS wl' b st')(g:wl.grownBy wl' (some b)):PSt w wl' b st' k i v n s d:=
 ⟨T',h.Bx.keep g (by intro e;cases e;have:=h.hb;omega),h.Rs.keep g (by intro e;cases e;have:=h.hb;omega),z4W h.G g,h.hb⟩
theorem TS.other{w:World}{b:Nat}{st:List Int×Bool}(h:TS w b st){c o:Nat}{u:Value}(hc:b≠c):TS (w.setCell ⟨c,o,none⟩ u) b st:=by
 obtain⟨x,h,h2⟩:=h;exact⟨x,(Below.heap_setCell _ _ _ _ hc).trans h,h2⟩
theorem PSt.set{w wl:World}{b:Nat}{st:List Int×Bool}{k i v n s d:Value}(h:PSt w wl b st k i v n s d)(u:Value) :
  PSt w (wl.setCell ⟨w.heap.size+1,0,none⟩ u) b st u i v n s d/\PSt w (wl.setCell ⟨w.heap.size+1,1,none⟩ u) b st k u v n s d/\PSt w (wl.setCell ⟨w.heap.size+1,2,none⟩ u) b st k i u n s d /\
  PSt w (wl.setCell ⟨w.heap.size+1,3,none⟩ u) b st k i v u s d/\PSt w (wl.setCell ⟨w.heap.size+1,4,none⟩ u) b st k i v n u d/\PSt w (wl.setCell ⟨w.heap.size+1,5,none⟩ u) b st k i v n s u:=by
 have hb:=h.hb;obtain⟨x0,x1,x2,x3,x4,x5⟩:=h.Bx.set u;have hr:∀ o,z2R (wl.setCell ⟨w.heap.size+1,o,none⟩ u) w.heap.size (.int .i64 0) (.int .i64 0) (.int .i64 0) (.int .i64 0) (.slice none 0 0) (.slice none 0 0):=fun o=>(Below.heap_setCell _ _ _ _ (by simp)).trans h.Rs
 have ht:∀ o,TS (wl.setCell ⟨w.heap.size+1,o,none⟩ u) b st:=fun o=>h.T.other (by omega)
 have hg:∀ o,w.grownBy (wl.setCell ⟨w.heap.size+1,o,none⟩ u) (some b):=fun o=>z3w h.G (Nat.le_succ _);exact⟨⟨ht _,x0,hr _,hg _,hb⟩,⟨ht _,x1,hr _,hg _,hb⟩,⟨ht _,x2,hr _,hg _,hb⟩,⟨ht _,x3,hr _,hg _,hb⟩,⟨ht _,x4,hr _,hg _,hb⟩,⟨ht _,x5,hr _,hg _,hb⟩⟩
theorem PSt.alloc{w wl:World}{b:Nat}{st:List Int×Bool}{k i v n s d:Value}(h:PSt w wl b st k i v n s d)(o:Obj):PSt w (wl.alloc o) b st k i v n s d:=
 have g:=World.grownBy_alloc wl o none
 ⟨h.T.keep g (by simp),h.Bx.keep g (by simp),h.Rs.keep g (by simp),z4W h.G (World.grownBy_alloc wl o _),h.hb⟩
theorem PSt.own{w wl wl':World}{b:Nat}{st:List Int×Bool}{k i v n s d:Value}{r:Option Nat}(h:PSt w wl b st k i v n s d)(g:wl.grownBy wl' r)(hr:∀ j,r=some j->w.heap.size+2<=j):PSt w wl' b st k i v n s d:=by
 have hb:=h.hb;have ne:∀ c,c<w.heap.size+2->some c≠r:=fun c hc e=>by have:=hr c e.symm;omega
 exact⟨h.T.keep g (ne _ (by omega)),h.Bx.keep g (ne _ (by omega)),h.Rs.keep g (ne _ (by omega)),q1S h.G (fun j hj _=>g.block j (Nat.lt_of_lt_of_le hj h.G.size) (ne j (by omega))) g.os g.tape g.output g.size,h.hb⟩
theorem PSt.big{w wl:World}{b:Nat}{st:List Int×Bool}{k i v n s d:Value}(h:PSt w wl b st k i v n s d):w.heap.size+2<=wl.heap.size:=h.Bx.lt
theorem z8m{w wl wl':World}{b e size m:Nat}{v:Value}{xs:List Value}(h:wl.ownsRow (w.heap.size+2) e size v m xs)(g:wl.grownBy wl' (some b))(hb:b<w.heap.size):wl'.ownsRow (w.heap.size+2) e size v m xs:=
 h.kept g (by
  cases hv:v.ownBlock with
  | none=>exact .inl rfl
  | some g=>right;intro e;cases e;have:=(h.lt _ hv).1;omega)
theorem z4k{w wl:World}{c o e size m:Nat}{v u:Value}{xs:List Value}(h:wl.ownsRow (w.heap.size+2) e size v m xs)(hc:c<w.heap.size+2):(wl.setCell ⟨c,o,none⟩ u).ownsRow (w.heap.size+2) e size v m xs:=
 h.kept (z3T _ _ _ _) (by
  cases hv:v.ownBlock with
  | none=>exact .inl rfl
  | some g=>right;intro e;cases e;have:=(h.lt _ hv).1;omega)
theorem z3E{w:World}{base e size n:Nat}{v:Value}{xs:List Value}(h:w.ownsRow base e size v n xs):∃ a c,v=.slice a n c:=by
 rcases h.2 with⟨rfl,rfl⟩ | ⟨g,cap,_,rfl,_⟩
 ·exact⟨_,_,rfl⟩
 ·exact⟨_,_,rfl⟩
theorem z0E{ops:Array Oper}{o:Oper}{a:Act}{w:World}{K:Act->World->Prop}{Q:Exit->Act->World->Prop}{E:Prop}(hg:o.guard=none)(h:Oper.wp prog o a w K Q) :
  if Region.wanted o (yielded ops a.tmps)=true then Oper.wp prog o a w K Q else E:=by
 have hw:Region.wanted o (yielded ops a.tmps)=true:=by simp[Region.wanted,hg]
 rw[if_pos hw];exact h
theorem PSt.drew{w wl:World}{b:Nat}{st:List Int×Bool}{k i v n s d:Value}(h:PSt w wl b st k i v n s d):PSt w wl.drew b st k i v n s d:=
 ⟨h.T,h.Bx,h.Rs,⟨h.G.os,h.G.tape,h.G.output,h.G.size,h.G.block⟩,h.hb⟩
theorem q3X{wl:World}{base e size m:Nat}{v:Value}{xs:List Value}(h:wl.ownsRow base e size v m xs):wl.drew.ownsRow base e size v m xs:=h
theorem q4e{w wl:World}{c e size m:Nat}{v:Value}{xs:List Value}(v0 v1 v2 v3 v4 v5:Value)(h:wl.ownsRow (w.heap.size+2) e size v m xs)(hc:c<w.heap.size+2):(z3M wl c v0 v1 v2 v3 v4 v5).ownsRow (w.heap.size+2) e size v m xs:=
 z4k (z4k (z4k (z4k (z4k (z4k h hc) hc) hc) hc) hc) hc
theorem q4X{w wl:World}{c:Nat}{r:Option Nat}(v0 v1 v2 v3 v4 v5:Value)(h:w.grownBy wl r)(hc:w.heap.size<=c):w.grownBy (z3M wl c v0 v1 v2 v3 v4 v5) r:=
 z3w (z3w (z3w (z3w (z3w (z3w h hc) hc) hc) hc) hc) hc
theorem TS.z3M{w:World}{b c:Nat}{st:List Int×Bool}(v0 v1 v2 v3 v4 v5:Value)(h:TS w b st)(hc:b≠c):TS (z3M w c v0 v1 v2 v3 v4 v5) b st:=
 (((((h.other hc).other hc).other hc).other hc).other hc).other hc
theorem j5B(w:World)(x y:Value)(t:TypeId):∀ j u,[x,y][j]?=some u->(w.alloc (.cells #[x,y] t)).cell? ((⟨w.heap.size,0,none⟩:Addr).add j)=some u:=
 World.news_of_block (heap_alloc_new w (.cells #[x,y] t))
theorem q6C(b:Nat)(st s1 s2 s3 s4 s5 s6 s7 s8:List Int×Bool)(k i v n:Int)(cn dn:Nat)(Ps:List (Int×Int))(Ds:List Int)(w:World)(hT:TS w b st)
  (h1:tk 1 st=(k,s1)) (h2:tk 6 s1=(i,s2)) (h3:tk 1 s2=(v,s3)) (h4:tk 7 s3=(n,s4)) (h5:tk 1 s4=((cn:Int),s5)) (h6:tkP cn s5=(Ps,s6)) (h7:tk 1 s6=((dn:Int),s7)) (h8:tkD dn s7=(Ds,s8)) (hcn:cn<=255) (hdn:dn<=255) :
  Calls prog 33 #[.pointer (some ⟨b,0,none⟩)] w fun e w'=>∃ u d,e=.returned (.agg #[.int .i64 k,.int .i64 i,.int .i64 v,.int .i64 n,u,d])/\q1X w' (w.heap.size+2) u Ps/\Row1 w' (w.heap.size+2) d Ds/\TS w' b s8/\w.grownBy w' (some b):=by
 obtain⟨i0,hi,hz0,hz1,hz2⟩:=info_parts j8S;obtain⟨j0,hj,jz0,jz1,jz2⟩:=info_parts info3;have hblt:=hT.lt;have X:Hid (tk 1 st=(k,s1)/\tk 6 s1=(i,s2)/\tk 1 s2=(v,s3)/\tk 7 s3=(n,s4)/\tk 1 s4=((cn:Int),s5)/\tkP cn s5=(Ps,s6)/\tk 1 s6=((dn:Int),s7)/\tkD dn s7=(Ds,s8)):=⟨h1,h2,h3,h4,h5,h6,h7,h8⟩;clear h1 h2 h3 h4 h5 h6 h7 h8
 have P0:PSt w ((w.alloc (.cells #[.int .i64 0,.int .i64 0,.int .i64 0,.int .i64 0,.slice none 0 0,.slice none 0 0] 70)).alloc (.cells #[.int .i64 0,.int .i64 0,.int .i64 0,.int .i64 0,.slice none 0 0,.slice none 0 0] 70)) b st (.int .i64 0) (.int .i64 0) (.int .i64 0) (.int .i64 0) (.slice none 0 0) (.slice none 0 0):=by
  have g1:=World.grownBy_alloc w (.cells #[.int .i64 0,.int .i64 0,.int .i64 0,.int .i64 0,.slice none 0 0,.slice none 0 0] 70) none;have g2:=World.grownBy_alloc (w.alloc (.cells #[.int .i64 0,.int .i64 0,.int .i64 0,.int .i64 0,.slice none 0 0,.slice none 0 0] 70)) (.cells #[.int .i64 0,.int .i64 0,.int .i64 0,.int .i64 0,.slice none 0 0,.slice none 0 0] 70) none;refine⟨(hT.keep g1 (by simp)).keep g2 (by simp),?_,?_,z4W (World.grownBy_alloc _ _ _) (World.grownBy_alloc _ _ _),hblt⟩
  ·unfold z2R;have e:w.heap.size+1=(w.alloc (.cells #[.int .i64 0,.int .i64 0,.int .i64 0,.int .i64 0,.slice none 0 0,.slice none 0 0] 70)).heap.size:=by simp
   rw[e];exact heap_alloc_new _ _
  ·exact (Below.heap_alloc _ _ _ (by simp)).trans (heap_alloc_new _ _)
 clear hT
 go_enter func33,ntmps33
 go_wp2_with fail
 refine (z2H b st s1 k _ 1 _ P0.T rfl (by omega) X.out.1).mono ?_
 rintro e w1⟨rfl,hT1,hg1⟩;have P1:=P0.num hT1 hg1;clear hT1 hg1 P0;obtain⟨c0,c1,c2,c3,c4,c5,cf⟩:=P1.Bx.cells
 go_wp2_with fail
 clear c0 c1 c2 c3 c4 c5 cf;have P1':=(P1.set (.int .i64 k)).1;refine (z2H b s1 s2 i _ 6 _ P1'.T rfl (by omega) X.out.2.1).mono ?_
 rintro e w2⟨rfl,hT2,hg2⟩;have P2:=P1'.num hT2 hg2;clear hT2 hg2 P1 P1';obtain⟨c0,c1,c2,c3,c4,c5,cf⟩:=P2.Bx.cells
 go_wp2_with fail
 clear c0 c1 c2 c3 c4 c5 cf;have P2':=(P2.set (.int .i64 i)).2.1;refine (z2H b s2 s3 v _ 1 _ P2'.T rfl (by omega) X.out.2.2.1).mono ?_
 rintro e w3⟨rfl,hT3,hg3⟩;have P3:=P2'.num hT3 hg3;clear hT3 hg3 P2 P2';obtain⟨c0,c1,c2,c3,c4,c5,cf⟩:=P3.Bx.cells
 go_wp2_with fail
 clear c0 c1 c2 c3 c4 c5 cf;have P3':=(P3.set (.int .i64 v)).2.2.1;refine (z2H b s3 s4 n _ 7 _ P3'.T rfl (by omega) X.out.2.2.2.1).mono ?_
 rintro e w4⟨rfl,hT4,hg4⟩;have P4:=P3'.num hT4 hg4;clear hT4 hg4 P3 P3';obtain⟨c0,c1,c2,c3,c4,c5,cf⟩:=P4.Bx.cells
 go_wp2_with fail
 clear c0 c1 c2 c3 c4 c5 cf;have P4':=(P4.set (.int .i64 n)).2.2.2.1;refine (z2H b s4 s5 (cn:Int) _ 1 _ P4'.T rfl (by omega) X.out.2.2.2.2.1).mono ?_
 rintro e w5⟨rfl,hT5,hg5⟩;have P5:=P4'.num hT5 hg5;clear hT5 hg5 P4 P4'
 go_wp2_with fail
 go_loopw [20] (fun j wl=>∃ (m:Nat) (Pj:List (Int×Int)) (sj:List Int×Bool) (u:Value),m<=cn/\j=.int .i64 m/\PSt w wl b sj (.int .i64 k) (.int .i64 i) (.int .i64 v) (.int .i64 n) u (.slice none 0 0)/\q1X wl (w.heap.size+2) u Pj/\Hid (Pj.length=m/\Pj ++ (tkP (cn - m) sj).1=Ps/\(tkP (cn - m) sj).2=s6)) (fun j _=>cn - (intOf j).toNat)
 case atStart =>
  refine⟨0,[],s5,_,Nat.zero_le _,rfl,P5,World.ownsRow_nil _ _ _ _,rfl,?_,?_⟩
  ·have h6:=X.out.2.2.2.2.2.1
   simp[h6]
  ·have h6:=X.out.2.2.2.2.2.1
   simp[h6]
 case round =>
  obtain⟨m,Pj,sj,u,hm,rfl,P6,hrow,HE⟩:=hrel;clear P5
  by_cases hlt:m<cn
  ·obtain⟨f,hf⟩:∃ f,cn - m=f+1:=⟨cn - m - 1,by omega⟩
   have HE':=HE.out;rw[hf,tkP]at HE';obtain⟨y,sa,hy⟩:∃ y sa,tk 1 sj=(y,sa):=⟨_,_,rfl⟩;obtain⟨z,sc,hz⟩:∃ z sc,tk 7 sa=(z,sc):=⟨_,_,rfl⟩;rw[hy]at HE';dsimp only at HE';rw[hz]at HE';dsimp only at HE';have HT:Hid _:=HE';have HYZ:Hid (tk 1 sj=(y,sa)/\tk 7 sa=(z,sc)):=⟨hy,hz⟩;have hfc:f=cn - (m+1):=by omega
   have HFC:Hid (f=cn - (m+1)):=hfc;have hPl:Pj.length<=255:=by have:=HE.out.1;omega
   have HPm:Hid (Pj.length=m):=HE.out.1;clear HE HE' hy hz hf hfc
   go_wp2_with fail
   refine (z2H b sj sa y _ 1 _ P6.T rfl (by omega) HYZ.out.1).mono ?_
   rintro e wa⟨rfl,hTa,hga⟩;have Pa:=P6.num hTa hga;have hra:q1X wa (w.heap.size+2) u Pj:=z8m hrow hga hblt;clear hTa hga hrow P6
   go_wp2_with fail
   refine (z2H b sa sc z _ 7 _ Pa.T rfl (by omega) HYZ.out.2).mono ?_
   rintro e wb⟨rfl,hTb,hgb⟩;have Pb:=Pa.num hTb hgb;have hrb:q1X wb (w.heap.size+2) u Pj:=z8m hra hgb hblt;clear hTb hgb hra Pa;obtain⟨c0,c1,c2,c3,c4,c5,cf⟩:=Pb.Bx.cells;obtain⟨ua,uc,rfl⟩:=z3E hrb;have hbig:=Pb.big
   go_wp2_with (at_builtin;refine wpList_append_lies _ rfl _ _ 44 rfl (w.heap.size+2) 68 i0 (.agg #[.int .i64 0,.int .i64 0]) 2 16 underlying44 hi hz0 hz1 hz2 rfl (by decide) _ _ _ rfl (World.ownsRow.alloc hrb _) ⟨wb.heap.size,0,none⟩ 1 1 [.int .i64 y,.int .i64 z] rfl rfl ?_ ?_ (by decide) (by unfold maxLen;omega) (by omega) (by simp;omega) _ rfl ?_)
   ·exact j5B _ _ _ _
   ·intro u hu;simp at hu;rcases hu with rfl | rfl <;> rfl
   ·intro g cap wd hown hgrow _ _;have Pd:=(Pb.alloc (Obj.cells #[Value.int IntKind.i64 y,Value.int IntKind.i64 z] 68)).own hgrow (fun j hj=>(World.ownsRow.lt hrb j hj).1);have hrd:q1X wd (w.heap.size+2) (.slice (some ⟨g,0,none⟩) (Pj.length+1) cap) (Pj ++ [(y,z)]):=by simpa [q1X] using hown
    clear hown hgrow hrb c0 c1 c2 c3 c4 c5 cf Pb;obtain⟨c0,c1,c2,c3,c4,c5,cf⟩:=Pd.Bx.cells;have HP:Hid _:=(Pd.set (.slice (some ⟨g,0,none⟩) (Pj.length+1) cap)).2.2.2.2.1;have HR:Hid _:=z4k (c:=w.heap.size+1) (o:=4) (u:=.slice (some ⟨g,0,none⟩) (Pj.length+1) cap) hrd (by omega)
    clear hrd Pd;go_wp2;clear c0 c1 c2 c3 c4 c5 cf;go_roundw
    case rel =>
     refine⟨m+1,Pj ++ [(y,z)],sc,_,by omega,by go_num,HP.out,HR.out,by rw[List.length_append,HPm.out];rfl,?_,?_⟩
     ·rw[← HFC.out,List.append_assoc];exact HT.out.2.1
     ·rw[← HFC.out];exact HT.out.2.2
    case measure=>simp[intOf];omega
  ·have hmc:m=cn:=by omega
   subst hmc;have HE':=HE.out;rw[Nat.sub_self,tkP,List.append_nil]at HE';obtain⟨hPm,rfl,rfl⟩:=HE';clear HE hPm
   go_wp2_with fail
   refine (z2H b sj s7 (dn:Int) _ 1 _ P6.T rfl (by omega) X.out.2.2.2.2.2.2.1).mono ?_
   rintro e w7⟨rfl,hT7,hg7⟩;have P7:=P6.num hT7 hg7;have hrow7:q1X w7 (w.heap.size+2) u Pj:=z8m hrow hg7 hblt;clear hT7 hg7 P6 hrow;obtain⟨ua,uc,rfl⟩:=z3E hrow7
   go_wp2_with fail
   go_loopw [37] (fun j wl=>∃ (q:Nat) (Dj:List Int) (sj:List Int×Bool) (d:Value),q<=dn/\j=.int .i64 q/\PSt w wl b sj (.int .i64 k) (.int .i64 i) (.int .i64 v) (.int .i64 n) (.slice ua Pj.length uc) d/\q1X wl (w.heap.size+2) (.slice ua Pj.length uc) Pj/\Row1 wl (w.heap.size+2) d Dj /\
     Hid ((Value.slice ua Pj.length uc).ownBlock=none∨(Value.slice ua Pj.length uc).ownBlock≠d.ownBlock)/\Hid (Dj.length=q/\Dj ++ (tkD (dn - q) sj).1=Ds/\(tkD (dn - q) sj).2=s8)) (fun j _=>dn - (intOf j).toNat)
   case atStart =>
    have h8:=X.out.2.2.2.2.2.2.2;refine⟨0,[],s7,_,Nat.zero_le _,rfl,P7,hrow7,World.ownsRow_nil _ _ _ _,?_,rfl,?_,?_⟩
    ·cases ua with
     | none=>exact .inl rfl
     | some x=>exact .inr (by simp[Value.ownBlock])
    ·simp[h8]
    ·simp[h8]
   case round =>
    obtain⟨q,Dj,sj',d,hq,rfl,P8,hrow2,hrow1,HN,HE⟩:=hrel;clear P7 hrow7
    by_cases hlt:q<dn
    ·obtain⟨f,hf⟩:∃ f,dn - q=f+1:=⟨dn - q - 1,by omega⟩
     have HE':=HE.out;rw[hf,tkD]at HE';obtain⟨y,sa,hy⟩:∃ y sa,tk 1 sj'=(y,sa):=⟨_,_,rfl⟩;rw[hy]at HE';dsimp only at HE';have HT:Hid _:=HE';have HY:Hid (tk 1 sj'=(y,sa)):=hy;have hfc:f=dn - (q+1):=by omega
     have HFC:Hid (f=dn - (q+1)):=hfc;have hDl:Dj.length<=255:=by have:=HE.out.1;omega
     have HDm:Hid (Dj.length=q):=HE.out.1;clear HE HE' hy hf hfc;obtain⟨c0,c1,c2,c3,c4,c5,cf⟩:=P8.Bx.cells;obtain⟨xa,xc,rfl⟩:=z3E hrow1
     go_wp2_with fail
     have P8d:=P8.drew;have hr2d:q1X wr.drew (w.heap.size+2) (.slice ua Pj.length uc) Pj:=q3X hrow2;have hr1d:Row1 wr.drew (w.heap.size+2) (.slice xa Dj.length xc) Dj:=q3X hrow1;clear P8 hrow2 hrow1
     go_region_law (first
      | (refine z0E rfl ?_;go_simp;go_at_call 49;refine (z2H b sj' sa y _ 1 _ P8d.T rfl (by omega) HY.out).mono ?_;rintro e we⟨rfl,hTe,hge⟩;have Pe:=P8d.num hTe hge;have hr2e:q1X we (w.heap.size+2) (.slice ua Pj.length uc) Pj:=z8m hr2d hge hblt;have hr1e:Row1 we (w.heap.size+2) (.slice xa Dj.length xc) Dj:=z8m hr1d hge hblt;have hce:=Pe.Bx.cells;have hbig:=Pe.big;have hbig1:w.heap.size+1<we.heap.size:=Pe.big;clear hTe hge)
      | (refine step_append_lies _ rfl _ _ 45 rfl (w.heap.size+2) 3 j0 (.int .i64 0) 1 8 underlying45 hj jz0 jz1 jz2 rfl (by decide) _ _ _ rfl (World.ownsRow.alloc hr1e _) ⟨we.heap.size,0,none⟩ 1 1 [.int .i64 y] rfl rfl (cell_one_new _ _ _) (by intro u hu;simp at hu;subst hu;rfl) (by decide) (by unfold maxLen;omega) (by omega) (by simp;omega) _ rfl ?_;intro g cap wf hown hgrow hat hglt;have Pf:=(Pe.alloc (Obj.cells #[Value.int IntKind.i64 y] 3)).own hgrow (fun j hj=>(World.ownsRow.lt hr1e j hj).1);have hcf:=Pf.Bx.cells))
     all_goals
      have hr2f:q1X wf (w.heap.size+2) (.slice ua Pj.length uc) Pj:=World.ownsRow.kept (World.ownsRow.alloc hr2e _) hgrow HN.out;have hr1f:Row1 wf (w.heap.size+2) (.slice (some ⟨g,0,none⟩) (Dj.length+1) cap) (Dj ++ [y]):=by simpa [Row1] using hown
      have hNf:(Value.slice ua Pj.length uc).ownBlock=none∨(Value.slice ua Pj.length uc).ownBlock≠(Value.slice (some ⟨g,0,none⟩) (Dj.length+1) cap).ownBlock:=by
       rcases hat with h | h
       ·have e:(Value.slice (some ⟨g,0,none⟩) (Dj.length+1) cap).ownBlock=(Value.slice xa Dj.length xc).ownBlock:=h.symm;rw[e];exact HN.out
       ·right
        intro e;have e2:(Value.slice ua Pj.length uc).ownBlock=some g:=e;have:=(World.ownsRow.lt hr2e _ e2).2
        simp at h
        omega
      have HP:Hid _:=(Pf.set (.slice (some ⟨g,0,none⟩) (Dj.length+1) cap)).2.2.2.2.2;have HR2:Hid _:=z4k (c:=w.heap.size+1) (o:=5) (u:=.slice (some ⟨g,0,none⟩) (Dj.length+1) cap) hr2f (by omega)
      have HR1:Hid _:=z4k (c:=w.heap.size+1) (o:=5) (u:=.slice (some ⟨g,0,none⟩) (Dj.length+1) cap) hr1f (by omega)
      have HNf:Hid _:=hNf;clear hown hgrow hat hr2f hr1f hr2e hr1e hce hcf Pe Pf hNf hr2d hr1d P8d c0 c1 c2 c3 c4 c5 cf;go_wp2;go_roundw
      case rel =>
       refine⟨q+1,Dj ++ [y],sa,_,by omega,by go_num,HP.out,HR2.out,HR1.out,HNf,by rw[List.length_append,HDm.out];rfl,?_,?_⟩
       ·rw[← HFC.out,List.append_assoc];exact HT.out.2.1
       ·rw[← HFC.out];exact HT.out.2.2
      case measure=>simp[intOf];omega
    ·have hqd:q=dn:=by omega
     subst hqd;have HE':=HE.out;rw[Nat.sub_self,tkD,List.append_nil]at HE';obtain⟨hDm,rfl,rfl⟩:=HE';clear HE hDm;obtain⟨xa,xc,rfl⟩:=z3E hrow1;obtain⟨c0,c1,c2,c3,c4,c5,cf⟩:=P8.Bx.cells;obtain⟨d0,d1,d2,d3,d4,d5,df⟩:=P8.Rs.cells
     have hex:∀ o,o<6->∃ u,wr.cell? ⟨w.heap.size,o,none⟩=some u:=fun o ho=>by
      match o,ho with
      | 0,_=>exact⟨_,d0⟩
      | 1,_=>exact⟨_,d1⟩
      | 2,_=>exact⟨_,d2⟩
      | 3,_=>exact⟨_,d3⟩
      | 4,_=>exact⟨_,d4⟩
      | 5,_=>exact⟨_,d5⟩
     have HEX:Hid _:=hex;clear hex;have HF:Hid (q1X wr (w.heap.size+2) (.slice ua Pj.length uc) Pj/\Row1 wr (w.heap.size+2) (.slice xa Dj.length xc) Dj/\TS wr b sj'/\w.grownBy wr (some b)):=⟨hrow2,hrow1,P8.T,P8.G⟩;clear hrow2 hrow1 P8;go_wp2
     show bodyPost prog f33 _ Exit.ret _ (z3M wr w.heap.size (.int .i64 k) (.int .i64 i) (.int .i64 v) (.int .i64 n) (.slice ua Pj.length uc) (.slice xa Dj.length xc))
     obtain⟨e0,e1,e2,e3,e4,e5⟩:=z4V (w:=wr) (b:=w.heap.size) (.int .i64 k) (.int .i64 i) (.int .i64 v) (.int .i64 n) (.slice ua Pj.length uc) (.slice xa Dj.length xc) HEX.out;have q2:q1X (z3M wr w.heap.size (.int .i64 k) (.int .i64 i) (.int .i64 v) (.int .i64 n) (.slice ua Pj.length uc) (.slice xa Dj.length xc)) (w.heap.size+2) (.slice ua Pj.length uc) Pj:=q4e _ _ _ _ _ _ HF.out.1 (by omega)
     have q1:Row1 (z3M wr w.heap.size (.int .i64 k) (.int .i64 i) (.int .i64 v) (.int .i64 n) (.slice ua Pj.length uc) (.slice xa Dj.length xc)) (w.heap.size+2) (.slice xa Dj.length xc) Dj:=q4e _ _ _ _ _ _ HF.out.2.1 (by omega)
     have q3:=TS.z3M (c:=w.heap.size) (.int .i64 k) (.int .i64 i) (.int .i64 v) (.int .i64 n) (.slice ua Pj.length uc) (.slice xa Dj.length xc) HF.out.2.2.1 (by omega)
     have q4:=q4X (c:=w.heap.size) (.int .i64 k) (.int .i64 i) (.int .i64 v) (.int .i64 n) (.slice ua Pj.length uc) (.slice xa Dj.length xc) HF.out.2.2.2 (Nat.le_refl _);generalize z3M wr w.heap.size (.int .i64 k) (.int .i64 i) (.int .i64 v) (.int .i64 n) (.slice ua Pj.length uc) (.slice xa Dj.length xc)=w9 at *;exact bodyPost_ret (v:=.agg #[.int .i64 k,.int .i64 i,.int .i64 v,.int .i64 n,.slice ua Pj.length uc,.slice xa Dj.length xc]) (by simp[results,results33,go_sem,e0,e1,e2,e3,e4,e5]) rfl ⟨_,_,rfl,q2,q1,q3,q4⟩
end Cd
section
open Go.RowKit
theorem q0A{w wq:World}(R:BAt wq (w.heap.size+1) 0 0 0 0 0 0 0)(H:Below w.heap.size w wq)(r0 r1 r2 r3 r4 r5 r6 er:Int)(act:Act)
  (h8:act.tmps.getD 6 undef=.pointer (some ⟨w.heap.size+1,0,none⟩)) (h9:act.tmps.getD 7 undef=.int .i64 er) (hd:act.defers=[]) :
  bodyPost prog f156 (fun e w'=>e=.returned (.tuple #[.agg #[.int .i64 r0,.int .i64 r1,.int .i64 r2,.int .i64 r3,.int .i64 r4,.int .i64 r5,.int .i64 r6],.int .i64 er])/\Below w.heap.size w w') Exit.ret act
   (z6Y wq (w.heap.size+1) r0 r1 r2 r3 r4 r5 r6):=by
 have HR:=R.z6Y r0 r1 r2 r3 r4 r5 r6;have HW:=z3i (b:=w.heap.size+1) H (by omega) r0 r1 r2 r3 r4 r5 r6
 generalize z6Y wq (w.heap.size+1) r0 r1 r2 r3 r4 r5 r6=w9 at *;obtain⟨u0,u1,u2,u3,u4,u5,u6⟩:=HR.cells;have h8':act.tmps[6]?.getD undef=.pointer (some ⟨w.heap.size+1,0,none⟩):=by simpa using h8
 have h9':act.tmps[7]?.getD undef=.int .i64 er:=by simpa using h9
 exact bodyPost_ret (v:=.tuple #[.agg #[.int .i64 r0,.int .i64 r1,.int .i64 r2,.int .i64 r3,.int .i64 r4,.int .i64 r5,.int .i64 r6],.int .i64 er]) (by simp[results,results156,go_sem,h8',h9',u0,u1,u2,u3,u4,u5,u6]) hd ⟨rfl,HW⟩
theorem z4q{f:Nat}{args:Array Value}{w0 w:World}{b:Nat}{v:Value}{f0 f1 f2 f3 bo wa bu:Int}(h:Calls prog f args w fun e w'=>e=.returned v/\Below w.heap.size w w')
  (hb:b<w0.heap.size) (hS:w.cell? ⟨b,0,none⟩=some (.int .i64 f0)/\w.cell? ⟨b,1,none⟩=some (.int .i64 f1)/\w.cell? ⟨b,2,none⟩=some (.int .i64 f2)/\w.cell? ⟨b,3,none⟩=some (.int .i64 f3)/\w.cell? ⟨b,4,none⟩=some (.int .i64 bo)/\w.cell? ⟨b,5,none⟩=some (.int .i64 wa)/\w.cell? ⟨b,6,none⟩=some (.int .i64 bu)/\Below w0.heap.size w0 w) :
  Calls prog f args w fun e w'=>e=.returned v/\(w'.cell? ⟨b,0,none⟩=some (.int .i64 f0)/\w'.cell? ⟨b,1,none⟩=some (.int .i64 f1)/\w'.cell? ⟨b,2,none⟩=some (.int .i64 f2)/\w'.cell? ⟨b,3,none⟩=some (.int .i64 f3)/\w'.cell? ⟨b,4,none⟩=some (.int .i64 bo)/\w'.cell? ⟨b,5,none⟩=some (.int .i64 wa)/\w'.cell? ⟨b,6,none⟩=some (.int .i64 bu)/\Below w0.heap.size w0 w')/\Below w.heap.size w w':=by
 refine h.mono ?_;rintro e w'⟨rfl,hb'⟩;obtain⟨h0,h1,h2,h3,h4,h5,h6,hB⟩:=hS;have k:∀ o,w'.cell? ⟨b,o,none⟩=w.cell? ⟨b,o,none⟩:=fun o=>hb'.cell (Nat.lt_of_lt_of_le hb hB.size);exact⟨rfl,⟨(k 0).trans h0,(k 1).trans h1,(k 2).trans h2,(k 3).trans h3,(k 4).trans h4,(k 5).trans h5,(k 6).trans h6,hB.trans (hb'.mono hB.size)⟩,hb'⟩
theorem j0A(f0 f1 f2 f3 bo wa bu n m r0 r1 r2 r3 r4 r5 r6 er s0 s1 s2 s3 s4 s5 s6 es t0 t1 t2 t3 t4 t5 t6 et:Int)(w:World)
  (hres:(er≠0/\f0=t0/\f1=t1/\f2=t2/\f3=t3/\bo=t4/\wa=t5/\bu=t6/\er=et)∨(er=0/\es≠0/\f0=t0/\f1=t1/\f2=t2/\f3=t3/\bo=t4/\wa=t5/\bu=t6/\es=et)∨(er=0/\es=0/\s0=t0/\s1=t1/\s2=t2/\s3=t3/\s4=t4/\s5=t5/\s6=t6/\0=et))
  (hm1:∀ w:World,Calls prog 150 #[.agg #[.int .i64 f0,.int .i64 f1,.int .i64 f2,.int .i64 f3,.int .i64 bo,.int .i64 wa,.int .i64 bu],.func (.func 173) #[] #[],.func (.func 195) #[] #[],.int .i64 n] w fun e w'=>e=.returned (.tuple #[.agg #[.int .i64 r0,.int .i64 r1,.int .i64 r2,.int .i64 r3,.int .i64 r4,.int .i64 r5,.int .i64 r6],.int .i64 er])/\Below w.heap.size w w')
  (hm2:∀ w:World,Calls prog 150 #[.agg #[.int .i64 r0,.int .i64 r1,.int .i64 r2,.int .i64 r3,.int .i64 r4,.int .i64 r5,.int .i64 r6],.func (.func 174) #[] #[],.func (.func 195) #[] #[],.int .i64 m] w fun e w'=>e=.returned (.tuple #[.agg #[.int .i64 s0,.int .i64 s1,.int .i64 s2,.int .i64 s3,.int .i64 s4,.int .i64 s5,.int .i64 s6],.int .i64 es])/\Below w.heap.size w w') :
  Calls prog 156 #[.agg #[.int .i64 f0,.int .i64 f1,.int .i64 f2,.int .i64 f3,.int .i64 bo,.int .i64 wa,.int .i64 bu],.int .i64 n,.int .i64 m] w
   fun e w'=>e=.returned (.tuple #[.agg #[.int .i64 t0,.int .i64 t1,.int .i64 t2,.int .i64 t3,.int .i64 t4,.int .i64 t5,.int .i64 t6],.int .i64 et])/\Below w.heap.size w w':=by
 go_enter func156,ntmps156
 go_wp2_with fail
 have R0:BAt ((w.alloc (.cells #[.int .i64 f0,.int .i64 f1,.int .i64 f2,.int .i64 f3,.int .i64 bo,.int .i64 wa,.int .i64 bu] 35)).alloc (.cells #[.int .i64 0,.int .i64 0,.int .i64 0,.int .i64 0,.int .i64 0,.int .i64 0,.int .i64 0] 35)) (w.heap.size+1) 0 0 0 0 0 0 0:=by
  have:=BAt.new (w.alloc (.cells #[.int .i64 f0,.int .i64 f1,.int .i64 f2,.int .i64 f3,.int .i64 bo,.int .i64 wa,.int .i64 bu] 35)) 0 0 0 0 0 0 0
  simpa using this
 have B0:=((BAt.new w f0 f1 f2 f3 bo wa bu).alloc (.cells #[.int .i64 0,.int .i64 0,.int .i64 0,.int .i64 0,.int .i64 0,.int .i64 0,.int .i64 0] 35));have HB:Hid (Below w.heap.size w ((w.alloc (.cells #[.int .i64 f0,.int .i64 f1,.int .i64 f2,.int .i64 f3,.int .i64 bo,.int .i64 wa,.int .i64 bu] 35)).alloc (.cells #[.int .i64 0,.int .i64 0,.int .i64 0,.int .i64 0,.int .i64 0,.int .i64 0,.int .i64 0] 35))):=((znw w _).alloc (by simp) _)
 generalize (w.alloc (.cells #[.int .i64 f0,.int .i64 f1,.int .i64 f2,.int .i64 f3,.int .i64 bo,.int .i64 wa,.int .i64 bu] 35)).alloc (.cells #[.int .i64 0,.int .i64 0,.int .i64 0,.int .i64 0,.int .i64 0,.int .i64 0,.int .i64 0] 35)=w0 at *;obtain⟨x0,x1,x2,x3,x4,x5,x6⟩:=B0.cells;have hz0:w.heap.size<w0.heap.size:=B0.lt;have hz1:w.heap.size+1<w0.heap.size:=R0.lt
 go_cut [8,9] (fun p e wc=>∃ pb,p=.pointer (some ⟨pb,0,none⟩)/\e=.int .i64 er/\w0.heap.size<=pb/\BAt wc pb r0 r1 r2 r3 r4 r5 r6/\Below w0.heap.size w0 wc)
 case first =>
  clear B0;have hbb:Below w0.heap.size w0 w0.drew:=(Below.refl _ _).drew;have hal:∀ (wx:World) (o:Obj),Below w0.heap.size w0 wx->Below w0.heap.size w0 (wx.alloc o):=fun wx o h=>h.alloc h.size o;have hdr:∀ (wx:World),Below w0.heap.size w0 wx->Below w0.heap.size w0 wx.drew:=fun wx h=>h.drew;have hb0:Below w0.heap.size w0 w0:=Below.refl _ _;have hse:∀ (wx:World) (v0 v1 v2 v3 v4 v5 v6:Int),Below w0.heap.size w0 wx->Below w0.heap.size w0 (((((((wx.setCell ⟨w0.heap.size,0,none⟩ (.int .i64 v0)).setCell ⟨w0.heap.size,1,none⟩ (.int .i64 v1)).setCell ⟨w0.heap.size,2,none⟩ (.int .i64 v2)).setCell ⟨w0.heap.size,3,none⟩ (.int .i64 v3)).setCell ⟨w0.heap.size,4,none⟩ (.int .i64 v4)).setCell ⟨w0.heap.size,5,none⟩ (.int .i64 v5)).setCell ⟨w0.heap.size,6,none⟩ (.int .i64 v6)):=fun wx v0 v1 v2 v3 v4 v5 v6 h=>((((((h.setCell (Nat.le_refl _) _).setCell (Nat.le_refl _) _).setCell (Nat.le_refl _) _).setCell (Nat.le_refl _) _).setCell (Nat.le_refl _) _).setCell (Nat.le_refl _) _).setCell (Nat.le_refl _) _;have hso:∀ (wx:World) (o k:Nat) (v:Value),(wx.setCell ⟨w0.heap.size,o,none⟩ v).cell? ⟨w.heap.size,k,none⟩=wx.cell? ⟨w.heap.size,k,none⟩:=fun wx o k v=>World.cell?_of_block (w:=wx) (Below.heap_setCell _ _ _ _ (by simp;omega))
  go_region_held3 (fun w'=>w'.cell? ⟨w.heap.size,0,none⟩=some (.int .i64 f0)/\w'.cell? ⟨w.heap.size,1,none⟩=some (.int .i64 f1)/\w'.cell? ⟨w.heap.size,2,none⟩=some (.int .i64 f2)/\w'.cell? ⟨w.heap.size,3,none⟩=some (.int .i64 f3)/\w'.cell? ⟨w.heap.size,4,none⟩=some (.int .i64 bo)/\w'.cell? ⟨w.heap.size,5,none⟩=some (.int .i64 wa)/\w'.cell? ⟨w.heap.size,6,none⟩=some (.int .i64 bu)/\Below w0.heap.size w0 w') (go_keep)
   (first
    | (go_at_call 152;refine (z4Q _).mono ?_;rintro e w2⟨rfl,rfl⟩)
    | (go_at_call 175;refine (z7E _).mono ?_;rintro e w2⟨rfl,rfl⟩)
    | (go_at_call 150;refine (z4q (f0:=f0) (f1:=f1) (f2:=f2) (f3:=f3) (bo:=bo) (wa:=wa) (bu:=bu) (hm1 _) hz0 ?_).mono ?_;(simp[*]);rintro e wA⟨rfl,hA,hZ⟩;have hsA:w0.heap.size<=wA.heap.size:=hA.2.2.2.2.2.2.2.size;have hAB:Below w0.heap.size w0 wA:=hA.2.2.2.2.2.2.2;have hZ':BAt wA w0.heap.size 0 0 0 0 0 0 0:=(hZ.block _ (by simp)).trans (BAt.new w0 0 0 0 0 0 0 0);obtain⟨u0,u1,u2,u3,u4,u5,u6⟩:=hZ'.frees;obtain⟨v0,v1,v2,v3,v4,v5,v6⟩:=hZ'.cells;have HZ:Hid (BAt wA w0.heap.size 0 0 0 0 0 0 0):=hZ';clear hZ hZ')
    | (go_at_call 150;refine (z4q (f0:=f0) (f1:=f1) (f2:=f2) (f3:=f3) (bo:=bo) (wa:=wa) (bu:=bu) (hm1 _) hz0 ?_).mono ?_;(simp[*]);rintro e wA⟨rfl,hA,hZ⟩;have hsA:w0.heap.size<=wA.heap.size:=hA.2.2.2.2.2.2.2.size;have hAB:Below w0.heap.size w0 wA:=hA.2.2.2.2.2.2.2;clear hZ))
  all_goals
   clear hA
   go_wp2_with fail
   go_meet
   case rel=>first | exact⟨w0.heap.size,rfl,rfl,Nat.le_refl _,HZ.out.z6Y r0 r1 r2 r3 r4 r5 r6,hse wA r0 r1 r2 r3 r4 r5 r6 hAB⟩ | exact⟨wA.heap.size,rfl,rfl,hsA,BAt.new wA r0 r1 r2 r3 r4 r5 r6,hAB.alloc hsA _⟩
 case rest =>
  obtain⟨pb,rfl,rfl,hpb,BH,hbc⟩:=hcut
  rename World=>wb
  clear x0 x1 x2 x3 x4 x5 x6;have B1:=B0.later hbc hz0;have R1:=R0.later hbc hz1;have HBc:Hid (Below w.heap.size w wb):=HB.out.trans (hbc.mono (Nat.le_of_lt hz0));have hz2:w.heap.size<wb.heap.size:=Nat.lt_of_lt_of_le hz0 hbc.size;have hz3:w.heap.size+1<wb.heap.size:=Nat.lt_of_lt_of_le hz1 hbc.size;clear B0 R0 HB hbc hz0 hz1 hm1;obtain⟨u0,u1,u2,u3,u4,u5,u6⟩:=R1.frees;obtain⟨v0,v1,v2,v3,v4,v5,v6⟩:=R1.cells;have HR1:Hid (BAt wb (w.heap.size+1) 0 0 0 0 0 0 0):=R1;clear R1
  by_cases her:er=0
  ·subst her;have hpl:pb<wb.heap.size:=BH.lt;obtain⟨y0,y1,y2,y3,y4,y5,y6⟩:=BH.cells;clear BH u0 u1 u2 u3 u4 u5 u6 v0 v1 v2 v3 v4 v5 v6
   go_wp2_with fail
   go_cut [10,9] (fun p e wd=>∃ pc,p=.pointer (some ⟨pc,0,none⟩)/\e=.int .i64 es/\wb.heap.size<=pc/\BAt wd pc s0 s1 s2 s3 s4 s5 s6/\Below wb.heap.size wb wd)
   case first =>
    clear B1 HR1 hres HBc hz2 hz3;have hbb:Below wb.heap.size wb wb.drew:=(Below.refl _ _).drew;have hal:∀ (wx:World) (o:Obj),Below wb.heap.size wb wx->Below wb.heap.size wb (wx.alloc o):=fun wx o h=>h.alloc h.size o;have hdr:∀ (wx:World),Below wb.heap.size wb wx->Below wb.heap.size wb wx.drew:=fun wx h=>h.drew;have hb0:Below wb.heap.size wb wb:=Below.refl _ _;have hse:∀ (wx:World) (v0 v1 v2 v3 v4 v5 v6:Int),Below wb.heap.size wb wx->Below wb.heap.size wb (((((((wx.setCell ⟨wb.heap.size,0,none⟩ (.int .i64 v0)).setCell ⟨wb.heap.size,1,none⟩ (.int .i64 v1)).setCell ⟨wb.heap.size,2,none⟩ (.int .i64 v2)).setCell ⟨wb.heap.size,3,none⟩ (.int .i64 v3)).setCell ⟨wb.heap.size,4,none⟩ (.int .i64 v4)).setCell ⟨wb.heap.size,5,none⟩ (.int .i64 v5)).setCell ⟨wb.heap.size,6,none⟩ (.int .i64 v6)):=fun wx v0 v1 v2 v3 v4 v5 v6 h=>((((((h.setCell (Nat.le_refl _) _).setCell (Nat.le_refl _) _).setCell (Nat.le_refl _) _).setCell (Nat.le_refl _) _).setCell (Nat.le_refl _) _).setCell (Nat.le_refl _) _).setCell (Nat.le_refl _) _;have hso:∀ (wx:World) (o k:Nat) (v:Value),(wx.setCell ⟨wb.heap.size,o,none⟩ v).cell? ⟨pb,k,none⟩=wx.cell? ⟨pb,k,none⟩:=fun wx o k v=>World.cell?_of_block (w:=wx) (Below.heap_setCell _ _ _ _ (by simp;omega))
    go_region_held3 (fun w'=>w'.cell? ⟨pb,0,none⟩=some (.int .i64 r0)/\w'.cell? ⟨pb,1,none⟩=some (.int .i64 r1)/\w'.cell? ⟨pb,2,none⟩=some (.int .i64 r2)/\w'.cell? ⟨pb,3,none⟩=some (.int .i64 r3)/\w'.cell? ⟨pb,4,none⟩=some (.int .i64 r4)/\w'.cell? ⟨pb,5,none⟩=some (.int .i64 r5)/\w'.cell? ⟨pb,6,none⟩=some (.int .i64 r6)/\Below wb.heap.size wb w') (go_keep)
     (first
      | (go_at_call 153;refine (z4b _).mono ?_;rintro e w2⟨rfl,rfl⟩)
      | (go_at_call 175;refine (z7E _).mono ?_;rintro e w2⟨rfl,rfl⟩)
      | (go_at_call 150;refine (z4q (f0:=r0) (f1:=r1) (f2:=r2) (f3:=r3) (bo:=r4) (wa:=r5) (bu:=r6) (hm2 _) hpl ?_).mono ?_;(simp[*]);rintro e wA⟨rfl,hA,hZ⟩;have hsA:wb.heap.size<=wA.heap.size:=hA.2.2.2.2.2.2.2.size;have hAB:Below wb.heap.size wb wA:=hA.2.2.2.2.2.2.2;have hZ':BAt wA wb.heap.size 0 0 0 0 0 0 0:=(hZ.block _ (by simp)).trans (BAt.new wb 0 0 0 0 0 0 0);obtain⟨u0,u1,u2,u3,u4,u5,u6⟩:=hZ'.frees;obtain⟨v0,v1,v2,v3,v4,v5,v6⟩:=hZ'.cells;have HZ:Hid (BAt wA wb.heap.size 0 0 0 0 0 0 0):=hZ';clear hZ hZ')
      | (go_at_call 150;refine (z4q (f0:=r0) (f1:=r1) (f2:=r2) (f3:=r3) (bo:=r4) (wa:=r5) (bu:=r6) (hm2 _) hpl ?_).mono ?_;(simp[*]);rintro e wA⟨rfl,hA,hZ⟩;have hsA:wb.heap.size<=wA.heap.size:=hA.2.2.2.2.2.2.2.size;have hAB:Below wb.heap.size wb wA:=hA.2.2.2.2.2.2.2;clear hZ))
    all_goals
     clear hA
     go_wp2_with fail
     go_meet
     case rel=>first | exact⟨wb.heap.size,rfl,rfl,Nat.le_refl _,HZ.out.z6Y s0 s1 s2 s3 s4 s5 s6,hse wA s0 s1 s2 s3 s4 s5 s6 hAB⟩ | exact⟨wA.heap.size,rfl,rfl,hsA,BAt.new wA s0 s1 s2 s3 s4 s5 s6,hAB.alloc hsA _⟩
   case rest =>
    obtain⟨pc,rfl,rfl,hpc,BH,hbd⟩:=hcut;clear y0 y1 y2 y3 y4 y5 y6;have B2:=B1.later hbd hz2;have R2:=HR1.out.later hbd hz3;have HBd:Hid (Below w.heap.size w wc):=HBc.out.trans (hbd.mono (Nat.le_of_lt hz2));clear HBc hbd HR1 B1;obtain⟨u0,u1,u2,u3,u4,u5,u6⟩:=R2.frees;obtain⟨v0,v1,v2,v3,v4,v5,v6⟩:=R2.cells;have HR2:Hid (BAt wc (w.heap.size+1) 0 0 0 0 0 0 0):=R2;clear R2
    rcases hres with⟨h,_⟩ | ⟨_,h,rfl,rfl,rfl,rfl,rfl,rfl,rfl,rfl⟩ | ⟨_,rfl,rfl,rfl,rfl,rfl,rfl,rfl,rfl,rfl⟩
    ·exact absurd rfl h
    ·have hb:(es != 0)=true:=by simpa using h
     obtain⟨x0,x1,x2,x3,x4,x5,x6⟩:=B2.cells;clear B2 BH;go_wp2;exact q0A HR2.out HBd.out f0 f1 f2 f3 bo wa bu es _ rfl rfl rfl
    ·obtain⟨x0,x1,x2,x3,x4,x5,x6⟩:=BH.cells;clear B2 BH;go_wp2;exact q0A HR2.out HBd.out s0 s1 s2 s3 s4 s5 s6 0 _ rfl rfl rfl
  ·have hb:(er != 0)=true:=by simpa using her
   rcases hres with⟨_,rfl,rfl,rfl,rfl,rfl,rfl,rfl,rfl⟩ | ⟨h,_⟩ | ⟨h,_⟩
   ·obtain⟨x0,x1,x2,x3,x4,x5,x6⟩:=B1.cells;clear B1 BH;go_wp2;exact q0A HR1.out HBc.out f0 f1 f2 f3 bo wa bu er _ rfl rfl rfl
   ·exact absurd h her
   ·exact absurd h her
end
end Go.Proofs.YtmopekkhmhhcaaaGreat
