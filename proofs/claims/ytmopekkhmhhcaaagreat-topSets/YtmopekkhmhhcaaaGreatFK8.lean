/- Parts of the proof. -/
import Derived.Test.YtmopekkhmhhcaaaGreatFL
import Derived.Test.YtmopekkhmhhcaaaGreatFK41
set_option maxRecDepth 100000
set_option maxHeartbeats 16000000
namespace Go.Proofs.YtmopekkhmhhcaaaGreat
open Go.Proofs.Tryz
namespace Kc
open Go.RowKit Pv
structure z7T(P:Nat->Prop)(B:Nat)(o:Option Nat)(w:World)(g:Nat)(c:Cs)(v:CsV):Prop where
 cat:CAt 63 w g (csC c v)
 set:Rep P w v.set 2 16 (pwC c.set)
 pd:z7X P w v.pd c.pd
 rp:RR P B o w v.rp c.rp
 said:z0I P w v.said 1 16 (txC c.out.S)
 due:z0I P w v.due 1 8 (inC c.out.D)
 notg:¬ P g
 noto:∀ r,o=some r->¬ P r/\r≠g
 base:B<=w.heap.size
structure z3v(g:Nat)(o:Option Nat)(w w':World):Prop where
 os:w'.os=w.os
 tape:w'.tape=w.tape
 output:w'.output=w.output
 size:w.heap.size<=w'.heap.size
 block:∀ k,k<w.heap.size->k≠g->some k≠o->w'.heap[k]?=w.heap[k]?
theorem z3v.of{g:Nat}{o:Option Nat}{w w':World}(h:Alt g w w'):z3v g o w w':=⟨h.os,h.tape,h.output,h.size,fun k hk hg _=>h.block k hk hg⟩
theorem z3v.trans{g:Nat}{o o':Option Nat}{w w1 w2:World}(h:z3v g o w w1)(k:z3v g o' w1 w2)(ho:o'=o∨∃ r,o'=some r/\w.heap.size<=r):z3v g o w w2:=
 ⟨k.os.trans h.os,k.tape.trans h.tape,k.output.trans h.output,Nat.le_trans h.size k.size,fun i hi hn hm=>(k.block i (Nat.lt_of_lt_of_le hi h.size) hn (by
  rcases ho with rfl | ⟨r,rfl,hr⟩
  ·exact hm
  ·intro e;cases e;omega)).trans (h.block i hi hn hm)⟩
theorem z3v.set{g:Nat}{o:Option Nat}{w w':World}(h:z3v g o w w')(k:Nat)(v:Value):z3v g o w (w'.setCell ⟨g,k,none⟩ v):=
 ⟨h.os,h.tape,h.output,(by simp[World.setCell];exact h.size),fun i hi hn hm=>(Below.heap_setCell _ _ _ _ hn).trans (h.block i hi hn hm)⟩
theorem z7T.later{P:Nat->Prop}{B:Nat}{o:Option Nat}{w w':World}{g:Nat}{c:Cs}{v:CsV}(h:z7T P B o w g c v)(hb:Below w.heap.size w w'):z7T P B o w' g c v:=
 ⟨h.cat.over hb,h.set.over hb,h.pd.over hb,h.rp.keep (fun b _ hl=>hb.block b hl) (fun b e=>hb.block b (h.rp.lt e).2),h.said.over hb,h.due.over hb,h.notg,h.noto,Nat.le_trans h.base hb.size⟩
theorem z7T.put{P:Nat->Prop}{B:Nat}{o:Option Nat}{w:World}{g:Nat}{c:Cs}{v:CsV}(h:z7T P B o w g c v)(k:Nat)(x:Value)(c':Cs)(e:(csC c v).setIfInBounds k x=csC c' v)(e1:c'.set=c.set)(e2:c'.pd=c.pd)(e3:c'.rp=c.rp)(e4:c'.out=c.out):z7T P B o (w.setCell ⟨g,k,none⟩ x) g c' v:=by
 have kp:∀ b,P b->b<w.heap.size->(w.setCell ⟨g,k,none⟩ x).heap[b]?=w.heap[b]?:=fun b hb _=>Below.heap_setCell w ⟨g,k,none⟩ x b (show b≠g from fun e=>h.notg (by rw[← e];exact hb))
 refine⟨by have:=h.cat.set k x;rwa [e]at this,by rw[e1];exact h.set.keep kp,by rw[e2];exact h.pd.keep kp,by rw[e3];exact h.rp.keep kp (fun b eb=>Below.heap_setCell w ⟨g,k,none⟩ x b (h.noto b eb).2),by rw[e4];exact h.said.keep kp,by rw[e4];exact h.due.keep kp,h.notg,h.noto,by simpa [World.setCell] using h.base⟩
theorem z7T.app{P:Nat->Prop}{B:Nat}{o:Option Nat}{w w9:World}{g:Nat}{c:Cs}{v:CsV}{r:Nat}{u:Value}{x:Int×Int}(h:z7T P B o w g c v)(hr:RR P B (some r) w9 u (c.rp ++ [x]))(hg:w.grownBy w9 o)(hat:o=some r∨r=w.heap.size):z7T (fun b=>P b/\b≠r) B (some r) (w9.setCell ⟨g,7,none⟩ u) g { c with rp:=c.rp ++ [x] } { v with rp:=u }:=by
 have hgl:=h.cat.lt;have hng:∀ b,o=some b->b≠g:=fun b e=>(h.noto b e).2;have hog:some g≠o:=fun e=>hng g e.symm rfl
 have hrg:r≠g:=by
  rcases hat with e | e
  ·exact hng r e
  ·omega
 have k0:∀ b,P b->b<w.heap.size->b≠r:=fun b hb hl e=>by
  rcases hat with e' | e'
  ·exact (h.noto r e').1 (e ▸ hb)
  ·omega
 have k1:∀ b,(P b/\b≠r)->b<w.heap.size->(w9.setCell ⟨g,7,none⟩ u).heap[b]?=w.heap[b]?:=fun b hb hl =>
  (Below.heap_setCell w9 ⟨g,7,none⟩ u b (show b≠g from fun e=>h.notg (e ▸ hb.1))).trans (hg.block b hl fun e=>(h.noto b e.symm).1 hb.1)
 have C9:CAt 63 w9 g (csC c v):=(hg.block g hgl hog).trans h.cat;have C10:=C9.set 7 u;rw[q8t c v (c.rp ++ [x])]at C10;refine⟨C10,((h.set.mono fun b hl hb=>⟨hb,k0 b hb hl⟩).keep k1),((h.pd.mono fun b hl hb=>⟨hb,k0 b hb hl⟩).keep k1),?_,((h.said.mono fun b hl hb=>⟨hb,k0 b hb hl⟩).keep k1),((h.due.mono fun b hl hb=>⟨hb,k0 b hb hl⟩).keep k1),fun e=>h.notg e.1,fun b e=>?_,?_⟩
 ·have:=hr.keep (w':=w9.setCell ⟨g,7,none⟩ u) (fun b hb _=>Below.heap_setCell w9 ⟨g,7,none⟩ u b (show b≠g from fun e=>h.notg (e ▸ hb))) (fun b e=>by cases e;exact Below.heap_setCell w9 ⟨g,7,none⟩ u r hrg)
  rcases this with⟨e,-⟩ | e
  ·cases e
  ·exact .inr e
 ·cases e;exact⟨fun h=>h.2 rfl,hrg⟩
 ·have:=h.base;have:=hg.size
  simp[World.setCell]
  omega
theorem z3v.grown{g:Nat}{o:Option Nat}{w w8 w9:World}(h:z3v g o w w8)(hg:w8.grownBy w9 o):z3v g o w w9:=
 ⟨hg.os.trans h.os,hg.tape.trans h.tape,hg.output.trans h.output,Nat.le_trans h.size hg.size,fun k hk hn hm=>(hg.block k (Nat.lt_of_lt_of_le hk h.size) hm).trans (h.block k hk hn hm)⟩
theorem z7T.mono{P P':Nat->Prop}{B:Nat}{o:Option Nat}{w:World}{g:Nat}{c:Cs}{v:CsV}(h:z7T P B o w g c v)(hp:∀ b,b<w.heap.size->P b->P' b)(hn:¬ P' g)(hm:∀ r,o=some r->¬ P' r):z7T P' B o w g c v:=by
 refine⟨h.cat,h.set.mono hp,h.pd.mono hp,?_,h.said.mono hp,h.due.mono hp,hn,fun r e=>⟨hm r e,(h.noto r e).2⟩,h.base⟩
 rcases h.rp with⟨e,hA,hr⟩ | e
 ·exact .inl ⟨e,hA,hr.mono hp⟩
 ·exact .inr e
theorem z7T.j7Q{P:Nat->Prop}{B:Nat}{o:Option Nat}{w:World}{g:Nat}{c:Cs}{v:CsV}(h:z7T P B o w g c v)(u:Value)(l:List (Int×Int))(hr:Rep P w u 2 16 (pwC l)):z7T P B o (w.setCell ⟨g,5,none⟩ u) g { c with set:=l } { v with set:=u }:=by
 have kp:∀ b,P b->b<w.heap.size->(w.setCell ⟨g,5,none⟩ u).heap[b]?=w.heap[b]?:=fun b hb _=>Below.heap_setCell w ⟨g,5,none⟩ u b (show b≠g from fun e=>h.notg (by rw[← e];exact hb))
 refine⟨by have:=h.cat.set 5 u;rwa [set_set c v l]at this,hr.keep kp,h.pd.keep kp,h.rp.keep kp (fun b eb=>Below.heap_setCell w ⟨g,5,none⟩ u b (h.noto b eb).2),h.said.keep kp,h.due.keep kp,h.notg,h.noto,by simpa [World.setCell] using h.base⟩
theorem j5F(w:World)(x:Int×Int)(j:Nat)(u:Value)(hj:([.int .i64 x.1,.int .i64 x.2]:List Value)[j]?=some u):(w.alloc (.cells #[.int .i64 x.1,.int .i64 x.2] 88)).drew.cell? ⟨w.heap.size,j,none⟩=some u:=by
 have h:=((CAt.new 88 w #[.int .i64 x.1,.int .i64 x.2]).over (Below.refl _ _).drew).cell j;rw[h]
 simpa using hj
def j3H(P:Nat->Prop)(B:Nat)(o:Option Nat)(w:World)(g:Nat)(c':Cs)(pv:Value)(e:Ending)(w':World):Prop:=
 ∃ v' o' P',e=.returned (.tuple #[])/\z7T P' B o' w' g c' v'/\v'.pd=pv/\(∀ b,P' b->New P w 0 b)/\(∀ b,P b->b<w.heap.size->P' b)/\(o'=o∨∃ r,o'=some r/\w.heap.size<=r)/\z3v g o w w'
theorem q0P(f:Nat->Bool)(l:List Int)(x:Int):z3D f (l ++ [x])=j5y (z3D f l) x.toNat false:=by simp[z3D]
theorem q8X(g:Nat)(c:Cs)(v:CsV)(x:Pkt)(y1 y2:Value)(P:Nat->Prop)(B:Nat)(o:Option Nat)(w:World)(h:z7T P B o w g c v)(h1:Rep P w y1 2 16 (pwC x.S))(h2:Rep P w y2 1 8 (inC x.D))(hD:∀ u∈x.D,0<=u/\u<6)(hl:c.rp.length * 16<=168884986026393)(ht0:0<=c.t)(ht1:c.t<=1099511627776) :
  Calls prog 127 #[.pointer (some ⟨g,0,none⟩),.agg #[.int .i64 x.k,.int .i64 x.i,.int .i64 x.v,.int .i64 x.n,y1,y2]] w (j3H P B o w g (takeC c x) v.pd):=by
 have hT:takeC c x={ c with set:=Df.z1L c.set x.S,id:=x.i,fl:=z3D c.fl x.D,rp:=c.rp ++ [(x.i,c.t+15)] }:=rfl
 generalize takeC c x=D at *;have HT:=hide hT;have HL:=hide hl;have HD:=hide hD;have HH:=hide h;have H1:=hide h1;obtain⟨A1,n1,C1,e1,-⟩:=id h1;obtain⟨A2,C2,e2,s2,-,hc2,-⟩:=h2.open (z0r _) (by decide)
 have HC2:=hide hc2;have hlen2:x.D.length<=17592186044405:=by omega
 subst e1 e2;have HAP:=hide (fun (wx:World) (hb:Below w.heap.size w wx)=>z8k c.set x.S v.set (.slice A1 n1 C1) P P wx (h.set.over hb) (h1.over hb));clear h1 h2 hc2 hT hl hD s2
 go_enter func127,ntmps127
 go_upto_region 1 with fail
 have K0:=CAt.new 70 w #[.int .i64 x.k,.int .i64 x.i,.int .i64 x.v,.int .i64 x.n,.slice A1 n1 C1,.slice A2 x.D.length C2];have b0:Below w.heap.size w (w.alloc (.cells #[.int .i64 x.k,.int .i64 x.i,.int .i64 x.v,.int .i64 x.n,.slice A1 n1 C1,.slice A2 x.D.length C2] 70)):=znw w _;have hz0:(w.alloc (.cells #[.int .i64 x.k,.int .i64 x.i,.int .i64 x.v,.int .i64 x.n,.slice A1 n1 C1,.slice A2 x.D.length C2] 70)).heap.size=w.heap.size+1:=by simp
 generalize w.alloc (.cells #[.int .i64 x.k,.int .i64 x.i,.int .i64 x.v,.int .i64 x.n,.slice A1 n1 C1,.slice A2 x.D.length C2] 70)=w0 at *;have a5:w0.cell? ⟨g,5,none⟩=some v.set:=(h.cat.over b0).cell 5;have k4:w0.cell? ⟨w.heap.size,4,none⟩=some (.slice A1 n1 C1):=K0.cell 4;have HX:=hide (show _/\_/\_ from⟨K0,b0,hz0⟩);clear K0 b0 hz0 h;have hgl:g<w0.heap.size:=by have:=HX.out.2.1.size;have:=HH.out.cat.lt;omega
 apply j2H (fun A n C w2=>∃ w1,w2=w1.setCell ⟨g,5,none⟩ (.slice A n C)/\Rep (fun b=>w0.heap.size<=b) w1 (.slice A n C) 2 16 (pwC (Df.z1L c.set x.S))/\Below w0.heap.size w0 w1)
 ·refine wp_region_noPanic ?_
  have HF:Hid (∀ w1,Below w0.heap.size w0 w1->w1.cell? ⟨g,5,none⟩=some v.set/\w1.frozen? ⟨g,5,none⟩=false):=fun w1 b1=>by
   have c1:=(HH.out.cat.over HX.out.2.1).over b1;exact⟨c1.cell 5,c1.free 5⟩
  go_region_with (go_at_call 15;refine (HAP.out _ (by exact HX.out.2.1.drew)).mono ?_;rintro e w1⟨A,n,C,rfl,hr,hb1⟩;have b1:=(Below.refl w0.heap.size w0).drew.trans hb1;obtain⟨y5,yf5⟩:=HF.out w1 b1;have HR1:=hide hr;have HB1:=hide b1;clear hr hb1 b1)
  all_goals exact NoPanic.normal ⟨A,n,C,rfl,rfl,w1,rfl,HR1.out,HB1.out⟩
 rintro A n C w2⟨w1,rfl,hr1,hb1⟩;clear a5 k4;have b01:Below w.heap.size w w1:=zbt HX.out.2.1 hb1;have hgw:=HH.out.cat.lt;have hng:¬ New P w 0 g:=z0N HH.out.notg hgw;have hno:∀ r,o=some r->¬ New P w 0 r:=fun r e=>z0N (HH.out.noto r e).1 (HH.out.rp.lt e).2;have T1:z7T (New P w 0) B o w1 g c v:=(z7T.mono (HH.out) (P':=fun b=>New P w 0 b) (fun b hl hb=>.inl ⟨hb,hl⟩) hng hno).later b01;have T2:=T1.j7Q (.slice A n C) (Df.z1L c.set x.S) (hr1.mono fun b _ hb=>.inr (by have:=HX.out.2.2;omega))
 have K2:=(HX.out.1.over hb1).other (c:=g) (o:=5) (by omega) (.slice A n C)
 have A2':z3v g o w (w1.setCell ⟨g,5,none⟩ (.slice A n C)):=(z3v.of (Alt.of b01)).set 5 _;have a4:=(z0Z T2.cat).1.2.2.2.2;have f4:=T2.cat.free 4;have k1:(w1.setCell ⟨g,5,none⟩ (.slice A n C)).cell? ⟨w.heap.size,1,none⟩=some (.int .i64 x.i):=K2.cell 1;have hlt2:=T2.cat.lt;have T3:=T2.put 4 (.int .i64 x.i) { c with set:=Df.z1L c.set x.S,id:=x.i } (j9C _ _ _) rfl rfl rfl rfl
 have K3:=K2.other (c:=g) (o:=4) (by omega) (.int .i64 x.i)
 have A3':=A2'.set 4 (.int .i64 x.i);have HY:=hide (show _/\_/\_ from⟨T3,K3,A3'⟩);clear T1 T2 K2 T3 K3 hr1 hb1;generalize w1.setCell ⟨g,5,none⟩ (.slice A n C)=w2 at *;simp only[Exit.then];apply_assumption
 go_upto_region 3 with fail
 clear a4 f4 k1 hlt2;generalize w2.setCell ⟨g,4,none⟩ (.int .i64 x.i)=w3 at *;have k5:w3.cell? ⟨w.heap.size,5,none⟩=some (.slice A2 x.D.length C2):=HY.out.2.1.cell 5
 go_upto_region 4 with fail
 clear k5
 go_loopw [24] (fun i wl=>∃ (k:Nat),k<=x.D.length/\i=.int .i64 (k:Int)/\Hid (z7T (New P w 0) B o wl g { c with set:=Df.z1L c.set x.S,id:=x.i,fl:=z3D c.fl (x.D.take k) } { v with set:=.slice A n C })/\Hid (CAt 70 wl w.heap.size #[.int .i64 x.k,.int .i64 x.i,.int .i64 x.v,.int .i64 x.n,.slice A1 n1 C1,.slice A2 x.D.length C2])/\Hid (z3v g o w wl)) (fun i _=>x.D.length - (intOf i).toNat)
 case atStart=>exact⟨0,Nat.zero_le _,rfl,HY.out.1,HY.out.2.1,HY.out.2.2⟩
 case round =>
  obtain⟨k,hk,rfl,HT4,HK4,HA4⟩:=hrel
  by_cases hlt:k<x.D.length
  ·have hkI:(k:Int)<(x.D.length:Int):=by omega
   obtain⟨b,off,rfl,hPb,hbl,hcell⟩:=HC2.out (by omega)
   have hg0:x.D.getD k 0=x.D[k]:=by simp[List.getD,hlt]
   have hu:=HD.out x.D[k] (List.getElem_mem hlt);have hbo:some b≠o:=fun e=>(HH.out.noto b e.symm).1 hPb
   have cD:wr.cell? ⟨b,off+k,none⟩=some (.int .i64 x.D[k]):=by
    rw[World.cell?_of_block (w:=w) (a:=⟨b,off+k,none⟩) (HA4.out.block b hbl (fun e=>HH.out.notg (e ▸ hPb)) hbo),hcell k _ (z4J _ k hlt),hg0]
   have htk:x.D.take (k+1)=x.D.take k ++ [x.D[k]]:=List.take_succ_eq_append_getElem hlt;obtain⟨m,hm⟩:∃ m:Nat,x.D[k]=(m:Int):=⟨x.D[k].toNat,by omega⟩
   have hm6:m<6:=by omega
   have hmI:(m:Int)<6:=by omega
   have hm0:(0:Int)<=(m:Int):=by omega
   rw[hm]at cD;have aF:wr.cell? ⟨g,8+m,none⟩=some (.bool (z3D c.fl (x.D.take k) m)):=(HT4.out.cat.cell _).trans (q6W _ _ hm6);have fF:=HT4.out.cat.free (8+m);have hltg:=HT4.out.cat.lt;have T5:=HT4.out.put (8+m) (.bool false) { c with set:=Df.z1L c.set x.S,id:=x.i,fl:=z3D c.fl (x.D.take (k+1)) } (by rw[j4q _ _ hm6,htk,q0P,hm,Int.toNat_natCast]) rfl rfl rfl rfl
   have K5:=HK4.out.other (c:=g) (o:=8+m) (by omega) (.bool false)
   have A5:=HA4.out.set (8+m) (.bool false);have HZ:=hide (show _/\_/\_ from⟨T5,K5,A5⟩);clear T5 K5 A5 hcell hu hg0 hm htk HT4 HK4 HA4
   go_upto_region 7 with fail
   clear cD aF fF;generalize wr.setCell ⟨g,8+m,none⟩ (.bool false)=w5 at *;go_wp2
   first | exact⟨⟨k+1,by omega,by go_num,HZ.out.1,HZ.out.2.1,HZ.out.2.2⟩,by simp[intOf];omega⟩ | ((repeat apply Exists.intro);exact⟨⟨k+1,by omega,by go_num,HZ.out.1,HZ.out.2.1,HZ.out.2.2⟩,rfl⟩)
  ·obtain rfl:k=x.D.length:=by omega
   rw[List.take_length]at HT4;obtain⟨Ar,Cr,er⟩:=HT4.out.rp.slice;have er':v.rp=.slice Ar c.rp.length Cr:=er;have a7:wr.cell? ⟨g,7,none⟩=some (.slice Ar c.rp.length Cr):=by rw[← er'];exact HT4.out.cat.cell 7
   have a3:wr.cell? ⟨g,3,none⟩=some (.int .i64 c.t):=HT4.out.cat.cell 3;have k1:wr.cell? ⟨w.heap.size,1,none⟩=some (.int .i64 x.i):=HK4.out.cell 1
   go_upto_region 8 with fail
   have HRR:Hid (∀ wx,Below wr.heap.size wr wx->RR (New P w 0) B o wx (.slice Ar c.rp.length Cr) c.rp/\B<=wx.heap.size):=fun wx hb=>by
    have t:=HT4.out.later hb;have:=t.rp;rw[er]at this;exact⟨this,t.base⟩
   have hog:some g≠o:=fun e=>(HH.out.noto g e.symm).2 rfl;have hgr:g<wr.heap.size:=HT4.out.cat.lt;have HCT:=hide HT4.out.cat
   have HF:Hid (∀ (w8 w9:World),Below wr.heap.size wr w8->w8.grownBy w9 o->w9.cell? ⟨g,7,none⟩=some (.slice Ar c.rp.length Cr)/\w9.frozen? ⟨g,7,none⟩=false):=fun w8 w9 hb hg9=>by
    have c8:=HCT.out.over hb;have c9:=c8.keep (hg9.block g c8.lt hog);exact⟨by rw[← er'];exact c9.cell 7,c9.free 7⟩
   have hw15:IntKind.i64.wrap (c.t+15)=c.t+15:=by simp[IntKind.wrap,IntKind.bits,IntKind.signed];omega
   have hlg:=HL.out;clear er er'
   go_region_law (first
    | (refine j1E rfl rfl _ _ rfl (v:=.slice Ar c.rp.length Cr) (B:=B) (o:=o) rfl (x.i,c.t+15) wr.heap.size rfl (HRR.out _ (by exact (znw wr _).drew)).1 (HRR.out _ (by exact (znw wr _).drew)).2 hlg (fun j u hj=>j5F wr (x.i,c.t+15) j u hj) ?_;intro r C9 w9 hr9 hg9 hat9;obtain⟨y7,yf7⟩:=HF.out _ w9 (by exact (znw wr (.cells #[.int .i64 x.i,.int .i64 (c.t+15)] 88)).drew) hg9;have HW:=hide (show _/\_/\_ from⟨hr9,hg9,hat9⟩);clear hr9 hg9 hat9))
   all_goals
    obtain⟨hr9,hg9,hat9⟩:=HW.out;have b8:Below wr.heap.size wr (wr.alloc (.cells #[.int .i64 x.i,.int .i64 (c.t+15)] 88)).drew:=(znw wr _).drew;have T9:=(HT4.out.later b8).app hr9 hg9 hat9;have A9:z3v g o w (w9.setCell ⟨g,7,none⟩ (.slice (some ⟨r,0,none⟩) (c.rp.length+1) C9)):=((HA4.out.trans (z3v.of (Alt.of b8)) (.inl rfl)).grown hg9).set 7 _
    have hro:some r=o∨∃ r',some r=some r'/\w.heap.size<=r':=by
     rcases hat9 with e | e
     ·exact .inl e.symm
     ·exact .inr ⟨r,rfl,by rw[e];exact Nat.le_trans HA4.out.size b8.size⟩
    have hPP:∀ b,P b->b<w.heap.size->New P w 0 b/\b≠r:=fun b hb hl=>⟨.inl ⟨hb,hl⟩,fun e=>by
     rcases hat9 with e' | e'
     ·exact (HH.out.noto r e').1 (e ▸ hb)
     ·have:=HA4.out.size;have:=b8.size;omega⟩
    have HZ:=hide (show _/\_/\_/\_ from⟨T9,A9,hro,hPP⟩);clear T9 A9 hro hPP hr9 hg9 hat9 HW b8 y7 yf7 a7 a3 k1;generalize w9.setCell ⟨g,7,none⟩ (.slice (some ⟨r,0,none⟩) (c.rp.length+1) C9)=w10 at *;go_end0;have e:=HT.out;subst e;exact⟨_,some r,_,rfl,HZ.out.1,rfl,fun b hb=>hb.1,HZ.out.2.2.2,HZ.out.2.2.1,HZ.out.2.1⟩
end Kc
end Go.Proofs.YtmopekkhmhhcaaaGreat
