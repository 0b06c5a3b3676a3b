/- Parts of the proof. -/
import Derived.Test.YtmopekkhmhhcaaaGreatFL
import Derived.Test.YtmopekkhmhhcaaaGreatFK8
import Derived.Test.YtmopekkhmhhcaaaGreatFK17
set_option maxRecDepth 100000
set_option maxHeartbeats 16000000
namespace Go.Proofs.YtmopekkhmhhcaaaGreat
open Go.Proofs.Tryz
namespace Kc
open Go.RowKit Pv
theorem Rep.tail{P:Nat->Prop}{w:World}{b off n C:Nat}{x:Int×Int}{l:List (Int×Int)}(h:Rep P w (.slice (some ⟨b,off,none⟩) n C) 2 8 (pwC (x :: l))):Rep P w (.slice (if C=1 then some ⟨b,off,none⟩ else some ⟨b,off+2,none⟩) l.length (C - 1)) 2 8 (pwC l):=by
 obtain⟨A,m,C',h1,h2,h3,h4,h5⟩:=h;cases h1;rw[z0c,List.length_cons]at h2;have hm:n=l.length+1:=by omega
 refine⟨_,l.length,C - 1,rfl,z0c _,by omega,⟨fun h=>(by split at h <;> cases h),by omega⟩,fun h0=>?_⟩
 obtain⟨b',off',e,hP,hl,hc⟩:=h5 (by omega)
 cases e;refine⟨b,off+2,if_neg (by omega),hP,hl,fun j u hu=>?_⟩
 have:=hc (j+2) u (by show ([_,_] ++ pwC l)[j+2]?=_;simpa using hu)
 rwa [show off+(j+2)=off+2+j by omega]at this
theorem j8X(c:Cs)(k i x n now:Int):(z2u c k i x n now).1.rp=c.rp/\(z2u c k i x n now).1.t=c.t:=by unfold z2u;split <;> exact⟨rfl,rfl⟩
theorem j8B{c:Cs}{k i x n now:Int}(h:(z2u c k i x n now).2≠0):(z2u c k i x n now).1=c:=by
 unfold z2u at h ⊢
 split at h
 ·rename_i hg;rw[if_pos hg];dsimp only at h ⊢;unfold Ln.z5i;rw[if_neg h]
 ·rename_i hg;rw[if_neg hg]
def q6R(g:Nat)(w:World):Nat:=match w.cell? ⟨g,7,none⟩ with
 | some (.slice _ n _)=>n
 | _=>0
theorem CAt.q6R{w:World}{g:Nat}{c:Cs}{v:CsV}(h:CAt 63 w g (csC c v)){A:Option Addr}{n C:Nat}(e:v.rp=.slice A n C):q6R g w=n:=by
 unfold Kc.q6R;rw[show w.cell? ⟨g,7,none⟩=some (.slice A n C) by rw[← e];exact h.cell 7]
theorem j2u{c:Cs}(h:c.rp=[]):z2l c c.rp=c:=by
 rw[h]
 show { c with rp:=[] }=c
 rw[← h]
theorem j0M{c:Cs}{x:Int×Int}{l:List (Int×Int)}(h:c.rp=x :: l):z2l c c.rp=if x.2<=c.t then (if (z2u c 2 x.1 0 0 c.t).2=0 then z2l (z2u c 2 x.1 0 0 c.t).1 l else c) else c:=by
 rw[h];have e:{ c with rp:=x :: l }=c:=by rw[← h]
 show (if x.2<=c.t then (if (z2u c 2 x.1 0 0 c.t).2=0 then z2l (z2u c 2 x.1 0 0 c.t).1 l else { c with rp:=x :: l }) else { c with rp:=x :: l })=_
 rw[e]
theorem q7N(c:Cs)(l:List (Int×Int)):∀ m,z2l { c with rp:=m } l=z2l c l:=by
 induction l generalizing c with
 | nil=>intro m;rfl
 | cons x l ih =>
  intro m;have e:z2u { c with rp:=m } 2 x.1 0 0 c.t=({ (z2u c 2 x.1 0 0 c.t).1 with rp:=m },(z2u c 2 x.1 0 0 c.t).2):=by unfold z2u;split <;> rfl
  show (if x.2<=c.t then (if (z2u { c with rp:=m } 2 x.1 0 0 c.t).2=0 then z2l (z2u { c with rp:=m } 2 x.1 0 0 c.t).1 l else { c with rp:=x :: l }) else { c with rp:=x :: l })=(if x.2<=c.t then (if (z2u c 2 x.1 0 0 c.t).2=0 then z2l (z2u c 2 x.1 0 0 c.t).1 l else { c with rp:=x :: l }) else { c with rp:=x :: l })
  rw[e];dsimp only;rw[ih]
theorem q1O(g:Nat)(c:Cs)(v:CsV)(P:Nat->Prop)(w:World)(h:CAt 63 w g (csC c v))(hp:CIn P w c v)(hg:¬ P g)(ht0:0<=c.t)(ht1:c.t<=1099511627776) :
  Calls prog 128 #[.pointer (some ⟨g,0,none⟩)] w (j4g w g P (z2l c c.rp) (.tuple #[])):=by
 obtain⟨D,hD⟩:∃ D,z2l c c.rp=D:=⟨_,rfl⟩;rw[hD];have hng:=z0N hg h.lt;have HS:=hide (show CAt 63 w g (csC c v)/\CIn (New P w 0) w c v/\z2l c c.rp=D from⟨h,hp.z2T (Below.refl _ _) 0,hD⟩);clear h hp hD
 go_enter func128,ntmps128
 go_wp2
 go_loopw [2] (fun _ wl=>∃ (d:Cs) (u:CsV),Hid (CAt 63 wl g (csC d u)/\CIn (New P w 0) wl d u/\z2l d d.rp=D)/\Hid (Alt g w wl)/\Hid (d.t=c.t)) (fun _ wl=>q6R g wl)
 case atStart=>exact⟨c,v,HS,Alt.refl _ _,rfl⟩
 case round =>
  obtain⟨d,u,HX,HA,HDT⟩:=hrel;obtain⟨Ar,Cr,er,-,hn0,hcr,-⟩:=HX.out.2.1.rp.open (z0c _) (by decide)
  have hroom:=HX.out.2.1.rp.room er;have a7:wr.cell? ⟨g,7,none⟩=some (.slice Ar d.rp.length Cr):=by rw[← er];exact HX.out.1.cell 7
  have a3:wr.cell? ⟨g,3,none⟩=some (.int .i64 d.t):=HX.out.1.cell 3;have alt:∀ {wx:World},Alt g w wx->∀ n,Alt g w (wx.drewN n):=fun h n=>⟨h.os,h.tape,h.output,h.size,h.block⟩;cases hrp:d.rp with
  | nil =>
   rw[hrp]at a7;have eD:D=d:=by rw[← HX.out.2.2,j2u hrp]
   have HED:=hide eD;clear eD
   go_upto_region 0 with fail
   go_quiet (fail);go_wp2;go_end0;rw[HED.out];exact⟨u,rfl,HX.out.1,HX.out.2.1.keep fun _ _ _=>rfl,alt HA.out _⟩
  | cons x l =>
   have eD:D=if x.2<=d.t then (if (z2u d 2 x.1 0 0 d.t).2=0 then z2l (z2u d 2 x.1 0 0 d.t).1 l else d) else d:=by rw[← HX.out.2.2,j0M hrp]
   have HED:=hide eD;clear eD;have hlen:d.rp.length=l.length+1:=by rw[hrp];rfl
   have hpos:(0:Int)<((l.length:Int)+1):=by omega
   obtain⟨b,off,rfl,-,hbl,hcell⟩:=hcr (by omega)
   rw[hlen]at a7;have c0:wr.cell? ⟨b,off,none⟩=some (.int .i64 x.1):=hcell 0 _ (by rw[hrp];rfl)
   have c1:wr.cell? ⟨b,off+1,none⟩=some (.int .i64 x.2):=hcell 1 _ (by rw[hrp];rfl)
   obtain⟨x1,x2⟩:=x;dsimp only at c0 c1 HED;have hrl:=CAt.q6R HX.out.1 er;rw[hlen]at hrl;have HRL:=hide hrl;clear hcell hcr hn0 hrl
   by_cases hdue:x2<=d.t
   ·replace HED:=hide (HED.out.trans (if_pos hdue));have HSY:=hide (fun (wx:World) (hb:Below wr.heap.size wr wx)=>z9W g d u 2 x1 0 0 d.t (New P w 0) wx (HX.out.1.over hb) (HX.out.2.1.over hb) hng (by rw[HDT.out];exact ht0) (by rw[HDT.out];exact ht1))
    have hrp':=j8X d 2 x1 0 0 d.t;have HER:=hide (fun h=>j8B (c:=d) (k:=2) (i:=x1) (x:=0) (n:=0) (now:=d.t) h);generalize hSS:z2u d 2 x1 0 0 d.t=SS at *;obtain⟨d2,e2⟩:=SS;dsimp only at HSY HED hrp' HER
    go_upto_region 0 with fail
    go_quiet (fail)
    go_upto_region 1 with fail
    have b1:Below wr.heap.size wr (wr.drewN nq):=⟨rfl,rfl,rfl,Nat.le_refl _,fun _ _=>rfl⟩;have d7:(wr.drewN nq).cell? ⟨g,7,none⟩=some (.slice (some ⟨b,off,none⟩) (l.length+1) Cr):=a7;have d3:(wr.drewN nq).cell? ⟨g,3,none⟩=some (.int .i64 d.t):=a3;have d0:(wr.drewN nq).cell? ⟨b,off,none⟩=some (.int .i64 x1):=c0;have HX1:=hide (show _/\_/\_ from⟨HX.out.1.over b1,HX.out.2.1.over b1,alt HA.out nq⟩);have HB1:=hide b1;clear a7 a3 c0 c1 b1 hbl alt;generalize wr.drewN nq=w1 at *;apply z4l (fun w2=>∃ u2,CAt 63 w2 g (csC d2 u2)/\CIn (New P w 0) w2 d2 u2/\Alt g w w2)
    ·refine wp_region_noPanic ?_
     go_region_with (go_at_call 137;refine (HSY.out _ (by exact HB1.out.drew)).mono ?_;rintro e w2⟨u2,rfl,C2,I2,A2⟩;have HW:=hide (show _/\_/\_ from⟨C2,I2,A2⟩);clear C2 I2 A2)
     all_goals
      obtain⟨C2,I2,A2⟩:=HW.out;have A1:=HX1.out.2.2;have A3:Alt g w w2:=A1.trans (Alt.trans (Alt.of (Below.refl _ w1).drew) A2);refine NoPanic.normal ⟨rfl,rfl,u2,C2,I2.mono fun b' _ hb'=>?_,A3⟩
      rcases hb' with⟨hb',_⟩ | hb'
      ·exact hb'
      ·exact .inr (Nat.le_trans A1.size hb')
    rintro w2⟨u2,C2,I2,A2⟩;clear d7 d3 d0 HSY HB1 HX1;have hrp2:d2.rp=(x1,x2) :: l:=by rw[hrp'.1,hrp]
    have hdt2:=hide (hrp'.2.trans HDT.out);clear hrp'
    by_cases he:e2=0
    ·subst he;replace HED:=hide (HED.out.trans (if_pos rfl));obtain⟨A3,C3,e3,-,-,hc3,-⟩:=I2.rp.open (z0c _) (by decide)
     have hlen2:d2.rp.length=l.length+1:=by rw[hrp2];rfl
     obtain⟨b3,off3,rfl,-,-,-⟩:=hc3 (by omega)
     rw[hlen2]at e3;have hroom3:=(I2.rp.room e3).1;have hrI:(1:Int)<=(l.length:Int)+1:=by omega
     have hrI2:(l.length:Int)+1<=(C3:Int):=by omega
     have hrI3:(1:Int)<=(C3:Int):=by omega
     have z7:w2.cell? ⟨g,7,none⟩=some (.slice (some ⟨b3,off3,none⟩) (l.length+1) C3):=by rw[← e3];exact C2.cell 7
     have f7:=C2.free 7;have hgl:=C2.lt;have r4:Rep (New P w 0) w2 (.slice (if C3=1 then some ⟨b3,off3,none⟩ else some ⟨b3,off3+2,none⟩) l.length (C3 - 1)) 2 8 (pwC l):=Rep.tail (x:=(x1,x2)) (n:=l.length+1) (by have:=I2.rp;rw[e3,hrp2]at this;exact this)
     have C4:=C2.set 7 (.slice (if C3=1 then some ⟨b3,off3,none⟩ else some ⟨b3,off3+2,none⟩) l.length (C3 - 1));rw[q8t d2 u2 l]at C4;have I4':CIn (New P w 0) w2 { d2 with rp:=l } { u2 with rp:=.slice (if C3=1 then some ⟨b3,off3,none⟩ else some ⟨b3,off3+2,none⟩) l.length (C3 - 1) }:=⟨I2.set,I2.pd,r4,I2.said,I2.due⟩
     have I4:=I4'.set1 hng 7 (.slice (if C3=1 then some ⟨b3,off3,none⟩ else some ⟨b3,off3+2,none⟩) l.length (C3 - 1));have A4:=A2.set 7 (.slice (if C3=1 then some ⟨b3,off3,none⟩ else some ⟨b3,off3+2,none⟩) l.length (C3 - 1));have hrl4:=CAt.q6R C4 rfl;have HZ:=hide (show _/\_/\_/\_ from⟨C4,I4,A4,hrl4⟩);have HTL:=hide (q7N d2 l l);clear C4 I4 I4' A4 r4 hrl4 C2 I2 A2 hc3;simp only[Exit.then];apply_assumption;go_wp2;exact⟨⟨_,_,⟨HZ.out.1,HZ.out.2.1,by rw[HTL.out];exact HED.out.symm⟩,HZ.out.2.2.1,hdt2.out⟩,by rw[HZ.out.2.2.2,HRL.out];omega⟩
    ·replace HED:=hide (HED.out.trans (if_neg he));have he':(e2 != 0)=true:=by simpa using he
     have ed:d2=d:=HER.out he;subst ed;have HZ:=hide (show _/\_/\_ from⟨C2,I2,A2⟩);clear C2 I2 A2;simp only[Exit.then];apply_assumption;go_wp2;go_end0;rw[HED.out];exact⟨u2,rfl,HZ.out.1,HZ.out.2.1,HZ.out.2.2⟩
   ·replace HED:=hide (HED.out.trans (if_neg hdue))
    go_upto_region 0 with fail
    go_quiet (fail);go_wp2;go_end0;rw[HED.out];exact⟨u,rfl,HX.out.1,HX.out.2.1.keep fun _ _ _=>rfl,alt HA.out _⟩
end Kc
namespace Pv
open Go.RowKit
attribute [local go_sem ↓] z1K z0K z0q z1y
theorem q0s(g:Nat)(p:Pr)(v:PrV)(P:Nat->Prop)(w:World)(c:Nat)(hc:c<2)(x:Pkt)(y1 y2:Value)(hC:CAt 57 w g (prC p v))(hp:PIn P w p v)(hg:¬ P g)(_hgs:z0i p.s=true)(hk:x.k=2)(_hv:x.k=3∨x.k=4->0<=x.v/\x.v<6) :
  Calls prog 114 #[.pointer (some ⟨g,0,none⟩),.agg #[.int .i64 (c:Int),.int .i64 x.k,.int .i64 x.i,.int .i64 x.v,.int .i64 x.n,y1,y2]] w (z4E w g P (z1F p c x)):=by
 have hD:z1F p c x=if x.k=2 then ({ p with s:={ p.s with W:=z5D c x.i p.s.W } },true)
  else if x.k=4 then
   if (p.s.V x.v.toNat).dead=true then (p,true) else ({ p with s:=z7o p.s x.v.toNat (q1V x.i (p.L c).base) },true)
  else if (p.s.V x.v.toNat).jail=true then ({ p with L:=z0Q p.L c { p.L c with done:=z3h (p.L c).done x.v } },true)
  else if p.ml<1 then (p,false)
  else ({ p with ml:=wrap64 (p.ml - z9F (p.s.V x.v.toNat)),s:=z4y p.s x.v.toNat true (p.s.V x.v.toNat).dead,L:=z0Q p.L c { p.L c with done:=z3h (p.L c).done x.v } },true):=by unfold z1F;rfl
 generalize z1F p c x=D at *;have HD:=hide hD;have HKX:=hide hk;clear hk;have HP:=hide hp;have hgl:=hC.lt;have hcc:(c:Int)<2:=by omega
 have hcz:(0:Int)<=(c:Int):=by omega
 clear hD
 go_enter func114,ntmps114
 go_upto_region 1 with fail
 have K0:=CAt.new 85 w #[.int .i64 (c:Int),.int .i64 x.k,.int .i64 x.i,.int .i64 x.v,.int .i64 x.n,y1,y2];have b0:Below w.heap.size w (w.alloc (.cells #[.int .i64 (c:Int),.int .i64 x.k,.int .i64 x.i,.int .i64 x.v,.int .i64 x.n,y1,y2] 85)):=znw w _;generalize w.alloc (.cells #[.int .i64 (c:Int),.int .i64 x.k,.int .i64 x.i,.int .i64 x.v,.int .i64 x.n,y1,y2] 85)=w0 at *;have k0:w0.cell? ⟨w.heap.size,0,none⟩=some (.int .i64 (c:Int)):=K0.cell 0;have hz0:=K0.lt;have H0:=hide (show _/\_/\_ from⟨hC.over b0,K0,b0⟩);clear hC hp K0 b0;go_quiet (fail);simp only[Exit.then];apply_assumption;have C1:=H0.out.1.over (below_drewN (Below.refl w0.heap.size w0) nq);have K1:=H0.out.2.1.over (below_drewN (Below.refl w0.heap.size w0) nq);have b1:=below_drewN H0.out.2.2 nq;clear k0 H0;generalize w0.drewN nq=w1 at *;have k00:w1.cell? ⟨w.heap.size,0,none⟩=some (.int .i64 (c:Int)):=K1.cell 0;have k1:w1.cell? ⟨w.heap.size,1,none⟩=some (.int .i64 x.k):=K1.cell 1;have k2:w1.cell? ⟨w.heap.size,2,none⟩=some (.int .i64 x.i):=K1.cell 2;have k3:w1.cell? ⟨w.heap.size,3,none⟩=some (.int .i64 x.v):=K1.cell 3;have hz1:=K1.lt;have hzg:=C1.lt;have P1:=HP.out.z2T b1 0;have m1:=z2p C1;have H1:=hide (show _/\_/\_/\_ from⟨C1,K1,b1,P1⟩);clear C1 K1 b1 P1;have hk:=HKX.out;rw[hk]at k1;replace HD:=hide (HD.out.trans (if_pos hk));obtain⟨s',hs'⟩:∃ s':St,{ p.s with W:=z5D c x.i p.s.W }=s':=⟨_,rfl⟩
 have hsW:z5D c x.i p.s.W=s'.W:=by rw[← hs']
 have hrl:=fun (wx:World) (hb:Below w1.heap.size w1 wx)=>j3K (H1.out.2.2.2.ws.over hb) c x.i hc;rw[hs']at hrl HD;rw[hsW]at hrl;have HRL:=hide hrl;clear hrl hs' hsW;have m1d:=z2p (H1.out.1.over (Below.refl w1.heap.size w1).drew)
 go_upto_region 4 with fail
 apply q3G (fun u w'=>∃ w3,w'=w3.setCells g 2 (stC s' u).toList/\Below w1.heap.size w1 w3/\Rep (fun b=>w1.heap.size<=b) w3 u 8 64 (wsL s'.W))
 ·refine wp_region_noPanic ?_;have HW3:Hid (∀ (w3:World) (u3:Value),Below w1.heap.size w1 w3->(∃ A n C,u3=.slice A n C)->∃ wS,wS=w3.setCells g 2 (stC s' u3).toList/\(q1T (.pointer (some ⟨g,2,none⟩)) (.agg (stC s' u3))).run prog w3=.ok () wS):=fun w3 u3 b3 h3=>⟨_,rfl,z2Z (H1.out.1.over b3) (z0a _ _) (z0g s' u3) (z7f s' h3)⟩;have HRD:=hide (HRL.out w1.drew (Below.refl _ _).drew)
  go_region_with (go_at_call 133;refine HRD.out.mono ?_;rintro e w3⟨u3,rfl,U3,hb3⟩;have b3:=(Below.refl w1.heap.size w1).drew.trans hb3;obtain⟨wS,hwS,sS3⟩:=HW3.out w3 u3 b3 U3.one';have HwS:=hide hwS;clear hwS)
  all_goals
   exact NoPanic.normal ⟨u3,rfl,rfl,w3,HwS.out,b3,U3⟩
 rintro u w'⟨w3,rfl,b3,U3⟩;have C4:=(H1.out.1.over b3).z1l s' u;have A4:=(Alt.of (g:=g) (zbt H1.out.2.2.1 b3)).sets (stC s' u).toList 2;have hs1:=H1.out.2.2.1.size;have U4:=U3.sets (g:=g) (fun h=>by omega) 2 (stC s' u).toList
 have N4:=(H1.out.2.2.2.over b3).sets (g:=g) (z0N hg hgl) 2 (stC s' u).toList;have HZ:=hide (show _/\_/\_/\_ from⟨C4,A4,U4,N4⟩);clear C4 A4 U4 N4 b3 U3 m1 m1d k00 k1 k2 k3 hz1 hzg;generalize w3.setCells g 2 (stC s' u).toList=w4 at *;simp only[Exit.inBlock,Exit.then];apply_assumption;go_wp2;go_ret;have hd:=HD.out;rw[hd];exact⟨{ v with ws:=u },rfl,HZ.out.1,⟨HZ.out.2.2.1.mono fun b _ h=>.inr (by omega),HZ.out.2.2.2.set,HZ.out.2.2.2.lk,HZ.out.2.2.2.q⟩,HZ.out.2.1⟩
theorem q5Y(g:Nat)(p:Pr)(v:PrV)(P:Nat->Prop)(w:World)(c:Nat)(hc:c<2)(x:Pkt)(y1 y2:Value)(hC:CAt 57 w g (prC p v))(hp:PIn P w p v)(hg:¬ P g)(_hgs:z0i p.s=true)(hk:x.k=3)(_hv:x.k=3∨x.k=4->0<=x.v/\x.v<6)
  (HDN:x.k=3->∀ (wx:World) (v:PrV) (P':Nat->Prop),CAt 57 wx g (prC p v)->PIn P' wx p v->¬ P' g->Calls prog 157 #[.pointer (some ⟨g,0,none⟩),.pointer (some ⟨g,66+c * 14,none⟩),.int .i64 x.v] wx (z4E wx g P' (z1F p c x))) :
  Calls prog 114 #[.pointer (some ⟨g,0,none⟩),.agg #[.int .i64 (c:Int),.int .i64 x.k,.int .i64 x.i,.int .i64 x.v,.int .i64 x.n,y1,y2]] w (z4E w g P (z1F p c x)):=by
 have hD:z1F p c x=if x.k=2 then ({ p with s:={ p.s with W:=z5D c x.i p.s.W } },true)
  else if x.k=4 then
   if (p.s.V x.v.toNat).dead=true then (p,true) else ({ p with s:=z7o p.s x.v.toNat (q1V x.i (p.L c).base) },true)
  else if (p.s.V x.v.toNat).jail=true then ({ p with L:=z0Q p.L c { p.L c with done:=z3h (p.L c).done x.v } },true)
  else if p.ml<1 then (p,false)
  else ({ p with ml:=wrap64 (p.ml - z9F (p.s.V x.v.toNat)),s:=z4y p.s x.v.toNat true (p.s.V x.v.toNat).dead,L:=z0Q p.L c { p.L c with done:=z3h (p.L c).done x.v } },true):=by unfold z1F;rfl
 generalize z1F p c x=D at *;have HD:=hide hD;have HKX:=hide hk;clear hk;have HDW:=hide HDN;have HP:=hide hp;have hgl:=hC.lt;have hcc:(c:Int)<2:=by omega
 have hcz:(0:Int)<=(c:Int):=by omega
 clear hD HDN
 go_enter func114,ntmps114
 go_upto_region 1 with fail
 have K0:=CAt.new 85 w #[.int .i64 (c:Int),.int .i64 x.k,.int .i64 x.i,.int .i64 x.v,.int .i64 x.n,y1,y2];have b0:Below w.heap.size w (w.alloc (.cells #[.int .i64 (c:Int),.int .i64 x.k,.int .i64 x.i,.int .i64 x.v,.int .i64 x.n,y1,y2] 85)):=znw w _;generalize w.alloc (.cells #[.int .i64 (c:Int),.int .i64 x.k,.int .i64 x.i,.int .i64 x.v,.int .i64 x.n,y1,y2] 85)=w0 at *;have k0:w0.cell? ⟨w.heap.size,0,none⟩=some (.int .i64 (c:Int)):=K0.cell 0;have hz0:=K0.lt;have H0:=hide (show _/\_/\_ from⟨hC.over b0,K0,b0⟩);clear hC hp K0 b0;go_quiet (fail);simp only[Exit.then];apply_assumption;have C1:=H0.out.1.over (below_drewN (Below.refl w0.heap.size w0) nq);have K1:=H0.out.2.1.over (below_drewN (Below.refl w0.heap.size w0) nq);have b1:=below_drewN H0.out.2.2 nq;clear k0 H0;generalize w0.drewN nq=w1 at *;have k00:w1.cell? ⟨w.heap.size,0,none⟩=some (.int .i64 (c:Int)):=K1.cell 0;have k1:w1.cell? ⟨w.heap.size,1,none⟩=some (.int .i64 x.k):=K1.cell 1;have k2:w1.cell? ⟨w.heap.size,2,none⟩=some (.int .i64 x.i):=K1.cell 2;have k3:w1.cell? ⟨w.heap.size,3,none⟩=some (.int .i64 x.v):=K1.cell 3;have hz1:=K1.lt;have hzg:=C1.lt;have P1:=HP.out.z2T b1 0;have m1:=z2p C1;have H1:=hide (show _/\_/\_/\_ from⟨C1,K1,b1,P1⟩);clear C1 K1 b1 P1;have hk:=HKX.out;rw[hk]at k1;replace HDW:=hide (HDW.out hk);have HDX:=hide (HDW.out w1 v _ H1.out.1 H1.out.2.2.2 (z0N hg hgl));clear HDW
 go_wp2_with (go_at_call 157;refine HDX.out.mono ?_;rintro e w2⟨v2,rfl,C2,P2,A2⟩)
 go_ret;refine⟨v2,rfl,C2,P2.mono fun b _ h=>?_,(Alt.of H1.out.2.2.1).trans A2⟩
 rcases h with⟨h,_⟩ | h
 ·exact h
 ·exact .inr (by have:=H1.out.2.2.1.size;omega)
end Pv
end Go.Proofs.YtmopekkhmhhcaaaGreat
