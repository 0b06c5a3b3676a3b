/- Parts of the proof. -/
import Derived.Test.YtmopekkhmhhcaaaGreatFL
import Derived.Test.YtmopekkhmhhcaaaGreatFK26
set_option maxRecDepth 100000
set_option maxHeartbeats 16000000
namespace Go.Proofs.YtmopekkhmhhcaaaGreat
open Go.Proofs.Tryz
section
open Go.RowKit
theorem q8d(x:Vd)(n:Int):0<=woN x n/\woN x n<=1125899906842624:=by
 have:=z4D n x.tok x.sh;unfold woN
 split
 ·omega
 ·omega
theorem z0E{ops:Array Oper}{o:Oper}{a:Act}{w:World}{K:Act->World->Prop}{Q:Exit->Act->World->Prop}{E:Prop}(hg:o.guard=none)(h:Oper.wp prog o a w K Q) :
  if Region.wanted o (yielded ops a.tmps)=true then Oper.wp prog o a w K Q else E:=by
 have hw:Region.wanted o (yielded ops a.tmps)=true:=by simp[Region.wanted,hg]
 rw[if_pos hw];exact h
theorem j2J{ops:Array Oper}{o:Oper}{a:Act}{w:World}{K:Act->World->Prop}{Q:Exit->Act->World->Prop}{E:Prop}(hg:o.guard=none)(hty:o.type=41)(p q:Operand)
  (hop:o.op=Op.call { callee:=Callee.builtin Builtin.append,args:=#[p,q],argTypes:=#[41,41] }) (ao:Option Addr) (sb so y:Nat) (W:List Wt) (x:Wt) (hs:a.eval p=.slice ao W.length W.length) (hx:a.eval q=.slice (some ⟨y,0,none⟩) 1 1)
  (hW:z2A w ao sb so W) (h60:W.length<=60) (hy:∀ j v,(wtL x)[j]?=some v->w.cell? ⟨y,j,none⟩=some v)
  (hK:∀ g C w',g=w.heap.size->W.length+1<=C->z2A w' (some ⟨g,0,none⟩) g 0 (W ++ [x])->Below w.heap.size w w'->K (a.put o.dst (.slice (some ⟨g,0,none⟩) (W.length+1) C)) w') :
  if Region.wanted o (yielded ops a.tmps)=true then Oper.wp prog o a w K Q else E:=by
 have hw:Region.wanted o (yielded ops a.tmps)=true:=by simp[Region.wanted,hg]
 rw[if_pos hw];unfold Oper.wp;obtain⟨C,w',hr,hC,hWs,hB⟩:=ap1 w ao sb so y W x hW h60 hy
 simp[execOp,hop,resolve,invoke,builtin,hs,hx,hty,hr,Result.andThen]
 exact hK _ _ _ rfl hC hWs hB
theorem j0s(w:World)(x:Wt)(e:TypeId):∀ j v,(wtL x)[j]?=some v->(w.alloc (.cells #[.int .i64 x.num,.int .i64 x.d,.int .i64 x.v,.int .i64 x.amt,.int .i64 x.hei,.int .i64 x.due,.int .i64 x.h0,.int .i64 x.h1] e)).cell? ⟨w.heap.size,j,none⟩=some v:=by
 intro j v hj;rw[World.cell?_alloc_at _ _ _ _ rfl]
 simpa [wtL] using hj
theorem q5K{f:Func}{p q:Tmp}(hres:f.results=#[.cell p 43,.tmp q]){B g sb:Nat}{w wq:World}{zs:Array Value}(R:SAt wq g zs)(hz:zs.size=63)(H:Below B w wq)(hB:B<=g)(s':St)(A:Option Addr)(ab ao C n:Nat)(er:Int)(r:St×Int)(hr:r=(s',er))(hn:s'.W.length=n)(hC:n<=C)(hW:z2A wq A ab ao s'.W)(hg:0<s'.W.length->ab≠g)(hq:0<s'.W.length->ab=sb∨B<=ab)(act:Act)
  (h8:act.tmps.getD p undef=.pointer (some ⟨g,0,none⟩)) (h9:act.tmps.getD q undef=.int .i64 er) (hd:act.defers=[]) :
  bodyPost prog f (fun e w'=>z5W B sb w r e w') Exit.ret act (wq.setCells g 0 (stC s' (.slice A n C)).toList):=by
 subst hn;exact z1E hres R hz H hB s' A ab ao C er r hr hC hW hg hq act h8 h9 hd
theorem j5p(s:St)(d v:Nat)(wo n:Int)(B:Bk)(x:Wt)(sl:Value):stC (j4B s d v wo n B x) sl=stC { q3u { s with b:=B } d v (-wo) (-n) with next:=s.next+1 } sl:=rfl
theorem q9p{s:St}(h:z0i s=true):1<=s.next/\s.next<=1125899906842624:=by
 unfold z0i at h;simp only[Bool.and_eq_true,decide_eq_true_eq]at h;exact⟨h.1.1.1.1.1.2,h.1.1.1.1.2⟩
theorem YAt.j1b{w:World}{b:Nat}{x:Wt}(h:YAt w b x)(a1 a2 a3 a4:Int):YAt ((((w.setCell ⟨b,0,none⟩ (.int .i64 a1)).setCell ⟨b,1,none⟩ (.int .i64 a2)).setCell ⟨b,2,none⟩ (.int .i64 a3)).setCell ⟨b,3,none⟩ (.int .i64 a4)) b { x with num:=a1,d:=a2,v:=a3,amt:=a4 }:=by
 unfold YAt at *
 simp[World.setCell,Array.getElem?_modify,h]
theorem YAt.free{w:World}{b:Nat}{x:Wt}(h:YAt w b x)(o:Nat):w.frozen? ⟨b,o,none⟩=false:=by
 unfold YAt at h
 simp[World.frozen?,h]
theorem q9k(s:St)(ao:Option Addr)(sb so c d v:Nat)(n:Int)(y:Wt)(w:World)(hc:s.W.length<=c)(hW:z2A w ao sb so s.W)(r:St×Int)(hg:z0i s=true)(hd:d<4)(hv:v<6)(B:Bk)(er wN wE:Int)(hN:woN (s.V v) n=wN)(hE:woE (s.V v) n=wE)
  (hUn:∀ w:World,Calls prog 110 #[.agg #[.int .i64 s.b.f0,.int .i64 s.b.f1,.int .i64 s.b.f2,.int .i64 s.b.f3,.int .i64 s.b.bo,.int .i64 s.b.wa,.int .i64 s.b.bu],.int .i64 wN] w fun e w'=>e=.returned (.tuple #[.agg #[.int .i64 B.f0,.int .i64 B.f1,.int .i64 B.f2,.int .i64 B.f3,.int .i64 B.bo,.int .i64 B.wa,.int .i64 B.bu],.int .i64 er])/\Below w.heap.size w w')
  (h1:¬ ((decide (0<n) && inA n)=true/\0<=y.hei/\0<=y.due)->r=(s,2))
  (h2:(decide (0<n) && inA n)=true/\0<=y.hei/\0<=y.due->¬ n<=s.S d v->r=(s,7))
  (h3:(decide (0<n) && inA n)=true/\0<=y.hei/\0<=y.due->n<=s.S d v->¬ (s.W.length<60/\s.next<1125899906842624)->r=(s,6))
  (h4:(decide (0<n) && inA n)=true/\0<=y.hei/\0<=y.due->n<=s.S d v->(s.W.length<60/\s.next<1125899906842624)->wE≠0->r=(s,wE))
  (h5:(decide (0<n) && inA n)=true/\0<=y.hei/\0<=y.due->n<=s.S d v->(s.W.length<60/\s.next<1125899906842624)->wE=0->er≠0->r=(s,er))
  (h6:(decide (0<n) && inA n)=true/\0<=y.hei/\0<=y.due->n<=s.S d v->(s.W.length<60/\s.next<1125899906842624)->wE=0->er=0->r=(j4B s d v wN n B { y with num:=s.next,d:=d,v:=v,amt:=wN },0)) :
  Calls prog 78 #[.agg (stC s (.slice ao s.W.length c)),.int .i64 (d:Int),.int .i64 (v:Int),.int .i64 n,.agg #[.int .i64 y.num,.int .i64 y.d,.int .i64 y.v,.int .i64 y.amt,.int .i64 y.hei,.int .i64 y.due,.int .i64 y.h0,.int .i64 y.h1]] w fun e w'=>z5W w.heap.size sb w r e w':=by
 have SS:=((SAt.new w (stC s (.slice ao s.W.length c))).alloc (.cells #[.int .i64 y.num,.int .i64 y.d,.int .i64 y.v,.int .i64 y.amt,.int .i64 y.hei,.int .i64 y.due,.int .i64 y.h0,.int .i64 y.h1] 82)).alloc (.cells Z63 43);have RR:=SAt.y1b w (.cells (stC s (.slice ao s.W.length c)) 43) (.cells #[.int .i64 y.num,.int .i64 y.d,.int .i64 y.v,.int .i64 y.amt,.int .i64 y.hei,.int .i64 y.due,.int .i64 y.h0,.int .i64 y.h1] 82) Z63;have YY:=YAt.new w (.cells (stC s (.slice ao s.W.length c)) 43) (.cells Z63 43) y;have HB:Hid (Below w.heap.size w (((w.alloc (.cells (stC s (.slice ao s.W.length c)) 43)).alloc (.cells #[.int .i64 y.num,.int .i64 y.d,.int .i64 y.v,.int .i64 y.amt,.int .i64 y.hei,.int .i64 y.due,.int .i64 y.h0,.int .i64 y.h1] 82)).alloc (.cells Z63 43))):=((znw w _).alloc (by simp) _).alloc (by simp;omega) _
 have HW:=hide hW;have HC:=hide hc;have H1:=hide h1;have H2:=hide h2;have H3:=hide h3;have H4:=hide h4;have H5:=hide h5;have H6:=hide h6;obtain⟨hvo,hps⟩:=z4A hg v hv;have hS:=z9z n;have hRf:=z5A hg hd hv;have hd':(d:Int)<4:=by omega
 have hv':(v:Int)<6:=by omega
 have hd0:(0:Int)<=(d:Int):=by omega
 have hv0:(0:Int)<=(v:Int):=by omega
 have hWo:=fun w b o (hn:n<=1125899906842624)=>q1Z b o (s.V v) n w hn hvo;rw[hN,hE]at hWo;have hwb:=q8d (s.V v) n;rw[hN]at hwb;clear hW h1 h2 h3 h4 h5 h6 hc hN hE
 go_enter func78,ntmps78
 go_upto_region 1 with fail
 change Code.wp prog _ _ _ (((w.alloc (.cells (stC s (.slice ao s.W.length c)) 43)).alloc (.cells #[.int .i64 y.num,.int .i64 y.d,.int .i64 y.v,.int .i64 y.amt,.int .i64 y.hei,.int .i64 y.due,.int .i64 y.h0,.int .i64 y.h1] 82)).alloc (.cells Z63 43));generalize ((w.alloc (.cells (stC s (.slice ao s.W.length c)) 43)).alloc (.cells #[.int .i64 y.num,.int .i64 y.d,.int .i64 y.v,.int .i64 y.amt,.int .i64 y.hei,.int .i64 y.due,.int .i64 y.h0,.int .i64 y.h1] 82)).alloc (.cells Z63 43)=w0 at *
 go_upto_region 2 with (go_at_call 104;refine (z2C s ao sb so c w.heap.size d v _ SS (by exact HW.out.over HB.out)).mono ?_;rintro e w1⟨rfl,h1⟩)
 have HB1:=hide (zbt HB.out h1);have S1:=SS.later h1 SS.lt;have R1:=RR.later h1 RR.lt;have Y1:=YY.later h1 YY.lt;obtain⟨x0,x1,x2,x3,x4,x5,x6,x7,x8⟩:=z0t S1;obtain⟨c0,c1,_,_,_⟩:=S1.val v hv;obtain⟨_,_,_,_,y4,y5,_,_⟩:=Y1.cells;have cs:=S1.shr d v hd hv;have hz1:w.heap.size+2<w1.heap.size:=R1.lt;have HT:Hid ((decide (0<n) && inA n)=true->0<n/\n<=1125899906842624):=fun h=>by simp only[Bool.and_eq_true,decide_eq_true_eq,z0D]at h;omega
 generalize (decide (0<n) && inA n)=t at *;clear SS RR YY h1 HB
 go_upto_region 16 with (first
  | (go_at_call 105;refine (hS _).mono ?_;rintro e w2⟨rfl,rfl⟩)
  | (go_at_call 109;refine (hWo _ _ _ (by exact (HT.out ‹t=true›).2) c0 c1).mono ?_;rintro e w2⟨rfl,h2⟩;have HB2:=hide (HB1.out.trans (h2.mono (by omega)));have S2:=S1.later h2 S1.lt;have R2:=R1.later h2 R1.lt;have Y2:=Y1.later h2 Y1.lt;clear x0 x1 x2 x3 x4 x5 x6 x7 x8;obtain⟨x0,x1,x2,x3,x4,x5,x6,x7,x8⟩:=z0t S2;have hz2:w.heap.size+2<w2.heap.size:=R2.lt;clear h2)
  | (go_at_call 110;refine (hUn _).mono ?_;rintro e w3⟨rfl,h3⟩;have HB3:=hide (HB2.out.trans (h3.mono (by omega)));have S3:=S2.later h3 S2.lt;have R3:=R2.later h3 R2.lt;have Y3:=Y2.later h3 Y2.lt;have hz3:w.heap.size+2<w3.heap.size:=R3.lt;have S4:=S3.alloc (.cells #[.int .i64 B.f0,.int .i64 B.f1,.int .i64 B.f2,.int .i64 B.f3,.int .i64 B.bo,.int .i64 B.wa,.int .i64 B.bu] 35);have R4:=R3.alloc (.cells #[.int .i64 B.f0,.int .i64 B.f1,.int .i64 B.f2,.int .i64 B.f3,.int .i64 B.bo,.int .i64 B.wa,.int .i64 B.bu] 35);have Y4:=Y3.later (znw _ (.cells #[.int .i64 B.f0,.int .i64 B.f1,.int .i64 B.f2,.int .i64 B.f3,.int .i64 B.bo,.int .i64 B.wa,.int .i64 B.bu] 35)) Y3.lt;have HB4:=hide (HB3.out.alloc (by omega) (.cells #[.int .i64 B.f0,.int .i64 B.f1,.int .i64 B.f2,.int .i64 B.f3,.int .i64 B.bo,.int .i64 B.wa,.int .i64 B.bu] 35));have B4:=BAt.new w3 B.f0 B.f1 B.f2 B.f3 B.bo B.wa B.bu;clear h3 x0 x1 x2 x3 x4 x5 x6 x7 x8 S3 R3 Y3)
  | ((fail_if_success (go_not_at_region 5));apply wp_region_lit;refine wpList_load_mid rfl 43 _ rfl _ 0 rfl _ _ S1.range underlying43 rfl (by rw[z0y];rfl) ?_;refine wpList_store_mid rfl 43 _ _ rfl _ 0 (stC s (.slice ao s.W.length c)) rfl rfl (R1.there 0 _ (by rw[z0s,z0g];omega)) (by rw[z0y];rfl) (z0C _ _ _ _) ?_)
  | ((fail_if_success (go_not_at_region 7));apply wp_region_lit;refine wpList_load_mid rfl 43 _ rfl _ 0 rfl _ _ S1.range underlying43 rfl (by rw[z0y];rfl) ?_;refine wpList_store_mid rfl 43 _ _ rfl _ 0 (stC s (.slice ao s.W.length c)) rfl rfl (R1.there 0 _ (by rw[z0s,z0g];omega)) (by rw[z0y];rfl) (z0C _ _ _ _) ?_)
  | ((fail_if_success (go_not_at_region 9));apply wp_region_lit;refine wpList_load_mid rfl 43 _ rfl _ 0 rfl _ _ S1.range underlying43 rfl (by rw[z0y];rfl) ?_;refine wpList_store_mid rfl 43 _ _ rfl _ 0 (stC s (.slice ao s.W.length c)) rfl rfl (R1.there 0 _ (by rw[z0s,z0g];omega)) (by rw[z0y];rfl) (z0C _ _ _ _) ?_)
  | ((fail_if_success (go_not_at_region 12));apply wp_region_lit;refine wpList_load_mid rfl 43 _ rfl _ 0 rfl _ _ S2.range underlying43 rfl (by rw[z0y];rfl) ?_;refine z1R rfl _ rfl ?_;refine wpList_store_mid rfl 43 _ _ rfl _ 0 (stC s (.slice ao s.W.length c)) rfl rfl (R2.there 0 _ (by rw[z0s,z0g];omega)) (by rw[z0y];rfl) (z0C _ _ _ _) ?_)
  | ((fail_if_success (go_not_at_region 15));apply wp_region_lit;refine wpList_load_mid rfl 43 _ rfl _ 0 rfl _ _ S4.range underlying43 rfl (by rw[z0y];rfl) ?_;refine z1R rfl _ rfl ?_;refine wpList_store_mid rfl 43 _ _ rfl _ 0 (stC s (.slice ao s.W.length c)) rfl rfl (R4.there 0 _ (by rw[z0s,z0g];omega)) (by rw[z0y];rfl) (z0C _ _ _ _) ?_))
 ·exact z1E results78 R1 rfl HB1.out (by omega) s ao sb so c _ r (H1.out (fun h=>by have:=h.2;omega)) HC.out (HW.out.over HB1.out) (fun h=>by have:=HW.out.lt h;omega) (fun _=>.inl rfl) _ rfl rfl rfl
 ·exact z1E results78 R1 rfl HB1.out (by omega) s ao sb so c _ r (H2.out ⟨‹t=true›,by omega,by omega⟩ (by omega)) HC.out (HW.out.over HB1.out) (fun h=>by have:=HW.out.lt h;omega) (fun _=>.inl rfl) _ rfl rfl rfl
 ·exact z1E results78 R1 rfl HB1.out (by omega) s ao sb so c _ r (H3.out ⟨‹t=true›,by omega,by omega⟩ (by omega) (by omega)) HC.out (HW.out.over HB1.out) (fun h=>by have:=HW.out.lt h;omega) (fun _=>.inl rfl) _ rfl rfl rfl
 ·exact z1E results78 R2 rfl HB2.out (by omega) s ao sb so c _ r (H4.out ⟨‹t=true›,by omega,by omega⟩ (by omega) (by omega) (by simpa using ‹(wE != 0)=true›)) HC.out (HW.out.over HB2.out) (fun h=>by have:=HW.out.lt h;omega) (fun _=>.inl rfl) _ rfl rfl rfl
 ·exact z1E results78 R4 rfl HB4.out (by omega) s ao sb so c _ r (H5.out ⟨‹t=true›,by omega,by omega⟩ (by omega) (by omega) (by simpa using ‹(wE != 0)=false›) (by simpa using ‹(er != 0)=true›)) HC.out (HW.out.over HB4.out) (fun h=>by have:=HW.out.lt h;omega) (fun _=>.inl rfl) _ rfl rfl rfl
 ·have HR:=hide (H6.out ⟨‹t=true›,by omega,by omega⟩ (by omega) (by omega) (by simpa using ‹(wE != 0)=false›) (by simpa using ‹(er != 0)=false›))
  have hn:=HT.out ‹t=true›;have hl60:s.W.length<60:=by omega
  have hnx:s.next<1125899906842624:=by omega
  have hnx0:=q9p hg;obtain⟨k1,k2,k3⟩:=z2s hvo;have k4:=z6X hps hd;rw[z0D]at k1 k2 k4;obtain⟨x0,x1,x2,x3,x4,x5,x6,x7,x8⟩:=z0t S4;have f0:=S4.free 0;have f1:=S4.free 1;have f2:=S4.free 2;have f3:=S4.free 3;have f4:=S4.free 4;have f5:=S4.free 5;have f6:=S4.free 6;have hne:w.heap.size≠w3.heap.size:=by omega
  clear H1 H2 H3 H4 H5 H6 HT hUn hWo hS c0 c1 x7 x8 S1 S2 R1 R2 Y1 Y2 HB1 HB2 hvo hps k3 B4 cs y4 y5
  go_upto_region 17 with fail
  change Code.wp prog _ _ _ (z6y (w3.alloc (.cells #[.int .i64 B.f0,.int .i64 B.f1,.int .i64 B.f2,.int .i64 B.f3,.int .i64 B.bo,.int .i64 B.wa,.int .i64 B.bu] 35)) w.heap.size B);have hb5:But w.heap.size (w3.alloc (.cells #[.int .i64 B.f0,.int .i64 B.f1,.int .i64 B.f2,.int .i64 B.f3,.int .i64 B.bo,.int .i64 B.wa,.int .i64 B.bu] 35)) (z6y (w3.alloc (.cells #[.int .i64 B.f0,.int .i64 B.f1,.int .i64 B.f2,.int .i64 B.f3,.int .i64 B.bo,.int .i64 B.wa,.int .i64 B.bu] 35)) w.heap.size B):=(((((((But.refl _ _).set 0 _).set 1 _).set 2 _).set 3 _).set 4 _).set 5 _).set 6 _;have S5:=z7r S4 B;have R5:=hb5.z1l (by omega) R4
  have Y5:YAt (z6y (w3.alloc (.cells #[.int .i64 B.f0,.int .i64 B.f1,.int .i64 B.f2,.int .i64 B.f3,.int .i64 B.bo,.int .i64 B.wa,.int .i64 B.bu] 35)) w.heap.size B) (w.heap.size+1) y:=(hb5.block _ (by omega)).trans Y4
  have HB5:=hide (HB4.out.trans (hb5.below (Nat.le_refl _)));generalize z6y (w3.alloc (.cells #[.int .i64 B.f0,.int .i64 B.f1,.int .i64 B.f2,.int .i64 B.f3,.int .i64 B.bo,.int .i64 B.wa,.int .i64 B.bu] 35)) w.heap.size B=w5 at *;have hA:=q3Q { s with b:=B } (.slice ao s.W.length c) w.heap.size d v (-wN) (-n) w5 S5 hd hv (by simp only;omega) (by simp only;omega) (by simp only;omega)
  clear x0 x1 x2 x3 x4 x5 x6 f0 f1 f2 f3 f4 f5 f6 S4 R4 Y4 HB3 HB4 S5 hb5
  go_upto_region 18 with (go_at_call 108;refine hA.mono ?_;rintro e w6⟨rfl,S6,hbut⟩)
  have R6:=hbut.z1l (by omega) R5
  have Y6:YAt w6 (w.heap.size+1) y:=(hbut.block _ (by omega)).trans Y5
  have HB6:=hide (HB5.out.trans (hbut.below (Nat.le_refl _)));have hz6:w.heap.size+2<w6.heap.size:=R6.lt;clear R5 Y5 HB5 hbut hA;obtain⟨_,_,_,_,_,_,_,x7,x8⟩:=z0t S6;obtain⟨y0,y1,y2,y3,_,_,_,_⟩:=Y6.cells;have g0:=Y6.free 0;have g1:=Y6.free 1;have g2:=Y6.free 2;have g3:=Y6.free 3;have f2:=S6.free 62;have hne2:w.heap.size≠w.heap.size+1:=by omega
  simp only[q3u]at x7 x8
  go_upto_region 20 with fail
  have Y7:=Y6.j1b s.next d v wN
  have hbY:=((((But.refl (w.heap.size+1) w6).set 0 (.int .i64 s.next)).set 1 (.int .i64 (d:Int))).set 2 (.int .i64 (v:Int))).set 3 (.int .i64 wN)
  have S7:=hbY.z1l (c:=w.heap.size) (by omega) S6
  have R7:=hbY.z1l (c:=w.heap.size+2) (by omega) R6
  have HB7:=hide (HB6.out.trans (hbY.below (B:=w.heap.size) (by omega)))
  generalize (((w6.setCell ⟨w.heap.size+1,0,none⟩ (.int .i64 s.next)).setCell ⟨w.heap.size+1,1,none⟩ (.int .i64 (d:Int))).setCell ⟨w.heap.size+1,2,none⟩ (.int .i64 (v:Int))).setCell ⟨w.heap.size+1,3,none⟩ (.int .i64 wN)=w7 at *
  have S8:=S7.set 62 (.int .i64 (s.next+1))
  rw[j2F]at S8;have hbS:=(But.refl w.heap.size w7).set 62 (.int .i64 (s.next+1))
  have R8:=hbS.z1l (c:=w.heap.size+2) (by omega) R7
  have Y8:=(hbS.block (w.heap.size+1) (by omega)).trans Y7
  have HB8:=hide (HB7.out.trans (hbS.below (B:=w.heap.size) (by omega)))
  generalize w7.setCell ⟨w.heap.size,62,none⟩ (.int .i64 (s.next+1))=w8 at *
  clear S6 R6 Y6 HB6 y0 y1 y2 y3 g0 g1 g2 g3 f2 x7 x8 hbY S7 R7 Y7 HB7 hbS;have Y9:YAt w8 (w.heap.size+1) { y with num:=s.next,d:=d,v:=v,amt:=wN }:=Y8
  generalize hx:({ y with num:=s.next,d:=d,v:=v,amt:=wN }:Wt)=x at *
  clear hx Y8;have HS8:=hide S8;obtain⟨_,_,_,_,_,_,_,x7,_⟩:=z0t S8;obtain⟨y0,y1,y2,y3,y4,y5,y6,y7⟩:=Y9.cells;have hz8:w.heap.size+2<w8.heap.size:=R8.lt;have hz8a:w.heap.size<w8.heap.size:=by omega
  have hz8b:w.heap.size+1<w8.heap.size:=by omega
  have hlen:(s.W.length:Int)<4611686018427387904:=by omega
  have hnil:ao=none->s.W.length=0:=fun h=>by
   rcases Nat.eq_zero_or_pos s.W.length with h0 | h0
   ·exact h0
   ·have:=HW.out.adr h0;rw[h]at this;cases this
  clear S8
  go_region_law (first
   | (refine z0E rfl ?_;go_simp;go_at_call 111;refine (j2C ao s.W.length c HC.out hnil hlen _).mono ?_;rintro e we⟨rfl,rfl⟩)
   | (refine j2J rfl rfl _ _ rfl ao sb so _ s.W x rfl rfl (HW.out.over (HB8.out.alloc (by omega) _).drew) (by omega) (fun j v hj=>j0s w8 x _ j v hj) ?_;intro g C w9 hgq hC9 hW9 hB9;have S9:=(HS8.out.later (znw w8 _).drew HS8.out.lt).later hB9 (by simp;omega);obtain⟨_,_,_,_,_,_,_,z7,_⟩:=z0t S9;have fz:=S9.free 61;have hz9:=S9.lt;have HS9:=hide S9;have HB9:=hide hB9;have HW9:=hide hW9;have HG9:=hide hgq;clear S9 hB9 hW9 hgq))
  all_goals
   have hgz:g=w8.heap.size+1:=by rw[HG9.out];show (w8.alloc _).heap.size=_;simp
   have hB9w:=(HB8.out.alloc (by omega) _).drew.trans (HB9.out.mono (by show _<=(w8.alloc _).heap.size;simp;omega))
   have R9:=(R8.later (znw w8 _).drew R8.lt).later HB9.out (by show _<(w8.alloc _).heap.size;simp;omega)
   have hbS:=(But.refl w.heap.size w9).set 61 (.slice (some ⟨g,0,none⟩) (s.W.length+1) C);have S10:=HS9.out.set 61 (.slice (some ⟨g,0,none⟩) (s.W.length+1) C);rw[q0X]at S10;have S11:SAt (w9.setCell ⟨w.heap.size,61,none⟩ (.slice (some ⟨g,0,none⟩) (s.W.length+1) C)) w.heap.size (stC (j4B s d v wN n B x) (.slice (some ⟨g,0,none⟩) (s.W.length+1) C)):=by rw[j5p];exact S10
   have R10:=hbS.z1l (c:=w.heap.size+2) (by omega) R9
   have W10:=HW9.out.but hbS (fun _=>by omega)
   have HGZ:=hide hgz;clear hgz;have HB10:=hide (hB9w.trans (hbS.below (Nat.le_refl _)));generalize w9.setCell ⟨w.heap.size,61,none⟩ (.slice (some ⟨g,0,none⟩) (s.W.length+1) C)=w10 at *;have hz10:w.heap.size<w10.heap.size:=S11.lt;clear HS9 HB9 HG9 HW9 HS8 R8 R9 HB8 hbS S10 hB9w y0 y1 y2 y3 y4 y5 y6 y7 x7 z7 fz Y9 hz9
   go_upto_region 21 with fail
   apply wp_region_lit;refine wpList_load_mid rfl 43 _ rfl _ 0 rfl _ _ S11.range underlying43 rfl (by rw[z0y];rfl) ?_
   refine wpList_store_mid rfl 43 _ _ rfl _ 0 (stC (j4B s d v wN n B x) (.slice (some ⟨g,0,none⟩) (s.W.length+1) C)) rfl rfl (R10.there 0 _ (by rw[z0s,z0g];omega)) (by rw[z0y];rfl) (z0C _ _ _ _) ?_
   go_wp2;exact q5K results78 R10 rfl HB10.out (by omega) (j4B s d v wN n B x) (some ⟨g,0,none⟩) g 0 C (s.W.length+1) 0 r HR.out (by simp[j4B]) hC9 W10 (fun _=>by have:=HGZ.out;omega) (fun _=>.inr (by have:=HGZ.out;omega)) _ rfl rfl rfl
 ·exact z1E results78 R1 rfl HB1.out (by omega) s ao sb so c _ r (H3.out ⟨‹t=true›,by omega,by omega⟩ (by omega) (by omega)) HC.out (HW.out.over HB1.out) (fun h=>by have:=HW.out.lt h;omega) (fun _=>.inl rfl) _ rfl rfl rfl
 ·exact z1E results78 R1 rfl HB1.out (by omega) s ao sb so c _ r (H1.out (fun h=>by have:=h.2;omega)) HC.out (HW.out.over HB1.out) (fun h=>by have:=HW.out.lt h;omega) (fun _=>.inl rfl) _ rfl rfl rfl
 ·exact z1E results78 R1 rfl HB1.out (by omega) s ao sb so c _ r (H1.out (fun h=>absurd h.1 ‹¬ t=true›)) HC.out (HW.out.over HB1.out) (fun h=>by have:=HW.out.lt h;omega) (fun _=>.inl rfl) _ rfl rfl rfl
end
end Go.Proofs.YtmopekkhmhhcaaaGreat
