/- Parts of the proof. -/
import Derived.Test.YtmopekkhmhhcaaaGreatFL
import Derived.Test.YtmopekkhmhhcaaaGreatFK6
import Derived.Test.YtmopekkhmhhcaaaGreatFK39
import Derived.Test.YtmopekkhmhhcaaaGreatFK42
set_option maxRecDepth 100000
set_option maxHeartbeats 16000000
namespace Go.Proofs.YtmopekkhmhhcaaaGreat
open Go.Proofs.Tryz
namespace Pv
open Go.RowKit Wd
theorem _root_.Go.Proofs.YtmopekkhmhhcaaaGreat.z2y.hei{B:Nat}{w:World}{g C:Nat}{W:List Wt}(h:z2y B w (some ⟨g,0,none⟩) C W){k:Nat}{x:Wt}(hx:W[k]?=some x):w.cell? ⟨g,k * 8+4,none⟩=some (.int .i64 x.hei):=by
 have:=World.ownsRow.cells h (g:=g) rfl (k * 8+4) (.int .i64 x.hei) (z4B W k x 4 hx (by omega))
 rwa [Addr.add_lit,Nat.zero_add]at this
theorem Alt.far{g gg:Nat}{w w':World}(h:Alt g w w')(hg:w.heap.size<=gg)(o:Nat)(v:Value):Alt g w (w'.setCell ⟨gg,o,none⟩ v):=
 ⟨h.os,h.tape,h.output,(by simp[World.setCell];exact h.size),fun k hk hn=>(Below.heap_setCell _ _ _ _ (show k≠gg by omega)).trans (h.block k hk hn)⟩
structure HRl(p:Pr)(v:PrV)(F:Wt->Wt)(w:World)(g:Nat)(A:Option Addr)(C k:Nat)(wl:World):Prop where
 own:z2y w.heap.size wl A C ((p.s.W.take k).map F ++ p.s.W.drop k)
 S:CAt 57 wl g (prC p { v with ws:=.slice A p.s.W.length C })
 alt:Alt g w wl
theorem q3p(f:Wt->Bool){W:List Wt}{k:Nat}{x:Wt}(h:W[k]?=some x):(W.take (k+1)).any f=((W.take k).any f || f x):=by
 rw[z1p h,List.any_append]
 simp
theorem q4x(p:Pr)(v:PrV)(u:Value):(prC p v).setIfInBounds 63 u=prC p { v with ws:=u }:=rfl
theorem j6G(g:Nat)(p:Pr)(v:PrV)(P:Nat->Prop)(w:World)(hC:CAt 57 w g (prC p v))(hp:Rep P w v.ws 8 64 (wsL p.s.W))(h0:0<=p.h)(h1:p.h<=1099511627776) :
  Calls prog 88 #[.pointer (some ⟨g,0,none⟩),.int .i64 0] w fun e w'=>∃ A C,e=.returned (.bool (p.s.W.any (fun x=>decide (x.hei=p.h+1))))/\CAt 57 w' g (prC p { v with ws:=.slice A p.s.W.length C })/\z2y w.heap.size w' A C (p.s.W.map (z1A 0 (p.h+1)))/\Alt g w w':=by
 obtain⟨ao,c,sb,so,hve,hW,-,-⟩:=hp.q4n;have hlen:=hW.len;have HOP:=hide (z7Q g p v w hC h0 h1);have hCl:=z3R ao p.s.W c sb so w hW;have x7:w.cell? ⟨g,63,none⟩=some (.slice ao p.s.W.length c):=by rw[← hve];exact hC.cell 63
 have f63:=hC.free 63;have hlt:=hC.lt;have HC:=hide hC;clear hC hp hW hve;generalize hh1:p.h+1=hh at *;clear hh1
 go_enter func88,ntmps88
 go_upto_region 3 with (first
  | (go_at_call 77;refine HOP.out.mono ?_;rintro e w'⟨rfl,rfl⟩)
  | (go_at_call 40;refine hCl.mono ?_;rintro e w1⟨A,C,rfl,hO,hb1⟩;have C1:=HC.out.over hb1;have hz1:=C1.lt;clear x7;have x7:w1.cell? ⟨g,63,none⟩=some v.ws:=C1.cell 63;clear f63;have f63:=C1.free 63;have HO1:=hide hO;have HB1:=hide hb1;clear hb1 hO))
 have S2:=C1.set 63 (.slice A p.s.W.length C);rw[q4x]at S2;have hbt:=(But.refl g w1).set 63 (.slice A p.s.W.length C);have A2:Alt g w (w1.setCell ⟨g,63,none⟩ (.slice A p.s.W.length C)):=(Alt.of (g:=g) HB1.out).set 63 _;have HO2:Hid (z2y w.heap.size (w1.setCell ⟨g,63,none⟩ (.slice A p.s.W.length C)) A C p.s.W):=z1n HO1.out fun k hk=>hbt.block _ (by have:=(World.ownsRow.lt HO1.out k hk).1;omega)
 generalize w1.setCell ⟨g,63,none⟩ (.slice A p.s.W.length C)=w2 at *;clear x7 f63 C1 HO1 HB1 hbt hCl HOP HC;have x7:w2.cell? ⟨g,63,none⟩=some (.slice A p.s.W.length C):=S2.cell 63;have hz2:g<w2.heap.size:=S2.lt;have HR0:Hid (HRl p v (z1A 0 hh) w g A C 0 w2):=⟨HO2.out,S2,A2⟩;clear S2 HO2 A2
 go_upto_region 4 with fail
 go_loopw [27,6] (fun i fo wl=>∃ (k:Nat),k<=p.s.W.length/\i=.int .i64 (k:Int)/\fo=.bool ((p.s.W.take k).any (fun x=>decide (x.hei=hh)))/\Hid (HRl p v (z1A 0 hh) w g A C k wl)) (fun i _ _=>p.s.W.length - (intOf i).toNat)
 case atStart=>exact⟨0,Nat.zero_le _,rfl,rfl,HR0⟩
 case round =>
  obtain⟨k,hk,rfl,rfl,HR⟩:=hrel;clear HR0 x7;have hwr:=HR.out.S.lt;have x7:wr.cell? ⟨g,63,none⟩=some (.slice A p.s.W.length C):=HR.out.S.cell 63
  by_cases hltk:k<p.s.W.length
  ·obtain⟨x,hx,_⟩:=drop_at hltk;obtain⟨e1,e2,e3⟩:=z7l (z1A 0 hh) hx;obtain⟨gg,rfl,hgB,hgs,hcl⟩:=HR.out.own.holds (by omega)
   obtain⟨c6,c7,f6,f7⟩:=hcl k x e2;have c4:=HR.out.own.hei e2;have hcap:=HR.out.own.cap;rw[e3]at hcap;have HE1:=hide e1;have HE2:=hide e2;have ha:=q3p (fun x=>decide (x.hei=hh)) hx;have HA:=hide ha;generalize (p.s.W.take k).any (fun x=>decide (x.hei=hh))=bk at *;clear hcl e1 e2 hx ha
   by_cases hhe:x.hei=hh
   ·have HX:Hid (z1A 0 hh x={ x with h0:=hh }):=by show _=_;unfold z1A;simp[hhe]
    have HA2:Hid ((p.s.W.take (k+1)).any (fun x=>decide (x.hei=hh))=true):=by show _=_;rw[HA.out];simp[hhe]
    have HN:Hid (HRl p v (z1A 0 hh) w g (some ⟨gg,0,none⟩) C (k+1) (wr.setCell ⟨gg,k * 8+6,none⟩ (.int .i64 hh))):=by
     have hbt:=(But.refl gg wr).set (k * 8+6) (.int .i64 hh);exact⟨by rw[HE1.out,HX.out];exact HR.out.own.put HE2.out _ 6 _ (by omega) rfl,(hbt.block g (by have:=HR.out.alt.size;omega)).trans HR.out.S,HR.out.alt.far (by omega) _ _⟩
    go_wp2;exact⟨⟨k+1,by omega,by go_num,by rw[HA2.out],HN⟩,by simp[intOf];omega⟩
   ·have HX:Hid (z1A 0 hh x=x):=by show _=_;unfold z1A;simp[hhe]
    have HA2:Hid ((p.s.W.take (k+1)).any (fun x=>decide (x.hei=hh))=bk):=by show _=_;rw[HA.out];simp[hhe]
    have HR1:Hid (HRl p v (z1A 0 hh) w g (some ⟨gg,0,none⟩) C (k+1) wr):=⟨by rw[HE1.out,HX.out,z5L HE2.out];exact HR.out.own,HR.out.S,HR.out.alt⟩
    go_wp2;exact⟨⟨k+1,by omega,by go_num,by rw[HA2.out],HR1⟩,by simp[intOf];omega⟩
  ·obtain rfl:k=p.s.W.length:=by omega
   have hO:=HR.out.own;rw[List.take_length,List.drop_length,List.append_nil]at hO;have HO:=hide (show _/\_/\_ from⟨hO,HR.out.S,HR.out.alt⟩);rw[List.take_length];clear hO HR;go_wp2;go_ret;exact⟨A,C,rfl,HO.out.2.1,HO.out.1,HO.out.2.2⟩
theorem j6M(g:Nat)(p:Pr)(v:PrV)(P:Nat->Prop)(w:World)(hC:CAt 57 w g (prC p v))(hp:Rep P w v.ws 8 64 (wsL p.s.W))(h0:0<=p.h)(h1:p.h<=1099511627776) :
  Calls prog 88 #[.pointer (some ⟨g,0,none⟩),.int .i64 1] w fun e w'=>∃ A C,e=.returned (.bool (p.s.W.any (fun x=>decide (x.hei=p.h+1))))/\CAt 57 w' g (prC p { v with ws:=.slice A p.s.W.length C })/\z2y w.heap.size w' A C (p.s.W.map (z1A 1 (p.h+1)))/\Alt g w w':=by
 obtain⟨ao,c,sb,so,hve,hW,-,-⟩:=hp.q4n;have hlen:=hW.len;have HOP:=hide (z7Q g p v w hC h0 h1);have hCl:=z3R ao p.s.W c sb so w hW;have x7:w.cell? ⟨g,63,none⟩=some (.slice ao p.s.W.length c):=by rw[← hve];exact hC.cell 63
 have f63:=hC.free 63;have hlt:=hC.lt;have HC:=hide hC;clear hC hp hW hve;generalize hh1:p.h+1=hh at *;clear hh1
 go_enter func88,ntmps88
 go_upto_region 3 with (first
  | (go_at_call 77;refine HOP.out.mono ?_;rintro e w'⟨rfl,rfl⟩)
  | (go_at_call 40;refine hCl.mono ?_;rintro e w1⟨A,C,rfl,hO,hb1⟩;have C1:=HC.out.over hb1;have hz1:=C1.lt;clear x7;have x7:w1.cell? ⟨g,63,none⟩=some v.ws:=C1.cell 63;clear f63;have f63:=C1.free 63;have HO1:=hide hO;have HB1:=hide hb1;clear hb1 hO))
 have S2:=C1.set 63 (.slice A p.s.W.length C);rw[q4x]at S2;have hbt:=(But.refl g w1).set 63 (.slice A p.s.W.length C);have A2:Alt g w (w1.setCell ⟨g,63,none⟩ (.slice A p.s.W.length C)):=(Alt.of (g:=g) HB1.out).set 63 _;have HO2:Hid (z2y w.heap.size (w1.setCell ⟨g,63,none⟩ (.slice A p.s.W.length C)) A C p.s.W):=z1n HO1.out fun k hk=>hbt.block _ (by have:=(World.ownsRow.lt HO1.out k hk).1;omega)
 generalize w1.setCell ⟨g,63,none⟩ (.slice A p.s.W.length C)=w2 at *;clear x7 f63 C1 HO1 HB1 hbt hCl HOP HC;have x7:w2.cell? ⟨g,63,none⟩=some (.slice A p.s.W.length C):=S2.cell 63;have hz2:g<w2.heap.size:=S2.lt;have HR0:Hid (HRl p v (z1A 1 hh) w g A C 0 w2):=⟨HO2.out,S2,A2⟩;clear S2 HO2 A2
 go_upto_region 4 with fail
 go_loopw [27,6] (fun i fo wl=>∃ (k:Nat),k<=p.s.W.length/\i=.int .i64 (k:Int)/\fo=.bool ((p.s.W.take k).any (fun x=>decide (x.hei=hh)))/\Hid (HRl p v (z1A 1 hh) w g A C k wl)) (fun i _ _=>p.s.W.length - (intOf i).toNat)
 case atStart=>exact⟨0,Nat.zero_le _,rfl,rfl,HR0⟩
 case round =>
  obtain⟨k,hk,rfl,rfl,HR⟩:=hrel;clear HR0 x7;have hwr:=HR.out.S.lt;have x7:wr.cell? ⟨g,63,none⟩=some (.slice A p.s.W.length C):=HR.out.S.cell 63
  by_cases hltk:k<p.s.W.length
  ·obtain⟨x,hx,_⟩:=drop_at hltk;obtain⟨e1,e2,e3⟩:=z7l (z1A 1 hh) hx;obtain⟨gg,rfl,hgB,hgs,hcl⟩:=HR.out.own.holds (by omega)
   obtain⟨c6,c7,f6,f7⟩:=hcl k x e2;have c4:=HR.out.own.hei e2;have hcap:=HR.out.own.cap;rw[e3]at hcap;have HE1:=hide e1;have HE2:=hide e2;have ha:=q3p (fun x=>decide (x.hei=hh)) hx;have HA:=hide ha;generalize (p.s.W.take k).any (fun x=>decide (x.hei=hh))=bk at *;clear hcl e1 e2 hx ha
   by_cases hhe:x.hei=hh
   ·have HX:Hid (z1A 1 hh x={ x with h1:=hh }):=by show _=_;unfold z1A;simp[hhe]
    have HA2:Hid ((p.s.W.take (k+1)).any (fun x=>decide (x.hei=hh))=true):=by show _=_;rw[HA.out];simp[hhe]
    have HN:Hid (HRl p v (z1A 1 hh) w g (some ⟨gg,0,none⟩) C (k+1) (wr.setCell ⟨gg,k * 8+7,none⟩ (.int .i64 hh))):=by
     have hbt:=(But.refl gg wr).set (k * 8+7) (.int .i64 hh);exact⟨by rw[HE1.out,HX.out];exact HR.out.own.put HE2.out _ 7 _ (by omega) rfl,(hbt.block g (by have:=HR.out.alt.size;omega)).trans HR.out.S,HR.out.alt.far (by omega) _ _⟩
    go_wp2;exact⟨⟨k+1,by omega,by go_num,by rw[HA2.out],HN⟩,by simp[intOf];omega⟩
   ·have HX:Hid (z1A 1 hh x=x):=by show _=_;unfold z1A;simp[hhe]
    have HA2:Hid ((p.s.W.take (k+1)).any (fun x=>decide (x.hei=hh))=bk):=by show _=_;rw[HA.out];simp[hhe]
    have HR1:Hid (HRl p v (z1A 1 hh) w g (some ⟨gg,0,none⟩) C (k+1) wr):=⟨by rw[HE1.out,HX.out,z5L HE2.out];exact HR.out.own,HR.out.S,HR.out.alt⟩
    go_wp2;exact⟨⟨k+1,by omega,by go_num,by rw[HA2.out],HR1⟩,by simp[intOf];omega⟩
  ·obtain rfl:k=p.s.W.length:=by omega
   have hO:=HR.out.own;rw[List.take_length,List.drop_length,List.append_nil]at hO;have HO:=hide (show _/\_/\_ from⟨hO,HR.out.S,HR.out.alt⟩);rw[List.take_length];clear hO HR;go_wp2;go_ret;exact⟨A,C,rfl,HO.out.2.1,HO.out.1,HO.out.2.2⟩
theorem q9H(g:Nat)(p:Pr)(v:PrV)(P:Nat->Prop)(w:World)(c:Nat)(hc:c<2)(hC:CAt 57 w g (prC p v))(hp:Rep P w v.ws 8 64 (wsL p.s.W))(h0:0<=p.h)(h1:p.h<=1099511627776) :
  Calls prog 88 #[.pointer (some ⟨g,0,none⟩),.int .i64 (c:Int)] w fun e w'=>∃ u,e=.returned (.bool (p.s.W.any (fun x=>decide (x.hei=p.h+1))))/\CAt 57 w' g (prC { p with s:={ p.s with W:=p.s.W.map (z1A c (p.h+1)) } } { v with ws:=u })/\Rep (fun b=>w.heap.size<=b) w' u 8 64 (wsL (p.s.W.map (z1A c (p.h+1))))/\Alt g w w':=by
 have hl:(p.s.W.map (z1A c (p.h+1))).length=p.s.W.length:=List.length_map _;have h64:p.s.W.length * 64<=140737488351232:=by obtain⟨_,_,_,_,_,hW,-,-⟩:=hp.q4n;exact hW.len
 match c,hc with
 | 0,_ =>
  refine (j6G g p v P w hC hp h0 h1).mono ?_;rintro e w'⟨A,C,rfl,hS,hO,ha⟩;have:=z2y.rep hO (by rw[hl];exact h64)
  rw[hl]at this;exact⟨_,rfl,hS,this,ha⟩
 | 1,_ =>
  refine (j6M g p v P w hC hp h0 h1).mono ?_;rintro e w'⟨A,C,rfl,hS,hO,ha⟩;have:=z2y.rep hO (by rw[hl];exact h64)
  rw[hl]at this;exact⟨_,rfl,hS,this,ha⟩
end Pv
namespace Pv
open Go.RowKit Wd
theorem j5h:(prog.info? 51).map (·.size)=some 14:=by kernel_rfl
def j6X(a v:Value):Sem Unit:=Instr.storeAt 51 a v
theorem q5f(a v:Value):Instr.storeAt 51 a v=j6X a v:=rfl
def z6f(h:Int)(set:List (Int×Int))(f:Bool):Lk:=⟨true,false,h,set,f,[],⟨[],[],0,false⟩,0,0,0,0⟩
def q4w(u:Value):LkV:=⟨u,.slice none 0 0,.slice none 0 0,.slice none 0 0⟩
theorem j2k(p:Pr)(v:PrV)(k:Nat)(hk:k<2)(y:Lk)(u:LkV)(f:Bool):(prC { p with L:=z0Q p.L k y } (v.upd k u)).setIfInBounds (66+k * 14+4) (.bool f)=prC { p with L:=z0Q p.L k { y with fresh:=f } } (v.upd k u):=by
 obtain⟨a,c,ha,h1,h2⟩:=z5Q p v k hk;rw[h2,h2,set_mid _ _ _ _ 4 _ ha (by simp[lkL])]
 rfl
attribute [local go_sem ↓] z1K z0K z0q z1y q5f
theorem q6l(p:Pr)(v:PrV)(P:Nat->Prop)(w:World)(c:Int)(hp:PIn P w p v) :
  Calls prog 67 #[.agg (prC p v),.int .i64 c] w (j4r P w (z0X p c)):=by
 have hD:z0X p c=if z0x p=true then (if isC c=true then (if (p.L c.toNat).gone=true then (p,11) else if (p.L c.toNat).on=true then (p,5) else if p.h=0∨p.set.length=0 then (p,13) else ({ p with s:={ p.s with W:=p.s.W.map (z1A c.toNat (p.h+1)) },L:=z0Q p.L c.toNat (z7w p) },0)) else (p,4)) else (p,2):=by unfold z0X;rfl
 generalize z0X p c=D at *;have HD:=hide hD;clear hD;have hone:=z1c hp;have HGD:=hide (fun (wx:World) (hb:Below w.heap.size w wx)=>z3m p v P wx (hp.over hb));have HN:=hide (fun (wx:World) (hb:Below w.heap.size w wx)=>hp.z2T hb 2);have HP:=hide hp
 have HG:Hid (z0x p=true->0<=p.h/\p.h<=1099511627776):=fun h=>by
  unfold z0x at h;simp only[Bool.and_eq_true,decide_eq_true_eq]at h;omega
 clear hp;generalize z0x p=G at *
 go_enter func67,ntmps67
 go_upto_region 1 with fail
 change Code.wp prog _ _ _ ((w.alloc (.cells (prC p v) 57)).alloc (.cells zeroCells57 57));have C0:CAt 57 ((w.alloc (.cells (prC p v) 57)).alloc (.cells zeroCells57 57)) w.heap.size (prC p v):=(CAt.new _ w _).alloc _;have R0:CAt 57 ((w.alloc (.cells (prC p v) 57)).alloc (.cells zeroCells57 57)) (w.heap.size+1) zeroCells57:=CAt.new2 _ w _ _;have B0:Below w.heap.size w ((w.alloc (.cells (prC p v) 57)).alloc (.cells zeroCells57 57)):=(znw w _).alloc (by simp) _
 generalize (w.alloc (.cells (prC p v) 57)).alloc (.cells zeroCells57 57)=w0 at *;have l0:=z0k C0 (z0a _ _);have H0:=hide (show _/\_/\_ from⟨C0,R0,B0⟩);clear C0 R0 B0;cases G
 ·replace HD:=hide (HD.out.trans (if_neg (by simp)))
  go_wp2_with (go_at_call 74;refine (HGD.out _ H0.out.2.2).mono ?_;rintro e w1⟨rfl,hb1⟩;clear l0;have l1:=z0k (H0.out.1.over hb1) (z0a _ _);have s1:=z0l (H0.out.2.1.over hb1) z0e (z0a p v) hone)
  exact z0P results67 (H0.out.2.1.over hb1) z0e (zbt H0.out.2.2 hb1) p v 2 D HD.out (HN.out _ (zbt H0.out.2.2 hb1)) _ rfl rfl rfl
 replace HD:=hide (HD.out.trans (if_pos rfl));obtain⟨g0,g1⟩:=HG.out rfl;clear HG
 go_upto_region 3 with (go_at_call 74;refine (HGD.out _ H0.out.2.2).mono ?_;rintro e w1⟨rfl,hb1⟩;clear l0)
 have C1:=H0.out.1.over hb1;have R1:=H0.out.2.1.over hb1;have B1:=zbt H0.out.2.2 hb1;have l1:=z0k C1 (z0a _ _);have s1:=z0l R1 z0e (z0a p v) hone;have hz1:=R1.lt;have HZ:=hide (show _/\_/\_ from⟨R1,B1,C1⟩);clear R1 B1 hb1 hone H0 HGD
 by_cases hcc:isC c=true
 case neg =>
  replace HD:=hide (HD.out.trans (if_neg hcc));have hcc':isC c=false:=by simpa using hcc
  have HCC:=hide hcc';clear hcc hcc' C1
  go_wp2_with (go_at_call 87;refine (z3a _ _).mono ?_;rintro e w'⟨rfl,rfl⟩;simp only[HCC.out])
  exact z0P results67 HZ.out.1 z0e HZ.out.2.1 p v 4 D HD.out (HN.out _ HZ.out.2.1) _ rfl rfl rfl
 replace HD:=hide (HD.out.trans (if_pos hcc));have HCC:=hide hcc;obtain⟨k,rfl,hk⟩:=z9B hcc;rw[Int.toNat_natCast]at HD;clear hcc;have hkk:(k:Int)<2:=by omega
 have hkz:(0:Int)<=(k:Int):=by omega
 obtain⟨c0,c1,-⟩:=(C1.lk hk).facts
 by_cases hgo:(p.L k).gone=true
 ·rw[hgo]at c1;replace HD:=hide (HD.out.trans (if_pos hgo));clear C1
  go_wp2_with (go_at_call 87;refine (z3a _ _).mono ?_;rintro e w'⟨rfl,rfl⟩;simp only[HCC.out])
  exact z0P results67 HZ.out.1 z0e HZ.out.2.1 p v 11 D HD.out (HN.out _ HZ.out.2.1) _ rfl rfl rfl
 replace HD:=hide (HD.out.trans (if_neg hgo));have hgo':(p.L k).gone=false:=by simpa using hgo
 rw[hgo']at c1;clear hgo hgo'
 by_cases hon:(p.L k).on=true
 ·rw[hon]at c0;replace HD:=hide (HD.out.trans (if_pos hon));clear C1
  go_wp2_with (go_at_call 87;refine (z3a _ _).mono ?_;rintro e w'⟨rfl,rfl⟩;simp only[HCC.out])
  exact z0P results67 HZ.out.1 z0e HZ.out.2.1 p v 5 D HD.out (HN.out _ HZ.out.2.1) _ rfl rfl rfl
 replace HD:=hide (HD.out.trans (if_neg hon));have hon':(p.L k).on=false:=by simpa using hon
 rw[hon']at c0;clear hon hon';obtain⟨A6,C6,e6,hl6,-⟩:=HP.out.set.open (z0c p.set) (by decide)
 have a0:w1.cell? ⟨w.heap.size,0,none⟩=some (.int .i64 p.h):=C1.cell 0;have a65:w1.cell? ⟨w.heap.size,65,none⟩=some (.slice A6 p.set.length C6):=by rw[← e6];exact C1.cell 65
 have HE6:=hide e6;clear e6
 by_cases h0:p.h=0
 ·replace HD:=hide (HD.out.trans (if_pos (.inl h0)));rw[h0]at a0;clear C1
  go_wp2_with (go_at_call 87;refine (z3a _ _).mono ?_;rintro e w'⟨rfl,rfl⟩;simp only[HCC.out])
  exact z0P results67 HZ.out.1 z0e HZ.out.2.1 p v 13 D HD.out (HN.out _ HZ.out.2.1) _ rfl rfl rfl
 by_cases hn:p.set.length=0
 ·replace HD:=hide (HD.out.trans (if_pos (.inr hn)));rw[hn]at a65;clear C1
  go_wp2_with (go_at_call 87;refine (z3a _ _).mono ?_;rintro e w'⟨rfl,rfl⟩;simp only[HCC.out])
  exact z0P results67 HZ.out.1 z0e HZ.out.2.1 p v 13 D HD.out (HN.out _ HZ.out.2.1) _ rfl rfl rfl
 replace HD:=hide (HD.out.trans (if_neg (fun h=>by rcases h with h | h;exact h0 h;exact hn h)))
 have hnI:¬ ((p.set.length:Int)=0):=by omega
 have hb1:(p.h == 0)=false:=by simpa using h0
 have hb2:((p.set.length:Int) == 0)=false:=by simpa using hnI
 have hd1:=(Below.refl w1.heap.size w1).drew;have HCL:=hide (z6F p.set (.slice A6 p.set.length C6) P w1.drew (by rw[← HE6.out];exact HP.out.set.over (zbt HZ.out.2.1 hd1)))
 have HS:w1.drew.cell? ⟨w.heap.size,0,none⟩=some (.int .i64 p.h)/\w1.drew.cell? ⟨w.heap.size,65,none⟩=some (.slice A6 p.set.length C6):=⟨a0,a65⟩;clear C1 hd1
 go_upto_region 12 with (go_at_call 87;refine (z3a _ _).mono ?_;rintro e w'⟨rfl,rfl⟩;simp only[HCC.out])
 refine wp_region_held_drew (S:=fun wx=>wx.cell? ⟨w.heap.size,0,none⟩=some (.int .i64 p.h)/\wx.cell? ⟨w.heap.size,65,none⟩=some (.slice A6 p.set.length C6)) (by kernel_rfl) HS (fun hS=>?_)
 refine O.Z 0 (.pointer (some ⟨w.heap.size,66+k * 14,none⟩)) 38 rfl rfl hS (fun wx hSw=>?_) ?_
 ·go_simp
 refine O.Z 1 (.pointer (some ⟨w.heap.size,0,none⟩)) 39 rfl rfl hS (fun wx hSw=>?_) ?_
 ·go_simp
 refine O.Z 2 (.int .i64 p.h) 40 rfl rfl hS (fun wx hSw=>?_) ?_
 ·have l:=hSw.1;go_simp
 refine O.Z 3 (.pointer (some ⟨w.heap.size,65,none⟩)) 41 rfl rfl hS (fun wx hSw=>?_) ?_
 ·go_simp
 refine O.Z 4 (.slice A6 p.set.length C6) 42 rfl rfl hS (fun wx hSw=>?_) ?_
 ·have l:=hSw.2;go_simp
 refine wpAnyH_ready (rs:=[5]) (by kernel_rfl) (by simp) ?_
 refine AllReadyH.cons rfl (fun K hK=>?_) AllReadyH.nil;go_simp;refine HCL.out.mono ?_;rintro e w3⟨u3,rfl,U3,hb3⟩;obtain⟨A3,n3,D3,rfl⟩:=U3.one';have b3:=(Below.refl w1.heap.size w1).drew.trans hb3;dsimp only;refine hK.out _ _ ⟨(HZ.out.2.2.over b3).cell 0,((HZ.out.2.2.over b3).cell 65).trans (congrArg some HE6.out)⟩ (fun hS=>?_);clear hK K;refine O.Z 6 (.agg #[.bool true,.bool false,.int .i64 p.h,.slice A3 n3 D3,.bool false,.slice none 0 0,.slice none 0 0,.slice none 0 0,.int .i64 0,.bool false,.int .i64 0,.int .i64 0,.int .i64 0,.int .i64 0]) 44 rfl rfl hS (fun wx hSw=>?_) ?_
 ·go_simp
 refine O.Z 7 (.pointer (some ⟨w.heap.size,66+k * 14,none⟩)) 45 rfl rfl hS (fun wx hSw=>?_) ?_
 ·go_simp
 have q1:(Option.map (fun x=>x.size) (prog.info? 51))=some (#[.bool true,.bool false,.int .i64 p.h,.slice A3 n3 D3,.bool false,.slice none 0 0,.slice none 0 0,.slice none 0 0,.int .i64 0,.bool false,.int .i64 0,.int .i64 0,.int .i64 0,.int .i64 0]:Array Value).size:=by rw[j5h];rfl
 have q2:(#[.bool true,.bool false,.int .i64 p.h,.slice A3 n3 D3,.bool false,.slice none 0 0,.slice none 0 0,.slice none 0 0,.int .i64 0,.bool false,.int .i64 0,.int .i64 0,.int .i64 0,.int .i64 0]:Array Value).all (fun x=>x.oneCell')=true:=by simp[Value.oneCell']
 have q3:w3.there w.heap.size (66+k * 14) (#[.bool true,.bool false,.int .i64 p.h,.slice A3 n3 D3,.bool false,.slice none 0 0,.slice none 0 0,.slice none 0 0,.int .i64 0,.bool false,.int .i64 0,.int .i64 0,.int .i64 0,.int .i64 0]:Array Value).size:=(q7s p v hk (z6f p.h p.set false) (q4w (.slice A3 n3 D3))).there (HZ.out.2.2.over b3);have C4:=(q7s p v hk (z6f p.h p.set false) (q4w (.slice A3 n3 D3))).sets (HZ.out.2.2.over b3);have qS:(w3.setCells w.heap.size (66+k * 14) (lkL (z6f p.h p.set false) (q4w (.slice A3 n3 D3)))).cell? ⟨w.heap.size,0,none⟩=some (.int .i64 p.h)/\(w3.setCells w.heap.size (66+k * 14) (lkL (z6f p.h p.set false) (q4w (.slice A3 n3 D3)))).cell? ⟨w.heap.size,65,none⟩=some (.slice A6 p.set.length C6):=⟨C4.cell 0,(C4.cell 65).trans (congrArg some HE6.out)⟩;refine O.z0A (i:=8) (by kernel_rfl) rfl rfl 51 _ _ rfl rfl w.heap.size (66+k * 14) #[.bool true,.bool false,.int .i64 p.h,.slice A3 n3 D3,.bool false,.slice none 0 0,.slice none 0 0,.slice none 0 0,.int .i64 0,.bool false,.int .i64 0,.int .i64 0,.int .i64 0,.int .i64 0] rfl rfl q3 q1 q2 qS ?_
 refine wpAnyH_done (by kernel_rfl) ?_ _
 have R4:=(HZ.out.1.over b3).others (c:=w.heap.size) (o:=66+k * 14) (by omega) (lkL (z6f p.h p.set false) (q4w (.slice A3 n3 D3)))
 have B3:=zbt HZ.out.2.1 b3;have B4:=z0b (b:=w.heap.size) (Nat.le_refl _) (lkL (z6f p.h p.set false) (q4w (.slice A3 n3 D3))) (66+k * 14) _ B3;have hd1:w1.drew.heap.size=w1.heap.size:=rfl;have U4:=U3.sets (g:=w.heap.size) (fun h=>by rw[hd1]at h;omega) (66+k * 14) (lkL (z6f p.h p.set false) (q4w (.slice A3 n3 D3)))
 change Exit.then _ _ _ _ (w3.setCells w.heap.size (66+k * 14) (lkL (z6f p.h p.set false) (q4w (.slice A3 n3 D3))));clear q1 q2 q3 qS HS hS hb3 U3 l1 s1 c0 c1 a0 a65 HCL;generalize w3.setCells w.heap.size (66+k * 14) (lkL (z6f p.h p.set false) (q4w (.slice A3 n3 D3)))=w4 at *;have HH:=hide (q9H w.heap.size { p with L:=z0Q p.L k (z6f p.h p.set false) } (v.upd k (q4w (.slice A3 n3 D3))) (New P w 2) w4 k hk C4 (HN.out _ B4).ws g0 g1)
 have hz4:=R4.lt;have hb3s:=b3.size;have H4:=hide (show _/\_/\_/\_ from⟨C4,R4,B4,U4⟩);clear C4 R4 B4 U4 B3;obtain⟨TL,hTL⟩:∃ y:Value,y=.agg #[.bool true,.bool false,.int .i64 p.h,.slice A3 n3 D3,.bool false,.slice none 0 0,.slice none 0 0,.slice none 0 0,.int .i64 0,.bool false,.int .i64 0,.int .i64 0,.int .i64 0,.int .i64 0]:=⟨_,rfl⟩;rw[← hTL];clear hTL;generalize hAB:p.s.W.any (fun x=>decide (x.hei=p.h+1))=AB at *;go_simp
 go_upto_region 14 with (go_at_call 88;refine HH.out.mono ?_;rintro e w5⟨u5,rfl,C5,U5,A5⟩;have f5:=C5.free (66+k * 14+4);have y5:=(C5.lk hk).facts.2.2.2.2.1;have hz5:=C5.lt)
 have C6:CAt 57 (w5.setCell ⟨w.heap.size,66+k * 14+4,none⟩ (.bool AB)) w.heap.size (prC { p with s:={ p.s with W:=p.s.W.map (z1A k (p.h+1)) },L:=z0Q p.L k { z6f p.h p.set false with fresh:=AB } } (PrV.upd { v with ws:=u5 } k (q4w (.slice A3 n3 D3)))):=by
  have h:=C5.set (66+k * 14+4) (.bool AB);exact Eq.mp (congrArg (CAt 57 (w5.setCell ⟨w.heap.size,66+k * 14+4,none⟩ (.bool AB)) w.heap.size) (j2k { p with s:={ p.s with W:=p.s.W.map (z1A k (p.h+1)) } } { v with ws:=u5 } k hk (z6f p.h p.set false) (q4w (.slice A3 n3 D3)) AB)) h
 have A6:Alt w.heap.size w4 (w5.setCell ⟨w.heap.size,66+k * 14+4,none⟩ (.bool AB)):=A5.set _ _;have R6:=A6.cat (b:=w.heap.size+1) (by omega) H4.out.2.1
 have B6:=H4.out.2.2.1.trans (A6.below (Nat.le_refl _) H4.out.2.2.1.size);have n6:=HN.out _ B6;have hs4:=H4.out.2.2.1.size
 have N6:PIn (New P w 2) (w5.setCell ⟨w.heap.size,66+k * 14+4,none⟩ (.bool AB)) { p with s:={ p.s with W:=p.s.W.map (z1A k (p.h+1)) },L:=z0Q p.L k { z6f p.h p.set false with fresh:=AB } } (PrV.upd { v with ws:=u5 } k (q4w (.slice A3 n3 D3))):=by
  refine⟨?_,n6.set,fun c hc=>?_,n6.q⟩
  ·have h5:=((Alt.refl w.heap.size w5).set (66+k * 14+4) (.bool AB)).rep (P:=fun b=>w4.heap.size<=b) (fun h=>by omega) U5
   exact h5.mono fun b _ hb=>.inr (by have:w4.heap.size<=b:=hb;omega)
  ·show z6c _ _ (z0Q p.L k { z6f p.h p.set false with fresh:=AB } c) (if c=k then q4w (.slice A3 n3 D3) else v.l c)
   unfold z0Q
   by_cases hck:c=k
   ·rw[if_pos hck,if_pos hck];refine⟨?_,Rep.nil _ _ _ _,z0I.nil _ _ _ _,z0I.nil _ _ _ _⟩;have h4:=A6.rep (P:=fun b=>w1.drew.heap.size<=b) (fun h=>by rw[hd1]at h;omega) H4.out.2.2.2
    exact h4.mono fun b _ hb=>.inr (by have h:w1.drew.heap.size<=b:=hb;rw[hd1]at h;omega)
   ·rw[if_neg hck,if_neg hck];exact n6.lk c hc
 obtain⟨p6,v6,hd6,K6,M6⟩:∃ p6 v6,D=(p6,0)/\CAt 57 (w5.setCell ⟨w.heap.size,66+k * 14+4,none⟩ (.bool AB)) w.heap.size (prC p6 v6)/\PIn (New P w 2) (w5.setCell ⟨w.heap.size,66+k * 14+4,none⟩ (.bool AB)) p6 v6:=⟨_,_,by rw[HD.out,← hAB];rfl,C6,N6⟩
 have l6:=z0k K6 (z0a _ _);have s6:=z0l R6 z0e (z0a p6 v6) (z1c M6);have HY:=hide (show _/\_/\_/\_ from⟨R6,B6,M6,hd6⟩);clear C6 K6 R6 B6 A6 N6 M6 n6 C5 U5 A5 H4 HH f5 y5 hz5 HD hd6 hAB;generalize w5.setCell ⟨w.heap.size,66+k * 14+4,none⟩ (.bool AB)=w6 at *;go_wp2;exact z0P results67 HY.out.1 z0e HY.out.2.1 p6 v6 0 D HY.out.2.2.2 HY.out.2.2.1 _ rfl rfl rfl
end Pv
namespace Kc
open Go.RowKit Pv
theorem q1e:∀ (l:List Int) (last:Int),Cd.z0h last l=true->∀ u∈l,0<=u/\u<6
 | [],_,_,u,hu=>by simp at hu
 | x :: l,last,h,u,hu=>by
  unfold Cd.z0h Cd.isV at h;simp only[Bool.and_eq_true,decide_eq_true_eq]at h
  rcases List.mem_cons.1 hu with rfl | hu
  ·exact h.1.2
  ·exact q1e l x h.2 u hu
theorem z5x:∀ (l:List Pkt) (c:Cs),(l.foldl takeC c).pd=c.pd/\(l.foldl takeC c).t=c.t/\(l.foldl takeC c).rp.length=c.rp.length+l.length
 | [],c=>⟨rfl,rfl,rfl⟩
 | x :: l,c=>by
  have:=z5x l (takeC c x);rw[List.foldl_cons];refine⟨this.1,this.2.1,?_⟩;rw[this.2.2,List.length_cons]
  show (c.rp ++ [_]).length+_=_
  simp
  omega
theorem z3v.below{g B:Nat}{o:Option Nat}{w w':World}(h:z3v g o w w')(hg:B<=g)(ho:∀ r,o=some r->B<=r)(hw:B<=w.heap.size):Below B w w':=⟨h.os,h.tape,h.output,h.size,fun k hk=>h.block k (by omega) (by omega) (fun e=>by have:=ho k e.symm;omega)⟩
theorem q8b(ao:Option Addr)(n c:Nat)(hn:n<=c)(h0:ao=none->n=0)(hc:(n:Int)<4611686018427387904)(w:World):Calls prog 126 #[.slice ao n c] w fun e w'=>e=.returned (.slice ao n n)/\w=w':=by
 have h1:(n:Int)<=(c:Int):=by omega
 have h2:(0:Int)<=(n:Int):=by omega
 go_enter func126,ntmps126
 cases ao
 ·obtain rfl:=h0 rfl;go_wp2;go_ret;exact⟨rfl,rfl⟩
 ·clear h0;go_wp2;go_ret;exact⟨rfl,rfl⟩
structure EnR(P:Nat->Prop)(w:World)(c:Cs)(pv:Value)(d:Cs)(wl:World):Prop where
 st:∃ (u:CsV) (o:Option Nat) (Q:Nat->Prop),z7T Q (w.heap.size+2) o wl w.heap.size d u/\u.pd=pv/\(∀ b,Q b->New P w 2 b)/\(∀ r,o=some r->w.heap.size+2<=r)
 R:CAt 63 wl (w.heap.size+1) Z22
 B:Below w.heap.size w wl
theorem EnR.take{P:Nat->Prop}{w wl wx:World}{c d d':Cs}{pv:Value}{u:CsV}{o:Option Nat}{Q:Nat->Prop}{e:Ending}(h1:z7T Q (w.heap.size+2) o wl w.heap.size d u)(h3:∀ b,Q b->New P w 2 b)(h4:∀ r,o=some r->w.heap.size+2<=r)(R:CAt 63 wl (w.heap.size+1) Z22)(B:Below w.heap.size w wl)(h:j3H Q (w.heap.size+2) o wl w.heap.size d' pv e wx):e=.returned (.tuple #[])/\EnR P w c pv d' wx:=by
 obtain⟨v',o',Q',e1,t,e2,q1,q2,q3,a⟩:=h;have hz:w.heap.size+2<=wl.heap.size:=R.lt;refine⟨e1,⟨v',o',Q',t,e2,fun b hb=>?_,fun r e=>?_⟩,?_,?_⟩
 ·rcases q1 b hb with⟨hq,_⟩ | hq
  ·exact h3 b hq
  ·exact .inr (by omega)
 ·rcases q3 with rfl | ⟨r',e',hr⟩
  ·exact h4 r e
  ·rw[e']at e;cases e;omega
 ·exact R.keep (a.block _ R.lt (by omega) (fun e=>by have:=h4 _ e.symm;omega))
 ·exact B.trans (a.below (Nat.le_refl _) (fun r e=>by have:=h4 r e;omega) (by omega))
attribute [local go_sem ↓] z1t z1f
theorem j1r(c:Cs)(v:CsV)(P:Nat->Prop)(w:World)(now:Int)(hp:CIn P w c v)(hsz:(c.rp.length+c.pd.length) * 16<=168884986026393) :
  Calls prog 89 #[.agg (csC c v),.int .i64 now] w (j7H P w (z9J c now)):=by
 have hD:z9J c now=if z5p c=0 then (if isT now=true/\c.t<=now then (z4d { c with h:=c.h+1,t:=now },0) else (c,2)) else (c,z5p c):=rfl
 have HDN:Hid (z4d { c with h:=c.h+1,t:=now }=z2l { z2v { c with h:=c.h+1,t:=now } with pd:=[] } (z2v { c with h:=c.h+1,t:=now }).rp):=rfl
 have HTK:Hid (z2v { c with h:=c.h+1,t:=now }=c.pd.foldl takeC { c with h:=c.h+1,t:=now }):=rfl
 have HB:=hide (j9U hp);have HRF:=hide (fun (wx:World) (h:q1U P w wx c v)=>z4F w.heap.size c v P wx h.C0 h.I0);have HD:=hide hD;have HSZ:=hide hsz
 have HGP:Hid (z5p c=0->(0<=c.h/\c.h<1099511627776)/\(0<=c.t/\c.t<=1099511627776)/\c.pd.all z5E=true):=fun h=>by
  have:=z4R (q3L h).1;exact⟨⟨this.1.2.1,this.1.2.2⟩,this.2.1,this.2.2.2.2.1⟩
 clear hp hD hsz;generalize z9J c now=D at *;generalize z4d { c with h:=c.h+1,t:=now }=DN at *
 generalize z2v { c with h:=c.h+1,t:=now }=TK at *
 generalize z5p c=RC at *;have HIT:=hide (fun h=>q9j (n:=now) h);have HTI:=hide (fun (wx:World)=>z7K now wx)
 go_enter func89,ntmps89
 go_upto_region 1 with fail
 change Code.wp prog _ _ _ ((w.alloc (.cells (csC c v) 63)).alloc (.cells Z22 63));generalize (w.alloc (.cells (csC c v) 63)).alloc (.cells Z22 63)=w0 at *
 by_cases hRC:RC=0
 rotate_left
 ·have HR:=hide (HD.out.trans (if_neg hRC));have hRC':(RC != 0)=true:=by simpa using hRC
  go_upto_region 3 with (go_at_call 124;refine (HRF.out _ HB.out).mono ?_;rintro e w1⟨rfl,hb1⟩;have HB1:=hide (HB.out.over hb1);clear hb1;obtain⟨l1,s1⟩:=HB1.out.facts)
  go_wp2;exact HB1.out.z0L results89 _ _ HR.out _ rfl rfl rfl
 subst hRC;have HR:=hide (HD.out.trans (if_pos rfl));clear HD;obtain⟨⟨hh0,hh1⟩,⟨ht0,ht1⟩,hgk⟩:=HGP.out rfl;have HGK:=hide hgk;clear HGP hgk
 go_upto_region 4 with (go_at_call 124;refine (HRF.out _ HB.out).mono ?_;rintro e w1⟨rfl,hb1⟩;have HB1:=hide (HB.out.over hb1);clear hb1)
 obtain⟨⟨-,-,a2,a3,-⟩,⟨-,a6,a7⟩,-⟩:=z0Z HB1.out.C0;generalize isT now=T at *;cases T
 ·replace HR:=hide (HR.out.trans (if_neg (by simp)))
  obtain⟨l1,s1⟩:=HB1.out.facts
  go_wp2_with (go_at_call 125;refine (HTI.out _).mono ?_;rintro e w'⟨rfl,rfl⟩)
  exact HB1.out.z0L results89 _ _ HR.out _ rfl rfl rfl
 obtain⟨hn0,hn1⟩:=HIT.out rfl
 by_cases hnt:c.t<=now
 rotate_left
 ·replace HR:=hide (HR.out.trans (if_neg (fun h=>hnt h.2)));obtain⟨l1,s1⟩:=HB1.out.facts;have hnt':now<c.t:=by omega
  go_wp2_with (go_at_call 125;refine (HTI.out _).mono ?_;rintro e w'⟨rfl,rfl⟩)
  exact HB1.out.z0L results89 _ _ HR.out _ rfl rfl rfl
 replace HR:=hide (HR.out.trans (if_pos ⟨rfl,hnt⟩));have HNT:=hide hnt;clear hnt;have hnt:c.t<=now:=HNT.out
 go_upto_region 6 with (go_at_call 125;refine (HTI.out _).mono ?_;rintro e w'⟨rfl,rfl⟩)
 -- height,time,ripes
 obtain⟨Ar,Cr,er,-,hr0,-,-⟩:=HB1.out.I0.rp.open (z0c _) (by decide)
 have hroom:=(HB1.out.I0.rp.room er).1;have hnilr:Ar=none->c.rp.length=0:=fun h=>(hr0 h).1;have hlenr:(c.rp.length:Int)<4611686018427387904:=by have:=HSZ.out;omega
 have f2:=HB1.out.C0.free 2;have f3:=HB1.out.C0.free 3;have f7:=HB1.out.C0.free 7;have hg1:=HB1.out.C0.lt;have hr1:Rep P w1 (.slice Ar c.rp.length c.rp.length) 2 8 (pwC c.rp):=by have:=HB1.out.I0.rp;rw[er]at this;exact this.clip
 rw[er]at a7;have C2:=((HB1.out.C0.set 2 (.int .i64 (c.h+1))).set 3 (.int .i64 now)).set 7 (.slice Ar c.rp.length c.rp.length);rw[j5X,j7l,q8t _ _ c.rp]at C2;have R2:=((HB1.out.R0.other (c:=w.heap.size) (o:=2) (by omega) (.int .i64 (c.h+1))).other (c:=w.heap.size) (o:=3) (by omega) (.int .i64 now)).other (c:=w.heap.size) (o:=7) (by omega) (.slice Ar c.rp.length c.rp.length)
 have B2:=((HB1.out.B0.setCell (p:=⟨w.heap.size,2,none⟩) (Nat.le_refl _) (.int .i64 (c.h+1))).setCell (p:=⟨w.heap.size,3,none⟩) (Nat.le_refl _) (.int .i64 now)).setCell (p:=⟨w.heap.size,7,none⟩) (Nat.le_refl _) (.slice Ar c.rp.length c.rp.length)
 have kN:∀ b,New P w 2 b->b<w1.heap.size->(((w1.setCell ⟨w.heap.size,2,none⟩ (.int .i64 (c.h+1))).setCell ⟨w.heap.size,3,none⟩ (.int .i64 now)).setCell ⟨w.heap.size,7,none⟩ (.slice Ar c.rp.length c.rp.length)).heap[b]?=w1.heap[b]?:=fun b hb _=>by
  have hne:b≠w.heap.size:=fun e=>z7e P w (by rw[← e];exact hb)
  rw[Below.heap_setCell _ _ _ _ hne,Below.heap_setCell _ _ _ _ hne,Below.heap_setCell _ _ _ _ hne]
 have T2:z7T (New P w 2) (w.heap.size+2) none (((w1.setCell ⟨w.heap.size,2,none⟩ (.int .i64 (c.h+1))).setCell ⟨w.heap.size,3,none⟩ (.int .i64 now)).setCell ⟨w.heap.size,7,none⟩ (.slice Ar c.rp.length c.rp.length)) w.heap.size { c with h:=c.h+1,t:=now } { v with rp:=.slice Ar c.rp.length c.rp.length }:=by
  have hz:=HB1.out.R0.lt;have n0:=HB1.out.N0;have hw0:=HB1.out.I0;refine⟨C2,n0.set.keep kN,n0.pd.keep kN,.inl ⟨rfl,⟨Ar,rfl⟩,?_⟩,n0.said.keep kN,n0.due.keep kN,z7e P w,fun r e=>(by cases e),by simp[World.setCell];omega⟩
  have:Rep (New P w 2) w1 (.slice Ar c.rp.length c.rp.length) 2 8 (pwC c.rp):=by have:=n0.rp;rw[er]at this;exact this.clip
  exact this.keep kN
 have E2:EnR P w c v.pd { c with h:=c.h+1,t:=now } (((w1.setCell ⟨w.heap.size,2,none⟩ (.int .i64 (c.h+1))).setCell ⟨w.heap.size,3,none⟩ (.int .i64 now)).setCell ⟨w.heap.size,7,none⟩ (.slice Ar c.rp.length c.rp.length)):=⟨⟨_,none,_,T2,rfl,fun b hb=>hb,fun r e=>(by cases e)⟩,R2,B2⟩
 have HE2:=hide E2;clear E2 T2 kN B2 R2 C2 hr1 hr0
 go_upto_region 7 with fail
 go_upto_region 8 with fail
 go_upto_region 9 with (go_at_call 126;refine (q8b Ar c.rp.length Cr hroom hnilr hlenr _).mono ?_;rintro e w'⟨rfl,rfl⟩)
 clear a2 a3 a6 a7 f2 f3 f7 hg1 er hroom hnilr hlenr;generalize ((w1.setCell ⟨w.heap.size,2,none⟩ (.int .i64 (c.h+1))).setCell ⟨w.heap.size,3,none⟩ (.int .i64 now)).setCell ⟨w.heap.size,7,none⟩ (.slice Ar c.rp.length c.rp.length)=w2 at *
 obtain⟨Ap,Cp,ep⟩:∃ Ap Cp,v.pd=.slice Ap c.pd.length Cp:=by
  obtain⟨z,hz,hr,-⟩:=HB1.out.I0.pd;obtain⟨A,C,e,-⟩:=hr.open (z1C _ _ hz) (by decide)
  exact⟨A,C,e⟩
 have HPV:=hide ep
 have a6:w2.cell? ⟨w.heap.size,6,none⟩=some (.slice Ap c.pd.length Cp):=by
  obtain⟨⟨u,o,Q,t,e,-⟩,-⟩:=HE2.out;rw[← ep,← e];exact t.cat.cell 6
 have hplen:(c.pd.length:Int)<4611686018427387904:=by have:=HSZ.out;omega
 clear ep
 go_upto_region 10 with fail
 clear a6
 go_loopw [37] (fun i wl=>∃ (k:Nat),k<=c.pd.length/\i=.int .i64 (k:Int)/\Hid (EnR P w c (.slice Ap c.pd.length Cp) ((c.pd.take k).foldl takeC { c with h:=c.h+1,t:=now }) wl)) (fun i _=>c.pd.length - (intOf i).toNat)
 case atStart=>exact⟨0,Nat.zero_le _,rfl,by have:=HE2.out;rw[HPV.out]at this;exact this⟩
 case round =>
  obtain⟨k,hk,rfl,HK⟩:=hrel
  by_cases hlt:k<c.pd.length
  ·have hkI:(k:Int)<(c.pd.length:Int):=by omega
   obtain⟨⟨u,o,Q,T,eu,hq1,hq2⟩,RK,BK⟩:=HK.out;have tf:=z5x (c.pd.take k) { c with h:=c.h+1,t:=now }
   have htk:c.pd.take (k+1)=c.pd.take k ++ [c.pd[k]]:=List.take_succ_eq_append_getElem hlt;have hfold:(c.pd.take (k+1)).foldl takeC { c with h:=c.h+1,t:=now }=takeC ((c.pd.take k).foldl takeC { c with h:=c.h+1,t:=now }) c.pd[k]:=by rw[htk,List.foldl_append];rfl
   have hgx:z5E c.pd[k]=true:=(List.all_eq_true.1 HGK.out) _ (List.getElem_mem hlt);have hx:c.pd[k]?=some c.pd[k]:=List.getElem?_eq_getElem hlt;have hlk:((c.pd.take k).foldl takeC { c with h:=c.h+1,t:=now }).rp.length=c.rp.length+k:=by rw[tf.2.2];simp;omega
   have HFO:=hide hfold;generalize (c.pd.take k).foldl takeC { c with h:=c.h+1,t:=now }=d at *
   generalize c.pd[k]=x at *;obtain⟨hpd,hdt,-⟩:=tf;dsimp only at hpd hdt;obtain⟨z,hz,hr,hin⟩:=T.pd;rw[hpd]at hz hr hin;obtain⟨A',C',e',-,-,hc',-⟩:=hr.open (z1C _ _ hz) (by decide)
   rw[eu]at e';cases e';obtain⟨b,off,rfl,-,hbl,hcell⟩:=hc' (by omega)
   have hy:z[k]?=some z[k]:=List.getElem?_eq_getElem (by omega)
   obtain⟨r1,r2⟩:=hin k x _ hx hy
   have cl:∀ j,j<6->∀ u',(pkL x z[k])[j]?=some u'->wr.cell? ⟨b,off+k * 6+j,none⟩=some u':=fun j hj u' hu=>by
    rw[Nat.add_assoc];exact hcell _ _ ((z6m c.pd z k x _ j hx hy hj).trans hu)
   have c0:=cl 0 (by omega) _ rfl
   have c1:=cl 1 (by omega) _ rfl
   have c2:=cl 2 (by omega) _ rfl
   have c3:=cl 3 (by omega) _ rfl
   have c4:=cl 4 (by omega) _ rfl
   have c5:=cl 5 (by omega) _ rfl
   rw[Nat.add_zero]at c0
   have hgn:Cd.z0m x.k x.i x.v x.n x.S x.D=0:=by
    unfold z5E at hgx;simp only[Bool.and_eq_true,decide_eq_true_eq]at hgx;exact hgx.2
   have hD:=q1e x.D (-1) (z4P hgn).2;generalize z[k]=y at *;obtain⟨y1,y2⟩:=y;dsimp only at c4 c5 r1 r2;obtain⟨A1,n1,C1,e1,-⟩:=id r1;obtain⟨A2,n2,C2,e2,-⟩:=id r2;subst e1 e2;have HTA:=hide (fun (wx:World) (hb:Below wr.heap.size wr wx)=>q8X w.heap.size d u x (.slice A1 n1 C1) (.slice A2 n2 C2) Q (w.heap.size+2) o wx (T.later hb) (r1.over hb) (r2.over hb) hD (by rw[hlk];have:=HSZ.out;omega) (by rw[hdt];exact hn0) (by rw[hdt];exact hn1))
   have bA:Below wr.heap.size wr (wr.alloc (.cells #[.int .i64 x.k,.int .i64 x.i,.int .i64 x.v,.int .i64 x.n,.slice A1 n1 C1,.slice A2 n2 C2] 70)):=znw wr _;have HTT:=hide (show _/\_/\_/\_/\_ from⟨T.later bA,hq1,hq2,RK.over bA,zbt BK bA⟩);rw[eu]at HTA;clear T RK BK hq1 hq2 hin hr hz hc' hcell cl r1 r2 hD hgn hgx hx hy eu bA hbl hlk hpd hdt hfold htk;obtain⟨xk,xi,xv,xn,xS,xD⟩:=x;dsimp only at c0 c1 c2 c3 HTA HTT
   go_upto_region 13 with (go_at_call 127;refine (HTA.out _ (by exact znw wr _)).mono ?_;intro e w5 hTK;have HEN:=hide (EnR.take (c:=c) HTT.out.1 HTT.out.2.1 HTT.out.2.2.1 HTT.out.2.2.2.1 HTT.out.2.2.2.2 hTK);obtain rfl:=HEN.out.1;clear hTK)
   go_wp2
   first | exact⟨⟨k+1,by omega,by go_num,by rw[HFO.out];exact HEN.out.2⟩,by simp[intOf];omega⟩ | ((repeat apply Exists.intro);exact⟨⟨k+1,by omega,by go_num,by rw[HFO.out];exact HEN.out.2⟩,rfl⟩)
  ·obtain rfl:k=c.pd.length:=by omega
   rw[List.take_length,← HTK.out]at HK;have tf:=z5x c.pd { c with h:=c.h+1,t:=now }
   rw[← HTK.out]at tf;obtain⟨-,hdt,hrl⟩:=tf;dsimp only at hdt hrl;obtain⟨⟨u,o,Q,T,eu,hq1,hq2⟩,RK,BK⟩:=HK.out;have hz:=RK.lt;have a6:wr.cell? ⟨w.heap.size,6,none⟩=some u.pd:=T.cat.cell 6;rw[eu]at a6;have f6:=T.cat.free 6;have hgl:=T.cat.lt;have C5:=T.cat.set 6 (.slice none 0 0);rw[j3S _ _ []]at C5;have I5:CIn (New P w 2) wr { TK with pd:=[] } { u with pd:=.slice none 0 0 }:=⟨T.set.mono fun b _ hb=>hq1 b hb,z7X.nil _ _,T.rp.rep (by rw[hrl];exact HSZ.out) (fun b _ hb=>hq1 b hb) (fun b e=>.inr (hq2 b e)),T.said.mono fun b _ hb=>hq1 b hb,T.due.mono fun b _ hb=>hq1 b hb⟩
   have I6:=I5.set1 (z7e P w) 6 (.slice none 0 0);have R6:=RK.other (c:=w.heap.size) (o:=6) (by omega) (.slice none 0 0)
   have B6:=BK.setCell (p:=⟨w.heap.size,6,none⟩) (Nat.le_refl _) (.slice none 0 0);have hz6:(wr.setCell ⟨w.heap.size,6,none⟩ (.slice none 0 0)).heap.size=wr.heap.size:=by simp[World.setCell]
   have HSR:=hide (q1O w.heap.size { TK with pd:=[] } { u with pd:=.slice none 0 0 } (New P w 2) _ C5 I6 (z7e P w) (by show 0<=TK.t;rw[hdt];exact hn0) (by show TK.t<=_;rw[hdt];exact hn1))
   have HZ:=hide (show _/\_ from⟨R6,B6⟩);clear C5 I5 I6 R6 B6 T RK BK hq1 hq2 eu
   go_upto_region 15 with fail
   clear a6 f6 hgl;generalize wr.setCell ⟨w.heap.size,6,none⟩ (.slice none 0 0)=w6 at *;dsimp only at HSR;rw[← HDN.out]at HSR
   go_upto_region 16 with (go_at_call 128;refine HSR.out.mono ?_;rintro e w7⟨v7,rfl,C7,I7,A7⟩)
   have R7:=A7.cat (by omega) HZ.out.1
   have B7:Below w.heap.size w w7:=HZ.out.2.trans (A7.below (Nat.le_refl _) (by have:=HZ.out.2.size;omega))
   have N7:CIn (New P w 2) w7 DN v7:=I7.mono fun b _ h=>z8l (by rw[hz6];omega) h
   have l7:=z3c C7 (z0p _ _);have s7:=z2o R7 z0z (z0p DN v7) (z2k N7);have HU:=hide (show _/\_/\_ from⟨R7,B7,N7⟩);clear C7 R7 B7 N7 I7 A7;go_wp2;exact z6E results89 HU.out.1 z0z HU.out.2.1 _ _ 0 D HR.out HU.out.2.2 _ rfl rfl rfl
end Kc
end Go.Proofs.YtmopekkhmhhcaaaGreat
