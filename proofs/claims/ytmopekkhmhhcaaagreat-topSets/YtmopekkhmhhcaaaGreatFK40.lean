/- Parts of the proof. -/
import Derived.Test.YtmopekkhmhhcaaaGreatFL
import Derived.Test.YtmopekkhmhhcaaaGreatFK5
import Derived.Test.YtmopekkhmhhcaaaGreatFK15
set_option maxRecDepth 100000
set_option maxHeartbeats 16000000
namespace Go.Proofs.YtmopekkhmhhcaaaGreat
open Go.Proofs.Tryz
section
open Go.RowKit
theorem z9m{f:Func}{p:Tmp}(hres:f.results=#[.cell p 43]){g:Nat}{wq:World}{zs:Array Value}(R:SAt wq g zs)(hz:zs.size=63)(s':St)(sl:Value)(Q:Ending->World->Prop)(hQ:Q (.returned (.agg (stC s' sl))) (wq.setCells g 0 (stC s' sl).toList))(act:Act)
  (h8:act.tmps.getD p undef=.pointer (some ⟨g,0,none⟩)) (hd:act.defers=[]) :
  bodyPost prog f Q Exit.ret act (wq.setCells g 0 (stC s' sl).toList):=by
 have R3:=R.z0H (ds:=stC s' sl) (by rw[hz];rfl)
 refine bodyPost_ret (v:=.agg (stC s' sl)) ?_ hd hQ;exact results_cell_row hres _ _ _ _ _ _ _ h8 R3 underlying43 rfl (by rw[z0y];rfl)
structure RRl(s:St)(F:Wt->Wt)(B:Nat)(w:World)(A:Option Addr)(C k:Nat)(wl:World):Prop where
 own:z2y B wl A C ((s.W.take k).map F ++ s.W.drop k)
 S:SAt wl w.heap.size (stC s (.slice A s.W.length C))
 R:SAt wl (w.heap.size+1) Z63
 below:Below w.heap.size w wl
theorem q6o(s:St)(ao:Option Addr)(sb so c:Nat)(h:Int)(w:World)(hW:z2A w ao sb so s.W)(h60:s.W.length * 64<=140737488351232) :
  Calls prog 133 #[.agg (stC s (.slice ao s.W.length c)),.int .i64 0,.int .i64 h] w fun e w'=>∃ A C,e=.returned (.agg (stC s (.slice A s.W.length C)))/\z2y w.heap.size w' A C (z5D 0 h s.W)/\Below w.heap.size w w':=by
 have SS:=(SAt.new w (stC s (.slice ao s.W.length c))).alloc (.cells Z63 43);have RR:=SAt.new2 w (.cells (stC s (.slice ao s.W.length c)) 43) Z63;have HB:Hid (Below w.heap.size w ((w.alloc (.cells (stC s (.slice ao s.W.length c)) 43)).alloc (.cells Z63 43))):=(znw w _).alloc (by simp) _
 have HW:=hide hW;clear hW
 go_enter func133,ntmps133
 go_upto_region 1 with fail
 change Code.wp prog _ _ _ ((w.alloc (.cells (stC s (.slice ao s.W.length c)) 43)).alloc (.cells Z63 43));generalize (w.alloc (.cells (stC s (.slice ao s.W.length c)) 43)).alloc (.cells Z63 43)=w0 at *;have hz0:w.heap.size+1<w0.heap.size:=RR.lt;have hz0a:w.heap.size<w0.heap.size:=by omega
 have x7:=(z0t SS).2.2.2.2.2.2.2.1;have hC:=z3R ao s.W c sb so w0 (HW.out.over HB.out)
 go_upto_region 4 with (go_at_call 40;refine hC.mono ?_;rintro e w1⟨A,C,rfl,hO,h1⟩;have S1:=SS.later h1 SS.lt;have R1:=RR.later h1 RR.lt;have HB1:=hide (HB.out.trans (h1.mono (by omega)));have HO1:=hide hO;have f61:=S1.free 61;have hz1:=S1.lt;clear x7;have x7:=(z0t S1).2.2.2.2.2.2.2.1;clear h1 hO)
 have S2:=S1.set 61 (.slice A s.W.length C);rw[q0X]at S2;have hbt:=(But.refl w.heap.size w1).set 61 (.slice A s.W.length C);have R2:=hbt.z1l (by omega) R1
 have HO2:Hid (z2y w0.heap.size (w1.setCell ⟨w.heap.size,61,none⟩ (.slice A s.W.length C)) A C s.W):=z1n HO1.out fun k hk=>hbt.block _ (by have:=(World.ownsRow.lt HO1.out k hk).1;omega)
 have HB2:=hide (HB1.out.trans (hbt.below (Nat.le_refl _)));generalize w1.setCell ⟨w.heap.size,61,none⟩ (.slice A s.W.length C)=w2 at *;clear x7 f61 S1 R1 HO1 HB1 hbt SS RR HB hC;have x7:=(z0t S2).2.2.2.2.2.2.2.1;have hz2:w.heap.size<w2.heap.size:=S2.lt;have HR0:Hid (RRl s (z7i 0 h) w0.heap.size w A C 0 w2):=⟨HO2.out,S2,R2,HB2.out⟩;clear S2 R2 HO2 HB2
 go_upto_region 5 with fail
 go_loopw [23] (fun i wl=>∃ (k:Nat),k<=s.W.length/\i=.int .i64 (k:Int)/\Hid (RRl s (z7i 0 h) w0.heap.size w A C k wl)) (fun i _=>s.W.length - (intOf i).toNat)
 case atStart=>exact⟨0,Nat.zero_le _,rfl,HR0⟩
 case round =>
  obtain⟨k,hk,rfl,HR⟩:=hrel;clear HR0 x7;have hwr:=HR.out.S.lt
  by_cases hlt:k<s.W.length
  ·obtain⟨x,hx,_⟩:=drop_at hlt;obtain⟨e1,e2,e3⟩:=z7l (z7i 0 h) hx;obtain⟨g,rfl,hgB,hgs,hcl⟩:=HR.out.own.holds (by omega)
   obtain⟨c6,c7,f6,f7⟩:=hcl k x e2;have hcap:=HR.out.own.cap;rw[e3]at hcap;have x7:=(z0t HR.out.S).2.2.2.2.2.2.2.1;have HE1:=hide e1;have HE2:=hide e2;clear hcl e1 e2 hx
   by_cases hh:x.h0<=h
   ·have HX:Hid (z7i 0 h x={ x with h0:=0 }):=by show _=_;unfold z7i;simp[hh]
    go_wp2;refine⟨⟨k+1,by omega,by go_num,?_⟩,by simp[intOf];omega⟩
    have hbt:=(But.refl g wr).set (k * 8+6) (.int .i64 0);exact⟨by rw[HE1.out,HX.out];exact HR.out.own.put HE2.out _ 6 _ (by omega) rfl,hbt.z1l (by omega) HR.out.S,hbt.z1l (by omega) HR.out.R,HR.out.below.trans (hbt.below (by omega))⟩
   ·have HX:Hid (z7i 0 h x=x):=by show _=_;unfold z7i;simp[hh]
    have HR1:Hid (RRl s (z7i 0 h) w0.heap.size w (some ⟨g,0,none⟩) C (k+1) wr):=⟨by rw[HE1.out,HX.out,z5L HE2.out];exact HR.out.own,HR.out.S,HR.out.R,HR.out.below⟩
    go_wp2;exact⟨⟨k+1,by omega,by go_num,HR1⟩,by simp[intOf];omega⟩
  ·obtain rfl:k=s.W.length:=by omega
   have hO:=HR.out.own;rw[List.take_length,List.drop_length,List.append_nil]at hO;have HO:=hide hO;have S3:=HR.out.S;have R3:=HR.out.R;have HB3:=hide HR.out.below;clear hO HR
   go_upto_region 11 with fail
   apply wp_region_lit;refine wpList_load_mid rfl 43 _ rfl _ 0 rfl _ _ S3.range underlying43 rfl (by rw[z0y];rfl) ?_
   refine wpList_store_mid rfl 43 _ _ rfl _ 0 (stC s (.slice A s.W.length C)) rfl rfl (R3.there 0 _ (by rw[z0s,z0g];omega)) (by rw[z0y];rfl) (z0C _ _ _ _) ?_
   go_wp2;exact z9m results133 R3 rfl s _ _ ⟨A,C,rfl,z4p (z1n HO.out fun k' hk=>z1k (by have:=(World.ownsRow.lt HO.out k' hk).1;omega) _ _ _) (by omega),z0b (by omega) _ _ _ HB3.out⟩ _ rfl rfl
theorem q6N(s:St)(ao:Option Addr)(sb so c:Nat)(h:Int)(w:World)(hW:z2A w ao sb so s.W)(h60:s.W.length * 64<=140737488351232) :
  Calls prog 133 #[.agg (stC s (.slice ao s.W.length c)),.int .i64 1,.int .i64 h] w fun e w'=>∃ A C,e=.returned (.agg (stC s (.slice A s.W.length C)))/\z2y w.heap.size w' A C (z5D 1 h s.W)/\Below w.heap.size w w':=by
 have SS:=(SAt.new w (stC s (.slice ao s.W.length c))).alloc (.cells Z63 43);have RR:=SAt.new2 w (.cells (stC s (.slice ao s.W.length c)) 43) Z63;have HB:Hid (Below w.heap.size w ((w.alloc (.cells (stC s (.slice ao s.W.length c)) 43)).alloc (.cells Z63 43))):=(znw w _).alloc (by simp) _
 have HW:=hide hW;clear hW
 go_enter func133,ntmps133
 go_upto_region 1 with fail
 change Code.wp prog _ _ _ ((w.alloc (.cells (stC s (.slice ao s.W.length c)) 43)).alloc (.cells Z63 43));generalize (w.alloc (.cells (stC s (.slice ao s.W.length c)) 43)).alloc (.cells Z63 43)=w0 at *;have hz0:w.heap.size+1<w0.heap.size:=RR.lt;have hz0a:w.heap.size<w0.heap.size:=by omega
 have x7:=(z0t SS).2.2.2.2.2.2.2.1;have hC:=z3R ao s.W c sb so w0 (HW.out.over HB.out)
 go_upto_region 4 with (go_at_call 40;refine hC.mono ?_;rintro e w1⟨A,C,rfl,hO,h1⟩;have S1:=SS.later h1 SS.lt;have R1:=RR.later h1 RR.lt;have HB1:=hide (HB.out.trans (h1.mono (by omega)));have HO1:=hide hO;have f61:=S1.free 61;have hz1:=S1.lt;clear x7;have x7:=(z0t S1).2.2.2.2.2.2.2.1;clear h1 hO)
 have S2:=S1.set 61 (.slice A s.W.length C);rw[q0X]at S2;have hbt:=(But.refl w.heap.size w1).set 61 (.slice A s.W.length C);have R2:=hbt.z1l (by omega) R1
 have HO2:Hid (z2y w0.heap.size (w1.setCell ⟨w.heap.size,61,none⟩ (.slice A s.W.length C)) A C s.W):=z1n HO1.out fun k hk=>hbt.block _ (by have:=(World.ownsRow.lt HO1.out k hk).1;omega)
 have HB2:=hide (HB1.out.trans (hbt.below (Nat.le_refl _)));generalize w1.setCell ⟨w.heap.size,61,none⟩ (.slice A s.W.length C)=w2 at *;clear x7 f61 S1 R1 HO1 HB1 hbt SS RR HB hC;have x7:=(z0t S2).2.2.2.2.2.2.2.1;have hz2:w.heap.size<w2.heap.size:=S2.lt;have HR0:Hid (RRl s (z7i 1 h) w0.heap.size w A C 0 w2):=⟨HO2.out,S2,R2,HB2.out⟩;clear S2 R2 HO2 HB2
 go_upto_region 5 with fail
 go_loopw [23] (fun i wl=>∃ (k:Nat),k<=s.W.length/\i=.int .i64 (k:Int)/\Hid (RRl s (z7i 1 h) w0.heap.size w A C k wl)) (fun i _=>s.W.length - (intOf i).toNat)
 case atStart=>exact⟨0,Nat.zero_le _,rfl,HR0⟩
 case round =>
  obtain⟨k,hk,rfl,HR⟩:=hrel;clear HR0 x7;have hwr:=HR.out.S.lt
  by_cases hlt:k<s.W.length
  ·obtain⟨x,hx,_⟩:=drop_at hlt;obtain⟨e1,e2,e3⟩:=z7l (z7i 1 h) hx;obtain⟨g,rfl,hgB,hgs,hcl⟩:=HR.out.own.holds (by omega)
   obtain⟨c6,c7,f6,f7⟩:=hcl k x e2;have hcap:=HR.out.own.cap;rw[e3]at hcap;have x7:=(z0t HR.out.S).2.2.2.2.2.2.2.1;have HE1:=hide e1;have HE2:=hide e2;clear hcl e1 e2 hx
   by_cases hh:x.h1<=h
   ·have HX:Hid (z7i 1 h x={ x with h1:=0 }):=by show _=_;unfold z7i;simp[hh]
    go_wp2;refine⟨⟨k+1,by omega,by go_num,?_⟩,by simp[intOf];omega⟩
    have hbt:=(But.refl g wr).set (k * 8+7) (.int .i64 0);exact⟨by rw[HE1.out,HX.out];exact HR.out.own.put HE2.out _ 7 _ (by omega) rfl,hbt.z1l (by omega) HR.out.S,hbt.z1l (by omega) HR.out.R,HR.out.below.trans (hbt.below (by omega))⟩
   ·have HX:Hid (z7i 1 h x=x):=by show _=_;unfold z7i;simp[hh]
    have HR1:Hid (RRl s (z7i 1 h) w0.heap.size w (some ⟨g,0,none⟩) C (k+1) wr):=⟨by rw[HE1.out,HX.out,z5L HE2.out];exact HR.out.own,HR.out.S,HR.out.R,HR.out.below⟩
    go_wp2;exact⟨⟨k+1,by omega,by go_num,HR1⟩,by simp[intOf];omega⟩
  ·obtain rfl:k=s.W.length:=by omega
   have hO:=HR.out.own;rw[List.take_length,List.drop_length,List.append_nil]at hO;have HO:=hide hO;have S3:=HR.out.S;have R3:=HR.out.R;have HB3:=hide HR.out.below;clear hO HR
   go_upto_region 11 with fail
   apply wp_region_lit;refine wpList_load_mid rfl 43 _ rfl _ 0 rfl _ _ S3.range underlying43 rfl (by rw[z0y];rfl) ?_
   refine wpList_store_mid rfl 43 _ _ rfl _ 0 (stC s (.slice A s.W.length C)) rfl rfl (R3.there 0 _ (by rw[z0s,z0g];omega)) (by rw[z0y];rfl) (z0C _ _ _ _) ?_
   go_wp2;exact z9m results133 R3 rfl s _ _ ⟨A,C,rfl,z4p (z1n HO.out fun k' hk=>z1k (by have:=(World.ownsRow.lt HO.out k' hk).1;omega) _ _ _) (by omega),z0b (by omega) _ _ _ HB3.out⟩ _ rfl rfl
end
namespace Kc
open Go.RowKit Pv
theorem z9b(l:List (Int×Int))(v:Value)(x:Int)(P:Nat->Prop)(w:World)(h:Rep P w v 2 16 (pwC l)):Calls prog 136 #[v,.int .i64 x] w fun e w'=>e=.returned (.int .i64 (z4w x l))/\Below w.heap.size w w':=by
 obtain⟨A,C,rfl,hs,-,hc,-⟩:=h.open (z0c _) (by decide)
 have HC:=hide hc;have hlen:l.length<=8796093022202:=by omega
 obtain⟨G,hG⟩:∃ G,z4w x l=G:=⟨_,rfl⟩;have HG:=hide hG;rw[hG];clear hc h hs hG
 go_enter func136,ntmps136
 go_upto_region 2 with fail
 go_loopw [9] (fun i wl=>∃ (k:Nat),k<=l.length/\i=.int .i64 (k:Int)/\Hid (G=z4w x (l.drop k)/\Below w.heap.size w wl)) (fun i _=>l.length - (intOf i).toNat)
 case atStart=>exact⟨0,Nat.zero_le _,rfl,HG.out.symm,Below.refl _ _⟩
 case round =>
  obtain⟨k,hk,rfl,HR⟩:=hrel
  by_cases hlt:k<l.length
  ·have hkI:(k:Int)<(l.length:Int):=by omega
   obtain⟨y,hy,hd⟩:=z3H hlt;obtain⟨b,off,rfl,-,hbl,hcell⟩:=HC.out (by omega)
   have gx:l.getD k (0,0)=y:=by simp[List.getD,hy]
   obtain⟨p0,p1⟩:=z2h l k hlt;rw[gx]at p0 p1;have c0:wr.cell? ⟨b,off+k * 2,none⟩=some (.int .i64 y.1):=(HR.out.2.cell (p:=⟨b,off+k * 2,none⟩) hbl).trans (hcell _ _ p0);have c1:wr.cell? ⟨b,off+k * 2+1,none⟩=some (.int .i64 y.2):=(HR.out.2.cell (p:=⟨b,off+k * 2+1,none⟩) hbl).trans (hcell _ _ p1);have HE:Hid (G=if y.1=x then y.2 else z4w x (l.drop (k+1))):=by have:=HR.out.1;rw[hd]at this;exact this
   have HB:=hide (HR.out.2.alloc HR.out.2.size (.cells #[.int .i64 y.1,.int .i64 y.2] 68));clear HR hd hy gx p0 p1 hcell;obtain⟨y1,y2⟩:=y;dsimp only at c0 c1 HE
   by_cases h1:y1=x
   ·subst h1;have e:G=y2:=by rw[HE.out,if_pos rfl]
    subst e;clear HE HG;go_wp2;go_ret;exact⟨rfl,HB.out⟩
   ·have e:G=z4w x (l.drop (k+1)):=by rw[HE.out,if_neg h1]
    have HE2:=hide e;have h1':(y1 == x)=false:=by simpa using h1
    clear HE e;go_wp2
    first | exact⟨⟨k+1,by omega,by go_num,HE2.out,HB.out⟩,by simp[intOf];omega⟩ | ((repeat apply Exists.intro);exact⟨⟨k+1,by omega,by go_num,HE2.out,HB.out⟩,rfl⟩)
  ·obtain rfl:k=l.length:=by omega
   have e:G=0:=by have:=HR.out.1;rw[List.drop_length]at this;exact this
   subst e;go_wp2;go_ret;exact⟨rfl,HR.out.2⟩
theorem CAt.line{w:World}{g:Nat}{c:Cs}{v:CsV}(h:CAt 63 w g (csC c v))(x:Ln.Line)(u1 u2:Value):CAt 63 ((((w.setCell ⟨g,14,none⟩ u1).setCell ⟨g,15,none⟩ u2).setCell ⟨g,16,none⟩ (.int .i64 x.g)).setCell ⟨g,17,none⟩ (.bool x.cl)) g (csC { c with out:=x } { v with said:=u1,due:=u2 }):=(((h.set 14 u1).set 15 u2).set 16 (.int .i64 x.g)).set 17 (.bool x.cl)
theorem z0N{P:Nat->Prop}{w:World}{g:Nat}(hP:¬ P g)(hg:g<w.heap.size):¬ New P w 0 g:=fun h=>by
 rcases h with⟨h,_⟩ | h
 ·exact hP h
 ·omega
def j4g(w:World)(g:Nat)(P:Nat->Prop)(c':Cs)(er:Value)(e:Ending)(w':World):Prop:=∃ v',e=.returned er/\CAt 63 w' g (csC c' v')/\CIn (New P w 0) w' c' v'/\Alt g w w'
theorem z9W(g:Nat)(c:Cs)(v:CsV)(k i x n now:Int)(P:Nat->Prop)(w:World)(h:CAt 63 w g (csC c v))(hp:CIn P w c v)(hg:¬ P g)(hn0:0<=now)(hn1:now<=1099511627776) :
  Calls prog 137 #[.pointer (some ⟨g,0,none⟩),.agg #[.int .i64 k,.int .i64 i,.int .i64 x,.int .i64 n,.slice none 0 0,.slice none 0 0],.int .i64 now] w (j4g w g P (z2u c k i x n now).1 (.int .i64 (z2u c k i x n now).2)):=by
 have HD:Hid (z2u c k i x n now=if Cd.z0m k i x n [] []=0 then ({ c with out:=Ln.z5i c.out (Cd.encS k i x n [] []) (now+40) },Ln.z5C c.out (now+40)) else (c,Cd.z0m k i x n [] [])):=rfl
 generalize z2u c k i x n now=D at *;have HEN:=hide (fun (wx:World)=>Cd.z6L k i x n [] [] none none 0 0 0 0 0 0 wx ⟨by simp,by simp,by simp,by simp,fun i hi=>absurd hi (by simp),fun i hi=>absurd hi (by simp)⟩)
 generalize Cd.encS k i x n [] []=s at *;generalize Cd.z0m k i x n [] []=E at *;have HP:=hide hp;have HC:=hide h;have HSY:=hide (fun (wx:World) (hb:Below w.heap.size w wx)=>j0m c.out s (now+40) v.said v.due P wx (hp.said.over hb) (hp.due.over hb));have hgl:=h.lt;clear hp h
 by_cases hE:E=0
 ·subst hE;have e:=HD.out.trans (if_pos rfl);subst e;clear HD
  go_enter func137,ntmps137
  go_upto_region 4 with (go_at_call 122;refine (HEN.out _).mono ?_;rintro e w1⟨rfl,hb1⟩)
  have hb0:Below w.heap.size w w1:=(znw w _).trans (hb1.mono (by simp))
  obtain⟨-,-,⟨a14,a15,a16,a17⟩⟩:=z0Z (HC.out.over hb0);have HB0:=hide hb0;clear hb1 hb0;generalize (Ln.z5i c.out s (now+40))=L' at *;generalize (Ln.z5C c.out (now+40))=E' at *
  go_upto_region 5 with (go_at_call 123;refine (HSY.out _ HB0.out).mono ?_;rintro e w2⟨u1,u2,rfl,r1,r2,hb2⟩;have C2:=(HC.out.over HB0.out).over hb2;have ⟨A1,n1,D1,D1',e1,_,_⟩:=id r1;have ⟨A2,n2,D2,D2',e2,_,_⟩:=id r2;subst e1 e2;clear a14 a15 a16 a17;obtain⟨-,-,⟨a14,a15,a16,a17⟩⟩:=z0Z C2;have f14:=C2.free 14;have f15:=C2.free 15;have f16:=C2.free 16;have f17:=C2.free 17)
  have hb3:Below w.heap.size w w2:=zbt HB0.out hb2;have hlt2:g<w2.heap.size:=C2.lt;have C3:=CAt.line C2 L' (.slice A1 n1 D1) (.slice A2 n2 D2);have hng:=z0N hg hgl
  have r1':z0I (New P w 0) w2 (.slice A1 n1 D1) 1 16 (txC L'.S):=r1.mono fun b _ hb=>by
   rcases hb with⟨hb,hl⟩ | hb
   ·by_cases hw:b<w.heap.size
    ·exact .inl ⟨hb,hw⟩
    ·exact .inr (by omega)
   ·exact .inr (by have:=HB0.out.size;omega)
  have r2':z0I (New P w 0) w2 (.slice A2 n2 D2) 1 8 (inC L'.D):=r2.mono fun b _ hb=>by
   rcases hb with⟨hb,hl⟩ | hb
   ·by_cases hw:b<w.heap.size
    ·exact .inl ⟨hb,hw⟩
    ·exact .inr (by omega)
   ·exact .inr (by have:=HB0.out.size;omega)
  have N2:=HP.out.z2T hb3 0;have N3:CIn (New P w 0) w2 { c with out:=L' } { v with said:=.slice A1 n1 D1,due:=.slice A2 n2 D2 }:=⟨N2.set,N2.pd,N2.rp,r1',r2'⟩
  have N4:=(((N3.set1 hng 14 (.slice A1 n1 D1)).set1 hng 15 (.slice A2 n2 D2)).set1 hng 16 (.int .i64 L'.g)).set1 hng 17 (.bool L'.cl);have AL:Alt g w ((((w2.setCell ⟨g,14,none⟩ (.slice A1 n1 D1)).setCell ⟨g,15,none⟩ (.slice A2 n2 D2)).setCell ⟨g,16,none⟩ (.int .i64 L'.g)).setCell ⟨g,17,none⟩ (.bool L'.cl)):=((((Alt.of hb3).set 14 _).set 15 _).set 16 _).set 17 _;have HZ:=hide (show _/\_/\_ from⟨C3,N4,AL⟩);clear C3 N4 AL N3 N2 r1' r2' r1 r2 C2 a14 a15 a16 a17 f14 f15 f16 f17 hb2;go_wp2;go_ret;exact⟨_,rfl,HZ.out.1,HZ.out.2.1,HZ.out.2.2⟩
 ·have e:=HD.out.trans (if_neg hE);subst e;have hE':(E != 0)=true:=by simpa using hE
  clear HD
  go_enter func137,ntmps137
  go_wp2_with (go_at_call 122;refine (HEN.out _).mono ?_;rintro e w1⟨rfl,hb1⟩)
  go_ret;have hb0:Below w.heap.size w w1:=(znw w _).trans (hb1.mono (by simp))
  exact⟨v,rfl,HC.out.over hb0,HP.out.z2T hb0 0,Alt.of hb0⟩
attribute [local go_sem ↓] z1t z1f
theorem q9F(l:List (Int×Int))(id now:Int)(u:Value):csC (z2M l id now) ⟨u,.slice none 0 0,.slice none 0 0,.slice none 0 0,.slice none 0 0⟩=#[.bool true,.bool false,.int .i64 0,.int .i64 now,.int .i64 id,u,.slice none 0 0,.slice none 0 0,.bool false,.bool false,.bool false,.bool false,.bool false,.bool false,.slice none 0 0,.slice none 0 0,.int .i64 0,.bool false,.int .i64 0,.int .i64 0,.int .i64 0,.int .i64 0]:=rfl
theorem q5Z(l:List (Int×Int))(v:Value)(id now:Int)(P:Nat->Prop)(w:World)(h:Rep P w v 2 16 (pwC l)) :
  Calls prog 68 #[v,.int .i64 id,.int .i64 now] w (j7n P w (z2M l id now) 1):=by
 have HCL:=hide (fun (wx:World) (hb:Below w.heap.size w wx)=>z6F l v P wx (h.over hb));clear h
 go_enter func68,ntmps68
 go_upto_region 1 with fail
 change Code.wp prog _ _ _ (w.alloc (.cells Z22 63));have R0:CAt 63 (w.alloc (.cells Z22 63)) w.heap.size Z22:=CAt.new _ w _;have B0:Below w.heap.size w (w.alloc (.cells Z22 63)):=znw w _;have hsz:(w.alloc (.cells Z22 63)).heap.size=w.heap.size+1:=by simp
 generalize w.alloc (.cells Z22 63)=w0 at *;have hn0:¬ New P w 1 w.heap.size:=by have:=z3P (P:=P) (w:=w) (k:=1) (j:=0) (by omega);simpa using this
 have HX:=hide (show _/\_/\_/\_ from⟨R0,B0,hsz,hn0⟩);clear R0 B0 hsz hn0
 go_wp2_with (go_at_call 41;go_loud (refine (HCL.out _ HX.out.2.1).mono ?_;rintro e w1⟨u,rfl,hu,hb1⟩;have hu0:=hu;obtain⟨Au,nu,Cu,eu,_⟩:=hu0;subst eu;have R1:=HX.out.1.over hb1;have B1:=zbt HX.out.2.1 hb1;have hu':Rep (New P w 1) w1 (.slice Au nu Cu) 2 16 (pwC l):=hu.mono (fun b _ hb=>.inr (by have:=HX.out.2.2.1;omega));have hci:CIn (New P w 1) w1 (z2M l id now) ⟨.slice Au nu Cu,.slice none 0 0,.slice none 0 0,.slice none 0 0,.slice none 0 0⟩:=⟨hu',z7X.nil _ _,Rep.nil _ _ _ _,z0I.nil _ _ _ _,z0I.nil _ _ _ _⟩;have s1:=z2o R1 z0z (z0p (z2M l id now) ⟨.slice Au nu Cu,.slice none 0 0,.slice none 0 0,.slice none 0 0,.slice none 0 0⟩) (z2k hci);rw[q9F]at s1;have HY:=hide (show _/\_/\_ from⟨R1,B1,hci⟩);clear R1 B1 hci hu hu' hb1))
 exact q2X results68 HY.out.1 z0z HY.out.2.1 (Nat.le_refl _) (z2M l id now) _ HX.out.2.2.2 HY.out.2.2 _ rfl rfl
theorem z7B(c:Cs)(v:CsV)(P:Nat->Prop)(w:World)(hp:CIn P w c v) :
  Calls prog 97 #[.agg (csC c v)] w (j7n P w (z1o c) 2):=by
 have HD:Hid (z1o c=if c.on=true then { c with on:=false,gone:=true,out:={ c.out with cl:=true } } else c):=rfl
 generalize z1o c=D at *;have HN:=hide (fun (wx:World) (hb:Below w.heap.size w wx)=>hp.z2T hb 2);have hone:=z2k hp;clear hp
 go_enter func97,ntmps97
 go_upto_region 1 with fail
 change Code.wp prog _ _ _ ((w.alloc (.cells (csC c v) 63)).alloc (.cells Z22 63));have C0:CAt 63 ((w.alloc (.cells (csC c v) 63)).alloc (.cells Z22 63)) w.heap.size (csC c v):=(CAt.new _ w _).alloc _;have R0:CAt 63 ((w.alloc (.cells (csC c v) 63)).alloc (.cells Z22 63)) (w.heap.size+1) Z22:=CAt.new2 _ w _ _;have B0:Below w.heap.size w ((w.alloc (.cells (csC c v) 63)).alloc (.cells Z22 63)):=(znw w _).alloc (by simp) _
 generalize (w.alloc (.cells (csC c v) 63)).alloc (.cells Z22 63)=w0 at *;obtain⟨⟨a0,a1,-,-,-⟩,-,⟨-,-,-,a17⟩⟩:=z0Z C0;have f0:=C0.free 0;have f1:=C0.free 1;have f17:=C0.free 17;cases hon:c.on
 ·have e:D=c:=by rw[HD.out,hon];simp
  subst e;rw[hon]at a0;have l0:=z3c C0 (z0p _ _);have s0:=z2o R0 z0z (z0p D v) hone;have HX:=hide (show _/\_ from⟨R0,B0⟩);clear C0 R0 B0 hone;go_wp2;exact q2X results97 HX.out.1 z0z HX.out.2 (Nat.le_succ _) D v (z3P (by omega)) (HN.out _ HX.out.2) _ rfl rfl
 ·have e:D={ c with on:=false,gone:=true,out:={ c.out with cl:=true } }:=by rw[HD.out,if_pos hon]
  rw[hon]at a0;have C3:=((C0.set 0 (.bool false)).set 1 (.bool true)).set 17 (.bool true);rw[j9N,j2D,j8H]at C3;have R3:=((R0.other (c:=w.heap.size) (o:=0) (by omega) (.bool false)).other (c:=w.heap.size) (o:=1) (by omega) (.bool true)).other (c:=w.heap.size) (o:=17) (by omega) (.bool true)
  have B3:=((B0.setCell (p:=⟨w.heap.size,0,none⟩) (Nat.le_refl _) (.bool false)).setCell (p:=⟨w.heap.size,1,none⟩) (Nat.le_refl _) (.bool true)).setCell (p:=⟨w.heap.size,17,none⟩) (Nat.le_refl _) (.bool true);have N3:=HN.out _ B3;have N4:CIn (New P w 2) (((w0.setCell ⟨w.heap.size,0,none⟩ (.bool false)).setCell ⟨w.heap.size,1,none⟩ (.bool true)).setCell ⟨w.heap.size,17,none⟩ (.bool true)) { c with on:=false,gone:=true,out:={ c.out with cl:=true } } v:=⟨N3.set,N3.pd,N3.rp,N3.said,N3.due⟩
  have hone':=z2k N4;have l3:=z3c C3 (z0p _ _);have s3:=z2o R3 z0z (z0p { c with on:=false,gone:=true,out:={ c.out with cl:=true } } v) hone'
  have HX:=hide (show _/\_/\_ from⟨R3,B3,N4⟩);rw[← e]at HX l3 s3;clear e HD;clear C0 R0 B0 C3 R3 B3 N3 N4 hone hone'
  go_upto_region 5 with fail
  clear a0 a1 a17 f0 f1 f17;generalize ((w0.setCell ⟨w.heap.size,0,none⟩ (.bool false)).setCell ⟨w.heap.size,1,none⟩ (.bool true)).setCell ⟨w.heap.size,17,none⟩ (.bool true)=w3 at *;go_wp2;exact q2X results97 HX.out.1 z0z HX.out.2.1 (Nat.le_succ _) D v (z3P (by omega)) HX.out.2.2 _ rfl rfl
end Kc
namespace Kc
open Go.RowKit Pv
theorem q9I{last:Int}:∀ {l:List (Int×Int)} {v:Int},z2N last l=true->z4w v l≠0->last<v/\v<=5/\1<=z4w v l/\z4w v l<=1125899906842624
 | [],v,_,h=>absurd rfl h
 | x :: l,v,hs,h=>by
  have h2:z8E last x=true/\z2N x.1 l=true:=by
   have:(z8E last x && z2N x.1 l)=true:=hs
   simpa using this
  have h3:last<x.1/\x.1<=5/\1<=x.2/\x.2<=1125899906842624:=by
   have:=h2.1;unfold z8E at this;simp only[Bool.and_eq_true,decide_eq_true_eq]at this;exact⟨this.1.1.1,this.1.1.2,this.1.2,this.2⟩
  have e:z4w v (x :: l)=if x.1=v then x.2 else z4w v l:=rfl;rw[e]at h ⊢
  by_cases hv:x.1=v
  ·rw[if_pos hv];subst hv;exact h3
  ·rw[if_neg hv]at h ⊢;have:=q9I h2.2 h;exact⟨by omega,this.2⟩
theorem q3L{c:Cs}(h:z5p c=0):z8P c=true/\c.on=true:=by
 unfold z5p at h
 by_cases hg:z8P c=true
 ·rw[if_pos hg]at h
  by_cases ho:c.on=true
  ·exact⟨hg,ho⟩
  ·rw[if_neg ho]at h;exact absurd h (by decide)
 ·rw[if_neg hg]at h;exact absurd h (by decide)
theorem z4R{c:Cs}(h:z8P c=true):((c.on && c.gone)=false/\0<=c.h/\c.h<1099511627776)/\(0<=c.t/\c.t<=1099511627776)/\(0<=c.id/\c.id<=1099511627776)/\z2N (-1) c.set=true/\c.pd.all z5E=true/\c.rp.all z7U=true/\Ln.z0T c.out=true:=by
 unfold z8P isT at h;simp only[Bool.and_eq_true,decide_eq_true_eq,Bool.not_eq_true']at h;obtain⟨⟨⟨⟨⟨h1,h2⟩,h3⟩,h4⟩,h5⟩,⟨⟨⟨h6,h7⟩,h8⟩,h9⟩⟩:=h;exact⟨⟨h1,h2,h3⟩,h4,h5,h6,h7,h8,h9⟩
theorem q9j{n:Int}(h:isT n=true):0<=n/\n<=1099511627776:=by
 unfold isT at h
 simpa using h
structure q1U(P:Nat->Prop)(w w0:World)(c:Cs)(v:CsV):Prop where
 C0:CAt 63 w0 w.heap.size (csC c v)
 R0:CAt 63 w0 (w.heap.size+1) Z22
 B0:Below w.heap.size w w0
 I0:CIn P w0 c v
 N0:CIn (New P w 2) w0 c v
 no:¬ P w.heap.size∨True
theorem j9U{P:Nat->Prop}{w:World}{c:Cs}{v:CsV}(hp:CIn P w c v):q1U P w ((w.alloc (.cells (csC c v) 63)).alloc (.cells Z22 63)) c v:=by
 have hb:Below w.heap.size w ((w.alloc (.cells (csC c v) 63)).alloc (.cells Z22 63)):=(znw w _).alloc (by simp) _
 exact⟨(CAt.new _ w _).alloc _,CAt.new2 _ w _ _,hb,hp.over hb,hp.z2T hb 2,.inr trivial⟩
theorem q1U.over{P:Nat->Prop}{w w0 w1:World}{c:Cs}{v:CsV}(h:q1U P w w0 c v)(hb:Below w0.heap.size w0 w1):q1U P w w1 c v:=
 ⟨h.C0.over hb,h.R0.over hb,zbt h.B0 hb,h.I0.over hb,h.N0.over hb,.inr trivial⟩
theorem q1U.z0L{f:Func}{t q:Tmp}(hres:f.results=#[.cell t 63,.tmp q]){P:Nat->Prop}{w w0:World}{c:Cs}{v:CsV}(h:q1U P w w0 c v)(er:Int)(r:Cs×Int)(hr:r=(c,er))(act:Act)
  (h8:act.tmps.getD t undef=.pointer (some ⟨w.heap.size+1,0,none⟩)) (h9:act.tmps.getD q undef=.int .i64 er) (hd:act.defers=[]) :
  bodyPost prog f (j7H P w r) Exit.ret act (w0.setCells (w.heap.size+1) 0 (csC c v).toList):=z6E hres h.R0 z0z h.B0 c v er r hr h.N0 act h8 h9 hd
theorem q1U.facts{P:Nat->Prop}{w w0:World}{c:Cs}{v:CsV}(h:q1U P w w0 c v):(z7k (.pointer (some ⟨w.heap.size,0,none⟩))).run prog w0=.ok (.agg (csC c v)) w0/\(q3Z (.pointer (some ⟨w.heap.size+1,0,none⟩)) (.agg (csC c v))).run prog w0=.ok () (w0.setCells (w.heap.size+1) 0 (csC c v).toList):=
 ⟨z3c h.C0 (z0p _ _),z2o h.R0 z0z (z0p c v) (z2k h.I0)⟩
theorem z7e(P:Nat->Prop)(w:World):¬ New P w 2 w.heap.size:=by
 have:=z3P (P:=P) (w:=w) (k:=2) (j:=0) (by omega)
 simpa using this
theorem z8l{P:Nat->Prop}{w w0:World}(hz:w.heap.size+2<=w0.heap.size){b:Nat}(h:New (New P w 2) w0 0 b):New P w 2 b:=by
 rcases h with⟨h,_⟩ | h
 ·exact h
 ·exact .inr (by omega)
attribute [local go_sem ↓] z1t z1f
theorem q6Z(c:Cs)(v:CsV)(P:Nat->Prop)(w:World)(x now:Int)(hp:CIn P w c v) :
  Calls prog 98 #[.agg (csC c v),.int .i64 x,.int .i64 now] w (j7H P w (z3z c x now)):=by
 have hD:z3z c x now=if isT now=true then (if z5p c=0 then (if z4w x c.set=0 then (c,4) else if c.fl x.toNat=true then (c,5) else if (z2u c 3 c.id x (z4w x c.set) now).2=0 then ({ (z2u c 3 c.id x (z4w x c.set) now).1 with fl:=j5y c.fl x.toNat true },0) else (c,(z2u c 3 c.id x (z4w x c.set) now).2)) else (c,z5p c)) else (c,2):=rfl
 have hs2:(z2u c 3 c.id x (z4w x c.set) now).2≠0->(z2u c 3 c.id x (z4w x c.set) now).1=c:=by
  unfold z2u
  split
  ·intro h;dsimp only at h ⊢;unfold Ln.z5i;rw[if_neg h]
  ·intro _;rfl
 have HS2:=hide hs2;have HSF:Hid ((z2u c 3 c.id x (z4w x c.set) now).1.fl=c.fl):=by unfold z2u;split <;> rfl
 have HB:=hide (j9U hp);have HRF:=hide (fun (wx:World) (h:q1U P w wx c v)=>z5l w.heap.size c v now P wx h.C0 h.I0);have HPW:=hide (fun (wx:World) (h:q1U P w wx c v)=>z9b c.set v.set x P wx h.I0.set);have HSY:=hide (fun (wx:World) (h:q1U P w wx c v) (h0:0<=now) (h1:now<=1099511627776)=>z9W w.heap.size c v 3 c.id x (z4w x c.set) now (New P w 2) wx h.C0 h.N0 (z7e P w) h0 h1);have HD:=hide hD;clear hp hD hs2;generalize z3z c x now=D at *;generalize hSS:z2u c 3 c.id x (z4w x c.set) now=SS at *;clear hSS;obtain⟨c2,er⟩:=SS;dsimp only at HS2 HSF HSY HD
 have HPI:Hid (z5p c=0->z4w x c.set≠0->-1<x/\x<=5):=fun h1 h2=>by
  have:=q9I (z4R (q3L h1).1).2.2.2.1 h2;exact⟨this.1,this.2.1⟩
 generalize z4w x c.set=pw at *;generalize z5p c=RC at *;have HIT:=hide (fun h=>q9j (n:=now) h)
 go_enter func98,ntmps98
 go_upto_region 1 with fail
 change Code.wp prog _ _ _ ((w.alloc (.cells (csC c v) 63)).alloc (.cells Z22 63));generalize (w.alloc (.cells (csC c v) 63)).alloc (.cells Z22 63)=w0 at *;generalize isT now=T at *;cases T
 ·have HR:=hide (HD.out.trans (if_neg (by simp)))
  clear HD;rw[show (if false=true then RC else 2)=(2:Int) from rfl]at HRF
  go_upto_region 3 with (go_at_call 135;refine (HRF.out _ HB.out).mono ?_;rintro e w1⟨rfl,hb1⟩;have HB1:=hide (HB.out.over hb1);clear hb1;obtain⟨l1,s1⟩:=HB1.out.facts)
  go_wp2;exact HB1.out.z0L results98 _ _ HR.out _ rfl rfl rfl
 have HR:=hide (HD.out.trans (if_pos rfl));clear HD;obtain⟨hn0,hn1⟩:=HIT.out rfl;rw[show (if true=true then RC else 2)=RC from rfl]at HRF
 by_cases hRC:RC=0
 ·subst hRC;replace HR:=hide (HR.out.trans (if_pos rfl));replace HPI:=hide (HPI.out rfl)
  go_upto_region 4 with (go_at_call 135;refine (HRF.out _ HB.out).mono ?_;rintro e w1⟨rfl,hb1⟩;have HB1:=hide (HB.out.over hb1);clear hb1)
  have a5:=(z0Z HB1.out.C0).2.1.1
  go_upto_region 5 with (go_at_call 136;refine (HPW.out _ HB1.out).mono ?_;rintro e w2⟨rfl,hb2⟩;have HB2:=hide (HB1.out.over hb2);clear hb2 a5)
  by_cases hpw:pw=0
  ·subst hpw;replace HR:=hide (HR.out.trans (if_pos rfl));obtain⟨l1,s1⟩:=HB2.out.facts;go_wp2;exact HB2.out.z0L results98 _ _ HR.out _ rfl rfl rfl
  ·replace HR:=hide (HR.out.trans (if_neg hpw));have hpw':(pw == 0)=false:=by simpa using hpw
   obtain⟨hx1,hx2⟩:=HPI.out hpw;obtain⟨y,rfl⟩:∃ y:Nat,x=(y:Int):=⟨x.toNat,by omega⟩
   have hy6:y<6:=by omega
   have hyI:(y:Int)<6:=by omega
   rw[Int.toNat_natCast]at HR;have aF:w2.cell? ⟨w.heap.size,8+y,none⟩=some (.bool (c.fl y)):=(HB2.out.C0.cell _).trans (q6W c v hy6);cases hfl:c.fl y
   ·rw[hfl]at aF;replace HR:=hide (HR.out.trans (if_neg (by rw[hfl];simp)))
    have a4:=(z0Z HB2.out.C0).1.2.2.2.2
    go_upto_region 10 with (go_at_call 137;refine (HSY.out _ HB2.out hn0 hn1).mono ?_;rintro e w3⟨v3,rfl,C3,I3,A3⟩;clear a4 aF)
    have R3:=A3.cat (by omega) HB2.out.R0
    have B3:Below w.heap.size w w3:=HB2.out.B0.trans (A3.below (Nat.le_refl _) (by have:=HB2.out.B0.size;omega))
    have N3:CIn (New P w 2) w3 c2 v3:=I3.mono fun b _ h=>z8l (by have:=HB2.out.R0.lt;omega) h
    by_cases her:er=0
    ·subst her;replace HR:=hide (HR.out.trans (if_pos rfl));have fF:=C3.free (8+y);have aF:w3.cell? ⟨w.heap.size,8+y,none⟩=some (.bool (c2.fl y)):=(C3.cell _).trans (q6W c2 v3 hy6);have C4:=C3.set (8+y) (.bool true);rw[j4q c2 v3 hy6,HSF.out]at C4;have R4:=R3.other (c:=w.heap.size) (o:=8+y) (by omega) (.bool true)
     have B4:=B3.setCell (p:=⟨w.heap.size,8+y,none⟩) (Nat.le_refl _) (.bool true);have N4':=N3.set1 (z7e P w) (8+y) (.bool true);have N4:CIn (New P w 2) (w3.setCell ⟨w.heap.size,8+y,none⟩ (.bool true)) { c2 with fl:=j5y c.fl y true } v3:=⟨N4'.set,N4'.pd,N4'.rp,N4'.said,N4'.due⟩
     have l4:=z3c C4 (z0p _ _);have s4:=z2o R4 z0z (z0p { c2 with fl:=j5y c.fl y true } v3) (z2k N4)
     have HZ:=hide (show _/\_/\_ from⟨R4,B4,N4⟩);clear C4 R4 B4 N4 N4' C3 R3 B3 N3 I3 A3
     go_upto_region 13 with fail
     clear aF fF;generalize w3.setCell ⟨w.heap.size,8+y,none⟩ (.bool true)=w4 at *;go_wp2;exact z6E results98 HZ.out.1 z0z HZ.out.2.1 _ _ 0 D HR.out HZ.out.2.2 _ rfl rfl rfl
    ·replace HR:=hide (HR.out.trans (if_neg her));have her':(er != 0)=true:=by simpa using her
     have e2:=HS2.out her;subst e2;have l4:=z3c C3 (z0p _ _);have s4:=z2o R3 z0z (z0p c2 v3) (z2k N3);have HZ:=hide (show _/\_/\_ from⟨R3,B3,N3⟩);clear C3 R3 B3 N3 I3 A3;go_wp2;exact z6E results98 HZ.out.1 z0z HZ.out.2.1 _ _ er D HR.out HZ.out.2.2 _ rfl rfl rfl
   ·rw[hfl]at aF;replace HR:=hide (HR.out.trans (if_pos (by rw[hfl])))
    obtain⟨l1,s1⟩:=HB2.out.facts;go_wp2;exact HB2.out.z0L results98 _ _ HR.out _ rfl rfl rfl
 ·replace HR:=hide (HR.out.trans (if_neg hRC));have hRC':(RC != 0)=true:=by simpa using hRC
  go_upto_region 3 with (go_at_call 135;refine (HRF.out _ HB.out).mono ?_;rintro e w1⟨rfl,hb1⟩;have HB1:=hide (HB.out.over hb1);clear hb1;obtain⟨l1,s1⟩:=HB1.out.facts)
  go_wp2;exact HB1.out.z0L results98 _ _ HR.out _ rfl rfl rfl
theorem q2Q(c:Cs)(v:CsV)(P:Nat->Prop)(w:World)(x id now:Int)(hp:CIn P w c v) :
  Calls prog 99 #[.agg (csC c v),.int .i64 x,.int .i64 id,.int .i64 now] w (j7H P w (z1d c x id now)):=by
 have hD:z1d c x id now=if isT now=true then (if z5p c=0 then (if isV x=true then (if 1<=id/\id<=c.id then z2u c 4 id x (j8n (z4w x c.set)) now else (c,2)) else (c,4)) else (c,z5p c)) else (c,2):=rfl;have HMO:Hid (j8n (z4w x c.set)=if z4w x c.set<1 then 1 else z4w x c.set):=rfl;have HB:=hide (j9U hp);have HRF:=hide (fun (wx:World) (h:q1U P w wx c v)=>z5l w.heap.size c v now P wx h.C0 h.I0);have HPW:=hide (fun (wx:World) (h:q1U P w wx c v)=>z9b c.set v.set x P wx h.I0.set);have HSY:=hide (fun (wx:World) (h:q1U P w wx c v) (h0:0<=now) (h1:now<=1099511627776)=>z9W w.heap.size c v 4 id x (j8n (z4w x c.set)) now (New P w 2) wx h.C0 h.N0 (z7e P w) h0 h1);have HVL:=hide (fun (wx:World)=>z9T x wx);have HD:=hide hD;clear hp hD;generalize z1d c x id now=D at *;generalize z4w x c.set=pw at *;generalize j8n pw=mo at *;generalize hSS:z2u c 4 id x mo now=SS at *;clear hSS;obtain⟨c2,er⟩:=SS;dsimp only at HSY HD;generalize z5p c=RC at *;have HIT:=hide (fun h=>q9j (n:=now) h)
 go_enter func99,ntmps99
 go_upto_region 1 with fail
 change Code.wp prog _ _ _ ((w.alloc (.cells (csC c v) 63)).alloc (.cells Z22 63));generalize (w.alloc (.cells (csC c v) 63)).alloc (.cells Z22 63)=w0 at *;generalize isT now=T at *;generalize isV x=V at *;cases T
 ·have HR:=hide (HD.out.trans (if_neg (by simp)))
  clear HD;rw[show (if false=true then RC else 2)=(2:Int) from rfl]at HRF
  go_upto_region 3 with (go_at_call 135;refine (HRF.out _ HB.out).mono ?_;rintro e w1⟨rfl,hb1⟩;have HB1:=hide (HB.out.over hb1);clear hb1;obtain⟨l1,s1⟩:=HB1.out.facts)
  go_wp2;exact HB1.out.z0L results99 _ _ HR.out _ rfl rfl rfl
 have HR:=hide (HD.out.trans (if_pos rfl));clear HD;obtain⟨hn0,hn1⟩:=HIT.out rfl;rw[show (if true=true then RC else 2)=RC from rfl]at HRF
 by_cases hRC:RC=0
 ·subst hRC;replace HR:=hide (HR.out.trans (if_pos rfl));cases V
  ·replace HR:=hide (HR.out.trans (if_neg (by simp)))
   go_upto_region 5 with (first
    | (go_at_call 135;refine (HRF.out _ HB.out).mono ?_;rintro e w1⟨rfl,hb1⟩;have HB1:=hide (HB.out.over hb1);clear hb1)
    | (go_at_call 138;refine (HVL.out _).mono ?_;rintro e w'⟨rfl,rfl⟩))
   obtain⟨l1,s1⟩:=HB1.out.facts;go_wp2;exact HB1.out.z0L results99 _ _ HR.out _ rfl rfl rfl
  ·replace HR:=hide (HR.out.trans (if_pos rfl))
   go_upto_region 6 with (first
    | (go_at_call 135;refine (HRF.out _ HB.out).mono ?_;rintro e w1⟨rfl,hb1⟩;have HB1:=hide (HB.out.over hb1);clear hb1)
    | (go_at_call 138;refine (HVL.out _).mono ?_;rintro e w'⟨rfl,rfl⟩))
   have a4:=(z0Z HB1.out.C0).1.2.2.2.2;have a5:=(z0Z HB1.out.C0).2.1.1;generalize c.id=cid at *;have hcs:id<1∨(1<=id/\cid<id)∨(1<=id/\id<=cid):=by omega
   rcases hcs with h1 | ⟨h1,h2⟩ | ⟨h1,h2⟩
   ·replace HR:=hide (HR.out.trans (if_neg (by omega)))
    obtain⟨l1,s1⟩:=HB1.out.facts;go_wp2;exact HB1.out.z0L results99 _ _ HR.out _ rfl rfl rfl
   ·replace HR:=hide (HR.out.trans (if_neg (by omega)))
    obtain⟨l1,s1⟩:=HB1.out.facts;go_wp2;exact HB1.out.z0L results99 _ _ HR.out _ rfl rfl rfl
   ·replace HR:=hide (HR.out.trans (if_pos ⟨h1,h2⟩))
    have hmx:(pw<1/\mo=1)∨(1<=pw/\mo=pw):=by
     rw[HMO.out]
     by_cases h:pw<1
     ·exact .inl ⟨h,if_pos h⟩
     ·exact .inr ⟨by omega,if_neg h⟩
    clear HMO
    rcases hmx with⟨hp1,rfl⟩ | ⟨hp1,rfl⟩
    all_goals
     go_upto_region 9 with (go_at_call 136;refine (HPW.out _ HB1.out).mono ?_;rintro e w2⟨rfl,hb2⟩;have HB2:=hide (HB1.out.over hb2);clear hb2 a5 a4)
     go_upto_region 10 with (go_at_call 137;refine (HSY.out _ (HB2.out.over (by exact znw w2 _)) hn0 hn1).mono ?_;rintro e w3⟨v3,rfl,C3,I3,A3⟩)
     have HBA:=fun o=>HB2.out.over (znw w2 o);have R3:=A3.cat (by omega) (HBA _).R0
     have B3:Below w.heap.size w w3:=(HBA _).B0.trans (A3.below (Nat.le_refl _) (by have:=HB2.out.B0.size;simp;omega))
     have N3:CIn (New P w 2) w3 c2 v3:=I3.mono fun b _ h=>z8l (by have:=HB2.out.R0.lt;simp;omega) h
     have l4:=z3c C3 (z0p _ _);have s4:=z2o R3 z0z (z0p c2 v3) (z2k N3);have HZ:=hide (show _/\_/\_ from⟨R3,B3,N3⟩);clear C3 R3 B3 N3 I3 A3 HBA;go_wp2;exact z6E results99 HZ.out.1 z0z HZ.out.2.1 _ _ er D HR.out HZ.out.2.2 _ rfl rfl rfl
 ·replace HR:=hide (HR.out.trans (if_neg hRC));have hRC':(RC != 0)=true:=by simpa using hRC
  go_upto_region 3 with (go_at_call 135;refine (HRF.out _ HB.out).mono ?_;rintro e w1⟨rfl,hb1⟩;have HB1:=hide (HB.out.over hb1);clear hb1;obtain⟨l1,s1⟩:=HB1.out.facts)
  go_wp2;exact HB1.out.z0L results99 _ _ HR.out _ rfl rfl rfl
end Kc
namespace Kc
open Go.RowKit Pv
theorem z3U:∀ (l:List (Int×Int)) (last:Int),-1<=last->last<=5->Cd.z0d last l=true->(l.length:Int)<=5 - last
 | [],last,_,h,_=>by simp;omega
 | x :: l,last,h0,h1,h=>by
  unfold Cd.z0d Cd.isV at h;simp only[Bool.and_eq_true,decide_eq_true_eq]at h;have:=z3U l x.1 (by omega) (by omega) h.2
  simp only[List.length_cons];omega
theorem z4z:∀ (l:List Int) (last:Int),-1<=last->last<=5->Cd.z0h last l=true->(l.length:Int)<=5 - last
 | [],last,_,h,_=>by simp;omega
 | x :: l,last,h0,h1,h=>by
  unfold Cd.z0h Cd.isV at h;simp only[Bool.and_eq_true,decide_eq_true_eq]at h;have:=z4z l x (by omega) (by omega) h.2
  simp only[List.length_cons];omega
theorem z4P{k i v n:Int}{S:List (Int×Int)}{D:List Int}(h:Cd.z0m k i v n S D=0):Cd.z0d (-1) S=true/\Cd.z0h (-1) D=true:=by
 unfold Cd.z0m at h
 by_cases h1:k<1∨4<k
 ·rw[if_pos h1]at h;exact absurd h (by decide)
 rw[if_neg h1]at h
 by_cases h2:i<1∨1099511627776<i
 ·rw[if_pos h2]at h;exact absurd h (by decide)
 rw[if_neg h2]at h
 by_cases h3:Cd.z6U k=true/\(Cd.isV v=false∨n<1∨1125899906842624<n)
 ·rw[if_pos h3]at h;exact absurd h (by decide)
 rw[if_neg h3]at h
 by_cases h4:Cd.z8t k v n S.length D.length=true
 ·rw[if_pos h4]at h;exact absurd h (by decide)
 rw[if_neg h4]at h
 by_cases h5:Cd.z0d (-1) S=false∨Cd.z0h (-1) D=false
 ·rw[if_pos h5]at h;exact absurd h (by decide)
 ·cases a:Cd.z0d (-1) S
  ·exact absurd (.inl a) h5
  ·cases b:Cd.z0h (-1) D
   ·exact absurd (.inr b) h5
   ·exact⟨rfl,rfl⟩
theorem j0Y{k i v n:Int}{S:List (Int×Int)}{D:List Int}(h:Cd.z0m k i v n S D=0):S.length<=6/\D.length<=6:=by
 have h1:=z3U S (-1) (by omega) (by omega) (z4P h).1
 have h2:=z4z D (-1) (by omega) (by omega) (z4P h).2
 omega
theorem q3R{w:World}{B:Nat}{S:List (Int×Int)}{D:List Int}{sa da:Option Addr}{cs cd sb so db dO:Nat}(L:Cd.q6U w S D sa da sb so db dO)(r1:Cd.Rm B sa S.length cs sb)(r2:Cd.Rm B da D.length cd db)(hS:S.length<=6)(hD:D.length<=6) :
  Rep (fun b=>B<=b) w (.slice sa S.length cs) 2 16 (pwC S)/\Rep (fun b=>B<=b) w (.slice da D.length cd) 1 8 (inC D):=by
 refine⟨⟨sa,S.length,cs,rfl,z0c _,by omega,⟨r1.1,r1.2.1⟩,fun h0=>⟨sb,so,L.hsa h0,r1.2.2 h0,World.block_lt_of_cell? w _ (L.PS 0 h0).1,fun j u hu=>?_⟩⟩,⟨da,D.length,cd,rfl,z0r _,by omega,⟨r2.1,r2.2.1⟩,fun h0=>⟨db,dO,L.hda h0,r2.2.2 h0,World.block_lt_of_cell? w _ (L.PD 0 h0),fun j u hu=>?_⟩⟩⟩
 ·have hj:j<S.length * 2:=by have:=(List.getElem?_eq_some_iff.1 hu).1;rwa [z0c]at this
  have hi:j / 2<S.length:=by omega
  have hp:=L.PS (j / 2) hi;have hg:=z2h S (j / 2) hi
  rcases (show j % 2=0∨j % 2=1 by omega) with h | h
  ·have e:j / 2 * 2=j:=by omega
   rw[e]at hg hp;rw[hp.1,← hg.1,hu]
  ·have e:j / 2 * 2+1=j:=by omega
   have h2:=hp.2;rw[Nat.add_assoc,e]at h2;rw[h2,← hg.2,e,hu]
 ·have hj:j<D.length:=by have:=(List.getElem?_eq_some_iff.1 hu).1;rw[z0r]at this;omega
  rw[L.PD j hj,← hu,z4J _ j hj]
theorem q8v(ao:Option Addr)(n c:Nat)(hn:n<=c)(h0:ao=none->n=0)(hc:(n:Int)<4611686018427387904)(w:World):Calls prog 167 #[.slice ao n c] w fun e w'=>e=.returned (.slice ao n n)/\w=w':=by
 have h1:(n:Int)<=(c:Int):=by omega
 have h2:(0:Int)<=(n:Int):=by omega
 go_enter func167,ntmps167
 cases ao
 ·obtain rfl:=h0 rfl;go_wp2;go_ret;exact⟨rfl,rfl⟩
 ·clear h0;go_wp2;go_ret;exact⟨rfl,rfl⟩
theorem j9h:(prog.info? 70).map (fun i=>(i.zero,i.size,i.bytes))=some (some (.agg #[.int .i64 0,.int .i64 0,.int .i64 0,.int .i64 0,.slice none 0 0,.slice none 0 0]),6,80):=by kernel_rfl
theorem j2n{P:Nat->Prop}{ops:Array Oper}{o:Oper}{a:Act}{w:World}{K:Act->World->Prop}{Q:Exit->Act->World->Prop}{E:Prop}(hg:o.guard=none)(hty:o.type=59)(p q:Operand)
  (hop:o.op=Op.call { callee:=Callee.builtin Builtin.append,args:=#[p,q],argTypes:=#[59,59] }) (A:Option Addr) (n y bt:Nat) (cs news:List Value) (hs:a.eval p=.slice A n n) (hx:a.eval q=.slice (some ⟨y,0,none⟩) 1 1)
  (hr:Rep P w (.slice A n n) 6 bt cs) (hb:n * 80<=140737488351232) (hl:news.length=6) (hy:∀ j v,news[j]?=some v->w.cell? ⟨y,j,none⟩=some v)
  (hK:∀ g C w',g=w.heap.size->n+1<=C->(∀ j u,(cs ++ news)[j]?=some u->w'.cell? ⟨g,j,none⟩=some u)->Below w.heap.size w w'->g<w'.heap.size->K (a.put o.dst (.slice (some ⟨g,0,none⟩) (n+1) C)) w') :
  if Region.wanted o (yielded ops a.tmps)=true then Oper.wp prog o a w K Q else E:=by
 obtain⟨i0,hi,hz0,hz1,hz2⟩:=info_parts j9h;have hw:Region.wanted o (yielded ops a.tmps)=true:=by simp[Region.wanted,hg]
 rw[if_pos hw];unfold Oper.wp;obtain⟨C,w',hr,hC,hWs,hB,hlt⟩:=apR 59 70 i0 _ underlying59 hi hz0 w A n y bt cs news (by rw[hz1];exact hr) (by rw[hz2];exact hb) (by rw[hz2];omega) (by rw[hz2];omega) (by rw[hz1];exact hl) hy
 simp[execOp,hop,resolve,invoke,builtin,hs,hx,hty,hr,Result.andThen]
 exact hK _ _ _ rfl hC hWs hB hlt
theorem z7X.app{P P':Nat->Prop}{w w':World}{q:List Pkt}{z:List (Value×Value)}{x:Pkt}{y:Value×Value}(hl:z.length=q.length)(hz:∀ (i:Nat) (x:Pkt) (y:Value×Value),q[i]?=some x->z[i]?=some y->Rep P w y.1 2 16 (pwC x.S)/\Rep P w y.2 1 8 (inC x.D))(hP:∀ b,b<w.heap.size->P b->P' b)(hb:Below w.heap.size w w')(hy:Rep P' w' y.1 2 16 (pwC x.S)/\Rep P' w' y.2 1 8 (inC x.D))(hb80:q.length * 80<=140737488351232){g C:Nat}(hC:q.length+1<=C)(hg:P' g)(hlt:g<w'.heap.size)(hc:∀ j u,(pdL q z ++ pkL x y)[j]?=some u->w'.cell? ⟨g,j,none⟩=some u):z7X P' w' (.slice (some ⟨g,0,none⟩) (q.length+1) C) (q ++ [x]):=by
 refine⟨z ++ [y],by simp[hl],⟨_,q.length+1,C,rfl,?_,by omega,⟨fun h=>(by cases h),hC⟩,fun _=>⟨g,0,rfl,hg,hlt,fun j u hu=>?_⟩⟩,fun i a b ha hb'=>?_⟩
 ·rw[z1C _ _ (by simp[hl])];simp
 ·rw[q8p q z x y hl]at hu;rw[Nat.zero_add];exact hc j u hu
 ·by_cases hi:i<q.length
  ·rw[List.getElem?_append_left hi]at ha;rw[List.getElem?_append_left (by omega)]at hb'
   have:=hz i a b ha hb';exact⟨(this.1.mono hP).over hb,(this.2.mono hP).over hb⟩
  ·rw[List.getElem?_append_right (by omega)]at ha hb'
   have e1:=(List.getElem?_eq_some_iff.1 ha).1;have e2:i - q.length=0:=by simpa using e1
   rw[e2]at ha;rw[hl,e2]at hb';cases ha;cases hb';exact hy
theorem j8b(w:World)(x:Pkt)(y:Value×Value)(j:Nat)(v:Value)(hj:(pkL x y)[j]?=some v):(w.alloc (.cells #[.int .i64 x.k,.int .i64 x.i,.int .i64 x.v,.int .i64 x.n,y.1,y.2] 70)).drew.cell? ⟨w.heap.size,j,none⟩=some v:=by
 have h:=((CAt.new 70 w #[.int .i64 x.k,.int .i64 x.i,.int .i64 x.v,.int .i64 x.n,y.1,y.2]).over (Below.refl _ _).drew).cell j;rw[h]
 simpa [pkL] using hj
attribute [local go_sem ↓] z1t z1f
theorem q7z(c:Cs)(v:CsV)(P:Nat->Prop)(w:World)(s:ByteArray)(hp:CIn P w c v)(hs:s.size<=maxLen)(h80:c.pd.length * 80<=140737488351232) :
  Calls prog 132 #[.agg (csC c v),.string s] w (j7H P w (z3d c (Cd.bs s))):=by
 have hD:z3d c (Cd.bs s)=if z5p c=0 then if Cd.z6l (Cd.bs s)=0 then if (z2i (Cd.bs s)).k=1 then ({ c with pd:=c.pd ++ [z2i (Cd.bs s)] },0) else (c,3) else (c,Cd.z6l (Cd.bs s)) else (c,z5p c):=by unfold z3d;rfl
 have hpk:z2i (Cd.bs s)=⟨(Cd.z2q (Cd.bs s)).1,(Cd.z2q (Cd.bs s)).2.1,(Cd.z2q (Cd.bs s)).2.2.1,(Cd.z2q (Cd.bs s)).2.2.2.1,(Cd.z2q (Cd.bs s)).2.2.2.2.1,(Cd.z2q (Cd.bs s)).2.2.2.2.2⟩:=by unfold z2i;rfl
 rw[hpk]at hD;have HDC:=hide (fun (wx:World)=>Cd.z6H s wx hs);have H80:=hide h80;clear hs h80;have HRD:Hid (Cd.z6l (Cd.bs s)=0->Cd.z0m (Cd.z2q (Cd.bs s)).1 (Cd.z2q (Cd.bs s)).2.1 (Cd.z2q (Cd.bs s)).2.2.1 (Cd.z2q (Cd.bs s)).2.2.2.1 (Cd.z2q (Cd.bs s)).2.2.2.2.1 (Cd.z2q (Cd.bs s)).2.2.2.2.2=0):=fun h=>(Cd.q0N (Cd.z9P s) h).1;clear hpk;generalize z3d c (Cd.bs s)=D at *;generalize Cd.z6l (Cd.bs s)=E at *;generalize Cd.z2q (Cd.bs s)=R at *;obtain⟨k,i,vv,nn,S,Dn⟩:=R;dsimp only at hD HDC HRD;have HD:=hide hD;clear hD;have HB:=hide (j9U hp);have HRF:=hide (fun (wx:World) (h:q1U P w wx c v)=>z4F w.heap.size c v P wx h.C0 h.I0);have HP:=hide hp;clear hp;generalize z5p c=RC at *
 go_enter func132,ntmps132
 go_upto_region 1 with fail
 change Code.wp prog _ _ _ ((w.alloc (.cells (csC c v) 63)).alloc (.cells Z22 63));generalize (w.alloc (.cells (csC c v) 63)).alloc (.cells Z22 63)=w0 at *
 by_cases hRC:RC=0
 rotate_left
 ·have HR:=hide (HD.out.trans (if_neg hRC));have hRC':(RC != 0)=true:=by simpa using hRC
  go_upto_region 3 with (go_at_call 124;refine (HRF.out _ HB.out).mono ?_;rintro e w1⟨rfl,hb1⟩;have HB1:=hide (HB.out.over hb1);clear hb1;obtain⟨l1,s1⟩:=HB1.out.facts)
  go_wp2;exact HB1.out.z0L results132 _ _ HR.out _ rfl rfl rfl
 subst hRC;have HR:=hide (HD.out.trans (if_pos rfl));clear HD
 go_upto_region 5 with (first
  | (go_at_call 124;refine (HRF.out _ HB.out).mono ?_;rintro e w1⟨rfl,hb1⟩;have HB1:=hide (HB.out.over hb1);clear hb1)
  | (go_at_call 16;refine (HDC.out _).mono ?_;rintro e w2⟨sa,da,cs,cd,sb,so,db,dO,rfl,hL,hRm,hb2⟩))
 have bA:Below w2.heap.size w2 (w2.alloc (.cells #[.int .i64 k,.int .i64 i,.int .i64 vv,.int .i64 nn,.slice sa S.length cs,.slice da Dn.length cd] 70)):=znw w2 _;have HB3:=hide ((HB1.out.over hb2).over bA);have K3:=CAt.new 70 w2 #[.int .i64 k,.int .i64 i,.int .i64 vv,.int .i64 nn,.slice sa S.length cs,.slice da Dn.length cd];have hk2:w.heap.size+1<w2.heap.size:=(HB1.out.over hb2).R0.lt;have hz1:w.heap.size+2<=w1.heap.size:=HB1.out.R0.lt;have hL':=hL.later bA;clear hb2 hL HDC bA;generalize w2.alloc (.cells #[.int .i64 k,.int .i64 i,.int .i64 vv,.int .i64 nn,.slice sa S.length cs,.slice da Dn.length cd] 70)=w3 at *;have hk3:w2.heap.size<w3.heap.size:=K3.lt
 by_cases hE:E=0
 rotate_left
 ·replace HR:=hide (HR.out.trans (if_neg hE));have heb:(E != 0)=true:=by simpa using hE
  obtain⟨l3,s3⟩:=HB3.out.facts;clear K3 hL' hRm;go_wp2;exact HB3.out.z0L results132 _ _ HR.out _ rfl rfl rfl
 subst hE;replace HR:=hide (HR.out.trans (if_pos rfl));have hlen:=j0Y (HRD.out rfl);have k0:w3.cell? ⟨w2.heap.size,0,none⟩=some (.int .i64 k):=K3.cell 0
 by_cases hk:k=1
 rotate_left
 ·replace HR:=hide (HR.out.trans (if_neg hk));have hkb:(k != 1)=true:=by simpa using hk
  obtain⟨l3,s3⟩:=HB3.out.facts;clear K3 hL' hRm;go_wp2;exact HB3.out.z0L results132 _ _ HR.out _ rfl rfl rfl
 subst hk;replace HR:=hide (HR.out.trans (if_pos rfl));have HRP:=hide (q3R hL' hRm.1 hRm.2 hlen.1 hlen.2);obtain⟨z,hzl,hzr,hzi⟩:=HP.out.pd;obtain⟨Aq,Cq,eq,-,hq0,-,-⟩:=hzr.open (z1C _ _ hzl) (by decide)
 have hroom:=(hzr.room eq).1
 have HQR:Hid (∀ wx,Below w.heap.size w wx->Rep P wx (.slice Aq c.pd.length c.pd.length) 6 40 (pdL c.pd z)):=fun wx hb=>by
  rw[eq]at hzr;exact (hzr.over hb).clip
 have HZI:=hide (show _/\_ from⟨hzl,hzi⟩);have hnil:Aq=none->c.pd.length=0:=fun h=>(hq0 h).1;have hlenI:(c.pd.length:Int)<4611686018427387904:=by have:=H80.out;omega
 have a6:w3.cell? ⟨w.heap.size,6,none⟩=some (.slice Aq c.pd.length Cq):=by rw[← eq];exact HB3.out.C0.cell 6
 have k1:w3.cell? ⟨w2.heap.size,1,none⟩=some (.int .i64 i):=K3.cell 1;have k2:w3.cell? ⟨w2.heap.size,2,none⟩=some (.int .i64 vv):=K3.cell 2;have k3:w3.cell? ⟨w2.heap.size,3,none⟩=some (.int .i64 nn):=K3.cell 3;have k4:w3.cell? ⟨w2.heap.size,4,none⟩=some (.slice sa S.length cs):=K3.cell 4;have k5:w3.cell? ⟨w2.heap.size,5,none⟩=some (.slice da Dn.length cd):=K3.cell 5;have hgz:w.heap.size<w3.heap.size:=HB3.out.C0.lt;clear hzl hzr hzi hq0 K3 hRm HRD hL' hlen
 go_upto_region 9 with fail
 go_region_law (first
  | (refine Cd.z0E rfl ?_;go_simp;go_at_call 167;refine (q8v Aq c.pd.length Cq hroom hnil hlenI _).mono ?_;rintro e we⟨rfl,rfl⟩)
  | (refine j2n rfl rfl _ _ rfl Aq c.pd.length _ 40 (pdL c.pd z) (pkL ⟨1,i,vv,nn,S,Dn⟩ (.slice sa S.length cs,.slice da Dn.length cd)) rfl rfl (HQR.out _ (by exact (HB3.out.B0.alloc HB3.out.B0.size _).drew)) H80.out rfl (fun j v hj=>j8b w3 ⟨1,i,vv,nn,S,Dn⟩ (.slice sa S.length cs,.slice da Dn.length cd) j v hj) ?_;intro g C w9 hgq hC9 hcl9 hB9 hlt9;have C9:=((HB3.out.C0.alloc (.cells #[.int .i64 1,.int .i64 i,.int .i64 vv,.int .i64 nn,.slice sa S.length cs,.slice da Dn.length cd] 70)).over (Below.refl _ _).drew).over hB9;have z6:w9.cell? ⟨w.heap.size,6,none⟩=some v.pd:=C9.cell 6;have f6:=C9.free 6;have hz9:=C9.lt;have HX:=hide (show _/\_/\_/\_/\_ from⟨hgq,hC9,hcl9,hB9,hlt9⟩);have HC9:=hide C9;clear C9 hgq hC9 hcl9 hB9 hlt9))
 all_goals
  obtain⟨hgq,hC9,hcl9,hB9,hlt9⟩:=HX.out;have hgg:g=w3.heap.size+1:=by rw[hgq];show (w3.alloc _).heap.size=_;simp
  have bX:Below w3.heap.size w3 (w3.alloc (.cells #[.int .i64 1,.int .i64 i,.int .i64 vv,.int .i64 nn,.slice sa S.length cs,.slice da Dn.length cd] 70)).drew:=(znw w3 _).drew;have bY:=zbt bX hB9;have C10:=HC9.out.set 6 (.slice (some ⟨g,0,none⟩) (c.pd.length+1) C);have R10:=(HB3.out.R0.over bY).other (c:=w.heap.size) (o:=6) (by omega) (.slice (some ⟨g,0,none⟩) (c.pd.length+1) C)
  have B9:=zbt HB3.out.B0 bY;have B10:=B9.setCell (p:=⟨w.heap.size,6,none⟩) (Nat.le_refl _) (.slice (some ⟨g,0,none⟩) (c.pd.length+1) C)
  have key:∀ {u:Value} {s t:Nat} {cs':List Value},Rep (fun b=>w1.heap.size<=b) w3 u s t cs'->Rep (New P w 2) (w9.setCell ⟨w.heap.size,6,none⟩ (.slice (some ⟨g,0,none⟩) (c.pd.length+1) C)) u s t cs':=fun hr=>by
   have h1:Rep (New P w 2) w3 _ _ _ _:=hr.mono fun b _ hb=>.inr (by omega)
   exact (h1.over bY).keep fun b hb _=>Below.heap_setCell w9 ⟨w.heap.size,6,none⟩ _ b (show b≠w.heap.size from fun e=>z7e P w (by rw[← e];exact hb))
  have N10:CIn (New P w 2) (w9.setCell ⟨w.heap.size,6,none⟩ (.slice (some ⟨g,0,none⟩) (c.pd.length+1) C)) { c with pd:=c.pd ++ [⟨1,i,vv,nn,S,Dn⟩] } { v with pd:=.slice (some ⟨g,0,none⟩) (c.pd.length+1) C }:=by
   have n9:=HP.out.z2T B10 2;refine⟨n9.set,z7X.app (P:=P) (w:=w) (y:=(.slice sa S.length cs,.slice da Dn.length cd)) HZI.out.1 HZI.out.2 (fun b hb hp=>.inl ⟨hp,hb⟩) B10 ⟨key HRP.out.1,key HRP.out.2⟩ H80.out hC9 (.inr (by omega)) (by simpa [World.setCell] using hlt9) (fun j u hu=>?_),n9.rp,n9.said,n9.due⟩
   rw[World.cell?_of_block (w:=w9) (a:=⟨g,j,none⟩) (Below.heap_setCell w9 ⟨w.heap.size,6,none⟩ _ g (by show g≠w.heap.size;omega))]
   exact hcl9 j u hu
  have one10:=z2k N10;have l10:=z3c C10 (by simp[z0p])
  rw[j3S c v (c.pd ++ [⟨1,i,vv,nn,S,Dn⟩])]at l10;have s10:=z2o R10 z0z (z0p { c with pd:=c.pd ++ [⟨1,i,vv,nn,S,Dn⟩] } { v with pd:=.slice (some ⟨g,0,none⟩) (c.pd.length+1) C }) one10
  have HZ:=hide (show _/\_/\_ from⟨R10,B10,N10⟩);clear C10 R10 B10 B9 N10 bX bY hcl9 hB9 hlt9 hC9 hgg hgq HX HC9 HQR HZI z6 f6 hz9 key;generalize w9.setCell ⟨w.heap.size,6,none⟩ (.slice (some ⟨g,0,none⟩) (c.pd.length+1) C)=w10 at *;simp only[Exit.then];apply_assumption;go_wp2;exact z6E results132 HZ.out.1 z0z HZ.out.2.1 _ _ 0 D HR.out HZ.out.2.2 _ rfl rfl rfl
end Kc
end Go.Proofs.YtmopekkhmhhcaaaGreat
