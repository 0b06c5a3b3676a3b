/- Parts of the proof. -/
import Derived.Test.YtmopekkhmhhcaaaGreatFL
import Derived.Test.YtmopekkhmhhcaaaGreatFK11
import Derived.Test.YtmopekkhmhhcaaaGreatFK43
set_option maxRecDepth 100000
set_option maxHeartbeats 16000000
namespace Go.Proofs.YtmopekkhmhhcaaaGreat
open Go.Proofs.Tryz
namespace Wd
open Go.RowKit Pv Kc
theorem q1v(g:Nat)(x:Wo)(v:WoV)(P:Nat->Prop)(w:World)(i:Nat)(hi:i<2)(b f:Bool)(hC:CAt 98 w g (wdC x v))(hI:WIn P w x v)(hg:¬ P g)(hgl:Ln.z0T (z1j x i b)=true)(hsm:small (z1j x i b).S)(hq88:x.p.q.length * 88<=140737488351232)(h80:(x.c i).pd.length * 80<=140737488351232) :
  Calls prog 71 #[.pointer (some ⟨g,0,none⟩),.int .i64 (i:Int),.bool b,.bool f] w (q0h P w g (z9K x i b f)):=by
 cases b
 ·exact j7S f g x v P w i hi hC hI hg hgl hsm hq88 h80
 ·exact j9D f g x v P w i hi hC hI hg hgl hsm hq88 h80
theorem q3d(g:Nat)(x:Wo)(v:WoV)(P:Nat->Prop)(w:World)(i:Nat)(hi:i<2)(b:Bool)(k:Int)(hC:CAt 98 w g (wdC x v))(hI:WIn P w x v)(hg:¬ P g)(hq88:x.p.q.length * 88<=140737488351232) :
  Calls prog 72 #[.pointer (some ⟨g,0,none⟩),.int .i64 (i:Int),.bool b,.int .i64 k] w (q2W P w g (z9E x i b k)):=by
 cases b
 ·exact j8U g x v P w i hi k hC hI hg hq88
 ·exact j9H g x v P w i hi k hC hI hg hq88
def Dq(k c d v n:Int)(b f:Bool):Array Value:=#[.int .i64 k,.int .i64 c,.int .i64 d,.int .i64 v,.int .i64 n,.bool b,.bool f]
structure Small(x:Wo):Prop where
 q88:x.p.q.length * 88<=140737488351232
 c80:∀ i,i<2->(x.c i).pd.length * 80<=140737488351232
 c16:∀ i,i<2->((x.c i).rp.length+(x.c i).pd.length) * 16<=168884986026393
 gl:∀ i,i<2->∀ b,Ln.z0T (z1j x i b)=true
 sm:∀ i,i<2->∀ b,small (z1j x i b).S
 k0:0<=x.ck
 k1:x.ck<=1099511627736
theorem q9d{N:Int}{x:Wo}(h:z2W N x):Small x:=by
 have n1:=h.n1;refine⟨by have:=h.ql;omega,fun i hi=>by have:=h.cl i hi;omega,fun i hi=>by have:=h.cl i hi;omega,fun i hi b=>q9l h hi b,fun i hi b=>z6I h hi b,h.k0,h.k1⟩
theorem j0C(g:Nat)(x:Wo)(v:WoV)(P:Nat->Prop)(w:World)(i:Nat)(hi:i<2)(k d vv n:Int)(b f:Bool)(hk:k=7∨k=8∨k=11∨k=12∨k=9∨k=10)(hC:CAt 98 w g (wdC x v))(hI:WIn P w x v)(hg:¬ P g)(hs:Small x) :
  Calls prog 60 #[.pointer (some ⟨g,0,none⟩),.agg #[.int .i64 k,.int .i64 (i:Int),.int .i64 d,.int .i64 vv,.int .i64 n,.bool b,.bool f]] w (q0h P w g (z5b x i ⟨k,(i:Int),d,vv,n,b,f⟩)):=by
 have hlt:=hC.lt;have hI':=hI.lo;have hg':¬ (P g/\g<w.heap.size):=fun h=>hg h.1;have HCO:=hide (fun (wx:World) (hb:Below w.heap.size w wx)=>q9Y g x v _ wx i hi (hC.over hb) (hI'.over hb) hg' (hs.c16 i hi));have HSH:=hide (fun (wx:World) (hb:Below w.heap.size w wx)=>q7q g x v _ wx i hi b (hC.over hb) (hI'.over hb) hg');have HDE:=hide (fun (wx:World) (hb:Below w.heap.size w wx)=>q1v g x v _ wx i hi b f (hC.over hb) (hI'.over hb) hg' (hs.gl i hi b) (hs.sm i hi b) hs.q88 (hs.c80 i hi));have HEX:=hide (fun (wx:World) (hb:Below w.heap.size w wx)=>q3d g x v _ wx i hi b n (hC.over hb) (hI'.over hb) hg' hs.q88);have HAC:=hide (fun (wx:World) (hb:Below w.heap.size w wx) (hk:k=11∨k=12)=>j2c g x v _ wx i hi ⟨k,(i:Int),d,vv,n,b,f⟩ hk rfl (hC.over hb) (hI'.over hb) hg')
 have HFIN:Hid (∀ (wx w':World) (y:Wo),Below w.heap.size w wx->z1a (fun b=>P b/\b<w.heap.size) wx g y w'->z1a P w g y w'):=fun wx w' y hb h=>by
  obtain⟨v',c,i,a⟩:=h;refine⟨v',c,i.mono fun b _ hb'=>?_,(Alt.of (g:=g) hb).trans a⟩
  rcases hb' with⟨h1,h2⟩ | h1
  ·exact .inl h1
  ·exact .inr (by have:=hb.size;omega)
 have K0:=CAt.new 29 w #[.int .i64 k,.int .i64 (i:Int),.int .i64 d,.int .i64 vv,.int .i64 n,.bool b,.bool f];have b0:Below w.heap.size w (w.alloc (.cells #[.int .i64 k,.int .i64 (i:Int),.int .i64 d,.int .i64 vv,.int .i64 n,.bool b,.bool f] 29)):=znw w _;clear hC hI hI' hs hg';generalize hD:z5b x i ⟨k,(i:Int),d,vv,n,b,f⟩=D at *;have HD:=hide hD;clear hD
 go_enter func60,ntmps60
 go_upto_region 1 with fail
 generalize w.alloc (.cells #[.int .i64 k,.int .i64 (i:Int),.int .i64 d,.int .i64 vv,.int .i64 n,.bool b,.bool f] 29)=w0 at *;have k0:w0.cell? ⟨w.heap.size,0,none⟩=some (.int .i64 k):=K0.cell 0;have k1:w0.cell? ⟨w.heap.size,1,none⟩=some (.int .i64 (i:Int)):=K0.cell 1;have k4:w0.cell? ⟨w.heap.size,4,none⟩=some (.int .i64 n):=K0.cell 4;have k5:w0.cell? ⟨w.heap.size,5,none⟩=some (.bool b):=K0.cell 5;have k6:w0.cell? ⟨w.heap.size,6,none⟩=some (.bool f):=K0.cell 6;have HB0:=hide b0;have hz0:=K0.lt;have HK0:=hide K0;clear K0 b0
 rcases hk with rfl | rfl | rfl | rfl | rfl | rfl
 ·have HDD:Hid (D=((z5e x i).1,0,(z5e x i).2)):=HD.out.symm;generalize z5e x i=r at *
  go_wp2_with (go_at_call 69;refine (HCO.out _ HB0.out).mono ?_;rintro e w1⟨rfl,Z⟩;have HZ:=hide Z;clear Z)
  go_ret2;rw[HDD.out];exact⟨rfl,HFIN.out _ _ _ HB0.out HZ.out⟩
 ·have HDD:Hid (D=(z5d x i b,0,0)):=HD.out.symm;generalize z5d x i b=r at *
  go_wp2_with (go_at_call 70;refine (HSH.out _ HB0.out).mono ?_;rintro e w1⟨rfl,Z⟩;have HZ:=hide Z;clear Z)
  go_ret2;rw[HDD.out];exact⟨rfl,HFIN.out _ _ _ HB0.out HZ.out⟩
 ·have HDD:Hid (D=((q2N x i ⟨11,(i:Int),d,vv,n,b,f⟩).1,0,(q2N x i ⟨11,(i:Int),d,vv,n,b,f⟩).2)):=HD.out.symm;have HA:=hide (HAC.out _ HB0.out (.inl rfl));generalize q2N x i ⟨11,(i:Int),d,vv,n,b,f⟩=r at *;change Hid (Calls prog 73 #[.pointer (some ⟨g,0,none⟩),.agg #[.int .i64 11,.int .i64 (i:Int),.int .i64 d,.int .i64 vv,.int .i64 n,.bool b,.bool f]] w0 _) at HA;have k2:w0.cell? ⟨w.heap.size,2,none⟩=some (.int .i64 d):=HK0.out.cell 2;have k3:w0.cell? ⟨w.heap.size,3,none⟩=some (.int .i64 vv):=HK0.out.cell 3
  go_wp2_with (go_at_call 73;refine HA.out.mono ?_;rintro e w1⟨rfl,Z⟩;have HZ:=hide Z;clear Z)
  go_ret2;rw[HDD.out];exact⟨rfl,HFIN.out _ _ _ HB0.out HZ.out⟩
 ·have HDD:Hid (D=((q2N x i ⟨12,(i:Int),d,vv,n,b,f⟩).1,0,(q2N x i ⟨12,(i:Int),d,vv,n,b,f⟩).2)):=HD.out.symm;have HA:=hide (HAC.out _ HB0.out (.inr rfl));generalize q2N x i ⟨12,(i:Int),d,vv,n,b,f⟩=r at *;change Hid (Calls prog 73 #[.pointer (some ⟨g,0,none⟩),.agg #[.int .i64 12,.int .i64 (i:Int),.int .i64 d,.int .i64 vv,.int .i64 n,.bool b,.bool f]] w0 _) at HA;have k2:w0.cell? ⟨w.heap.size,2,none⟩=some (.int .i64 d):=HK0.out.cell 2;have k3:w0.cell? ⟨w.heap.size,3,none⟩=some (.int .i64 vv):=HK0.out.cell 3
  go_wp2_with (go_at_call 73;refine HA.out.mono ?_;rintro e w1⟨rfl,Z⟩;have HZ:=hide Z;clear Z)
  go_ret2;rw[HDD.out];exact⟨rfl,HFIN.out _ _ _ HB0.out HZ.out⟩
 ·have HDD:Hid (D=z9K x i b f):=HD.out.symm;generalize z9K x i b f=r at *;obtain⟨rx,rn,re⟩:=r
  go_wp2_with (go_at_call 71;refine (HDE.out _ HB0.out).mono ?_;rintro e w1⟨rfl,Z⟩;have HZ:=hide Z;clear Z;dsimp only)
  go_ret2;rw[HDD.out];exact⟨rfl,HFIN.out _ _ _ HB0.out HZ.out⟩
 ·have HDD:Hid (D=((z9E x i b n).1,0,(z9E x i b n).2)):=HD.out.symm;generalize z9E x i b n=r at *
  go_wp2_with (go_at_call 72;refine (HEX.out _ HB0.out).mono ?_;rintro e w1⟨rfl,Z⟩;have HZ:=hide Z;clear Z)
  go_ret2;rw[HDD.out];exact⟨rfl,HFIN.out _ _ _ HB0.out HZ.out⟩
theorem j1Z{P:Nat->Prop}{w wx w':World}{g:Nat}{y:Wo}(hb:Below w.heap.size w wx)(h:z1a (fun b=>P b/\b<w.heap.size) wx g y w'):z1a P w g y w':=by
 obtain⟨v',c,i,a⟩:=h;refine⟨v',c,i.mono fun b _ hb'=>?_,(Alt.of (g:=g) hb).trans a⟩
 rcases hb' with⟨h1,h2⟩ | h1
 ·exact .inl h1
 ·exact .inr (by have:=hb.size;omega)
theorem z1Q(P:Nat->Prop)(w:World)(g:Nat):Hid (∀ (wx w':World) (y:Wo),Below w.heap.size w wx->z1a (fun b=>P b/\b<w.heap.size) wx g y w'->z1a P w g y w'):=fun _ _ _ hb h=>j1Z hb h
theorem z2r{w:World}{g:Nat}{k c d vv n:Int}{b f:Bool}(h:CAt 29 w g #[.int .i64 k,.int .i64 c,.int .i64 d,.int .i64 vv,.int .i64 n,.bool b,.bool f]):w.cell? ⟨g,0,none⟩=some (.int .i64 k)/\w.cell? ⟨g,1,none⟩=some (.int .i64 c)/\w.cell? ⟨g,2,none⟩=some (.int .i64 d)/\w.cell? ⟨g,3,none⟩=some (.int .i64 vv)/\w.cell? ⟨g,4,none⟩=some (.int .i64 n)/\w.cell? ⟨g,5,none⟩=some (.bool b)/\w.cell? ⟨g,6,none⟩=some (.bool f):=⟨h.cell 0,h.cell 1,h.cell 2,h.cell 3,h.cell 4,h.cell 5,h.cell 6⟩
theorem j9p{w:World}{g:Nat}{x:Wo}{v:WoV}(h:CAt 98 w g (wdC x v)){i:Nat}(hi:i<2):w.cell? ⟨g,99+i * 22,none⟩=some (.bool (x.c i).on):=by
 rw[h.cell]
 match i,hi with
 | 0,_=>rfl
 | 1,_=>rfl
theorem j6N(g:Nat)(x:Wo)(v:WoV)(P:Nat->Prop)(w:World)(c d vv n:Int)(b f:Bool)(hC:CAt 98 w g (wdC x v))(hI:WIn P w x v)(hg:¬ P g) :
  Calls prog 37 #[.pointer (some ⟨g,0,none⟩),.agg #[.int .i64 1,.int .i64 c,.int .i64 d,.int .i64 vv,.int .i64 n,.bool b,.bool f]] w (q0h P w g ((atP x ⟨1,c,d,vv,n,b,f⟩).1,0,(atP x ⟨1,c,d,vv,n,b,f⟩).2)):=by
 have hlt:=hC.lt;have hI':=hI.lo;have hg':¬ (P g/\g<w.heap.size):=fun h=>hg h.1;have HAP:=hide (fun (wx:World) (hb:Below w.heap.size w wx)=>z7u g x v _ wx ⟨1,c,d,vv,n,b,f⟩ (by simp) (hC.over hb) (hI'.over hb) hg')
 have K0:=CAt.new 29 w #[.int .i64 1,.int .i64 c,.int .i64 d,.int .i64 vv,.int .i64 n,.bool b,.bool f];have b0:Below w.heap.size w (w.alloc (.cells #[.int .i64 1,.int .i64 c,.int .i64 d,.int .i64 vv,.int .i64 n,.bool b,.bool f] 29)):=znw w _;have HFIN:=z1Q P w g;clear hC hI hI' hg';generalize atP x ⟨1,c,d,vv,n,b,f⟩=r at *
 go_enter func37,ntmps37
 go_upto_region 1 with fail
 generalize w.alloc (.cells #[.int .i64 1,.int .i64 c,.int .i64 d,.int .i64 vv,.int .i64 n,.bool b,.bool f] 29)=w0 at *;obtain⟨k0,k1,k2,k3,k4,k5,k6⟩:=z2r K0;have HB0:=hide b0;have hz0:=K0.lt;have HK0:=hide K0;clear K0 b0;have HA:=hide (HAP.out _ HB0.out);change Hid (Calls prog 56 #[.pointer (some ⟨g,0,none⟩),.agg #[.int .i64 1,.int .i64 c,.int .i64 d,.int .i64 vv,.int .i64 n,.bool b,.bool f]] w0 _) at HA
 go_wp2_with (go_at_call 56;refine HA.out.mono ?_;rintro e w1⟨rfl,Z⟩;have HZ:=hide Z;clear Z)
 go_ret2;exact⟨rfl,HFIN.out _ _ _ HB0.out HZ.out⟩
theorem j6i(g:Nat)(x:Wo)(v:WoV)(P:Nat->Prop)(w:World)(c d vv n:Int)(b f:Bool)(hC:CAt 98 w g (wdC x v))(hI:WIn P w x v)(hg:¬ P g) :
  Calls prog 37 #[.pointer (some ⟨g,0,none⟩),.agg #[.int .i64 2,.int .i64 c,.int .i64 d,.int .i64 vv,.int .i64 n,.bool b,.bool f]] w (q0h P w g ((atP x ⟨2,c,d,vv,n,b,f⟩).1,0,(atP x ⟨2,c,d,vv,n,b,f⟩).2)):=by
 have hlt:=hC.lt;have hI':=hI.lo;have hg':¬ (P g/\g<w.heap.size):=fun h=>hg h.1;have HAP:=hide (fun (wx:World) (hb:Below w.heap.size w wx)=>z7u g x v _ wx ⟨2,c,d,vv,n,b,f⟩ (by simp) (hC.over hb) (hI'.over hb) hg')
 have K0:=CAt.new 29 w #[.int .i64 2,.int .i64 c,.int .i64 d,.int .i64 vv,.int .i64 n,.bool b,.bool f];have b0:Below w.heap.size w (w.alloc (.cells #[.int .i64 2,.int .i64 c,.int .i64 d,.int .i64 vv,.int .i64 n,.bool b,.bool f] 29)):=znw w _;have HFIN:=z1Q P w g;clear hC hI hI' hg';generalize atP x ⟨2,c,d,vv,n,b,f⟩=r at *
 go_enter func37,ntmps37
 go_upto_region 1 with fail
 generalize w.alloc (.cells #[.int .i64 2,.int .i64 c,.int .i64 d,.int .i64 vv,.int .i64 n,.bool b,.bool f] 29)=w0 at *;obtain⟨k0,k1,k2,k3,k4,k5,k6⟩:=z2r K0;have HB0:=hide b0;have hz0:=K0.lt;have HK0:=hide K0;clear K0 b0;have HA:=hide (HAP.out _ HB0.out);change Hid (Calls prog 56 #[.pointer (some ⟨g,0,none⟩),.agg #[.int .i64 2,.int .i64 c,.int .i64 d,.int .i64 vv,.int .i64 n,.bool b,.bool f]] w0 _) at HA
 go_wp2_with (go_at_call 56;refine HA.out.mono ?_;rintro e w1⟨rfl,Z⟩;have HZ:=hide Z;clear Z)
 go_ret2;exact⟨rfl,HFIN.out _ _ _ HB0.out HZ.out⟩
theorem j6r(g:Nat)(x:Wo)(v:WoV)(P:Nat->Prop)(w:World)(c d vv n:Int)(b f:Bool)(hC:CAt 98 w g (wdC x v))(hI:WIn P w x v)(hg:¬ P g) :
  Calls prog 37 #[.pointer (some ⟨g,0,none⟩),.agg #[.int .i64 3,.int .i64 c,.int .i64 d,.int .i64 vv,.int .i64 n,.bool b,.bool f]] w (q0h P w g ((atP x ⟨3,c,d,vv,n,b,f⟩).1,0,(atP x ⟨3,c,d,vv,n,b,f⟩).2)):=by
 have hlt:=hC.lt;have hI':=hI.lo;have hg':¬ (P g/\g<w.heap.size):=fun h=>hg h.1;have HAP:=hide (fun (wx:World) (hb:Below w.heap.size w wx)=>z7u g x v _ wx ⟨3,c,d,vv,n,b,f⟩ (by simp) (hC.over hb) (hI'.over hb) hg')
 have K0:=CAt.new 29 w #[.int .i64 3,.int .i64 c,.int .i64 d,.int .i64 vv,.int .i64 n,.bool b,.bool f];have b0:Below w.heap.size w (w.alloc (.cells #[.int .i64 3,.int .i64 c,.int .i64 d,.int .i64 vv,.int .i64 n,.bool b,.bool f] 29)):=znw w _;have HFIN:=z1Q P w g;clear hC hI hI' hg';generalize atP x ⟨3,c,d,vv,n,b,f⟩=r at *
 go_enter func37,ntmps37
 go_upto_region 1 with fail
 generalize w.alloc (.cells #[.int .i64 3,.int .i64 c,.int .i64 d,.int .i64 vv,.int .i64 n,.bool b,.bool f] 29)=w0 at *;obtain⟨k0,k1,k2,k3,k4,k5,k6⟩:=z2r K0;have HB0:=hide b0;have hz0:=K0.lt;have HK0:=hide K0;clear K0 b0;have HA:=hide (HAP.out _ HB0.out);change Hid (Calls prog 56 #[.pointer (some ⟨g,0,none⟩),.agg #[.int .i64 3,.int .i64 c,.int .i64 d,.int .i64 vv,.int .i64 n,.bool b,.bool f]] w0 _) at HA
 go_wp2_with (go_at_call 56;refine HA.out.mono ?_;rintro e w1⟨rfl,Z⟩;have HZ:=hide Z;clear Z)
 go_ret2;exact⟨rfl,HFIN.out _ _ _ HB0.out HZ.out⟩
theorem j2h(g:Nat)(x:Wo)(v:WoV)(P:Nat->Prop)(w:World)(c d vv n:Int)(b f:Bool)(hC:CAt 98 w g (wdC x v))(hI:WIn P w x v)(hg:¬ P g) :
  Calls prog 37 #[.pointer (some ⟨g,0,none⟩),.agg #[.int .i64 13,.int .i64 c,.int .i64 d,.int .i64 vv,.int .i64 n,.bool b,.bool f]] w (q0h P w g ((atP x ⟨13,c,d,vv,n,b,f⟩).1,0,(atP x ⟨13,c,d,vv,n,b,f⟩).2)):=by
 have hlt:=hC.lt;have hI':=hI.lo;have hg':¬ (P g/\g<w.heap.size):=fun h=>hg h.1;have HAP:=hide (fun (wx:World) (hb:Below w.heap.size w wx)=>z7u g x v _ wx ⟨13,c,d,vv,n,b,f⟩ (by simp) (hC.over hb) (hI'.over hb) hg')
 have K0:=CAt.new 29 w #[.int .i64 13,.int .i64 c,.int .i64 d,.int .i64 vv,.int .i64 n,.bool b,.bool f];have b0:Below w.heap.size w (w.alloc (.cells #[.int .i64 13,.int .i64 c,.int .i64 d,.int .i64 vv,.int .i64 n,.bool b,.bool f] 29)):=znw w _;have HFIN:=z1Q P w g;clear hC hI hI' hg';generalize atP x ⟨13,c,d,vv,n,b,f⟩=r at *
 go_enter func37,ntmps37
 go_upto_region 1 with fail
 generalize w.alloc (.cells #[.int .i64 13,.int .i64 c,.int .i64 d,.int .i64 vv,.int .i64 n,.bool b,.bool f] 29)=w0 at *;obtain⟨k0,k1,k2,k3,k4,k5,k6⟩:=z2r K0;have HB0:=hide b0;have hz0:=K0.lt;have HK0:=hide K0;clear K0 b0;have HA:=hide (HAP.out _ HB0.out);change Hid (Calls prog 56 #[.pointer (some ⟨g,0,none⟩),.agg #[.int .i64 13,.int .i64 c,.int .i64 d,.int .i64 vv,.int .i64 n,.bool b,.bool f]] w0 _) at HA
 go_wp2_with (go_at_call 56;refine HA.out.mono ?_;rintro e w1⟨rfl,Z⟩;have HZ:=hide Z;clear Z)
 go_ret2;exact⟨rfl,HFIN.out _ _ _ HB0.out HZ.out⟩
theorem j6Q(g:Nat)(x:Wo)(v:WoV)(P:Nat->Prop)(w:World)(c d vv n:Int)(b f:Bool)(hC:CAt 98 w g (wdC x v))(hI:WIn P w x v)(hg:¬ P g)(hs:Small x) :
  Calls prog 37 #[.pointer (some ⟨g,0,none⟩),.agg #[.int .i64 5,.int .i64 c,.int .i64 d,.int .i64 vv,.int .i64 n,.bool b,.bool f]] w (q0h P w g (z6s x n)):=by
 have hlt:=hC.lt;have hI':=hI.lo;have hg':¬ (P g/\g<w.heap.size):=fun h=>hg h.1;have HA:=hide (fun (wx:World) (hb:Below w.heap.size w wx)=>q8L g x v _ wx n (hC.over hb) (hI'.over hb) hg' hs.k0 hs.k1);have K0:=CAt.new 29 w #[.int .i64 5,.int .i64 c,.int .i64 d,.int .i64 vv,.int .i64 n,.bool b,.bool f];have b0:Below w.heap.size w (w.alloc (.cells #[.int .i64 5,.int .i64 c,.int .i64 d,.int .i64 vv,.int .i64 n,.bool b,.bool f] 29)):=znw w _;have HFIN:=z1Q P w g;clear hC hI hI' hg';generalize z6s x n=r at *;obtain⟨rx,rn,re⟩:=r
 go_enter func37,ntmps37
 go_upto_region 1 with fail
 generalize w.alloc (.cells #[.int .i64 5,.int .i64 c,.int .i64 d,.int .i64 vv,.int .i64 n,.bool b,.bool f] 29)=w0 at *;obtain⟨k0,k1,k2,k3,k4,k5,k6⟩:=z2r K0;have HB0:=hide b0;have hz0:=K0.lt;have HK0:=hide K0;clear K0 b0
 go_wp2_with (go_at_call 57;refine (HA.out _ HB0.out).mono ?_;rintro e w1⟨rfl,Z⟩;have HZ:=hide Z;clear Z;dsimp only)
 go_ret2;exact⟨rfl,HFIN.out _ _ _ HB0.out HZ.out⟩
theorem j4P(g:Nat)(x:Wo)(v:WoV)(P:Nat->Prop)(w:World)(c d vv n:Int)(b f:Bool)(hC:CAt 98 w g (wdC x v))(hI:WIn P w x v)(hg:¬ P g)(hs:Small x) :
  Calls prog 37 #[.pointer (some ⟨g,0,none⟩),.agg #[.int .i64 6,.int .i64 c,.int .i64 d,.int .i64 vv,.int .i64 n,.bool b,.bool f]] w (q0h P w g (z4G x)):=by
 have hlt:=hC.lt;have hI':=hI.lo;have hg':¬ (P g/\g<w.heap.size):=fun h=>hg h.1;have HA:=hide (fun (wx:World) (hb:Below w.heap.size w wx)=>q1k g x v _ wx (hC.over hb) (hI'.over hb) hg' hs.q88);have K0:=CAt.new 29 w #[.int .i64 6,.int .i64 c,.int .i64 d,.int .i64 vv,.int .i64 n,.bool b,.bool f];have b0:Below w.heap.size w (w.alloc (.cells #[.int .i64 6,.int .i64 c,.int .i64 d,.int .i64 vv,.int .i64 n,.bool b,.bool f] 29)):=znw w _;have HFIN:=z1Q P w g;clear hC hI hI' hg';generalize z4G x=r at *;obtain⟨rx,rn,re⟩:=r
 go_enter func37,ntmps37
 go_upto_region 1 with fail
 generalize w.alloc (.cells #[.int .i64 6,.int .i64 c,.int .i64 d,.int .i64 vv,.int .i64 n,.bool b,.bool f] 29)=w0 at *;obtain⟨k0,k1,k2,k3,k4,k5,k6⟩:=z2r K0;have HB0:=hide b0;have hz0:=K0.lt;have HK0:=hide K0;clear K0 b0
 go_wp2_with (go_at_call 58;refine (HA.out _ HB0.out).mono ?_;rintro e w1⟨rfl,Z⟩;have HZ:=hide Z;clear Z;dsimp only)
 go_ret2;exact⟨rfl,HFIN.out _ _ _ HB0.out HZ.out⟩
theorem j6D(g:Nat)(x:Wo)(v:WoV)(P:Nat->Prop)(w:World)(c d vv n:Int)(b f:Bool)(hC:CAt 98 w g (wdC x v))(hI:WIn P w x v)(hg:¬ P g) :
  Calls prog 37 #[.pointer (some ⟨g,0,none⟩),.agg #[.int .i64 4,.int .i64 c,.int .i64 d,.int .i64 vv,.int .i64 n,.bool b,.bool f]] w (q0h P w g (z3u x c)):=by
 have hlt:=hC.lt;have hI':=hI.lo;have hg':¬ (P g/\g<w.heap.size):=fun h=>hg h.1;have HA:=hide (fun (wx:World) (hb:Below w.heap.size w wx)=>q6x g x v _ wx c (hC.over hb) (hI'.over hb) hg');have K0:=CAt.new 29 w #[.int .i64 4,.int .i64 c,.int .i64 d,.int .i64 vv,.int .i64 n,.bool b,.bool f];have b0:Below w.heap.size w (w.alloc (.cells #[.int .i64 4,.int .i64 c,.int .i64 d,.int .i64 vv,.int .i64 n,.bool b,.bool f] 29)):=znw w _;have HFIN:=z1Q P w g;clear hC hI hI' hg';generalize z3u x c=r at *;obtain⟨rx,rn,re⟩:=r
 go_enter func37,ntmps37
 go_upto_region 1 with fail
 generalize w.alloc (.cells #[.int .i64 4,.int .i64 c,.int .i64 d,.int .i64 vv,.int .i64 n,.bool b,.bool f] 29)=w0 at *;obtain⟨k0,k1,k2,k3,k4,k5,k6⟩:=z2r K0;have HB0:=hide b0;have hz0:=K0.lt;have HK0:=hide K0;clear K0 b0
 go_wp2_with (go_at_call 59;refine (HA.out _ HB0.out).mono ?_;rintro e w1⟨rfl,Z⟩;have HZ:=hide Z;clear Z;dsimp only)
 go_ret2;exact⟨rfl,HFIN.out _ _ _ HB0.out HZ.out⟩
theorem q6k(g:Nat)(x:Wo)(v:WoV)(P:Nat->Prop)(w:World)(k c d vv n:Int)(b f:Bool)(hC:CAt 98 w g (wdC x v))(hI:WIn P w x v)(hg:¬ P g)(e1:(k == 1)=false)(e2:(k == 2)=false)(e3:(k == 3)=false)(e13:(k == 13)=false)(e5:(k == 5)=false)(e6:(k == 6)=false)(e4:(k == 4)=false)(e7:(k == 7)=false)(e8:(k == 8)=false)(e11:(k == 11)=false)(e12:(k == 12)=false)(e9:(k == 9)=false)(e10:(k == 10)=false) :
  Calls prog 37 #[.pointer (some ⟨g,0,none⟩),.agg #[.int .i64 k,.int .i64 c,.int .i64 d,.int .i64 vv,.int .i64 n,.bool b,.bool f]] w (q0h P w g (x,0,3)):=by
 have hlt:=hC.lt;have hI':=hI.lo;have hg':¬ (P g/\g<w.heap.size):=fun h=>hg h.1;have HSA:=q3T hC hI hg;have K0:=CAt.new 29 w #[.int .i64 k,.int .i64 c,.int .i64 d,.int .i64 vv,.int .i64 n,.bool b,.bool f];have b0:Below w.heap.size w (w.alloc (.cells #[.int .i64 k,.int .i64 c,.int .i64 d,.int .i64 vv,.int .i64 n,.bool b,.bool f] 29)):=znw w _;have HFIN:=z1Q P w g;clear hC hI hI' hg'
 go_enter func37,ntmps37
 go_upto_region 1 with fail
 generalize w.alloc (.cells #[.int .i64 k,.int .i64 c,.int .i64 d,.int .i64 vv,.int .i64 n,.bool b,.bool f] 29)=w0 at *;obtain⟨k0,k1,k2,k3,k4,k5,k6⟩:=z2r K0;have HB0:=hide b0;have hz0:=K0.lt;have HK0:=hide K0;clear K0 b0;go_wp2;go_ret2;exact⟨rfl,HSA.out _ HB0.out⟩
end Wd
end Go.Proofs.YtmopekkhmhhcaaaGreat
