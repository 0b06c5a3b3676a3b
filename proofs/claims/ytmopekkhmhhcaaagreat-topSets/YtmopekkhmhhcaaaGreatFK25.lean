/- Parts of the proof. -/
import Derived.Test.YtmopekkhmhhcaaaGreatFL
import Derived.Test.YtmopekkhmhhcaaaGreatFK12
import Derived.Test.YtmopekkhmhhcaaaGreatFK36
set_option maxRecDepth 100000
set_option maxHeartbeats 16000000
namespace Go.Proofs.YtmopekkhmhhcaaaGreat
open Go.Proofs.Tryz
namespace Wd
open Go.RowKit Pv Kc
theorem q8f(g:Nat)(x:Wo)(v:WoV)(P:Nat->Prop)(w:World)(k c d vv n:Int)(b f:Bool)(hC:CAt 98 w g (wdC x v))(hI:WIn P w x v)(hg:¬ P g)(hs:Small x) :
  Calls prog 37 #[.pointer (some ⟨g,0,none⟩),.agg #[.int .i64 k,.int .i64 c,.int .i64 d,.int .i64 vv,.int .i64 n,.bool b,.bool f]] w (q0h P w g (z2Q x ⟨k,c,d,vv,n,b,f⟩)):=by
 unfold z2Q;dsimp only
 by_cases h1:k=1∨k=2∨k=3∨k=13
 ·rw[if_pos h1]
  rcases h1 with rfl | rfl | rfl | rfl
  ·exact j6N g x v P w c d vv n b f hC hI hg
  ·exact j6i g x v P w c d vv n b f hC hI hg
  ·exact j6r g x v P w c d vv n b f hC hI hg
  ·exact j2h g x v P w c d vv n b f hC hI hg
 rw[if_neg h1]
 by_cases h5:k=5
 ·rw[if_pos h5];subst h5;exact j6Q g x v P w c d vv n b f hC hI hg hs
 rw[if_neg h5]
 by_cases h6:k=6
 ·rw[if_pos h6];subst h6;exact j4P g x v P w c d vv n b f hC hI hg hs
 rw[if_neg h6]
 by_cases h4:k=4
 ·rw[if_pos h4];subst h4;exact j6D g x v P w c d vv n b f hC hI hg
 rw[if_neg h4]
 by_cases h7:k=7∨k=8∨k=11∨k=12∨k=9∨k=10
 case neg =>
  rw[if_neg h7];have q:∀ j:Int,k≠j->(k == j)=false:=fun j h=>by simpa using h
  exact q6k g x v P w k c d vv n b f hC hI hg (q _ fun e=>h1 (.inl e)) (q _ fun e=>h1 (.inr (.inl e))) (q _ fun e=>h1 (.inr (.inr (.inl e)))) (q _ fun e=>h1 (.inr (.inr (.inr e)))) (q _ h5) (q _ h6) (q _ h4) (q _ fun e=>h7 (.inl e)) (q _ fun e=>h7 (.inr (.inl e))) (q _ fun e=>h7 (.inr (.inr (.inl e)))) (q _ fun e=>h7 (.inr (.inr (.inr (.inl e))))) (q _ fun e=>h7 (.inr (.inr (.inr (.inr (.inl e)))))) (q _ fun e=>h7 (.inr (.inr (.inr (.inr (.inr e))))))
 rw[if_pos h7]
 by_cases hcc:isC c=true
 case neg =>
  have hcf:isC c=false:=by simpa using hcc
  rw[if_neg fun h=>hcc h.1];exact j2L g x v P w k c d vv n b f hC hI hg h7 hcf
 obtain⟨i,rfl,hi⟩:=z9B hcc;rw[Int.toNat_natCast]
 by_cases hon:(x.c i).on=true
 ·rw[if_pos ⟨hcc,hon⟩];exact j1i g x v P w i hi k d vv n b f hC hI hg h7 hs hon
 ·have hof:(x.c i).on=false:=by simpa using hon
  rw[if_neg fun h=>hon h.2];exact q9c g x v P w i hi k d vv n b f hC hI hg h7 hof
theorem j8l(x:Wo)(v:WoV)(n:Int):(wdC x v).setIfInBounds 1 (.int .i64 n)=wdC { x with dn:=n } v:=rfl
theorem z7C{f:Func}{t:Tmp}(hres:f.results=#[.cell t 32]){wq:World}{gr:Nat}{a b:Int}{Q:Ending->World->Prop}(hc:CAt 32 wq gr #[.int .i64 a,.int .i64 b])(hQ:Q (.returned (.agg #[.int .i64 a,.int .i64 b])) wq)(act:Act)
  (h8:act.tmps.getD t undef=.pointer (some ⟨gr,0,none⟩)) (hd:act.defers=[]):bodyPost prog f Q Exit.ret act wq:=
 bodyPost_ret (v:=.agg #[.int .i64 a,.int .i64 b]) (results_cell_row hres _ _ gr 32 _ (0,0) _ h8 hc underlying32 rfl (by kernel_rfl)) hd hQ
theorem j2V{P P':Nat->Prop}{w w1 w2:World}{g gr:Nat}{y:Wo}(hA:Alt g w w1)(Z:z1a P' w1 g y w2)(hne:gr≠g)(hgr:w.heap.size<=gr)(hn:¬ New P' w1 0 gr)(hp:∀ b,New P' w1 0 b->New P w 0 b)(o1 o2:Nat)(a b:Value):z1a P w g y ((w2.setCell ⟨gr,o1,none⟩ a).setCell ⟨gr,o2,none⟩ b):=by
 obtain⟨v,c,i,al⟩:=Z;have hk:∀ k,k≠gr->((w2.setCell ⟨gr,o1,none⟩ a).setCell ⟨gr,o2,none⟩ b).heap[k]?=w2.heap[k]?:=fun k hk=>(Below.heap_setCell _ _ _ _ hk).trans (Below.heap_setCell _ _ _ _ hk);exact⟨v,(hk g (fun e=>hne e.symm)).trans c,(i.keep fun b hb _=>hk b fun e=>hn (e ▸ hb)).mono fun b _ hb=>hp b hb,((hA.trans al).far hgr o1 a).far hgr o2 b⟩
theorem j5d(g:Nat)(x:Wo)(v:WoV)(P:Nat->Prop)(w:World)(k c d vv n:Int)(b f:Bool)(hC:CAt 98 w g (wdC x v))(hI:WIn P w x v)(hg:¬ P g)(hx:Inv x) :
  Calls prog 24 #[.pointer (some ⟨g,0,none⟩),.agg #[.int .i64 k,.int .i64 c,.int .i64 d,.int .i64 vv,.int .i64 n,.bool b,.bool f]] w fun e w'=>e=.returned (.agg #[.int .i64 (doW x ⟨k,c,d,vv,n,b,f⟩).2.1,.int .i64 (doW x ⟨k,c,d,vv,n,b,f⟩).2.2])/\z1a P w g (doW x ⟨k,c,d,vv,n,b,f⟩).1 w':=by
 have hlt:=hC.lt;have hD:doW x ⟨k,c,d,vv,n,b,f⟩=if 600<=x.dn then (x,6,0) else ((z2Q (z1O x) ⟨k,c,d,vv,n,b,f⟩).1,(z2Q (z1O x) ⟨k,c,d,vv,n,b,f⟩).2.2,if (z2Q (z1O x) ⟨k,c,d,vv,n,b,f⟩).2.2=0 then (z2Q (z1O x) ⟨k,c,d,vv,n,b,f⟩).2.1 else 0):=by unfold doW;rfl
 have hI':=hI.lo;have hg':¬ (P g/\g<w.heap.size):=fun h=>hg h.1;have hdn:0<=x.dn:=hx.n0;have hdn6:x.dn<=600:=hx.n1;have HPF:=hide (fun (wx:World) (hb:Below w.heap.size w wx)=>q8f g (z1O x) v (fun b=>P b/\b<w.heap.size) (wx.setCell ⟨g,1,none⟩ (.int .i64 (x.dn+1))) k c d vv n b f (by have h:=(hC.over hb).set 1 (.int .i64 (x.dn+1));rw[j8l]at h;exact h) (by have h:=(hI'.over hb).alt hg' ((Alt.refl g wx).set 1 (.int .i64 (x.dn+1)));exact⟨h.p,h.c⟩) hg' (q9d (hx.dn _)))
 have HSA:=q3T hC hI hg;have HDN:=hide (fun (wx:World) (hb:Below w.heap.size w wx)=>(show wx.cell? ⟨g,1,none⟩=some (.int .i64 x.dn)/\wx.frozen? ⟨g,1,none⟩=false from⟨(hC.over hb).cell 1,(hC.over hb).free 1⟩));have hw1:IntKind.i64.wrap (x.dn+1)=x.dn+1:=z6D (by omega) (by omega)
 generalize doW x ⟨k,c,d,vv,n,b,f⟩=D at *;generalize z2Q (z1O x) ⟨k,c,d,vv,n,b,f⟩=r at *;obtain⟨rx,rn,re⟩:=r;dsimp only at hD;have HD:=hide hD;have K0:=(CAt.new 29 w #[.int .i64 k,.int .i64 c,.int .i64 d,.int .i64 vv,.int .i64 n,.bool b,.bool f]).alloc (.cells #[.int .i64 0,.int .i64 0] 32);have R0:=CAt.new2 32 w (.cells #[.int .i64 k,.int .i64 c,.int .i64 d,.int .i64 vv,.int .i64 n,.bool b,.bool f] 29) #[.int .i64 0,.int .i64 0];have b0:Below w.heap.size w ((w.alloc (.cells #[.int .i64 k,.int .i64 c,.int .i64 d,.int .i64 vv,.int .i64 n,.bool b,.bool f] 29)).alloc (.cells #[.int .i64 0,.int .i64 0] 32)):=(znw w _).alloc (by simp) _
 clear hD hC hI hI' hx
 go_enter func24,ntmps24
 go_upto_region 1 with fail
 generalize (w.alloc (.cells #[.int .i64 k,.int .i64 c,.int .i64 d,.int .i64 vv,.int .i64 n,.bool b,.bool f] 29)).alloc (.cells #[.int .i64 0,.int .i64 0] 32)=w0 at *;have HB0:=hide b0;have HK0:=hide (show _/\_ from⟨K0,R0⟩);have hz0:=R0.lt;clear K0 R0 b0;obtain⟨y1,f1⟩:=HDN.out w0 HB0.out;have r0:w0.cell? ⟨w.heap.size+1,0,none⟩=some (.int .i64 0):=HK0.out.2.cell 0;have r1:w0.cell? ⟨w.heap.size+1,1,none⟩=some (.int .i64 0):=HK0.out.2.cell 1;have rf0:=HK0.out.2.free 0;have rf1:=HK0.out.2.free 1
 by_cases h6:600<=x.dn
 ·have HDD:=hide (HD.out.trans (if_pos h6));have h6':x.dn≥600:=h6;have R1:=(HK0.out.2.set 0 (.int .i64 6)).set 1 (.int .i64 0);have B1:=(HB0.out.setCell (p:=⟨w.heap.size+1,0,none⟩) (Nat.le_succ _) (.int .i64 6)).setCell (p:=⟨w.heap.size+1,1,none⟩) (Nat.le_succ _) (.int .i64 0);have HZ:=hide (show _/\_ from⟨R1,B1⟩);clear R1 B1 HD;go_wp2;exact z7C results24 (a:=6) (b:=0) HZ.out.1 ⟨by rw[HDD.out],by rw[HDD.out];exact HSA.out _ HZ.out.2⟩ _ rfl rfl
 ·have HDD:=hide (HD.out.trans (if_neg h6));have h6':¬ x.dn≥600:=h6;have a1:Alt g w0 (w0.setCell ⟨g,1,none⟩ (.int .i64 (x.dn+1))):=(Alt.refl g w0).set 1 _;have K1:=a1.cat (b:=w.heap.size) (by omega) HK0.out.1
  have R1:=a1.cat (b:=w.heap.size+1) (by omega) HK0.out.2
  have HP:=hide (HPF.out w0 HB0.out);have hsz1:(w0.setCell ⟨g,1,none⟩ (.int .i64 (x.dn+1))).heap.size=w0.heap.size:=by simp[World.setCell]
  have HA1:=hide ((Alt.of (g:=g) HB0.out).trans a1);have HSZ:=hide hsz1;clear HPF HSA HD a1 hsz1 r0 r1 rf0 rf1 HDN
  go_upto_region 6 with fail
  clear y1 f1;generalize w0.setCell ⟨g,1,none⟩ (.int .i64 (x.dn+1))=w1 at *;have k0:w1.cell? ⟨w.heap.size,0,none⟩=some (.int .i64 k):=K1.cell 0;have k1:w1.cell? ⟨w.heap.size,1,none⟩=some (.int .i64 c):=K1.cell 1;have k2:w1.cell? ⟨w.heap.size,2,none⟩=some (.int .i64 d):=K1.cell 2;have k3:w1.cell? ⟨w.heap.size,3,none⟩=some (.int .i64 vv):=K1.cell 3;have k4:w1.cell? ⟨w.heap.size,4,none⟩=some (.int .i64 n):=K1.cell 4;have k5:w1.cell? ⟨w.heap.size,5,none⟩=some (.bool b):=K1.cell 5;have k6:w1.cell? ⟨w.heap.size,6,none⟩=some (.bool f):=K1.cell 6;have HR1:=hide R1;have hz1:=K1.lt;clear K1 R1
  go_upto_region 7 with (go_at_call 37;refine HP.out.mono ?_;rintro e w2⟨rfl,Z⟩;have HZ:=hide Z;clear Z;dsimp only)
  obtain⟨v2,c2,i2,a2⟩:=HZ.out;have R2:=a2.cat (b:=w.heap.size+1) (by omega) HR1.out
  have r0:w2.cell? ⟨w.heap.size+1,0,none⟩=some (.int .i64 0):=R2.cell 0;have r1:w2.cell? ⟨w.heap.size+1,1,none⟩=some (.int .i64 0):=R2.cell 1;have rf0:=R2.free 0;have rf1:=R2.free 1;have hz2:=R2.lt;have HR2:=hide R2
  have hnr:¬ New (fun b=>P b/\b<w.heap.size) w1 0 (w.heap.size+1):=fun h=>by
   rcases h with⟨h,_⟩ | h
   ·have:=h.2;omega
   ·have:=HSZ.out;omega
  have hpp:∀ b,New (fun b=>P b/\b<w.heap.size) w1 0 b->New P w 0 b:=fun b h=>by
   rcases h with⟨h,_⟩ | h
   ·exact .inl h
   ·exact .inr (by have:=HSZ.out;omega)
  have HF:=hide (fun (a b:Value)=>j2V HA1.out HZ.out (show w.heap.size+1≠g by omega) (by omega) hnr hpp 0 1 a b)
  clear k0 k1 k2 k3 k4 k5 k6 c2 i2 a2 R2 v2 hnr hpp HP
  by_cases he:re=0
  ·subst he;have HEE:=hide (HDD.out);go_wp2;exact z7C results24 (a:=0) (b:=rn) ((HR2.out.set 0 (.int .i64 0)).set 1 (.int .i64 rn)) ⟨by rw[HEE.out];rfl,by rw[HEE.out];exact HF.out _ _⟩ _ rfl rfl
  ·have he':(re != 0)=true:=by simpa using he
   have HEE:Hid (D=(rx,re,0)):=by show _=_;rw[HDD.out,if_neg he]
   go_wp2;exact z7C results24 (a:=re) (b:=0) ((HR2.out.set 0 (.int .i64 re)).set 1 (.int .i64 0)) ⟨by rw[HEE.out],by rw[HEE.out];exact HF.out _ _⟩ _ rfl rfl
structure StW(B g:Nat)(x:Wo)(w:World):Prop where
 at_:∃ v,CAt 98 w g (wdC x v)/\WIn (fun b=>B<=b/\b≠g) w x v
 inv:Inv x
 le:B<=g
 lt:g<w.heap.size
theorem StW.over{B g:Nat}{x:Wo}{w w':World}(h:StW B g x w)(hb:Below w.heap.size w w'):StW B g x w':=by
 obtain⟨v,hc,hi⟩:=h.at_;exact⟨⟨v,hc.over hb,hi.over hb⟩,h.inv,h.le,(hc.over hb).lt⟩
theorem z4h(w:World):Calls prog 22 #[] w fun e w'=>∃ g,e=.returned (.pointer (some ⟨g,0,none⟩))/\StW w.heap.size g z7h w'/\Below w.heap.size w w':=by
 refine (j1w w).mono ?_;rintro e w'⟨g,rfl,hc,hg,hb⟩;exact⟨g,rfl,⟨⟨_,hc,j4Z _ _⟩,q7x,hg,hc.lt⟩,hb⟩
theorem z7G(B g:Nat)(x:Wo)(d:Dd)(w:World)(h:StW B g x w) :
  Calls prog 24 #[.pointer (some ⟨g,0,none⟩),.agg #[.int .i64 d.k,.int .i64 d.c,.int .i64 d.d,.int .i64 d.v,.int .i64 d.n,.bool d.b,.bool d.f]] w fun e w'=>e=.returned (.agg #[.int .i64 (doW x d).2.1,.int .i64 (doW x d).2.2])/\StW B g (doW x d).1 w'/\Alt g w w':=by
 obtain⟨v,hc,hi⟩:=h.at_;refine (j5d g x v _ w d.k d.c d.d d.v d.n d.b d.f hc hi (fun h=>h.2 rfl) h.inv).mono ?_;rintro e w'⟨rfl,v',hc',hi',ha⟩;have hl:=h.lt;have hB:=h.le;refine⟨rfl,⟨⟨v',hc',hi'.mono fun b _ hb=>?_⟩,j4J h.inv d,h.le,hc'.lt⟩,ha⟩
 rcases hb with hb | hb
 ·exact hb.1
 ·exact⟨by omega,by omega⟩
theorem q5E(B g:Nat)(x:Wo)(w:World)(h:StW B g x w):Calls prog 39 #[.pointer (some ⟨g,0,none⟩)] w fun e w'=>e=.returned (.int .i64 x.ck)/\w=w':=by
 obtain⟨v,hc,hi⟩:=h.at_;exact q6E g x v w hc
theorem z5V(B g:Nat)(x:Wo)(w:World)(h:StW B g x w):Calls prog 11 #[.pointer (some ⟨g,0,none⟩)] w fun e w'=>∃ v',e=.returned (.agg (prC x.p v'))/\PIn (fun b=>w.heap.size+1<=b) w' x.p v'/\Below w.heap.size w w':=by
 obtain⟨v,hc,hi⟩:=h.at_;exact j0I g x v _ w hc hi h.inv
theorem z4K(B g:Nat)(x:Wo)(w:World)(i:Nat)(hi2:i<2)(h:StW B g x w):Calls prog 12 #[.pointer (some ⟨g,0,none⟩),.int .i64 (i:Int)] w fun e w'=>∃ v',e=.returned (.agg (csC (x.c i) v'))/\CIn (fun b=>w.heap.size+1<=b) w' (x.c i) v'/\Below w.heap.size w w':=by
 obtain⟨v,hc,hi⟩:=h.at_;exact q8H g x v _ w i hi2 hc hi h.inv
noncomputable def q1x(w:World)(p:Pr)(v:PrV):World:=(w.alloc (.cells zeroCells57 57)).setCells w.heap.size 0 (prC p v).toList
theorem z7D(w:World)(p:Pr)(v:PrV):CAt 57 (q1x w p v) w.heap.size (prC p v):=(CAt.new 57 w zeroCells57).z0H (by rw[z0e];rfl)
theorem z1B(w:World)(p:Pr)(v:PrV):Below w.heap.size w (q1x w p v):=z0b (Nat.le_refl _) _ _ _ (znw w _)
theorem z3Y{P:Nat->Prop}{w:World}{p:Pr}{v:PrV}(h:PIn P w p v):(z5P (.pointer (some ⟨w.heap.size,0,none⟩)) (.agg (prC p v))).run prog (w.alloc (.cells zeroCells57 57))=.ok () (q1x w p v):=z0l (CAt.new _ w _) z0e (z0a p v) (z1c h)
def PLd(w0 w:World)(g:Nat)(p:Pr)(v:PrV):Prop:=CAt 57 w g (prC p v)/\PIn (fun b=>w0.heap.size<=b/\b≠g) w p v/\w0.heap.size<=g/\Below w0.heap.size w0 w
def DoS(x:Wo)(d:Dd)(c n:Int)(x':Wo):Prop:=∀ (B g:Nat) (wx:World),StW B g x wx->Calls prog 24 #[.pointer (some ⟨g,0,none⟩),.agg #[.int .i64 d.k,.int .i64 d.c,.int .i64 d.d,.int .i64 d.v,.int .i64 d.n,.bool d.b,.bool d.f]] wx fun e w'=>e=.returned (.agg #[.int .i64 c,.int .i64 n])/\StW B g x' w'/\Alt g wx w'
theorem dos(x:Wo)(d:Dd):DoS x d (doW x d).2.1 (doW x d).2.2 (doW x d).1:=fun B g wx h=>z7G B g x d wx h
theorem y1c{x x':Wo}{d:Dd}{c n k:Int}(h:DoS x d c n x')(e:c=k):DoS x d k n x':=e ▸ h
theorem y0U{x x':Wo}{d:Dd}{c n k:Int}(h:DoS x d c n x')(e:n=k):DoS x d c k x':=e ▸ h
theorem j2O:∃ (x1 x2 x3 x4:Wo) (n1 c2 n3 c4:Int),x4.ck=5/\(x4.c 0).set.length=1/\DoS z7h dA 0 n1 x1/\DoS x1 dB c2 5 x2/\DoS x2 dC 0 n3 x3/\DoS x3 dD c4 1 x4:=
 ⟨_,_,_,_,_,_,_,_,j6b,j5O,y1c (dos z7h dA) j6u,y0U (dos _ dB) j6x,y1c (dos _ dC) j6Y,y0U (dos _ dD) j5L⟩
theorem q4y{w w2:World}{g:Nat}{x:Wo}{cs:Array Value}{ty:TypeId}(h:StW w.heap.size g x w2)(b:Below w.heap.size w w2):StW w.heap.size g x (w2.alloc (.cells cs ty))/\Below w.heap.size w (w2.alloc (.cells cs ty))/\CAt ty (w2.alloc (.cells cs ty)) w2.heap.size cs:=⟨h.over (znw w2 _),b.alloc b.size _,CAt.new _ w2 _⟩
theorem q9Z{w wl w':World}{g:Nat}(hg:w.heap.size<=g)(b:Below w.heap.size w wl)(a:Alt g wl w'):Below w.heap.size w w':=b.trans (a.below hg b.size)
theorem j7G{wl w':World}{g b:Nat}{ty:TypeId}{cs cs':Array Value}(h:CAt ty wl b cs)(hb:b≠g)(a:Alt g wl w'):CAt ty (w'.alloc (.cells cs' ty)) b cs:=(a.cat hb h).alloc _
theorem j5f{B g:Nat}{x:Wo}{wx:World}(h:StW B g x wx)(h1:(x.c 0).set.length=1):Calls prog 12 #[.pointer (some ⟨g,0,none⟩),.int .i64 0] wx fun e w'=>∃ A C pd rp sa du,e=.returned (.agg (csC (x.c 0) ⟨.slice A 1 C,pd,rp,sa,du⟩))/\Below wx.heap.size wx w':=by
 refine (z4K B g x wx 0 (by omega) h).mono ?_
 rintro e w'⟨v',rfl,I,hb⟩;obtain⟨sv,pd,rp,sa,du⟩:=v';obtain⟨A,C,e1,-,-⟩:=row_of I.set (z0c _) (by decide)
 obtain rfl:sv=.slice A (x.c 0).set.length C:=e1;rw[h1];exact⟨A,C,pd,rp,sa,du,rfl,hb⟩
theorem y0k(c:Cs)(v:CsV)(w:World):(Instr.field 63 (.agg (csC c v)) 5).run prog w=.ok v.set w:=by kernel_rfl
theorem z4U(w:World):Calls prog 28 #[] w fun e w'=>e=.returned (.bool true)/\Below w.heap.size w w':=by
 obtain⟨x1,x2,x3,x4,n1,c2,n3,c4,hck,hset,D1,D2,D3,D4⟩:=j2O;have HN:=hide (z4h w);have H1:=hide (fun g wx h=>D1 w.heap.size g wx h);have H2:=hide (fun g wx h=>D2 w.heap.size g wx h);have H3:=hide (fun g wx h=>D3 w.heap.size g wx h);have H4:=hide (fun g wx h=>D4 w.heap.size g wx h);have HCK:=hide hck;have HSE:=hide hset;clear D1 D2 D3 D4 hck hset
 go_enter func28,ntmps28
 go_upto_region 2 with (go_at_call 22;refine HN.out.mono ?_;rintro e w1⟨g,rfl,h1,b1⟩;have HS1:=hide (show _/\_ from⟨h1,b1⟩);have hg:=h1.le;clear h1 b1)
 go_upto_region 5 with (go_at_call 24;refine (H1.out g w1 HS1.out.1).mono ?_;rintro e w2⟨rfl,h2,a2⟩;have HS2:=hide (show _/\_ from⟨h2,a2⟩);clear h2 a2)
 have S2:=q4y (cs:=#[.int .i64 0,.int .i64 n1]) (ty:=32) HS2.out.1 (q9Z hg HS1.out.2 HS2.out.2);have q2:=HS2.out.1.lt;clear HS1 HS2 HN H1;generalize w2.alloc (.cells #[.int .i64 0,.int .i64 n1] 32)=w3 at *;have HS3:=hide S2;clear S2
 go_upto_region 6 with (go_at_call 24;refine (H2.out g w3 HS3.out.1).mono ?_;rintro e w4⟨rfl,h2,a2⟩;have HS4:=hide (show _/\_ from⟨h2,a2⟩);clear h2 a2)
 have S4:=q4y (cs:=#[.int .i64 c2,.int .i64 5]) (ty:=32) HS4.out.1 (q9Z hg HS3.out.2.1 HS4.out.2);have R4:=j7G (cs':=#[.int .i64 c2,.int .i64 5]) HS3.out.2.2 (by omega) HS4.out.2
 have q4:=HS4.out.1.lt;clear HS3 HS4 H2;generalize w4.alloc (.cells #[.int .i64 c2,.int .i64 5] 32)=w5 at *;have HS5:=hide (show _/\_ from⟨S4,R4⟩);clear S4 R4
 go_upto_region 7 with (go_at_call 24;refine (H3.out g w5 HS5.out.1.1).mono ?_;rintro e w6⟨rfl,h2,a2⟩;have HS6:=hide (show _/\_ from⟨h2,a2⟩);clear h2 a2)
 have S6:=q4y (cs:=#[.int .i64 0,.int .i64 n3]) (ty:=32) HS6.out.1 (q9Z hg HS5.out.1.2.1 HS6.out.2);have R6:=j7G (cs':=#[.int .i64 0,.int .i64 n3]) HS5.out.1.2.2 (by omega) HS6.out.2
 have R6':=j7G (cs':=#[.int .i64 0,.int .i64 n3]) HS5.out.2 (by omega) HS6.out.2
 have q6:=HS6.out.1.lt;clear HS5 HS6 H3;generalize w6.alloc (.cells #[.int .i64 0,.int .i64 n3] 32)=w7 at *;have HS7:=hide (show _/\_/\_ from⟨S6,R6,R6'⟩);clear S6 R6 R6'
 go_upto_region 8 with (go_at_call 24;refine (H4.out g w7 HS7.out.1.1).mono ?_;rintro e w8⟨rfl,h2,a2⟩;have HS8:=hide (show _/\_ from⟨h2,a2⟩);clear h2 a2)
 have S8:=q4y (cs:=#[.int .i64 c4,.int .i64 1]) (ty:=32) HS8.out.1 (q9Z hg HS7.out.1.2.1 HS8.out.2);have r4:=(j7G (cs':=#[.int .i64 c4,.int .i64 1]) HS7.out.1.2.2 (by omega) HS8.out.2).cell 0
 have r3:=(j7G (cs':=#[.int .i64 c4,.int .i64 1]) HS7.out.2.1 (by omega) HS8.out.2).cell 1
 have r2:=(j7G (cs':=#[.int .i64 c4,.int .i64 1]) HS7.out.2.2 (by omega) HS8.out.2).cell 0
 have r5:=S8.2.2.cell 1;clear HS7 HS8 H4;generalize w8.alloc (.cells #[.int .i64 c4,.int .i64 1] 32)=w9 at *;have HC:Hid (Calls prog 39 #[.pointer (some ⟨g,0,none⟩)] w9 fun e w'=>e=.returned (.int .i64 5)/\w9=w'):=by rw[← HCK.out];exact q5E _ g x4 w9 S8.1
 have HG:=hide (j5f S8.1 HSE.out);have HB:=hide S8.2.1;clear S8 HCK HSE
 go_wp2_with (first
  | (go_at_call 39;refine HC.out.mono ?_;rintro e w'⟨rfl,rfl⟩)
  | (go_at_call 12;refine HG.out.mono ?_;rintro e w'⟨A,C,pd,rp,sa,du,rfl,hb⟩;have HE:=hide (zbt HB.out hb);clear hb;have f5:=y0k (x4.c 0) ⟨.slice A 1 C,pd,rp,sa,du⟩ w'))
 go_ret;exact⟨rfl,HE.out⟩
end Wd
end Go.Proofs.YtmopekkhmhhcaaaGreat
